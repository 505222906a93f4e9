import PyProof.Rows.All
import HandS.ForMost
import HandS.Gcd
import HandS.Wide
import HandS.WideBits
import HandS.Deep
import HandS.IsInst
import PyProof.ReprRoads
import HandS.EndBits
import HandS.WordsExc
import PyProof.FitsInt
import HandS.ExcIs
import HandS.Conv
import PySem.Challenge.RW_floodmark_k03_rows_in_echelon_form
set_option Elab.async false
set_option linter.all false
set_option maxRecDepth 100000
/-! DL: defs over data. A def's text is read as a function on data; lists that a def makes and grows are its own. -/
namespace DL
open PySem PySem.Spec L2
open PyProof.Rows hiding St
abbrev Rho := List (Option PyData)
/-- the written part of the text at hand -/
class KF where
  K : PySem.W.Frag
  m : Bool
variable [KF]
/-- a list at a: one of the heap, or one of the module's own -/
def LsK (H : Hp) (a : Addr) (vs : List V) : Prop := H a = some (.lst vs) ∨ (KF.m = true ∧ ((∃ o, H a = some (.frz o (.lst vs))) ∨ (∃ (its : Array Value) (n : Nat), KF.K.lookup a = some { cls := .type "list", data := .seq its n } ∧ its.size ≤ sizeLine ∧ Vals vs its.toList)))
theorem ls_of {H : Hp} {a : Addr} {vs : List V} (h : H a = some (.lst vs)) : LsK H a vs := .inl h
theorem LsK.old {H : Hp} {a : Addr} {vs : List V} (h : LsK H a vs) : Rd H a (.lst vs) ∨ ∃ (its : Array Value) (n : Nat), KF.K.lookup a = some { cls := .type "list", data := .seq its n } ∧ its.size ≤ sizeLine ∧ Vals vs its.toList := by
  rcases h with h | ⟨_, ⟨o, h⟩ | h⟩
  · exact .inl (.inl h)
  · exact .inl (.inr ⟨o, h⟩)
  · exact .inr h
theorem LsK.sq {H : Hp} {a : Addr} {vs : List V} (h : LsK H a vs) : SqL KF.K H a vs := by
  rcases h with h | ⟨_, ⟨o, h⟩ | ⟨its, n, h1, h2, h3⟩⟩
  · exact .inl (.inl h)
  · exact .inl (.inr ⟨o, h⟩)
  · exact .inr ⟨_, its, n, h1, rfl, rfl, rfl, h2, h3⟩
/-! ### data in a heap -/
mutual
inductive R (H : Hp) : V → PyData → Prop
  | non : R H .non .none
  | bl (b : Bool) : R H (.bl b) (.bool b)
  | int (i : Int) : R H (.int i) (.int i)
  | str (x : Str) : R H (.str x) (.str x)
  | lst {a : Addr} {vs : List V} {ds : List PyData} : LsK H a vs → RA H vs ds → R H (.ref a) (.list ds)
  | tup {a : Addr} {vs : List V} {ds : List PyData} : Rd H a (.tup vs) → RA H vs ds → R H (.ref a) (.tuple ds)
inductive RA (H : Hp) : List V → List PyData → Prop
  | nil : RA H [] []
  | cons {v : V} {vs : List V} {d : PyData} {ds : List PyData} : R H v d → RA H vs ds → RA H (v :: vs) (d :: ds)
end
theorem rd_mono {H H' : Hp} {a : Addr} {u : HO} (e : Same H H') (h : Rd H a u) : Rd H' a u := by
  rcases h with h | ⟨o, h⟩
  · exact .inl (e _ _ h)
  · exact .inr ⟨o, e _ _ h⟩
theorem ls_mono {H H' : Hp} {a : Addr} {vs : List V} (e : Same H H') (h : LsK H a vs) : LsK H' a vs := by
  rcases h with h | ⟨m, ⟨o, h⟩ | h⟩
  · exact .inl (e _ _ h)
  · exact .inr ⟨m, .inl ⟨o, e _ _ h⟩⟩
  · exact .inr ⟨m, .inr h⟩
mutual
theorem R.mono {H H' : Hp} (e : Same H H') : ∀ {v : V} {d : PyData}, R H v d → R H' v d
  | _, _, .non => .non
  | _, _, .bl b => .bl b
  | _, _, .int i => .int i
  | _, _, .str x => .str x
  | _, _, .lst h r => .lst (ls_mono e h) (RA.mono e r)
  | _, _, .tup h r => .tup (rd_mono e h) (RA.mono e r)
theorem RA.mono {H H' : Hp} (e : Same H H') : ∀ {vs : List V} {ds : List PyData}, RA H vs ds → RA H' vs ds
  | _, _, .nil => .nil
  | _, _, .cons h r => .cons (R.mono e h) (RA.mono e r)
end
mutual
theorem R.dp {H : Hp} : ∀ {v : V} {d : PyData}, R H v d → Dp KF.K H v d
  | _, _, .non => .non
  | _, _, .bl b => .bl b
  | _, _, .int i => .int i
  | _, _, .str x => .str x
  | _, _, .lst h r => .lst h.sq (RA.dp r)
  | _, _, .tup h r => .tup (.inl h) (RA.dp r)
theorem RA.dp {H : Hp} : ∀ {vs : List V} {ds : List PyData}, RA H vs ds → DpAll KF.K H vs ds
  | _, _, .nil => .nil
  | _, _, .cons h r => .cons (R.dp h) (RA.dp r)
end
theorem RA.length {H : Hp} : ∀ {vs : List V} {ds : List PyData}, RA H vs ds → vs.length = ds.length
  | _, _, .nil => rfl
  | _, _, .cons _ r => by rw [List.length_cons, List.length_cons, RA.length r]
theorem RA.get {H : Hp} : ∀ {vs : List V} {ds : List PyData} {i : Nat} {d : PyData}, RA H vs ds → ds[i]? = some d → ∃ v, vs[i]? = some v ∧ R H v d
  | _, _, _, _, .nil, h => by simp at h
  | _, _, 0, _, .cons h _, e => by
    have e' := Option.some.inj (by simpa using e)
    subst e'
    exact ⟨_, by simp, h⟩
  | _, _, i + 1, d, .cons _ r, e => by
    obtain ⟨v, h1, h2⟩ := RA.get (i := i) (d := d) r (by simpa using e)
    exact ⟨v, by simpa using h1, h2⟩
theorem RA.append {H : Hp} : ∀ {vs ws : List V} {ds es : List PyData}, RA H vs ds → RA H ws es → RA H (vs ++ ws) (ds ++ es)
  | _, _, _, _, .nil, s => s
  | _, _, _, _, .cons h r, s => .cons h (RA.append r s)
theorem RA.take {H : Hp} : ∀ {vs : List V} {ds : List PyData} (n : Nat), RA H vs ds → RA H (vs.take n) (ds.take n)
  | _, _, 0, _ => .nil
  | _, _, _ + 1, .nil => .nil
  | _, _, n + 1, .cons h r => .cons h (RA.take n r)
theorem RA.drop {H : Hp} : ∀ {vs : List V} {ds : List PyData} (n : Nat), RA H vs ds → RA H (vs.drop n) (ds.drop n)
  | _, _, 0, r => r
  | _, _, _ + 1, .nil => .nil
  | _, _, n + 1, .cons _ r => RA.drop n r
theorem RA.set {H : Hp} {v : V} {d : PyData} (h : R H v d) : ∀ {vs : List V} {ds : List PyData} (n : Nat), RA H vs ds → RA H (vs.set n v) (ds.set n d)
  | _, _, _, .nil => .nil
  | _, _, 0, .cons _ r => .cons h r
  | _, _, n + 1, .cons q r => .cons q (RA.set h n r)
theorem RA.ints {H : Hp} : ∀ (ns : List Int), RA H (ns.map V.int) (ns.map PyData.int)
  | [] => .nil
  | n :: r => .cons (.int n) (RA.ints r)
theorem RA.of_ints {H : Hp} : ∀ {vs : List V} {ns : List Int}, RA H vs (ns.map PyData.int) → vs = ns.map V.int
  | [], [], _ => rfl
  | _ :: _, [], h => by cases h
  | [], _ :: _, h => by cases h
  | v :: vs, n :: ns, h => by
    cases h with
    | cons a b =>
      cases a
      rw [RA.of_ints b] <;> rfl
theorem RA.of_bools {H : Hp} : ∀ {vs : List V} {ns : List Bool}, RA H vs (ns.map PyData.bool) → vs = ns.map V.bl
  | [], [], _ => rfl
  | _ :: _, [], h => by cases h
  | [], _ :: _, h => by cases h
  | v :: vs, n :: ns, h => by
    cases h with
    | cons a b =>
      cases a
      rw [RA.of_bools b] <;> rfl
/-! ### a heap and the part of it that stands -/
/-- Hs, within H, grows; what of H was not in it does not come into it -/
structure Gr (Hs H Hs' H' : Hp) : Prop where
  s : Same Hs Hs'
  h : Same H H'
  sub : Same Hs' H'
  non : ∀ a, Hs a = none → H a ≠ none → Hs' a = none
theorem Gr.refl {Hs H : Hp} (e : Same Hs H) : Gr Hs H Hs H := ⟨.refl _, .refl _, e, fun _ h _ => h⟩
theorem Gr.trans {A a B b C c : Hp} (x : Gr A a B b) (y : Gr B b C c) : Gr A a C c :=
  ⟨x.s.trans y.s, x.h.trans y.h, y.sub, fun p h1 h2 => y.non p (x.non p h1 h2) fun z => by
    cases q : a p with
    | none => exact h2 q
    | some o =>
      rw [x.h p o q] at z
      cases z⟩
theorem some_of_ne {H : Hp} {a : Addr} (h : H a ≠ none) : ∃ o, H a = some o := by
  cases q : H a with
  | none => exact absurd q h
  | some o => exact ⟨o, rfl⟩
theorem same_new {H : Hp} {p : Addr} {o : HO} (h : H p = none) : Same H (upd H p o) := fun b u e => by
  rw [upd_ne (ne_of_none e h)]
  exact e
theorem Same.sub_none {Hs H : Hp} (e : Same Hs H) {p : Addr} (h : H p = none) : Hs p = none := Same.free e h
/-- a new object, standing -/
theorem Gr.new {Hs H : Hp} {p : Addr} {o : HO} (e : Same Hs H) (h : H p = none) : Gr Hs H (upd Hs p o) (upd H p o) :=
  ⟨same_new (Same.free e h), same_new h, fun b u q => by
    by_cases hb : b = p
    · subst hb
      rw [upd_same] at q ⊢
      exact q
    · rw [upd_ne hb] at q ⊢
      exact e _ _ q, fun b h1 h2 => by
    rw [upd_ne (show b ≠ p from fun z => h2 (by rw [z]; exact h))]
    exact h1⟩
/-- a new object of one's own -/
theorem Gr.own {Hs H : Hp} {p : Addr} {o : HO} (e : Same Hs H) (h : H p = none) : Gr Hs H Hs (upd H p o) :=
  ⟨.refl _, same_new h, e.trans (same_new h), fun _ h1 _ => h1⟩
/-- a list of one's own: it does not stand, its items do -/
def Own (Hs H : Hp) (v : V) (d : PyData) : Prop := ∃ a vs ds, v = .ref a ∧ d = .list ds ∧ Hs a = none ∧ H a = some (.lst vs) ∧ RA Hs vs ds
theorem Own.mono {Hs H Hs' H' : Hp} {v : V} {d : PyData} (g : Gr Hs H Hs' H') (x : Own Hs H v d) : Own Hs' H' v d := by
  obtain ⟨a, vs, ds, rfl, rfl, h1, h2, h3⟩ := x
  exact ⟨a, vs, ds, rfl, rfl, g.non a h1 (by rw [h2]; simp), g.h _ _ h2, h3.mono g.s⟩
/-! ### the slots of a def -/
structure Slots (O : List Nat) (ρ : Rho) (σ : St) (Hs H : Hp) : Prop where
  sub : Same Hs H
  len : σ.length = ρ.length
  val : ∀ (i : Nat) (d : PyData), ρ[i]? = some (some d) → ∃ v, σ[i]? = some (some v) ∧ (O.contains i = true → Own Hs H v d) ∧ (O.contains i = false → R Hs v d)
  dis : ∀ (i j : Nat) (di dj : PyData) (v : V), i ≠ j → O.contains i = true → O.contains j = true → ρ[i]? = some (some di) → ρ[j]? = some (some dj) → σ[i]? = some (some v) → σ[j]? ≠ some (some v)
theorem Slots.mono {O : List Nat} {ρ : Rho} {σ : St} {Hs H Hs' H' : Hp} (g : Gr Hs H Hs' H') (x : Slots O ρ σ Hs H) : Slots O ρ σ Hs' H' :=
  ⟨g.sub, x.len, fun i d h => by
    obtain ⟨v, h1, h2, h3⟩ := x.val i d h
    exact ⟨v, h1, fun o => (h2 o).mono g, fun o => (h3 o).mono g.s⟩, x.dis⟩
/-- how a value is had: it stands; it may be read; it is a new list of one's own -/
inductive Md where
  | cl | rd | ow
  deriving DecidableEq
def Res (m : Md) (H0 Hs H : Hp) (v : V) (d : PyData) : Prop := match m with
  | .cl => R Hs v d
  | .rd => R Hs v d ∨ Own Hs H v d
  | .ow => Own Hs H v d ∧ ∃ a, v = .ref a ∧ H0 a = none
def Ev (te : TE) (σ : St) (Hs H : Hp) (m : Md) (d : PyData) : Prop := ∀ Q : VK, (∀ v Hs' H', Gr Hs H Hs' H' → Res m H Hs' H' v d → Q v H') → te σ H Q
def EvT (tt : TT) (σ : St) (Hs H : Hp) (b : Bool) : Prop := ∀ Q : Bool → Hp → Prop, (∀ Hs' H', Gr Hs H Hs' H' → Q b H') → tt σ H Q
structure DE (X : Cx) (O : List Nat) (m : Md) (e : Expr) (te : TE) (f : Rho → Option PyData) : Prop where
  pe : PE X e te
  ev : ∀ (ρ : Rho) (σ : St) (Hs H : Hp) (d : PyData), Slots O ρ σ Hs H → f ρ = some d → Ev te σ Hs H m d
structure DT (X : Cx) (O : List Nat) (e : Expr) (tt : TT) (f : Rho → Option Bool) : Prop where
  pt : PT X e tt
  ev : ∀ (ρ : Rho) (σ : St) (Hs H : Hp) (b : Bool), Slots O ρ σ Hs H → f ρ = some b → EvT tt σ Hs H b
theorem own_cl {H0 Hs H : Hp} {v : V} {d : PyData} {a : Addr} (x : Own Hs H v d) (hv : v = .ref a) (hn : H0 a = none) (g : ∀ b, Hs b ≠ none → Hs b ≠ none) :
    ∃ o, H a = some o ∧ R (upd Hs a o) v d ∧ Same Hs (upd Hs a o) := by
  obtain ⟨a', vs, ds, rfl, rfl, h1, h2, h3⟩ := x
  have e : a' = a := V.ref.inj hv
  subst e
  exact ⟨_, h2, .lst (ls_of upd_same) (h3.mono (same_new h1)), same_new h1⟩
/-- a new list of one's own may stand -/
theorem Ev.cl_of {te : TE} {σ : St} {Hs H : Hp} {d : PyData} (h : Ev te σ Hs H .ow d) : Ev te σ Hs H .cl d := fun Q q => h Q fun v Hs' H' g r => by
  obtain ⟨x, a, hv, hn⟩ := r
  obtain ⟨a', vs, ds, rfl, rfl, h1, h2, h3⟩ := x
  have e : a' = a := V.ref.inj hv
  subst e
  refine q _ (upd Hs' a' (.lst vs)) H' ⟨g.s.trans (same_new h1), g.h, fun b u z => ?_, fun b z1 z2 => ?_⟩ (show R _ _ _ from .lst (ls_of upd_same) (h3.mono (same_new h1)))
  · by_cases hb : b = a'
    · subst hb
      rw [upd_same] at z
      rw [h2]
      exact z
    · rw [upd_ne hb] at z
      exact g.sub _ _ z
  · rw [upd_ne (show b ≠ a' from fun z => z2 (by rw [z]; exact hn))]
    exact g.non b z1 z2
theorem Ev.rd_of {te : TE} {σ : St} {Hs H : Hp} {d : PyData} (h : Ev te σ Hs H .cl d) : Ev te σ Hs H .rd d := fun Q q => h Q fun v Hs' H' g r => q v Hs' H' g (.inl r)
section
variable {X : Cx} {O : List Nat} {e : Expr} {te : TE} {f : Rho → Option PyData}
theorem DE.cl_ (h : DE X O .ow e te f) : DE X O .cl e te f := ⟨h.pe, fun ρ σ Hs H d s q => (h.ev ρ σ Hs H d s q).cl_of⟩
theorem DE.rd_ (h : DE X O .cl e te f) : DE X O .rd e te f := ⟨h.pe, fun ρ σ Hs H d s q => (h.ev ρ σ Hs H d s q).rd_of⟩
theorem DE.or_ (h : DE X O .ow e te f) : DE X O .rd e te f := h.cl_.rd_
end
/-- what a list that may be read is -/
theorem rd_list {H0 Hs H : Hp} {v : V} {ds : List PyData} (e : Same Hs H) (h : Res .rd H0 Hs H v (.list ds)) : ∃ a vs, v = .ref a ∧ LsK H a vs ∧ RA Hs vs ds := by
  rcases h with h | ⟨a, vs, ds', rfl, q, _, h2, h3⟩
  · cases h with
    | lst h1 h2 => exact ⟨_, _, rfl, ls_mono e h1, h2⟩
  · cases q
    exact ⟨a, vs, rfl, ls_of h2, h3⟩
theorem rd_tup {H0 Hs H : Hp} {v : V} {ds : List PyData} (e : Same Hs H) (h : Res .rd H0 Hs H v (.tuple ds)) : ∃ a vs, v = .ref a ∧ Rd H a (.tup vs) ∧ RA Hs vs ds := by
  rcases h with h | ⟨a, vs, ds', rfl, q, _, h2, h3⟩
  · cases h with
    | tup h1 h2 => exact ⟨_, _, rfl, rd_mono e h1, h2⟩
  · cases q
theorem rd_R {H0 Hs H : Hp} {v : V} {d : PyData} (e : Same Hs H) (h : Res .rd H0 Hs H v d) : R H v d := by
  rcases h with h | ⟨a, vs, ds', rfl, rfl, _, h2, h3⟩
  · exact h.mono e
  · exact .lst (ls_of h2) (h3.mono e)
theorem rd_int {H0 Hs H : Hp} {v : V} {i : Int} (h : Res .rd H0 Hs H v (.int i)) : v = .int i := by
  rcases h with h | ⟨_, _, _, _, q, _⟩
  · cases h; rfl
  · cases q
theorem rd_bool {H0 Hs H : Hp} {v : V} {i : Bool} (h : Res .rd H0 Hs H v (.bool i)) : v = .bl i := by
  rcases h with h | ⟨_, _, _, _, q, _⟩
  · cases h; rfl
  · cases q
theorem rd_str {H0 Hs H : Hp} {v : V} {i : Str} (h : Res .rd H0 Hs H v (.str i)) : v = .str i := by
  rcases h with h | ⟨_, _, _, _, q, _⟩
  · cases h; rfl
  · cases q
end DL
set_option Elab.async false
set_option linter.all false
set_option maxRecDepth 100000
namespace DL
open PySem PySem.Spec L2
open PyProof.Rows hiding St
variable [KF]
/-! ### what expressions mean -/
abbrev F := Rho → Option PyData
abbrev FT := Rho → Option Bool
abbrev FA := Rho → Option (List PyData)
def fVar (i : Nat) : F := fun ρ => (ρ[i]?).getD none
def fC (d : PyData) : F := fun _ => some d
def fBin (g : PyData → PyData → Option PyData) (a b : F) : F := fun ρ => (a ρ).bind fun x => (b ρ).bind fun y => g x y
def fUn (g : PyData → Option PyData) (a : F) : F := fun ρ => (a ρ).bind g
def fNilA : FA := fun _ => some []
def fConsA (a : F) (r : FA) : FA := fun ρ => (a ρ).bind fun x => (r ρ).bind fun xs => some (x :: xs)
def fFn (g : List PyData → Option PyData) (a : FA) : F := fun ρ => (a ρ).bind g
def fIf (c : FT) (a b : F) : F := fun ρ => (c ρ).bind fun k => if k = true then a ρ else b ρ
def fAnd (a b : F) : F := fun ρ => (a ρ).bind fun x => match x with
  | .bool true => b ρ
  | .bool false => some (.bool false)
  | _ => none
def fOr (a b : F) : F := fun ρ => (a ρ).bind fun x => match x with
  | .bool true => some (.bool true)
  | .bool false => b ρ
  | _ => none
def gNot : PyData → Option PyData
  | .bool b => some (.bool (!b))
  | _ => none
def fChain (g g' : PyData → PyData → Option PyData) (a b c : F) : F := fun ρ => (a ρ).bind fun x => (b ρ).bind fun y => (g x y).bind fun z => match z with
  | .bool true => (c ρ).bind fun w => g' y w
  | .bool false => some (.bool false)
  | _ => none
/-- tests -/
def tV (a : F) : FT := fun ρ => (a ρ).bind fun x => match x with
  | .bool b => some b
  | _ => none
def tTr (a : F) : FT := fun ρ => (a ρ).bind fun x => match x with
  | .none => some false
  | .bool b => some b
  | .int i => some (i != 0)
  | .list xs => some (!xs.isEmpty)
  | .tuple xs => some (!xs.isEmpty)
  | _ => none
def tA (a b : FT) : FT := fun ρ => (a ρ).bind fun k => if k = true then b ρ else some false
def tO (a b : FT) : FT := fun ρ => (a ρ).bind fun k => if k = true then some true else b ρ
def tN (a : FT) : FT := fun ρ => (a ρ).bind fun k => some (!k)
omit [KF] in
theorem bind_some {α β : Type} {a : Option α} {f : α → Option β} {b : β} (h : a.bind f = some b) : ∃ x, a = some x ∧ f x = some b := by
  cases a with
  | none => cases h
  | some x => exact ⟨x, rfl, h⟩
theorem Res.rd_mono {H0 Hs H H1 Hs' H' : Hp} {v : V} {d : PyData} (g : Gr Hs H Hs' H') (x : Res .rd H0 Hs H v d) : Res .rd H1 Hs' H' v d := by
  rcases x with x | x
  · exact .inl (x.mono g.s)
  · exact .inr (x.mono g)
/-- a result had from a later heap -/
theorem Res.back {m : Md} {H0 H1 Hs H : Hp} {v : V} {d : PyData} (e : Same H0 H1) (x : Res m H1 Hs H v d) : Res m H0 Hs H v d := by
  cases m with
  | cl => exact x
  | rd => exact x
  | ow =>
    obtain ⟨x, a, h, n⟩ := x
    exact ⟨x, a, h, Same.free e n⟩
theorem Ev.back {te : TE} {σ : St} {Hs H : Hp} {m : Md} {d : PyData} (h : Ev te σ Hs H m d) {Q : VK} (q : ∀ v Hs' H', Gr Hs H Hs' H' → Res m H Hs' H' v d → Q v H') : te σ H Q := h Q q
/-! ### operations on values -/
abbrev CDivL (_ j : Int) : Prop := j ≠ 0 ∧ j.natAbs.log2 < 9000
theorem op_fdivL {X : Cx} : OpR X (binaryOp .FloorDiv) (rI CDivL fun i j => .int (i.fdiv j)) := opI fun _ _ _ _ _ _ _ hc q => PyProof.Rows.floordiv_int hc.1 q (.inl (PyProof.noPylong_of_log2 hc.2))
abbrev rAddI : R2 := rI0 fun i j => .int (i + j)
abbrev rSubI : R2 := rI0 fun i j => .int (i - j)
abbrev rMulI : R2 := rI CMulX fun i j => .int (i * j)
abbrev rModI : R2 := rI (fun _ j => j ≠ 0) fun i j => .int (i.fmod j)
abbrev rDivI : R2 := rI CDivL fun i j => .int (i.fdiv j)
abbrev rPowI : R2 := rI CPow fun i j => .int (i ^ j.toNat)
abbrev rAndI : R2 := rI0 fun i j => .int (Builtin.bitAnd i j)
abbrev rLtI : R2 := rI0 fun i j => .bl (decide (i < j))
abbrev rLeI : R2 := rI0 fun i j => .bl (decide (i ≤ j))
abbrev rGtI : R2 := rI0 fun i j => .bl (decide (j < i))
abbrev rGeI : R2 := rI0 fun i j => .bl (decide (j ≤ i))
abbrev rIsD : R2 := fun x y H Q => y = .non ∧ Q (.bl (decide (x = .non))) H
abbrev rIsNotD : R2 := fun x y H Q => y = .non ∧ Q (.bl (!decide (x = .non))) H
def OpD (r : R2) (m : Md) (g : PyData → PyData → Option PyData) : Prop := ∀ (Hs H : Hp) (v w : V) (x y z : PyData), Same Hs H → Res .rd H Hs H v x → Res .rd H Hs H w y → g x y = some z →
  ∀ Q : VK, (∀ u Hs' H', Gr Hs H Hs' H' → Res m H Hs' H' u z → Q u H') → r v w H Q
def UnD (r : V → Hp → VK → Prop) (m : Md) (g : PyData → Option PyData) : Prop := ∀ (Hs H : Hp) (v : V) (x z : PyData), Same Hs H → Res .rd H Hs H v x → g x = some z →
  ∀ Q : VK, (∀ u Hs' H', Gr Hs H Hs' H' → Res m H Hs' H' u z → Q u H') → r v H Q
inductive RdA (Hs H : Hp) : List V → List PyData → Prop
  | nil : RdA Hs H [] []
  | cons {v : V} {vs : List V} {d : PyData} {ds : List PyData} : Res .rd H Hs H v d → RdA Hs H vs ds → RdA Hs H (v :: vs) (d :: ds)
theorem RdA.mono {Hs H Hs' H' : Hp} (g : Gr Hs H Hs' H') : ∀ {vs : List V} {ds : List PyData}, RdA Hs H vs ds → RdA Hs' H' vs ds
  | _, _, .nil => .nil
  | _, _, .cons h r => .cons (h.rd_mono g) (RdA.mono g r)
def CallD (r : List V → Hp → VK → Prop) (m : Md) (g : List PyData → Option PyData) : Prop := ∀ (Hs H : Hp) (vs : List V) (xs : List PyData) (z : PyData), Same Hs H → RdA Hs H vs xs → g xs = some z →
  ∀ Q : VK, (∀ u Hs' H', Gr Hs H Hs' H' → Res m H Hs' H' u z → Q u H') → r vs H Q
structure DA (X : Cx) (O : List Nat) (es : List Expr) (ta : TA) (f : FA) : Prop where
  pa : PA X es ta
  ev : ∀ (ρ : Rho) (σ : St) (Hs H : Hp) (ds : List PyData), Slots O ρ σ Hs H → f ρ = some ds → ∀ Q : List V → Hp → Prop, (∀ vs Hs' H', Gr Hs H Hs' H' → RdA Hs' H' vs ds → Q vs H') → ta σ H Q
/-- arguments that stand -/
structure DAc (X : Cx) (O : List Nat) (es : List Expr) (ta : TA) (f : FA) : Prop where
  pa : PA X es ta
  ev : ∀ (ρ : Rho) (σ : St) (Hs H : Hp) (ds : List PyData), Slots O ρ σ Hs H → f ρ = some ds → ∀ Q : List V → Hp → Prop, (∀ vs Hs' H', Gr Hs H Hs' H' → RA Hs' vs ds → Q vs H') → ta σ H Q
section
variable {X : Cx} {O : List Nat} {e a b c : Expr} {es : List Expr} {te ta tb tc : TE} {tA' tB' : TT} {f fa fb fc : F} {ft fu : FT} {m : Md} {pos : Pos}
theorem same_of {O : List Nat} {ρ : Rho} {σ : St} {Hs H : Hp} (s : Slots O ρ σ Hs H) : Same Hs H := s.sub
/-! ### names, constants -/
theorem de_var (i : Nat) {x : Str} {p : Pos} (ho : O.contains i = false) (hN : X.N[i]? = some x := by rfl) (hv : Vis X.env.scope x := by first | exact Or.inl rfl | exact Or.inr (Or.inl rfl) | exact Or.inr (Or.inr rfl)) (hd : (x == ("__debug__" : Str)) = false := by decide)
    (hcd : (x == ("__classdict__" : Str)) = false := by decide) : DE X O .cl (.Name x p) (tVar i) (fVar i) :=
  ⟨pe_var hN hv hd hcd, fun ρ σ Hs H d s h Q q => by
    unfold fVar at h
    cases hr : ρ[i]? with
    | none => rw [hr] at h; cases h
    | some o =>
      rw [hr] at h
      obtain ⟨v, h1, _, h3⟩ := s.val i d (by rw [hr]; exact congrArg some h)
      exact ⟨v, h1, q v Hs H (.refl s.sub) (h3 ho)⟩⟩
/-- a name that may hold a list of one's own -/
theorem de_varR (i : Nat) {x : Str} {p : Pos} (hN : X.N[i]? = some x := by rfl) (hv : Vis X.env.scope x := by first | exact Or.inl rfl | exact Or.inr (Or.inl rfl) | exact Or.inr (Or.inr rfl)) (hd : (x == ("__debug__" : Str)) = false := by decide)
    (hcd : (x == ("__classdict__" : Str)) = false := by decide) : DE X O .rd (.Name x p) (tVar i) (fVar i) :=
  ⟨pe_var hN hv hd hcd, fun ρ σ Hs H d s h Q q => by
    unfold fVar at h
    cases hr : ρ[i]? with
    | none => rw [hr] at h; cases h
    | some o =>
      rw [hr] at h
      obtain ⟨v, h1, h2, h3⟩ := s.val i d (by rw [hr]; exact congrArg some h)
      refine ⟨v, h1, q v Hs H (.refl s.sub) ?_⟩
      cases hc : O.contains i with
      | true => exact .inr (h2 hc)
      | false => exact .inl (h3 hc)⟩
theorem de_c {v : V} {d : PyData} (h : PE X e (tC v)) (r : ∀ H, R H v d) : DE X O .cl e (tC v) (fC d) :=
  ⟨h, fun ρ σ Hs H z s hf Q q => by
    cases hf
    exact q v Hs H (.refl s.sub) (r Hs)⟩
theorem de_int {i : Int} {j : Nat} : DE X O .cl (.Constant (.int i) j pos) (tC (.int i)) (fC (.int i)) := de_c pe_int fun _ => .int i
theorem de_bl {i : Bool} {j : Nat} : DE X O .cl (.Constant (.bool i) j pos) (tC (.bl i)) (fC (.bool i)) := de_c pe_bl fun _ => .bl i
theorem de_non {j : Nat} : DE X O .cl (.Constant .none j pos) (tC .non) (fC .none) := de_c pe_non fun _ => .non
theorem de_str {x : Str} {j : Nat} : DE X O .cl (.Constant (.str x) j pos) (tC (.str x)) (fC (.str x)) := de_c pe_str fun _ => .str x
/-! ### operators -/
theorem ev_op2 {r : R2} {g : PyData → PyData → Option PyData} (hg : OpD r m g) {ρ : Rho} {σ : St} {Hs H : Hp} {d : PyData} (ha : DE X O .rd a ta fa) (hb : DE X O .rd b tb fb) (s : Slots O ρ σ Hs H) (h : fBin g fa fb ρ = some d) : Ev (tOp r ta tb) σ Hs H m d := fun Q q => by
  obtain ⟨x, hx, h⟩ := bind_some h
  obtain ⟨y, hy, h⟩ := bind_some h
  refine ha.ev ρ σ Hs H x s hx _ fun v Hs1 H1 g1 r1 => ?_
  refine hb.ev ρ σ Hs1 H1 y (s.mono g1) hy _ fun w Hs2 H2 g2 r2 => ?_
  exact hg Hs2 H2 v w x y d g2.sub (r1.rd_mono g2) (r2.rd_mono (.refl g2.sub)) h Q fun u Hs3 H3 g3 r3 => q u Hs3 H3 ((g1.trans g2).trans g3) (r3.back (g1.h.trans g2.h))
theorem de_op {op : Operator} {r : R2} {g : PyData → PyData → Option PyData} (ho : OpR X (binaryOp op) r) (hg : OpD r m g) (ha : DE X O .rd a ta fa) (hb : DE X O .rd b tb fb) : DE X O m (.BinOp a op b pos) (tOp r ta tb) (fBin g fa fb) :=
  ⟨pe_op ho ha.pe hb.pe, fun _ _ _ _ _ s h => ev_op2 hg ha hb s h⟩
theorem de_cmp {op : CmpOp} {r : R2} {g : PyData → PyData → Option PyData} (ho : OpR X (compareOp op) r) (hg : OpD r m g) (ha : DE X O .rd a ta fa) (hb : DE X O .rd b tb fb) (hm : behindInMarks op b = false := by rfl) : DE X O m (.Compare a [op] [b] pos) (tOp r ta tb) (fBin g fa fb) :=
  ⟨pe_cmpR ho ha.pe hb.pe hm, fun _ _ _ _ _ s h => ev_op2 hg ha hb s h⟩
theorem de_ixR {r : R2} {g : PyData → PyData → Option PyData} (ho : IxR X r) (hg : OpD r m g) (ha : DE X O .rd a ta fa) (hb : DE X O .rd b tb fb) (hs : PlainIx b := by intro _ _; rfl) : DE X O m (.Subscript a b pos) (tOp r ta tb) (fBin g fa fb) :=
  ⟨pe_ix ho ha.pe hb.pe hs, fun _ _ _ _ _ s h => ev_op2 hg ha hb s h⟩
theorem ev_un1 {r : V → Hp → VK → Prop} {g : PyData → Option PyData} (hg : UnD r m g) {ρ : Rho} {σ : St} {Hs H : Hp} {d : PyData} (ha : DE X O .rd a ta fa) (s : Slots O ρ σ Hs H) (h : fUn g fa ρ = some d) : Ev (tUn r ta) σ Hs H m d := fun Q q => by
  obtain ⟨x, hx, h⟩ := bind_some h
  refine ha.ev ρ σ Hs H x s hx _ fun v Hs1 H1 g1 r1 => ?_
  exact hg Hs1 H1 v x d g1.sub (r1.rd_mono (.refl g1.sub)) h Q fun u Hs3 H3 g3 r3 => q u Hs3 H3 (g1.trans g3) (r3.back g1.h)
theorem de_un {op : UnaryOp} {r : V → Hp → VK → Prop} {g : PyData → Option PyData} (ho : UnR X (unaryOp op) r) (hg : UnD r m g) (ha : DE X O .rd a ta fa) : DE X O m (.UnaryOp op a pos) (tUn r ta) (fUn g fa) :=
  ⟨pe_un ho ha.pe, fun _ _ _ _ _ s h => ev_un1 hg ha s h⟩
theorem OpD.or {r r' : R2} {g g' : PyData → PyData → Option PyData} (h : OpD r m g) (h' : OpD r' m g') : OpD (fun x y H Q => r x y H Q ∨ r' x y H Q) m (fun x y => (g x y).or (g' x y)) := by
  intro Hs H v w x y z e h1 h2 hz Q q
  have hz : (g x y).or (g' x y) = some z := hz
  cases hg : g x y with
  | some z' =>
    rw [hg] at hz
    exact .inl (h Hs H v w x y z e h1 h2 (by rw [hg]; exact hz) Q q)
  | none =>
    rw [hg] at hz
    exact .inr (h' Hs H v w x y z e h1 h2 hz Q q)
theorem res_int {H0 Hs H : Hp} {i : Int} : Res .cl H0 Hs H (.int i) (.int i) := .int i
theorem res_bl {H0 Hs H : Hp} {i : Bool} : Res .cl H0 Hs H (.bl i) (.bool i) := .bl i
/-- two ints -/
def gI (C : Int → Int → Bool) (k : Int → Int → PyData) : PyData → PyData → Option PyData
  | .int i, .int j => if C i j = true then some (k i j) else none
  | _, _ => none
omit [KF] in
theorem gI_some {C : Int → Int → Bool} {k : Int → Int → PyData} {x y z : PyData} (h : gI C k x y = some z) : ∃ i j, x = .int i ∧ y = .int j ∧ C i j = true ∧ k i j = z := by
  cases x <;> cases y <;> try (cases h; done)
  rename_i i j
  refine ⟨i, j, rfl, rfl, ?_⟩
  have h : (if C i j = true then some (k i j) else none) = some z := h
  by_cases hc : C i j = true
  · rw [if_pos hc] at h
    exact ⟨hc, Option.some.inj h⟩
  · rw [if_neg hc] at h
    cases h
theorem opd_I0 {g : Int → Int → Int} : OpD (rI0 fun i j => .int (g i j)) .cl (gI (fun _ _ => true) fun i j => .int (g i j)) := by
  intro Hs H v w x y z e h1 h2 hz Q q
  obtain ⟨i, j, rfl, rfl, _, rfl⟩ := gI_some hz
  exact ⟨i, j, rd_int h1, rd_int h2, q _ Hs H (.refl e) res_int⟩
theorem opd_B0 {g : Int → Int → Bool} : OpD (rI0 fun i j => .bl (g i j)) .cl (gI (fun _ _ => true) fun i j => .bool (g i j)) := by
  intro Hs H v w x y z e h1 h2 hz Q q
  obtain ⟨i, j, rfl, rfl, _, rfl⟩ := gI_some hz
  exact ⟨i, j, rd_int h1, rd_int h2, q _ Hs H (.refl e) res_bl⟩
theorem opd_I {C : Int → Int → Prop} {D : Int → Int → Bool} {g : Int → Int → Int} (hC : ∀ i j, D i j = true → C i j) : OpD (rI C fun i j => .int (g i j)) .cl (gI D fun i j => .int (g i j)) := by
  intro Hs H v w x y z e h1 h2 hz Q q
  obtain ⟨i, j, rfl, rfl, c, rfl⟩ := gI_some hz
  exact ⟨i, j, rd_int h1, rd_int h2, hC i j c, q _ Hs H (.refl e) res_int⟩
def dAdd := gI (fun _ _ => true) fun i j => .int (i + j)
def dSub := gI (fun _ _ => true) fun i j => .int (i - j)
/-- both together below 2 ^ 27 bits -/
def mulC (i j : Int) : Bool := decide ((Builtin.Int.intBits i : Int) + (Builtin.Int.intBits j : Int) ≤ 134217728)
def dMul := gI mulC fun i j => .int (i * j)
def dMod := gI (fun _ j => decide (j ≠ 0)) fun i j => .int (i.fmod j)
def divC (_ j : Int) : Bool := decide (j ≠ 0 ∧ j.natAbs.log2 < 9000)
def dDiv := gI divC fun i j => .int (i.fdiv j)
def powC (i j : Int) : Bool := decide (0 ≤ j ∧ j ≤ 1000000 ∧ i.natAbs < 2 ^ 64)
def dPow := gI powC fun i j => .int (i ^ j.toNat)
omit [KF] in
theorem mulC_of {i j : Int} (h : mulC i j = true) : CMulX i j := of_decide_eq_true (p := (Builtin.Int.intBits i : Int) + (Builtin.Int.intBits j : Int) ≤ 134217728) h
omit [KF] in
theorem divC_of {i j : Int} (h : divC i j = true) : CDivL i j := of_decide_eq_true (p := j ≠ 0 ∧ j.natAbs.log2 < 9000) h
omit [KF] in
theorem powC_of {i j : Int} (h : powC i j = true) : CPow i j := of_decide_eq_true (p := 0 ≤ j ∧ j ≤ 1000000 ∧ i.natAbs < 2 ^ 64) h
def dBand := gI (fun _ _ => true) fun i j => .int (Builtin.bitAnd i j)
def dLt := gI (fun _ _ => true) fun i j => .bool (decide (i < j))
def dLe := gI (fun _ _ => true) fun i j => .bool (decide (i ≤ j))
def dGt := gI (fun _ _ => true) fun i j => .bool (decide (j < i))
def dGe := gI (fun _ _ => true) fun i j => .bool (decide (j ≤ i))
theorem de_addI (ha : DE X O .rd a ta fa) (hb : DE X O .rd b tb fb) : DE X O .cl (.BinOp a .Add b pos) (tOp rAddI ta tb) (fBin dAdd fa fb) := de_op op_add opd_I0 ha hb
theorem de_sub (ha : DE X O .rd a ta fa) (hb : DE X O .rd b tb fb) : DE X O .cl (.BinOp a .Sub b pos) (tOp rSubI ta tb) (fBin dSub fa fb) := de_op op_sub opd_I0 ha hb
theorem de_mulI (ha : DE X O .rd a ta fa) (hb : DE X O .rd b tb fb) : DE X O .cl (.BinOp a .Mult b pos) (tOp rMulI ta tb) (fBin dMul fa fb) := de_op op_mulX (opd_I fun i j h => mulC_of h) ha hb
theorem de_mod (ha : DE X O .rd a ta fa) (hb : DE X O .rd b tb fb) : DE X O .cl (.BinOp a .Mod b pos) (tOp rModI ta tb) (fBin dMod fa fb) := de_op op_modN (opd_I fun i j h => (show _ from of_decide_eq_true h)) ha hb
theorem de_div (ha : DE X O .rd a ta fa) (hb : DE X O .rd b tb fb) : DE X O .cl (.BinOp a .FloorDiv b pos) (tOp rDivI ta tb) (fBin dDiv fa fb) := de_op op_fdivL (opd_I fun i j h => divC_of h) ha hb
theorem de_pow (ha : DE X O .rd a ta fa) (hb : DE X O .rd b tb fb) : DE X O .cl (.BinOp a .Pow b pos) (tOp rPowI ta tb) (fBin dPow fa fb) := de_op op_pow (opd_I fun i j h => powC_of h) ha hb
theorem de_band (ha : DE X O .rd a ta fa) (hb : DE X O .rd b tb fb) : DE X O .cl (.BinOp a .BitAnd b pos) (tOp rAndI ta tb) (fBin dBand fa fb) := de_op op_and opd_I0 ha hb
theorem de_lt (ha : DE X O .rd a ta fa) (hb : DE X O .rd b tb fb) : DE X O .cl (.Compare a [.Lt] [b] pos) (tOp rLtI ta tb) (fBin dLt fa fb) := de_cmp op_lt opd_B0 ha hb (nomark _)
theorem de_le (ha : DE X O .rd a ta fa) (hb : DE X O .rd b tb fb) : DE X O .cl (.Compare a [.LtE] [b] pos) (tOp rLeI ta tb) (fBin dLe fa fb) := de_cmp op_le opd_B0 ha hb (nomark _)
theorem de_gt (ha : DE X O .rd a ta fa) (hb : DE X O .rd b tb fb) : DE X O .cl (.Compare a [.Gt] [b] pos) (tOp rGtI ta tb) (fBin dGt fa fb) := de_cmp op_gt opd_B0 ha hb (nomark _)
theorem de_ge (ha : DE X O .rd a ta fa) (hb : DE X O .rd b tb fb) : DE X O .cl (.Compare a [.GtE] [b] pos) (tOp rGeI ta tb) (fBin dGe fa fb) := de_cmp op_ge opd_B0 ha hb (nomark _)
def dNeg : PyData → Option PyData
  | .int i => some (.int (-i))
  | _ => none
theorem und_neg : UnD (rU fun i => .int (-i)) .cl dNeg := by
  intro Hs H v x z e h1 hz Q q
  cases x <;> try (cases hz; done)
  cases hz
  exact ⟨_, rd_int h1, q _ Hs H (.refl e) res_int⟩
theorem de_neg (ha : DE X O .rd a ta fa) : DE X O .cl (.UnaryOp .USub a pos) (tUn (rU fun i => .int (-i)) ta) (fUn dNeg fa) := de_un un_neg und_neg ha
/-! ### equality -/
def dEq : PyData → PyData → Option PyData := fun x y => if (SeqAt.shaped x && SeqAt.shaped y) = true then some (.bool (PyData.eqv x y)) else none
def dNe : PyData → PyData → Option PyData := fun x y => if (SeqAt.shaped x && SeqAt.shaped y) = true then some (.bool (!PyData.eqv x y)) else none
theorem opd_eq : OpD (rEqD KF.K) .cl dEq := by
  intro Hs H v w x y z e h1 h2 hz Q q
  unfold dEq at hz
  by_cases hc : (SeqAt.shaped x && SeqAt.shaped y) = true
  · rw [if_pos hc] at hz
    cases hz
    rw [Bool.and_eq_true] at hc
    exact ⟨x, y, (rd_R e h1).dp, (rd_R e h2).dp, hc.1, hc.2, q _ Hs H (.refl e) res_bl⟩
  · rw [if_neg hc] at hz
    cases hz
theorem opd_ne : OpD (rNeD KF.K) .cl dNe := by
  intro Hs H v w x y z e h1 h2 hz Q q
  unfold dNe at hz
  by_cases hc : (SeqAt.shaped x && SeqAt.shaped y) = true
  · rw [if_pos hc] at hz
    cases hz
    rw [Bool.and_eq_true] at hc
    exact ⟨x, y, (rd_R e h1).dp, (rd_R e h2).dp, hc.1, hc.2, q _ Hs H (.refl e) res_bl⟩
  · rw [if_neg hc] at hz
    cases hz
theorem de_eq (hu : X.A.units + 64 < cLine) (hK : X.K = KF.K) (ha : DE X O .rd a ta fa) (hb : DE X O .rd b tb fb) : DE X O .cl (.Compare a [.Eq] [b] pos) (tOp (rEqD X.K) ta tb) (fBin dEq fa fb) := de_cmp (op_eqD hu) (by rw [hK]; exact opd_eq) ha hb (nomark _)
theorem de_ne (hu : X.A.units + 64 < cLine) (hK : X.K = KF.K) (ha : DE X O .rd a ta fa) (hb : DE X O .rd b tb fb) : DE X O .cl (.Compare a [.NotEq] [b] pos) (tOp (rNeD X.K) ta tb) (fBin dNe fa fb) := de_cmp (op_neD hu) (by rw [hK]; exact opd_ne) ha hb (nomark _)
def isN : PyData → Bool
  | .none => true
  | _ => false
theorem isN_of {H0 Hs H : Hp} {v : V} {x : PyData} (h : Res .rd H0 Hs H v x) : decide (v = .non) = isN x := by
  rcases h with h | ⟨a, vs, ds, rfl, rfl, _⟩
  · cases h <;> rfl
  · rfl
def dIs : PyData → PyData → Option PyData := fun x y => match y with
  | .none => some (.bool (isN x))
  | _ => none
def dIsNot : PyData → PyData → Option PyData := fun x y => match y with
  | .none => some (.bool (!isN x))
  | _ => none
theorem opd_is : OpD (fun x y H Q => y = .non ∧ Q (.bl (decide (x = .non))) H) .cl dIs := by
  intro Hs H v w x y z e h1 h2 hz Q q
  cases y <;> try (cases hz; done)
  cases hz
  refine ⟨?_, ?_⟩
  · rcases h2 with h2 | ⟨_, _, _, _, q, _⟩
    · cases h2; rfl
    · cases q
  · show Q (.bl (decide (v = .non))) H
    rw [isN_of h1]
    exact q _ Hs H (.refl e) res_bl
theorem opd_isnot : OpD (fun x y H Q => y = .non ∧ Q (.bl (!decide (x = .non))) H) .cl dIsNot := by
  intro Hs H v w x y z e h1 h2 hz Q q
  cases y <;> try (cases hz; done)
  cases hz
  refine ⟨?_, ?_⟩
  · rcases h2 with h2 | ⟨_, _, _, _, q, _⟩
    · cases h2; rfl
    · cases q
  · show Q (.bl (!decide (v = .non))) H
    rw [isN_of h1]
    exact q _ Hs H (.refl e) res_bl
theorem de_is (ha : DE X O .rd a ta fa) (hb : DE X O .rd b tb fb) : DE X O .cl (.Compare a [.Is] [b] pos) (tOp rIsD ta tb) (fBin dIs fa fb) := de_cmp op_isN opd_is ha hb (nomark _)
theorem de_isnot (ha : DE X O .rd a ta fa) (hb : DE X O .rd b tb fb) : DE X O .cl (.Compare a [.IsNot] [b] pos) (tOp rIsNotD ta tb) (fBin dIsNot fa fb) := de_cmp op_notN opd_isnot ha hb (nomark _)
def dIn : PyData → PyData → Option PyData := fun x y => match y with
  | .list ds => if (SeqAt.shaped x && SeqAt.shaped (.list ds)) = true then some (.bool (ds.any fun z => PyData.eqv z x)) else none
  | _ => none
def dNotIn : PyData → PyData → Option PyData := fun x y => match y with
  | .list ds => if (SeqAt.shaped x && SeqAt.shaped (.list ds)) = true then some (.bool (!ds.any fun z => PyData.eqv z x)) else none
  | _ => none
theorem opd_in : OpD (rInD KF.K) .cl dIn := by
  intro Hs H v w x y z e h1 h2 hz Q q
  cases y <;> try (cases hz; done)
  rename_i ds
  unfold dIn at hz
  by_cases hc : (SeqAt.shaped x && SeqAt.shaped (.list ds)) = true
  · simp only [hc, if_true] at hz
    cases hz
    rw [Bool.and_eq_true] at hc
    exact ⟨x, ds, (rd_R e h1).dp, (rd_R e h2).dp, hc.1, hc.2, q _ Hs H (.refl e) res_bl⟩
  · simp only [hc, if_false] at hz
    cases hz
theorem opd_notin : OpD (rNotInD KF.K) .cl dNotIn := by
  intro Hs H v w x y z e h1 h2 hz Q q
  cases y <;> try (cases hz; done)
  rename_i ds
  unfold dNotIn at hz
  by_cases hc : (SeqAt.shaped x && SeqAt.shaped (.list ds)) = true
  · simp only [hc, if_true] at hz
    cases hz
    rw [Bool.and_eq_true] at hc
    exact ⟨x, ds, (rd_R e h1).dp, (rd_R e h2).dp, hc.1, hc.2, q _ Hs H (.refl e) res_bl⟩
  · simp only [hc, if_false] at hz
    cases hz
/-! ### tests -/
theorem dt_val (ha : DE X O .rd a ta fa) (he : ∀ whole, isTrue a X.env whole = (do let v ← whole; standAt a.pos; holding [v] (truthy v)) := by intro _; rfl) : DT X O a (tB ta) (tV fa) :=
  ⟨pt_val ha.pe he, fun ρ σ Hs H b s h Q q => by
    obtain ⟨x, hx, h⟩ := bind_some h
    refine ha.ev ρ σ Hs H x s hx _ fun v Hs1 H1 g1 r1 => ?_
    cases x <;> try (cases h; done)
    cases h
    exact ⟨_, rd_bool r1, q Hs1 H1 g1⟩⟩
theorem dt_tru (hK : X.K = KF.K) (ha : DE X O .rd a ta fa) (he : ∀ whole, isTrue a X.env whole = (do let v ← whole; standAt a.pos; holding [v] (truthy v)) := by intro _; rfl) : DT X O a (fun σ H Q => ta σ H fun x H' => ∃ k, TruV X.K x H' k ∧ Q k H') (tTr fa) :=
  ⟨pt_truth ha.pe he, fun ρ σ Hs H b s h Q q => by
    obtain ⟨x, hx, h⟩ := bind_some h
    refine ha.ev ρ σ Hs H x s hx _ fun v Hs1 H1 g1 r1 => ?_
    refine ⟨b, ?_, q Hs1 H1 g1⟩
    cases x <;> try (cases h; done)
    · cases h
      rcases r1 with r1 | ⟨_, _, _, _, q, _⟩
      · cases r1; rfl
      · cases q
    · cases h
      rw [rd_bool r1] <;> rfl
    · cases h
      rw [rd_int r1] <;> rfl
    · cases h
      obtain ⟨p, vs, rfl, h1, h2⟩ := rd_list g1.sub r1
      refine .inl ⟨vs, by rw [hK]; exact h1.sq, ?_⟩
      cases h2 <;> rfl
    · cases h
      obtain ⟨p, vs, rfl, h1, h2⟩ := rd_tup g1.sub r1
      refine .inr (.inl ⟨vs, .inl h1, ?_⟩)
      cases h2 <;> rfl⟩
theorem dt_not (ha : DT X O a tA' ft) : DT X O (.UnaryOp .Not a pos) (tNot tA') (tN ft) :=
  ⟨pt_not ha.pt, fun ρ σ Hs H b s h Q q => by
    obtain ⟨x, hx, h⟩ := bind_some h
    cases h
    exact ha.ev ρ σ Hs H x s hx _ fun Hs1 H1 g1 => q Hs1 H1 g1⟩
/-- chains of and, or -/
structure DW (X : Cx) (O : List Nat) (e : Expr) (tt : TT) (f : FT) : Prop where
  pw : PW X e tt
  ev : ∀ (ρ : Rho) (σ : St) (Hs H : Hp) (b : Bool), Slots O ρ σ Hs H → f ρ = some b → EvT tt σ Hs H b
theorem DW.dt (h : DW X O a tA' ft) : DT X O a tA' ft := ⟨h.pw.pt, h.ev⟩
theorem dw_and1 (ha : DT X O a tA' ft) : DW X O (.BoolOp .And [a] pos) tA' ft := ⟨pw_and1 ha.pt, ha.ev⟩
theorem dw_or1 (ha : DT X O a tA' ft) : DW X O (.BoolOp .Or [a] pos) tA' ft := ⟨pw_or1 ha.pt, ha.ev⟩
theorem dw_and {rest : List Expr} (ha : DT X O a tA' ft) (hb : DW X O (.BoolOp .And (b :: rest) pos) tB' fu) : DW X O (.BoolOp .And (a :: b :: rest) pos) (tAnd tA' tB') (tA ft fu) :=
  ⟨pw_and ha.pt hb.pw, fun ρ σ Hs H k s h Q q => by
    obtain ⟨x, hx, h⟩ := bind_some h
    refine ha.ev ρ σ Hs H x s hx _ fun Hs1 H1 g1 => ?_
    cases x with
    | true => exact iteT (hb.ev ρ σ Hs1 H1 k (s.mono g1) h Q fun Hs2 H2 g2 => q Hs2 H2 (g1.trans g2))
    | false =>
      cases h
      exact iteF (q Hs1 H1 g1)⟩
theorem dw_or {rest : List Expr} (ha : DT X O a tA' ft) (hb : DW X O (.BoolOp .Or (b :: rest) pos) tB' fu) : DW X O (.BoolOp .Or (a :: b :: rest) pos) (tOr tA' tB') (tO ft fu) :=
  ⟨pw_or ha.pt hb.pw, fun ρ σ Hs H k s h Q q => by
    obtain ⟨x, hx, h⟩ := bind_some h
    refine ha.ev ρ σ Hs H x s hx _ fun Hs1 H1 g1 => ?_
    cases x with
    | true =>
      cases h
      exact iteT (q Hs1 H1 g1)
    | false => exact iteF (hb.ev ρ σ Hs1 H1 k (s.mono g1) h Q fun Hs2 H2 g2 => q Hs2 H2 (g1.trans g2))⟩
/-! ### and, or, not, if as values -/
theorem de_one {op : BoolOp} (ha : DE X O m a ta fa) : DE X O m (.BoolOp op [a] pos) ta fa := ⟨pe_one ha.pe, ha.ev⟩
theorem de_and {rest : List Expr} (ha : DE X O .rd a ta fa) (hb : DE X O .cl (.BoolOp .And (b :: rest) pos) tb fb) : DE X O .cl (.BoolOp .And (a :: b :: rest) pos) (tAndV ta tb) (fAnd fa fb) :=
  ⟨pe_and ha.pe hb.pe, fun ρ σ Hs H d s h Q q => by
    obtain ⟨x, hx, h⟩ := bind_some h
    refine ha.ev ρ σ Hs H x s hx _ fun v Hs1 H1 g1 r1 => ?_
    cases x <;> try (cases h; done)
    rename_i k
    refine ⟨k, rd_bool r1, ?_⟩
    cases k with
    | true => exact iteT (hb.ev ρ σ Hs1 H1 d (s.mono g1) h Q fun u Hs2 H2 g2 r2 => q u Hs2 H2 (g1.trans g2) r2)
    | false =>
      cases h
      exact iteF (q _ Hs1 H1 g1 res_bl)⟩
theorem de_or {rest : List Expr} (ha : DE X O .rd a ta fa) (hb : DE X O .cl (.BoolOp .Or (b :: rest) pos) tb fb) : DE X O .cl (.BoolOp .Or (a :: b :: rest) pos) (tOrV ta tb) (fOr fa fb) :=
  ⟨pe_or ha.pe hb.pe, fun ρ σ Hs H d s h Q q => by
    obtain ⟨x, hx, h⟩ := bind_some h
    refine ha.ev ρ σ Hs H x s hx _ fun v Hs1 H1 g1 r1 => ?_
    cases x <;> try (cases h; done)
    rename_i k
    refine ⟨k, rd_bool r1, ?_⟩
    cases k with
    | true =>
      cases h
      exact iteT (q _ Hs1 H1 g1 res_bl)
    | false => exact iteF (hb.ev ρ σ Hs1 H1 d (s.mono g1) h Q fun u Hs2 H2 g2 r2 => q u Hs2 H2 (g1.trans g2) r2)⟩
theorem de_not (ha : DE X O .rd a ta fa) : DE X O .cl (.UnaryOp .Not a pos) (tNotV ta) (fUn gNot fa) :=
  ⟨pe_not ha.pe, fun ρ σ Hs H d s h Q q => by
    obtain ⟨x, hx, h⟩ := bind_some h
    refine ha.ev ρ σ Hs H x s hx _ fun v Hs1 H1 g1 r1 => ?_
    cases x <;> try (cases h; done)
    cases h
    exact ⟨_, rd_bool r1, q _ Hs1 H1 g1 res_bl⟩⟩
theorem de_if (hc : DT X O c tA' ft) (ha : DE X O m a ta fa) (hb : DE X O m b tb fb) : DE X O m (.IfExp c a b pos) (tIf tA' ta tb) (fIf ft fa fb) :=
  ⟨pe_ifExp hc.pt ha.pe hb.pe, fun ρ σ Hs H d s h Q q => by
    obtain ⟨x, hx, h⟩ := bind_some h
    refine hc.ev ρ σ Hs H x s hx _ fun Hs1 H1 g1 => ?_
    cases x with
    | true => exact iteT (ha.ev ρ σ Hs1 H1 d (s.mono g1) h Q fun u Hs2 H2 g2 r2 => q u Hs2 H2 (g1.trans g2) (r2.back g1.h))
    | false => exact iteF (hb.ev ρ σ Hs1 H1 d (s.mono g1) h Q fun u Hs2 H2 g2 r2 => q u Hs2 H2 (g1.trans g2) (r2.back g1.h))⟩
theorem de_chain {op op' : CmpOp} {r r' : R2} {g g' : PyData → PyData → Option PyData} (ho : OpR X (compareOp op) r) (hg : OpD r .cl g) (ho' : OpR X (compareOp op') r') (hg' : OpD r' .cl g') (ha : DE X O .rd a ta fa) (hb : DE X O .rd b tb fb) (hc : DE X O .rd c tc fc)
    (hm : lastMarks [op, op'] [b, c] = false := by with_unfolding_all rfl) : DE X O .cl (.Compare a [op, op'] [b, c] pos) (tChain r r' ta tb tc) (fChain g g' fa fb fc) :=
  ⟨pe_chain ho ho' ha.pe hb.pe hc.pe hm, fun ρ σ Hs H d s h Q q => by
    obtain ⟨x, hx, h⟩ := bind_some h
    obtain ⟨y, hy, h⟩ := bind_some h
    obtain ⟨z, hz, h⟩ := bind_some h
    refine ha.ev ρ σ Hs H x s hx _ fun v Hs1 H1 g1 r1 => ?_
    refine hb.ev ρ σ Hs1 H1 y (s.mono g1) hy _ fun w Hs2 H2 g2 r2 => ?_
    refine hg Hs2 H2 v w x y z g2.sub (r1.rd_mono g2) (r2.rd_mono (.refl g2.sub)) hz _ fun u Hs3 H3 g3 r3 => ?_
    cases z <;> try (cases h; done)
    rename_i k
    refine ⟨k, rd_bool (H0 := H3) (Hs := Hs3) (H := H3) (.inl r3), ?_⟩
    cases k with
    | true =>
      obtain ⟨w', hw, h⟩ := bind_some h
      refine iteT (hc.ev ρ σ Hs3 H3 w' (((s.mono g1).mono g2).mono g3) hw _ fun u' Hs4 H4 g4 r4 => ?_)
      exact hg' Hs4 H4 w u' y w' d g4.sub (r2.rd_mono (g3.trans g4)) (r4.rd_mono (.refl g4.sub)) h Q fun u5 Hs5 H5 g5 r5 => q u5 Hs5 H5 ((((g1.trans g2).trans g3).trans g4).trans g5) r5
    | false =>
      cases h
      exact iteF (q _ Hs3 H3 ((g1.trans g2).trans g3) res_bl)⟩
/-! ### arguments -/
theorem da_nil : DA X O [] tNil fNilA := ⟨pa_nil, fun ρ σ Hs H ds s h Q q => by
  cases h
  exact q [] Hs H (.refl s.sub) .nil⟩
theorem da_cons {ta' : TA} {fr : FA} (ha : DE X O .rd e te f) (hr : DA X O es ta' fr) (hs : starEach (e :: es) X.env = (false, eval e X.env) :: starEach es X.env := by rfl) : DA X O (e :: es) (tCons te ta') (fConsA f fr) :=
  ⟨pa_cons ha.pe hr.pa hs, fun ρ σ Hs H ds s h Q q => by
    obtain ⟨x, hx, h⟩ := bind_some h
    obtain ⟨xs, hxs, h⟩ := bind_some h
    cases h
    refine ha.ev ρ σ Hs H x s hx _ fun v Hs1 H1 g1 r1 => ?_
    refine hr.ev ρ σ Hs1 H1 xs (s.mono g1) hxs _ fun vs Hs2 H2 g2 r2 => ?_
    exact q _ Hs2 H2 (g1.trans g2) (.cons (r1.rd_mono g2) r2)⟩
theorem dac_nil : DAc X O [] tNil fNilA := ⟨pa_nil, fun ρ σ Hs H ds s h Q q => by
  cases h
  exact q [] Hs H (.refl s.sub) .nil⟩
theorem dac_cons {ta' : TA} {fr : FA} (ha : DE X O .cl e te f) (hr : DAc X O es ta' fr) (hs : starEach (e :: es) X.env = (false, eval e X.env) :: starEach es X.env := by rfl) : DAc X O (e :: es) (tCons te ta') (fConsA f fr) :=
  ⟨pa_cons ha.pe hr.pa hs, fun ρ σ Hs H ds s h Q q => by
    obtain ⟨x, hx, h⟩ := bind_some h
    obtain ⟨xs, hxs, h⟩ := bind_some h
    cases h
    refine ha.ev ρ σ Hs H x s hx _ fun v Hs1 H1 g1 r1 => ?_
    refine hr.ev ρ σ Hs1 H1 xs (s.mono g1) hxs _ fun vs Hs2 H2 g2 r2 => ?_
    exact q _ Hs2 H2 (g1.trans g2) (.cons (R.mono g2.s r1) r2)⟩
end
end DL
set_option Elab.async false
set_option linter.all false
set_option maxRecDepth 100000
namespace DL
open PySem PySem.Spec L2
open PyProof.Rows hiding St
variable [KF]
/-! ### lists -/
section
variable {X : Cx} {pins : List (Addr × Obj)} {σ : St} {H : Hp} {s : Shared} {l : Addr} {xs : List V}
theorem lstR (hK : X.K = KF.K) (I : Inv X pins σ H s) (hH : LsK H l xs) : xs.length ≤ sizeLine ∧ ∃ (its : List Value) (n : Nat), Vals xs its ∧ xs.length = its.length ∧ s.heap.get? l = some { cls := .type "list", data := .seq its.toArray n } := by
  rcases hH.old with hH | ⟨its, n, h1, h2, h3⟩
  · have q := hH.ok I.hok
    obtain ⟨z, its, n, r, e⟩ := q
    exact ⟨z, its, n, r, Vals.length r, e⟩
  · exact ⟨by rw [Vals.length h3, Array.length_toList]; exact h2, its.toList, n, h3, Vals.length h3, I.kIn l _ (by rw [hK]; exact h1)⟩
end
def rCatR : R2 := fun x y H Q => ∃ l b xs zs, x = .ref l ∧ y = .ref b ∧ LsK H l xs ∧ LsK H b zs ∧ xs.length + zs.length ≤ sizeLine ∧ ∀ p, H p = none → Q (.ref p) (upd H p (.lst (xs ++ zs)))
section
variable {X : Cx}
theorem op_catR (hK : X.K = KF.K) : OpR X (binaryOp .Add) rCatR := by
  intro pins s σ H x y v u Q I rx ry h
  obtain ⟨l, b, xs, zs, rfl, rfl, h1, h2, hz, q⟩ := h
  cases rx
  cases ry
  obtain ⟨z1, is1, n1, r1, hl1, e1⟩ := lstR hK I h1
  obtain ⟨z2, is2, n2, r2, hl2, e2⟩ := lstR hK I h2
  have big : is1.toArray.size + is2.toArray.size ≤ sizeLine := by
    rw [List.size_toArray, List.size_toArray]
    omega
  refine PySem.P.add_list e1 e2 ?_ big
  have both : is1.toArray ++ is2.toArray = (is1 ++ is2).toArray := by simp
  rw [both]
  exact ⟨.ref _, _, I.lnew (t' := s.toks) (r1.append r2) (by rw [List.length_append]; omega), rfl, q _ I.fresh⟩
end
def catC (n m : Nat) : Bool := decide (n + m ≤ 100000)
omit [KF] in
theorem catC_of {n m : Nat} (h : catC n m = true) : n + m ≤ sizeLine := Nat.le_trans (of_decide_eq_true (p := n + m ≤ 100000) h) (by decide)
def dCat : PyData → PyData → Option PyData
  | .list xs, .list ys => if catC xs.length ys.length = true then some (.list (xs ++ ys)) else none
  | _, _ => none
theorem res_new {Hs H : Hp} {vs : List V} {ds : List PyData} {p : Addr} (e : Same Hs H) (hp : H p = none) (r : RA Hs vs ds) : Res .ow H Hs (upd H p (.lst vs)) (.ref p) (.list ds) :=
  ⟨⟨p, vs, ds, rfl, rfl, Same.free e hp, upd_same, r⟩, p, rfl, hp⟩
omit [KF] in
theorem if_some {c : Bool} {α : Type} {a b : α} (h : (if c = true then some a else none) = some b) : c = true ∧ a = b := by
  cases c with
  | true => exact ⟨rfl, Option.some.inj h⟩
  | false => cases h
theorem opd_cat : OpD rCatR .ow dCat := by
  intro Hs H v w x y z e h1 h2 hz Q q
  cases x <;> try (cases hz; done)
  cases y <;> try (cases hz; done)
  rename_i xs ys
  obtain ⟨c, rfl⟩ := if_some (show (if catC xs.length ys.length = true then some (.list (xs ++ ys)) else none) = some z from hz)
  obtain ⟨a, vs, rfl, p1, r1⟩ := rd_list e h1
  obtain ⟨b, ws, rfl, p2, r2⟩ := rd_list e h2
  refine ⟨a, b, vs, ws, rfl, rfl, p1, p2, by rw [r1.length, r2.length]; exact catC_of c, fun p hp => ?_⟩
  exact q _ Hs _ (Gr.own e hp) (res_new e hp (r1.append r2))
section
variable {X : Cx} {O : List Nat} {e a b c : Expr} {es : List Expr} {te ta tb tc : TE} {t : TA} {f fa fb fc : F} {fs : FA} {m : Md} {pos : Pos}
theorem de_cat (hK : X.K = KF.K) (ha : DE X O .rd a ta fa) (hb : DE X O .rd b tb fb) : DE X O .ow (.BinOp a .Add b pos) (tOp rCatR ta tb) (fBin dCat fa fb) := de_op (op_catR hK) opd_cat ha hb
/-- xs * k, xs new -/
def repC (n : Nat) (k : Int) : Bool := decide (-(2 ^ 63) ≤ k ∧ k < 2 ^ 63 ∧ n * k.toNat ≤ 100000)
def dRep : PyData → PyData → Option PyData
  | .list xs, .int k => if repC xs.length k = true then some (.list (List.replicate k.toNat xs).flatten) else none
  | _, _ => none
theorem RA.rep {H : Hp} {vs : List V} {ds : List PyData} (r : RA H vs ds) : ∀ n : Nat, RA H (List.replicate n vs).flatten (List.replicate n ds).flatten
  | 0 => .nil
  | n + 1 => by
    rw [List.replicate_succ, List.replicate_succ, List.flatten_cons, List.flatten_cons]
    exact r.append (RA.rep r n)
theorem de_rep (ha : DE X O .ow a ta fa) (hb : DE X O .rd b tb fb) : DE X O .ow (.BinOp a .Mult b pos) (tOp rRep ta tb) (fBin dRep fa fb) :=
  ⟨pe_op op_rep ha.pe hb.pe, fun ρ σ Hs H d s h Q q => by
    obtain ⟨x, hx, h⟩ := bind_some h
    obtain ⟨y, hy, h⟩ := bind_some h
    refine ha.ev ρ σ Hs H x s hx _ fun v Hs1 H1 g1 r1 => ?_
    refine hb.ev ρ σ Hs1 H1 y (s.mono g1) hy _ fun w Hs2 H2 g2 r2 => ?_
    cases x <;> try (cases h; done)
    cases y <;> try (cases h; done)
    rename_i k
    rename_i xs _
    obtain ⟨c, rfl⟩ := if_some (show (if repC xs.length k = true then some (PyData.list (List.replicate k.toNat xs).flatten) else none) = some d from h)
    have c := of_decide_eq_true (p := -(2 ^ 63) ≤ k ∧ k < 2 ^ 63 ∧ xs.length * k.toNat ≤ 100000) c
    obtain ⟨⟨p, vs, ds, rfl, ed, n1, n2, n3⟩, _⟩ := r1
    cases ed
    refine ⟨p, k, vs, rfl, rd_int r2, g2.h _ _ n2, c.1, c.2.1, ?_, fun l hl => ?_⟩
    · rw [n3.length]
      exact Nat.le_trans c.2.2 (by decide)
    · exact q _ Hs2 _ ((g1.trans g2).trans (Gr.own g2.sub hl)) (Res.back (g1.h.trans g2.h) (res_new g2.sub hl ((n3.mono g2.s).rep _)))⟩
/-- [a, b, ..], (a, b, ..) -/
def dList : List PyData → Option PyData := fun xs => if catC xs.length 0 = true then some (.list xs) else none
def dTup : List PyData → Option PyData := fun xs => if catC xs.length 0 = true then some (.tuple xs) else none
theorem de_list (h : DAc X O es t fs) : DE X O .ow (.List es pos) (tLst t) (fFn dList fs) :=
  ⟨pe_lst h.pa, fun ρ σ Hs H d s hf Q q => by
    obtain ⟨x, hx, hf⟩ := bind_some hf
    obtain ⟨c, rfl⟩ := if_some (show (if catC x.length 0 = true then some (PyData.list x) else none) = some d from hf)
    refine h.ev ρ σ Hs H x s hx _ fun vs Hs1 H1 g1 r1 => ⟨by rw [r1.length]; exact catC_of c, fun p hp => ?_⟩
    exact q _ Hs1 _ (g1.trans (Gr.own g1.sub hp)) (Res.back g1.h (res_new g1.sub hp r1))⟩
theorem de_tup {k : Nat} (h : DAc X O es t fs) : DE X O .cl (.Tuple es k pos) (tTup t) (fFn dTup fs) :=
  ⟨pe_tup h.pa, fun ρ σ Hs H d s hf Q q => by
    obtain ⟨x, hx, hf⟩ := bind_some hf
    obtain ⟨c, rfl⟩ := if_some (show (if catC x.length 0 = true then some (PyData.tuple x) else none) = some d from hf)
    refine h.ev ρ σ Hs H x s hx _ fun vs Hs1 H1 g1 r1 => ⟨by rw [r1.length]; exact catC_of c, fun p hp => ?_⟩
    exact q _ _ _ (g1.trans (Gr.new g1.sub hp)) (show R _ _ _ from .tup (.inl upd_same) (r1.mono (same_new (Same.free g1.sub hp))))⟩
/-- xs[i], t[i] -/
def dIx : PyData → PyData → Option PyData
  | .list xs, .int i => atI xs i
  | .tuple xs, .int i => atI xs i
  | _, _ => none
theorem atI_R {H : Hp} {vs : List V} {ds : List PyData} {i : Int} {d : PyData} (r : RA H vs ds) (h : atI ds i = some d) : ∃ v, atI vs i = some v ∧ R H v d := by
  unfold atI at h ⊢
  rw [r.length]
  obtain ⟨j, hj, h⟩ := bind_some h
  obtain ⟨v, h1, h2⟩ := r.get h
  exact ⟨v, by rw [hj]; exact h1, h2⟩
theorem opd_ix : OpD (rIx KF.K) .cl dIx := by
  intro Hs H v w x y z e h1 h2 hz Q q
  cases x <;> try (cases hz; done)
  · cases y <;> try (cases hz; done)
    rename_i xs i
    obtain ⟨a, vs, rfl, p1, r1⟩ := rd_list e h1
    obtain ⟨u, hu, ru⟩ := atI_R r1 (show atI xs i = some z from hz)
    exact .inl ⟨a, vs, i, u, rfl, rd_int h2, p1.sq, hu, q u Hs H (.refl e) ru⟩
  · cases y <;> try (cases hz; done)
    rename_i xs i
    obtain ⟨a, vs, rfl, p1, r1⟩ := rd_tup e h1
    obtain ⟨u, hu, ru⟩ := atI_R r1 (show atI xs i = some z from hz)
    exact .inr (.inl ⟨a, vs, i, u, rfl, rd_int h2, .inl p1, hu, q u Hs H (.refl e) ru⟩)
theorem de_ix (hK : X.K = KF.K) (ha : DE X O .rd a ta fa) (hb : DE X O .rd b tb fb) (hs : PlainIx b := by intro _ _; rfl) : DE X O .cl (.Subscript a b pos) (tOp (rIx X.K) ta tb) (fBin dIx fa fb) := de_ixR ix_seq (by rw [hK]; exact opd_ix) ha hb hs
/-- a part of a slice -/
structure DO (X : Cx) (O : List Nat) (e : Option Expr) (to : TO) (f : Rho → Option (Option Int)) : Prop where
  po : PO X e to
  ev : ∀ (ρ : Rho) (σ : St) (Hs H : Hp) (o : Option Int), Slots O ρ σ Hs H → f ρ = some o → ∀ Q : Option Int → Hp → Prop, (∀ Hs' H', Gr Hs H Hs' H' → Q o H') → to σ H Q
def oNone : Rho → Option (Option Int) := fun _ => some none
def oSome (f : F) : Rho → Option (Option Int) := fun ρ => (f ρ).bind fun x => match x with
  | .int i => some (some i)
  | _ => none
theorem do_none : DO X O none tNoPart oNone := ⟨po_none, fun ρ σ Hs H o s h Q q => by
  cases h
  exact q Hs H (.refl s.sub)⟩
theorem do_some (h : DE X O .rd e te f) : DO X O (some e) (tPart te) (oSome f) := ⟨po_some h.pe, fun ρ σ Hs H o s hf Q q => by
  obtain ⟨x, hx, hf⟩ := bind_some hf
  refine h.ev ρ σ Hs H x s hx _ fun v Hs1 H1 g1 r1 => ?_
  cases x <;> try (cases hf; done)
  cases hf
  exact ⟨_, rd_int r1, q Hs1 H1 g1⟩⟩
def cutD (xs : List PyData) (lo hi : Option Int) : List PyData := (xs.drop (HT.sIx xs.length 0 lo)).take (HT.sIx xs.length xs.length hi - HT.sIx xs.length 0 lo)
def fSl (fa : F) (l h : Rho → Option (Option Int)) : F := fun ρ => (fa ρ).bind fun x => (l ρ).bind fun lo => (h ρ).bind fun hi => match x with
  | .list xs => some (.list (cutD xs lo hi))
  | _ => none
theorem de_slice (hK : X.K = KF.K) {lo hi : Option Expr} {tl th : TO} {fl fh : Rho → Option (Option Int)} {p2 : Pos} (ha : DE X O .rd a ta fa) (hl : DO X O lo tl fl) (hh : DO X O hi th fh) : DE X O .ow (.Subscript a (.Slice lo hi none p2) pos) (tSl (rSlL X.K) ta tl th) (fSl fa fl fh) :=
  ⟨pe_slice sl_list ha.pe hl.po hh.po, fun ρ σ Hs H d s h Q q => by
    obtain ⟨x, hx, h⟩ := bind_some h
    obtain ⟨l, h1, h⟩ := bind_some h
    obtain ⟨u, h2, h⟩ := bind_some h
    refine ha.ev ρ σ Hs H x s hx _ fun v Hs1 H1 g1 r1 => ?_
    refine hl.ev ρ σ Hs1 H1 l (s.mono g1) h1 _ fun Hs2 H2 g2 => ?_
    refine hh.ev ρ σ Hs2 H2 u ((s.mono g1).mono g2) h2 _ fun Hs3 H3 g3 => ?_
    cases x <;> try (cases h; done)
    cases h
    obtain ⟨p, vs, rfl, p1, p2⟩ := rd_list g1.sub r1
    have g23 := g2.trans g3
    refine ⟨p, vs, rfl, by rw [hK]; exact (ls_mono g23.h p1).sq, fun n hn => ?_⟩
    have rr := p2.mono g23.s
    have er : cutV vs l u = (vs.drop (HT.sIx vs.length 0 l)).take (HT.sIx vs.length vs.length u - HT.sIx vs.length 0 l) := rfl
    rw [er, rr.length]
    exact q _ Hs3 _ ((g1.trans g23).trans (Gr.own g3.sub hn)) (Res.back (g1.trans g23).h (res_new g3.sub hn ((rr.drop _).take _)))⟩
/-! ### calls of what is built in -/
theorem de_b {x : Str} {p : Pos} {id : String} {r : List V → Hp → VK → Prop} {g : List PyData → Option PyData} (hc : CallR X (.builtin id) r) (hg : CallD r m g) (gl : Gl X x) (hm : X.mg x = none) (hv : bootBuiltins x = some (.builtin id)) (ha : DA X O (e :: es) t fs)
    (hn : x ≠ "__name__" := by decide) (hdb : (x == ("__debug__" : Str)) = false := by decide) (he : starEach (e :: es) X.env = (false, eval e X.env) :: starEach es X.env := by rfl) (hpl : (backTo pos (starEach es X.env)).any (·.1) = false := by rfl) :
    DE X O m (.Call (.Name x p) (e :: es) [] pos) (tCB r t) (fFn g fs) :=
  ⟨pe_callB hc gl hm hv ha.pa hn hdb he hpl, fun ρ σ Hs H d s h Q q => by
    obtain ⟨xs, hx, h⟩ := bind_some h
    refine ha.ev ρ σ Hs H xs s hx _ fun vs Hs1 H1 g1 r1 => ?_
    exact hg Hs1 H1 vs xs d g1.sub r1 h Q fun u Hs2 H2 g2 r2 => q u Hs2 H2 (g1.trans g2) (r2.back g1.h)⟩
theorem de_t {x : Str} {p : Pos} {T : String} {r : List V → Hp → VK → Prop} {g : List PyData → Option PyData} (hc : CallR X (.type T) r) (hg : CallD r m g) (gl : Gl X x) (hm : X.mg x = none) (hv : bootBuiltins x = some (.type T)) (ha : DA X O (e :: es) t fs)
    (hn : x ≠ "__name__" := by decide) (hdb : (x == ("__debug__" : Str)) = false := by decide) (he : starEach (e :: es) X.env = (false, eval e X.env) :: starEach es X.env := by rfl) (hpl : (backTo pos (starEach es X.env)).any (·.1) = false := by rfl) :
    DE X O m (.Call (.Name x p) (e :: es) [] pos) (tCB r t) (fFn g fs) :=
  ⟨pe_callTy hc gl hm hv ha.pa hn hdb he hpl, fun ρ σ Hs H d s h Q q => by
    obtain ⟨xs, hx, h⟩ := bind_some h
    refine ha.ev ρ σ Hs H xs s hx _ fun vs Hs1 H1 g1 r1 => ?_
    exact hg Hs1 H1 vs xs d g1.sub r1 h Q fun u Hs2 H2 g2 r2 => q u Hs2 H2 (g1.trans g2) (r2.back g1.h)⟩
/-- f(..), f a module's name for a built-in function -/
theorem de_m {x : Str} {p : Pos} {id : String} {r : List V → Hp → VK → Prop} {g : List PyData → Option PyData} (hc : CallR X (.builtin id) r) (hg : CallD r m g) (gl : Gl X x) (hm : X.mg x = some (.builtin id)) (ha : DA X O (e :: es) t fs)
    (hdb : (x == ("__debug__" : Str)) = false := by decide) (he : starEach (e :: es) X.env = (false, eval e X.env) :: starEach es X.env := by rfl) (hpl : (backTo pos (starEach es X.env)).any (·.1) = false := by rfl) :
    DE X O m (.Call (.Name x p) (e :: es) [] pos) (tCB r t) (fFn g fs) :=
  ⟨pe_callBfun hc gl hm ha.pa hdb he hpl, fun ρ σ Hs H d s h Q q => by
    obtain ⟨xs, hx, h⟩ := bind_some h
    refine ha.ev ρ σ Hs H xs s hx _ fun vs Hs1 H1 g1 r1 => ?_
    exact hg Hs1 H1 vs xs d g1.sub r1 h Q fun u Hs2 H2 g2 r2 => q u Hs2 H2 (g1.trans g2) (r2.back g1.h)⟩
theorem rdA1 {Hs H : Hp} {vs : List V} {x : PyData} (h : RdA Hs H vs [x]) : ∃ v, vs = [v] ∧ Res .rd H Hs H v x := by
  cases h with
  | cons a b => cases b; exact ⟨_, rfl, a⟩
theorem rdA2 {Hs H : Hp} {vs : List V} {x y : PyData} (h : RdA Hs H vs [x, y]) : ∃ v w, vs = [v, w] ∧ Res .rd H Hs H v x ∧ Res .rd H Hs H w y := by
  cases h with
  | cons a b => cases b with
    | cons c d => cases d; exact ⟨_, _, rfl, a, c⟩
/-- functions of one, of two data -/
def g1 (g : PyData → Option PyData) : List PyData → Option PyData
  | [x] => g x
  | _ => none
def g2 (g : PyData → PyData → Option PyData) : List PyData → Option PyData
  | [x, y] => g x y
  | _ => none
omit [KF] in
theorem g1_some {g : PyData → Option PyData} {xs : List PyData} {z : PyData} (h : g1 g xs = some z) : ∃ x, xs = [x] ∧ g x = some z := by
  match xs, h with
  | [x], h => exact ⟨x, rfl, h⟩
  | [], h => cases h
  | _ :: _ :: _, h => cases h
omit [KF] in
theorem g2_some {g : PyData → PyData → Option PyData} {xs : List PyData} {z : PyData} (h : g2 g xs = some z) : ∃ x y, xs = [x, y] ∧ g x y = some z := by
  match xs, h with
  | [x, y], h => exact ⟨x, y, rfl, h⟩
  | [], h => cases h
  | [_], h => cases h
  | _ :: _ :: _ :: _, h => cases h
def dLen : PyData → Option PyData
  | .list xs => some (.int xs.length)
  | .tuple xs => some (.int xs.length)
  | _ => none
abbrev rLenD (K : PySem.W.Frag) : List V → Hp → VK → Prop := fun xs H Q => ∃ p ys, xs = [.ref p] ∧ (SqL K H p ys ∨ SqT K H p ys) ∧ Q (.int ys.length) H
theorem cd_len : CallD (rLenD KF.K) .cl (g1 dLen) := by
  intro Hs H vs xs z e hv hz Q q
  obtain ⟨x, rfl, hz⟩ := g1_some hz
  obtain ⟨v, rfl, hr⟩ := rdA1 hv
  cases x <;> try (cases hz; done)
  · cases hz
    obtain ⟨p, ws, rfl, a, b⟩ := rd_list e hr
    refine ⟨p, ws, rfl, .inl a.sq, ?_⟩
    rw [b.length]
    exact q _ Hs H (.refl e) res_int
  · cases hz
    obtain ⟨p, ws, rfl, a, b⟩ := rd_tup e hr
    refine ⟨p, ws, rfl, .inr (.inl a), ?_⟩
    rw [b.length]
    exact q _ Hs H (.refl e) res_int
theorem de_len {p : Pos} (hK : X.K = KF.K) (gl : Gl X "len") (hm : X.mg "len" = none) (ha : DE X O .rd e te f) (hs : starEach [e] X.env = [(false, eval e X.env)] := by rfl) : DE X O .cl (.Call (.Name "len" p) [e] [] pos) (tCB (rLenD X.K) (tCons te tNil)) (fFn (g1 dLen) (fConsA f fNilA)) :=
  de_b call_len_seq (by rw [hK]; exact cd_len) gl hm PySem.boot_len (da_cons ha da_nil hs) (he := hs)
def dInt : PyData → Option PyData
  | .int i => some (.int i)
  | .bool b => some (.int (if b then 1 else 0))
  | _ => none
abbrev rIntD : List V → Hp → VK → Prop := fun xs H Q => (∃ i, xs = [.int i] ∧ Q (.int i) H) ∨ ∃ k, xs = [.bl k] ∧ Q (.int (if k then 1 else 0)) H
theorem cd_int : CallD rIntD .cl (g1 dInt) := by
  intro Hs H vs xs z e hv hz Q q
  obtain ⟨x, rfl, hz⟩ := g1_some hz
  obtain ⟨v, rfl, hr⟩ := rdA1 hv
  cases x <;> try (cases hz; done)
  · cases hz
    rw [rd_bool hr]
    exact .inr ⟨_, rfl, q _ Hs H (.refl e) res_int⟩
  · cases hz
    rw [rd_int hr]
    exact .inl ⟨_, rfl, q _ Hs H (.refl e) res_int⟩
theorem de_intc {p : Pos} (gl : Gl X "int") (hm : X.mg "int" = none) (ha : DE X O .rd e te f) (hs : starEach [e] X.env = [(false, eval e X.env)] := by rfl) : DE X O .cl (.Call (.Name "int" p) [e] [] pos) (tCB rIntD (tCons te tNil)) (fFn (g1 dInt) (fConsA f fNilA)) :=
  de_t call_int1 cd_int gl hm (by decide +kernel) (da_cons ha da_nil hs) (he := hs)
def dAbs : PyData → Option PyData
  | .int i => some (.int (if i < 0 then -i else i))
  | _ => none
abbrev rAbsD : List V → Hp → VK → Prop := fun xs H Q => ∃ i, xs = [.int i] ∧ Q (.int (if i < 0 then -i else i)) H
theorem cd_abs : CallD rAbsD .cl (g1 dAbs) := by
  intro Hs H vs xs z e hv hz Q q
  obtain ⟨x, rfl, hz⟩ := g1_some hz
  obtain ⟨v, rfl, hr⟩ := rdA1 hv
  cases x <;> try (cases hz; done)
  cases hz
  rw [rd_int hr]
  exact ⟨_, rfl, q _ Hs H (.refl e) res_int⟩
theorem de_abs {p : Pos} (gl : Gl X "abs") (hm : X.mg "abs" = none) (ha : DE X O .rd e te f) (hs : starEach [e] X.env = [(false, eval e X.env)] := by rfl) : DE X O .cl (.Call (.Name "abs" p) [e] [] pos) (tCB rAbsD (tCons te tNil)) (fFn (g1 dAbs) (fConsA f fNilA)) :=
  de_b call_abs cd_abs gl hm (by decide +kernel) (da_cons ha da_nil hs) (he := hs)
def dGcd : PyData → PyData → Option PyData
  | .int i, .int j => some (.int ((Nat.gcd i.natAbs j.natAbs : Nat) : Int))
  | _, _ => none
theorem cd_gcd : CallD rGcd .cl (g2 dGcd) := by
  intro Hs H vs xs z e hv hz Q q
  obtain ⟨x, y, rfl, hz⟩ := g2_some hz
  obtain ⟨v, w, rfl, h1, h2⟩ := rdA2 hv
  cases x <;> try (cases hz; done)
  cases y <;> try (cases hz; done)
  cases hz
  rw [rd_int h1, rd_int h2]
  exact ⟨_, _, rfl, q _ Hs H (.refl e) res_int⟩
theorem de_gcd {x : Str} {p : Pos} (gl : Gl X x) (hm : X.mg x = some (.builtin "math.gcd")) (ha : DE X O .rd a ta fa) (hb : DE X O .rd b tb fb) (hdb : (x == ("__debug__" : Str)) = false := by decide)
    (he : starEach [a, b] X.env = (false, eval a X.env) :: starEach [b] X.env := by rfl) (he2 : starEach [b] X.env = [(false, eval b X.env)] := by rfl) (hpl : (backTo pos (starEach [b] X.env)).any (·.1) = false := by rfl) : DE X O .cl (.Call (.Name x p) [a, b] [] pos) (tCB rGcd (tCons ta (tCons tb tNil))) (fFn (g2 dGcd) (fConsA fa (fConsA fb fNilA))) :=
  de_m cr_gcd cd_gcd gl hm (da_cons ha (da_cons hb da_nil he2) he) hdb he hpl
/-- list(x) -/
def dListOf : PyData → Option PyData
  | .list xs => some (.list xs)
  | .tuple xs => some (.list xs)
  | _ => none
abbrev rListD (K : PySem.W.Frag) : List V → Hp → VK → Prop := fun xs H Q => ∃ p ys, xs = [.ref p] ∧ (SqL K H p ys ∨ SqT K H p ys) ∧ ∀ l, H l = none → Q (.ref l) (upd H l (.lst ys))
theorem cd_list : CallD (rListD KF.K) .ow (g1 dListOf) := by
  intro Hs H vs xs z e hv hz Q q
  obtain ⟨x, rfl, hz⟩ := g1_some hz
  obtain ⟨v, rfl, hr⟩ := rdA1 hv
  cases x <;> try (cases hz; done)
  · cases hz
    obtain ⟨p, ws, rfl, a, b⟩ := rd_list e hr
    exact ⟨p, ws, rfl, .inl a.sq, fun l hl => q _ Hs _ (Gr.own e hl) (res_new e hl b)⟩
  · cases hz
    obtain ⟨p, ws, rfl, a, b⟩ := rd_tup e hr
    exact ⟨p, ws, rfl, .inr (.inl a), fun l hl => q _ Hs _ (Gr.own e hl) (res_new e hl b)⟩
theorem de_listc {p : Pos} (hK : X.K = KF.K) (gl : Gl X "list") (hm : X.mg "list" = none) (ha : DE X O .rd e te f) (hs : starEach [e] X.env = [(false, eval e X.env)] := by rfl) : DE X O .ow (.Call (.Name "list" p) [e] [] pos) (tCB (rListD X.K) (tCons te tNil)) (fFn (g1 dListOf) (fConsA f fNilA)) :=
  de_t call_list_of (by rw [hK]; exact cd_list) gl hm (by decide +kernel) (da_cons ha da_nil hs) (he := hs)
/-- sums, any, all -/
def intsOf : List PyData → Option (List Int)
  | [] => some []
  | .int i :: r => (intsOf r).map (i :: ·)
  | _ :: _ => none
def boolsOf : List PyData → Option (List Bool)
  | [] => some []
  | .bool i :: r => (boolsOf r).map (i :: ·)
  | _ :: _ => none
omit [KF] in
theorem intsOf_map : ∀ ns : List Int, intsOf (ns.map PyData.int) = some ns
  | [] => rfl
  | n :: r => by
    show (intsOf (r.map PyData.int)).map (n :: ·) = some (n :: r)
    rw [intsOf_map r] <;> rfl
omit [KF] in
theorem intsOf_some : ∀ {ds : List PyData} {ns : List Int}, intsOf ds = some ns → ds = ns.map PyData.int
  | [], ns, h => by
    cases h
    rfl
  | d :: r, ns, h => by
    cases d <;> try (cases h; done)
    rename_i i
    have h : (intsOf r).map (i :: ·) = some ns := h
    obtain ⟨ms, h1, rfl⟩ := Option.map_eq_some_iff.mp h
    rw [intsOf_some h1] <;> rfl
omit [KF] in
theorem boolsOf_map : ∀ ns : List Bool, boolsOf (ns.map PyData.bool) = some ns
  | [] => rfl
  | n :: r => by
    show (boolsOf (r.map PyData.bool)).map (n :: ·) = some (n :: r)
    rw [boolsOf_map r] <;> rfl
omit [KF] in
theorem boolsOf_some : ∀ {ds : List PyData} {ns : List Bool}, boolsOf ds = some ns → ds = ns.map PyData.bool
  | [], ns, h => by
    cases h
    rfl
  | d :: r, ns, h => by
    cases d <;> try (cases h; done)
    rename_i i
    have h : (boolsOf r).map (i :: ·) = some ns := h
    obtain ⟨ms, h1, rfl⟩ := Option.map_eq_some_iff.mp h
    rw [boolsOf_some h1] <;> rfl
def dSum : PyData → Option PyData
  | .list xs => (intsOf xs).map fun ns => .int ns.sum
  | _ => none
def dAny : PyData → Option PyData
  | .list xs => (boolsOf xs).map fun ns => .bool (ns.any id)
  | _ => none
def dAll : PyData → Option PyData
  | .list xs => (boolsOf xs).map fun ns => .bool (ns.all id)
  | _ => none
theorem cd_sum : CallD (rSum KF.K) .cl (g1 dSum) := by
  intro Hs H vs xs z e hv hz Q q
  obtain ⟨x, rfl, hz⟩ := g1_some hz
  obtain ⟨v, rfl, hr⟩ := rdA1 hv
  cases x <;> try (cases hz; done)
  rename_i ds _
  obtain ⟨ns, h1, rfl⟩ := Option.map_eq_some_iff.mp (show (intsOf ds).map (fun ns => PyData.int ns.sum) = some z from hz)
  rw [intsOf_some h1] at hr
  obtain ⟨p, ws, rfl, a, b⟩ := rd_list e hr
  rw [RA.of_ints b] at a
  exact ⟨p, ns, rfl, a.sq, q _ Hs H (.refl e) res_int⟩
theorem cd_any : CallD (rAny KF.K) .cl (g1 dAny) := by
  intro Hs H vs xs z e hv hz Q q
  obtain ⟨x, rfl, hz⟩ := g1_some hz
  obtain ⟨v, rfl, hr⟩ := rdA1 hv
  cases x <;> try (cases hz; done)
  rename_i ds _
  obtain ⟨ns, h1, rfl⟩ := Option.map_eq_some_iff.mp (show (boolsOf ds).map (fun ns => PyData.bool (ns.any id)) = some z from hz)
  rw [boolsOf_some h1] at hr
  obtain ⟨p, ws, rfl, a, b⟩ := rd_list e hr
  rw [RA.of_bools b] at a
  exact ⟨p, ns, rfl, a.sq, q _ Hs H (.refl e) res_bl⟩
theorem cd_all : CallD (rAll KF.K) .cl (g1 dAll) := by
  intro Hs H vs xs z e hv hz Q q
  obtain ⟨x, rfl, hz⟩ := g1_some hz
  obtain ⟨v, rfl, hr⟩ := rdA1 hv
  cases x <;> try (cases hz; done)
  rename_i ds _
  obtain ⟨ns, h1, rfl⟩ := Option.map_eq_some_iff.mp (show (boolsOf ds).map (fun ns => PyData.bool (ns.all id)) = some z from hz)
  rw [boolsOf_some h1] at hr
  obtain ⟨p, ws, rfl, a, b⟩ := rd_list e hr
  rw [RA.of_bools b] at a
  exact ⟨p, ns, rfl, a.sq, q _ Hs H (.refl e) res_bl⟩
theorem de_sum {p : Pos} (hK : X.K = KF.K) (hc : X.calm = true) (gl : Gl X "sum") (hm : X.mg "sum" = none) (ha : DE X O .rd e te f) (hs : starEach [e] X.env = [(false, eval e X.env)] := by rfl) : DE X O .cl (.Call (.Name "sum" p) [e] [] pos) (tCB (rSum X.K) (tCons te tNil)) (fFn (g1 dSum) (fConsA f fNilA)) :=
  de_b (cr_sum hc) (by rw [hK]; exact cd_sum) gl hm (by decide +kernel) (da_cons ha da_nil hs) (he := hs)
theorem de_any {p : Pos} (hK : X.K = KF.K) (hc : X.calm = true) (gl : Gl X "any") (hm : X.mg "any" = none) (ha : DE X O .rd e te f) (hs : starEach [e] X.env = [(false, eval e X.env)] := by rfl) : DE X O .cl (.Call (.Name "any" p) [e] [] pos) (tCB (rAny X.K) (tCons te tNil)) (fFn (g1 dAny) (fConsA f fNilA)) :=
  de_b (cr_any hc) (by rw [hK]; exact cd_any) gl hm (by decide +kernel) (da_cons ha da_nil hs) (he := hs)
theorem de_all {p : Pos} (hK : X.K = KF.K) (hc : X.calm = true) (gl : Gl X "all") (hm : X.mg "all" = none) (ha : DE X O .rd e te f) (hs : starEach [e] X.env = [(false, eval e X.env)] := by rfl) : DE X O .cl (.Call (.Name "all" p) [e] [] pos) (tCB (rAll X.K) (tCons te tNil)) (fFn (g1 dAll) (fConsA f fNilA)) :=
  de_b (cr_all hc) (by rw [hK]; exact cd_all) gl hm (by decide +kernel) (da_cons ha da_nil hs) (he := hs)
end
/-! ### any of ints -/
theorem truth_ints {prog : Program} {w : World} {A : Around} {ns : List Int} {its : List Value} (e : IntsAre its ns) :
    TruthOf prog w A (fun i v => its.toArray[i]? = some v) (fun i => (ns.getD i 0) != 0) := fun i v s Q E hv hq => by
  have hv2 : its[i]? = some v := by simpa using hv
  obtain ⟨n, t, e1, rfl⟩ : ∃ n t, ns[i]? = some n ∧ v = .int n t := by
    clear hq hv
    induction e generalizing i with
    | nil => simp at hv2
    | cons n t h ih =>
      cases i with
      | zero =>
        simp at hv2
        exact ⟨n, t, by simp, hv2.symm⟩
      | succ i =>
        obtain ⟨n', t', h1, h2⟩ := ih i (by simpa using hv2)
        exact ⟨n', t', by simpa using h1, h2⟩
  have hg : ns.getD i 0 = n := by rw [List.getD_eq_getElem?_getD, e1] <;> rfl
  have hq2 : Q ((ns.getD i 0) != 0) s := hq
  rw [hg] at hq2
  exact PyProof.Rows.truthy_int hq2
theorem any_rangeI : ∀ ns : List Int, (List.range ns.length).any (fun i => (ns.getD i 0) != 0) = ns.any (fun n => n != 0)
  | [] => rfl
  | b :: bs => by
    rw [List.any_cons, ← any_rangeI bs, List.length_cons, List.range_succ_eq_map, List.any_cons, List.any_map] <;> rfl
theorem ints_of_vals : ∀ {ns : List Int} {us : List Value}, Vals (ns.map V.int) us → IntsAre us ns
  | [], _, .nil => .nil
  | n :: r, _, .cons h t => by
    obtain ⟨k, rfl⟩ := h
    exact .cons _ _ (ints_of_vals t)
def rAnyI (K : PySem.W.Frag) : List V → Hp → VK → Prop := fun vs H Q => ∃ (a : Addr) (ns : List Int), vs = [V.ref a] ∧ SqL K H a (ns.map V.int) ∧ Q (.bl (ns.any fun n => n != 0)) H
theorem cr_anyI {X : Cx} (calm : X.calm = true) : CallR X (.builtin "any") (rAnyI X.K) := by
  intro pins s σ H vs us Q inv rel hh
  obtain ⟨l, ns, rfl, hl, goal⟩ := hh
  obtain ⟨items, rv, plain, _⟩ := inv.list hl
  rw [Vals.ref1 rel]
  have hi := ints_of_vals rv
  refine call_any_walk (iter_any plain.isList fun s' eq st hne => ?_)
  subst eq
  refine ⟨_, _, _, _, _, _, _, rfl, Walks.list (A := X.A.in1) (inv.ok.hd calm) _ l hne items.toArray, st, truth_ints hi, fun heap' tok keep => ?_⟩
  refine ⟨.bl _, H, inv.kept fun b o eo => keep b o (fun mem => ?_) (Heap.get?_push_of_some _ eo), ?_, goal⟩
  · rcases List.mem_cons.mp mem with e1 | mem
    · exact absurd (e1 ▸ Heap.lt_size eo) (Nat.lt_irrefl _)
    · cases mem
  · show Value.bool _ = Value.bool _
    rw [← any_rangeI, List.size_toArray, hi.length]
def dAnyI : PyData → Option PyData
  | .list xs => (intsOf xs).map fun ns => .bool (ns.any fun n => n != 0)
  | _ => none
theorem cd_anyI : CallD (rAnyI KF.K) .cl (g1 dAnyI) := by
  intro Hs H vs xs z e hv hz Q q
  obtain ⟨x, rfl, hz⟩ := g1_some hz
  obtain ⟨v, rfl, hr⟩ := rdA1 hv
  cases x <;> try (cases hz; done)
  rename_i ds _
  obtain ⟨ns, h1, rfl⟩ := Option.map_eq_some_iff.mp (show (intsOf ds).map (fun ns => PyData.bool (ns.any fun n => n != 0)) = some z from hz)
  rw [intsOf_some h1] at hr
  obtain ⟨p, ws, rfl, a, b⟩ := rd_list e hr
  rw [RA.of_ints b] at a
  exact ⟨p, ns, rfl, a.sq, q _ Hs H (.refl e) res_bl⟩
section
variable {X : Cx} {O : List Nat} {e : Expr} {te : TE} {f : F} {pos : Pos}
theorem de_anyI {p : Pos} (hK : X.K = KF.K) (hc : X.calm = true) (gl : Gl X "any") (hm : X.mg "any" = none) (ha : DE X O .rd e te f) (hs : starEach [e] X.env = [(false, eval e X.env)] := by rfl) : DE X O .cl (.Call (.Name "any" p) [e] [] pos) (tCB (rAnyI X.K) (tCons te tNil)) (fFn (g1 dAnyI) (fConsA f fNilA)) :=
  de_b (cr_anyI hc) (by rw [hK]; exact cd_anyI) gl hm (by decide +kernel) (da_cons ha da_nil hs) (he := hs)
/-! ### isinstance -/
def tyOf : PyData → String
  | .none => "NoneType"
  | .bool _ => "bool"
  | .int _ => "int"
  | .str _ => "str"
  | .list _ => "list"
  | .tuple _ => "tuple"
  | .dict _ => "dict"
def isTy (T : String) : PyData → Option PyData := fun d => match kitB (tyOf d) T with
  | some b => some (.bool b)
  | none => none
theorem tyX_of {H0 Hs H : Hp} {v : V} {x : PyData} (e : Same Hs H) (h : Res .rd H0 Hs H v x) : TyX KF.K H v (.type (tyOf x)) := by
  have q := rd_R e h
  cases q with
  | non => exact .base .non
  | bl b => exact .base (.bl b)
  | int i => exact .base (.int i)
  | str y => exact .base (.str y)
  | lst k _ =>
    rcases k.old with (k | ⟨o, k⟩) | ⟨its, n, k, _, _⟩
    · exact .base (.lst k)
    · exact .base (.frz k)
    · exact .kList k rfl
  | tup k _ =>
    rcases k with k | ⟨o, k⟩
    · exact .base (.tup k)
    · exact .fTuple k
/-- isinstance(e, T), T a built-in type by its name -/
theorem de_isi (hK : X.K = KF.K) {T : String} {c : Expr} {p : Pos} (gl : Gl X "isinstance") (hm : X.mg "isinstance" = none) (ha : DE X O .rd e te f) (hc : PE X c (tC (.ty T)))
    (he : starEach [e, c] X.env = (false, eval e X.env) :: starEach [c] X.env := by rfl) (he2 : starEach [c] X.env = (false, eval c X.env) :: starEach [] X.env := by rfl) (hpl : (backTo pos (starEach [c] X.env)).any (·.1) = false := by rfl) :
    DE X O .cl (.Call (.Name "isinstance" p) [e, c] [] pos) (tCB (rIsi X.K) (tCons te (tCons (tC (.ty T)) tNil))) (fUn (isTy T) f) :=
  ⟨pe_callB call_isi gl hm (by decide +kernel) (pa_cons ha.pe (pa_cons hc pa_nil he2) he) (he := he) (hpl := hpl), fun ρ σ Hs H d s h Q q => by
    obtain ⟨x, hx, h⟩ := bind_some h
    refine ha.ev ρ σ Hs H x s hx _ fun v Hs1 H1 g1 r1 => ?_
    unfold isTy at h
    cases hk : kitB (tyOf x) T with
    | none => rw [hk] at h; cases h
    | some b =>
      rw [hk] at h
      cases h
      exact ⟨v, .ty T, _, _, b, rfl, .ty T, by rw [hK]; exact tyX_of g1.sub r1, kit_ty hk, q _ Hs1 H1 g1 res_bl⟩⟩
end
/-! ### bit_length -/
def dBits : PyData → Option PyData
  | .int i => some (.int (Builtin.Int.intBits i : Nat))
  | _ => none
section
variable {X : Cx} {O : List Nat} {e : Expr} {te : TE} {f : F}
theorem de_bits {apos pos : Pos} (ha : DE X O .rd e te f) (hbase : attributeBase e "bit_length" X.env (eval e X.env) = eval e X.env := by rfl) (hline : (apos.endLine == pos.line) = true := by rfl) :
    DE X O .cl (.Call (.Attribute e "bit_length" apos) [] [] pos) (tBits te) (fUn dBits f) :=
  ⟨pe_bits ha.pe hbase hline, fun ρ σ Hs H d s h Q q => by
    obtain ⟨x, hx, h⟩ := bind_some h
    refine ha.ev ρ σ Hs H x s hx _ fun v Hs1 H1 g1 r1 => ?_
    cases x <;> try (cases h; done)
    cases h
    exact ⟨_, rd_int r1, q _ Hs1 H1 g1 res_int⟩⟩
end
end DL
set_option Elab.async false
set_option linter.all false
set_option maxRecDepth 100000
namespace DL
open PySem PySem.Spec L2
open PyProof.Rows hiding St
variable [KF]
/-! ### what is gone over -/
/-- J gives the data ds, one after another, as long as Hs stands -/
structure Gives (J : It) (ds : List PyData) (Hs : Hp) : Prop where
  go : ∀ (i : Nat) (Ks K : Hp), Same Hs Ks → Same Ks K → i < ds.length → J.go i K
  yld : ∀ (i : Nat) (Ks K : Hp) (x : V) (K' : Hp), Same Hs Ks → Same Ks K → J.yld i K x K' → ∀ d, ds[i]? = some d → ∃ Ks', Gr Ks K Ks' K' ∧ R Ks' x d
  stop : ∀ (Ks K : Hp), Same Hs Ks → Same Ks K → J.stop ds.length K
structure DI (X : Cx) (O : List Nat) (tg iter : Expr) (wi : TI) (f : FA) : Prop where
  pi : PI X tg iter wi
  ev : ∀ (ρ : Rho) (σ : St) (Hs H : Hp) (ds : List PyData), Slots O ρ σ Hs H → f ρ = some ds → ∀ Q : It → Hp → Prop, (∀ J Hs' H', Gr Hs H Hs' H' → Gives J ds Hs' → Q J H') → wi σ H Q
section
variable {X : Cx} {O : List Nat} {e a b c tg : Expr} {te ta tb tc : TE} {f fa fb fc : F} {pos p : Pos}
def iSeq (f : F) : FA := fun ρ => (f ρ).bind fun x => match x with
  | .list xs => some xs
  | .tuple xs => some xs
  | _ => none
theorem gives_list {Hs : Hp} {a : Addr} {vs : List V} {ds : List PyData} (h : LsK Hs a vs) (r : RA Hs vs ds) : Gives (Itl KF.K a) ds Hs :=
  ⟨fun i Ks H e1 e2 hi => ⟨vs, vs[i]'(by rw [r.length]; exact hi), (ls_mono (e1.trans e2) h).sq, List.getElem?_eq_getElem _⟩,
   fun i Ks H x H' e1 e2 hy d hd => by
    obtain ⟨rfl, hx⟩ := hy
    obtain ⟨v, h1, h2⟩ := r.get hd
    have q := hx vs ((ls_mono (e1.trans e2) h).sq)
    rw [h1] at q
    obtain rfl := Option.some.inj q
    exact ⟨Ks, .refl e2, h2.mono e1⟩,
   fun Ks H e1 e2 => ⟨vs, (ls_mono (e1.trans e2) h).sq, by rw [r.length]; exact Nat.le_refl _⟩⟩
theorem gives_tup {K : PySem.W.Frag} {Hs : Hp} {a : Addr} {vs : List V} {ds : List PyData} (h : Rd Hs a (.tup vs)) (r : RA Hs vs ds) : Gives (Itt K a) ds Hs :=
  ⟨fun i Ks H e1 e2 hi => ⟨vs, vs[i]'(by rw [r.length]; exact hi), .inl (rd_mono (e1.trans e2) h), List.getElem?_eq_getElem _⟩,
   fun i Ks H x H' e1 e2 hy d hd => by
    obtain ⟨rfl, hx⟩ := hy
    obtain ⟨v, h1, h2⟩ := r.get hd
    have q := hx vs (.inl (rd_mono (e1.trans e2) h))
    rw [h1] at q
    obtain rfl := Option.some.inj q
    exact ⟨Ks, .refl e2, h2.mono e1⟩,
   fun Ks H e1 e2 => ⟨vs, .inl (rd_mono (e1.trans e2) h), by rw [r.length]; exact Nat.le_refl _⟩⟩
theorem PI.or {wi wi' : TI} (h : PI X tg e wi) (h' : PI X tg e wi') : PI X tg e (fun σ H R => wi σ H R ∨ wi' σ H R) := by
  refine ⟨fun pins s σ H R I q => ?_⟩
  rcases q with q | q
  · exact h.run pins s σ H R I q
  · exact h'.run pins s σ H R I q
/-- for x in e: a list or a tuple that stands -/
theorem di_seq (hK : X.K = KF.K) (h : DE X O .cl e te f) : DI X O tg e (fun σ H R => iList X.K te σ H R ∨ iTup X.K te σ H R) (iSeq f) :=
  ⟨PI.or (pi_list h.pe) (pi_tup h.pe), fun ρ σ Hs H ds s hf Q q => by
    obtain ⟨x, hx, hf⟩ := bind_some hf
    cases x <;> try (cases hf; done)
    · cases hf
      refine .inl (h.ev ρ σ Hs H _ s hx _ fun v Hs1 H1 g1 r1 => ?_)
      cases r1 with
      | lst p r => exact ⟨_, rfl, ⟨_, by rw [hK]; exact (ls_mono g1.sub p).sq⟩, q _ Hs1 H1 g1 (by rw [hK]; exact gives_list p r)⟩
    · cases hf
      refine .inr (h.ev ρ σ Hs H _ s hx _ fun v Hs1 H1 g1 r1 => ?_)
      cases r1 with
      | tup p r => exact ⟨_, rfl, ⟨_, .inl (rd_mono g1.sub p)⟩, q _ Hs1 H1 g1 (gives_tup p r)⟩⟩
/-- ranges -/
def rangeD (lo : Int) (n : Nat) : List PyData := (List.range n).map fun (i : Nat) => PyData.int (lo + (i : Int))
omit [KF] in
theorem rangeD_length (lo : Int) (n : Nat) : (rangeD lo n).length = n := by
  unfold rangeD
  rw [List.length_map, List.length_range]
omit [KF] in
theorem rangeD_get {lo : Int} {n i : Nat} (h : i < n) : (rangeD lo n)[i]? = some (.int (lo + (i : Int))) := by
  unfold rangeD
  rw [List.getElem?_map, List.getElem?_range h] <;> rfl
theorem gives_range {lo : Int} {n : Nat} {Hs : Hp} : Gives (Itr lo n) (rangeD lo n) Hs :=
  ⟨fun i Ks H e1 e2 hi => by
    rw [rangeD_length] at hi
    exact hi,
   fun i Ks H x H' e1 e2 hy d hd => by
    obtain ⟨rfl, rfl⟩ := hy
    have hi : i < n := by
      have := (List.getElem?_eq_some_iff.mp hd).1
      rw [rangeD_length] at this
      exact this
    rw [rangeD_get hi] at hd
    obtain rfl := Option.some.inj hd
    exact ⟨Ks, .refl e2, .int _⟩,
   fun Ks H e1 e2 => by
    rw [rangeD_length]
    exact Nat.le_refl n⟩
def rgC (i : Int) : Bool := decide (-(2 ^ 62) ≤ i ∧ i < 2 ^ 62)
omit [KF] in
theorem rgC_of {i : Int} (h : rgC i = true) : -(2 ^ 62) ≤ i ∧ i < 2 ^ 62 := of_decide_eq_true (p := -(2 ^ 62) ≤ i ∧ i < 2 ^ 62) h
def iR1 (f : F) : FA := fun ρ => (f ρ).bind fun x => match x with
  | .int j => if rgC j = true then some (rangeD 0 j.toNat) else none
  | _ => none
def iR2 (f g : F) : FA := fun ρ => (f ρ).bind fun x => (g ρ).bind fun y => match x, y with
  | .int i, .int j => if (rgC i && rgC j) = true then some (rangeD i (j - i).toNat) else none
  | _, _ => none
theorem di_r1 (gl : Gl X "range") (hm : X.mg "range" = none) (h : DE X O .rd e te f) (hs : starEach [e] X.env = [(false, eval e X.env)] := by rfl) :
    DI X O tg (.Call (.Name "range" p) [e] [] pos) (iRng1 (tCons te tNil)) (iR1 f) :=
  ⟨pi_range1 gl hm (pa_cons h.pe pa_nil hs) hs, fun ρ σ Hs H ds s hf Q q => by
    obtain ⟨x, hx, hf⟩ := bind_some hf
    cases x <;> try (cases hf; done)
    rename_i j
    obtain ⟨c, rfl⟩ := if_some (show (if rgC j = true then some (rangeD 0 j.toNat) else none) = some ds from hf)
    refine h.ev ρ σ Hs H _ s hx _ fun v Hs1 H1 g1 r1 => ?_
    exact ⟨j, by rw [rd_int r1], (rgC_of c).1, (rgC_of c).2, q _ Hs1 H1 g1 gives_range⟩⟩
theorem di_r2 (gl : Gl X "range") (hm : X.mg "range" = none) (ha : DE X O .rd a ta fa) (hb : DE X O .rd b tb fb) (hs : starEach [a, b] X.env = [(false, eval a X.env), (false, eval b X.env)] := by rfl) (hs2 : starEach [b] X.env = [(false, eval b X.env)] := by rfl) :
    DI X O tg (.Call (.Name "range" p) [a, b] [] pos) (iRng2 (tCons ta (tCons tb tNil))) (iR2 fa fb) :=
  ⟨pi_range2 gl hm (pa_cons ha.pe (pa_cons hb.pe pa_nil hs2) (by rw [hs, hs2])) hs hs2, fun ρ σ Hs H ds s hf Q q => by
    obtain ⟨x, hx, hf⟩ := bind_some hf
    obtain ⟨y, hy, hf⟩ := bind_some hf
    cases x <;> try (cases hf; done)
    rename_i i _
    cases y <;> try (cases hf; done)
    rename_i j
    obtain ⟨c, rfl⟩ := if_some (show (if (rgC i && rgC j) = true then some (rangeD i (j - i).toNat) else none) = some ds from hf)
    rw [Bool.and_eq_true] at c
    refine ha.ev ρ σ Hs H _ s hx _ fun v Hs1 H1 g1 r1 => ?_
    refine hb.ev ρ σ Hs1 H1 _ (s.mono g1) hy _ fun w Hs2 H2 g2 r2 => ?_
    exact ⟨i, j, by rw [rd_int r1, rd_int r2], ⟨(rgC_of c.1).1, (rgC_of c.1).2, (rgC_of c.2).1, (rgC_of c.2).2⟩, q _ Hs2 H2 (g1.trans g2) gives_range⟩⟩
/-- ranges with a step -/
def rangeC (lo c : Int) (n : Nat) : List PyData := (List.range n).map fun (i : Nat) => PyData.int (lo + (i : Int) * c)
omit [KF] in
theorem rangeC_length (lo c : Int) (n : Nat) : (rangeC lo c n).length = n := by
  unfold rangeC
  rw [List.length_map, List.length_range]
omit [KF] in
theorem rangeC_get {lo c : Int} {n i : Nat} (h : i < n) : (rangeC lo c n)[i]? = some (.int (lo + (i : Int) * c)) := by
  unfold rangeC
  rw [List.getElem?_map, List.getElem?_range h] <;> rfl
theorem gives_rangeC {lo c : Int} {n : Nat} {Hs : Hp} : Gives (Itc lo c n) (rangeC lo c n) Hs :=
  ⟨fun i Ks H e1 e2 hi => by
    rw [rangeC_length] at hi
    exact hi,
   fun i Ks H x H' e1 e2 hy d hd => by
    obtain ⟨rfl, rfl⟩ := hy
    have hi : i < n := by
      have := (List.getElem?_eq_some_iff.mp hd).1
      rw [rangeC_length] at this
      exact this
    rw [rangeC_get hi] at hd
    obtain rfl := Option.some.inj hd
    exact ⟨Ks, .refl e2, .int _⟩,
   fun Ks H e1 e2 => by
    rw [rangeC_length]
    exact Nat.le_refl n⟩
def rg3C (i j c : Int) : Bool := decide (c ≠ 0 ∧ c.natAbs < 1073741824) && Builtin.Range.small i j c
def iR3 (f g h : F) : FA := fun ρ => (f ρ).bind fun x => (g ρ).bind fun y => (h ρ).bind fun z => match x, y, z with
  | .int i, .int j, .int c => if rg3C i j c = true then some (rangeC i c (Builtin.Range.rangeSize i j c).toNat) else none
  | _, _, _ => none
theorem di_r3 {c : Expr} {tc : TE} {fc : F} (gl : Gl X "range") (hm : X.mg "range" = none) (ha : DE X O .rd a ta fa) (hb : DE X O .rd b tb fb) (hc : DE X O .rd c tc fc) (hs : starEach [a, b, c] X.env = (false, eval a X.env) :: starEach [b, c] X.env := by rfl) (hs2 : starEach [b, c] X.env = (false, eval b X.env) :: starEach [c] X.env := by rfl)
    (hs3 : starEach [c] X.env = (false, eval c X.env) :: starEach [] X.env := by rfl) (hpl : (backTo pos (starEach [b, c] X.env)).any (·.1) = false := by rfl) :
    DI X O tg (.Call (.Name "range" p) [a, b, c] [] pos) (iRng3 (tCons ta (tCons tb (tCons tc tNil)))) (iR3 fa fb fc) :=
  ⟨pi_range3 gl hm (pa_cons ha.pe (pa_cons hb.pe (pa_cons hc.pe pa_nil hs3) hs2) hs) hs hpl, fun ρ σ Hs H ds s hf Q q => by
    obtain ⟨x, hx, hf1⟩ := bind_some hf
    obtain ⟨y, hy, hf2⟩ := bind_some hf1
    obtain ⟨z, hz, hf3⟩ := bind_some hf2
    clear hf hf1 hf2
    cases x <;> try (cases hf3; done)
    rename_i i
    cases y <;> try (cases hf3; done)
    rename_i j
    cases z <;> try (cases hf3; done)
    rename_i k
    have hf := hf3
    obtain ⟨e, rfl⟩ := if_some (show (if rg3C i j k = true then some (rangeC i k (Builtin.Range.rangeSize i j k).toNat) else none) = some ds from hf)
    unfold rg3C at e
    rw [Bool.and_eq_true] at e
    have e1 := of_decide_eq_true (p := k ≠ 0 ∧ k.natAbs < 1073741824) e.1
    refine ha.ev ρ σ Hs H _ s hx _ fun v Hs1 H1 g1 r1 => ?_
    refine hb.ev ρ σ Hs1 H1 _ (s.mono g1) hy _ fun w Hs2 H2 g2 r2 => ?_
    refine hc.ev ρ σ Hs2 H2 _ ((s.mono g1).mono g2) hz _ fun u Hs3 H3 g3 r3 => ?_
    exact ⟨i, j, k, _, by rw [rd_int r1, rd_int r2, rd_int r3], ⟨e1.1, e1.2, e.2, PyProof.Rows.rangeSize_toNat i j k⟩, q _ Hs3 H3 ((g1.trans g2).trans g3) gives_rangeC⟩⟩
/-- zip of two lists -/
def zipD : List PyData → List PyData → List PyData
  | x :: xs, y :: ys => .tuple [x, y] :: zipD xs ys
  | _, _ => []
omit [KF] in
theorem zipD_length : ∀ xs ys : List PyData, (zipD xs ys).length = min xs.length ys.length
  | [], ys => by simp [zipD]
  | _ :: _, [] => by simp [zipD]
  | x :: xs, y :: ys => by
    show (zipD xs ys).length + 1 = _
    rw [zipD_length xs ys, List.length_cons, List.length_cons]
    omega
omit [KF] in
theorem zipD_get : ∀ (xs ys : List PyData) (i : Nat) (d : PyData), (zipD xs ys)[i]? = some d → ∃ x y, xs[i]? = some x ∧ ys[i]? = some y ∧ d = .tuple [x, y]
  | [], ys, i, d, h => by simp [zipD] at h
  | _ :: _, [], i, d, h => by simp [zipD] at h
  | x :: xs, y :: ys, 0, d, h => ⟨x, y, by simp, by simp, (Option.some.inj (by simpa [zipD] using h)).symm⟩
  | x :: xs, y :: ys, i + 1, d, h => by
    obtain ⟨u, v, h1, h2, h3⟩ := zipD_get xs ys i d (by simpa [zipD] using h)
    exact ⟨u, v, by simpa using h1, by simpa using h2, h3⟩
theorem gives_zip {Hs : Hp} {a b : Addr} {vs ws : List V} {ds es : List PyData} (h : LsK Hs a vs) (r : RA Hs vs ds) (h' : LsK Hs b ws) (r' : RA Hs ws es) : Gives (Itz KF.K a b) (zipD ds es) Hs :=
  ⟨fun i Ks H e1 e2 hi => by
    rw [zipD_length] at hi
    have i1 : i < vs.length := by rw [r.length]; omega
    have i2 : i < ws.length := by rw [r'.length]; omega
    exact ⟨vs, ws, vs[i], ws[i], (ls_mono (e1.trans e2) h).sq, (ls_mono (e1.trans e2) h').sq, List.getElem?_eq_getElem _, List.getElem?_eq_getElem _⟩,
   fun i Ks H x H' e1 e2 hy d hd => by
    obtain ⟨T, u, w, rfl, hT, rfl, hx, hw⟩ := hy
    obtain ⟨d1, d2, k1, k2, rfl⟩ := zipD_get _ _ _ _ hd
    obtain ⟨v1, m1, n1⟩ := r.get k1
    obtain ⟨v2, m2, n2⟩ := r'.get k2
    have q1 := hx vs ((ls_mono (e1.trans e2) h).sq)
    rw [m1] at q1
    obtain rfl := Option.some.inj q1
    have q2 := hw ws ((ls_mono (e1.trans e2) h').sq)
    rw [m2] at q2
    obtain rfl := Option.some.inj q2
    have st : Same Ks (upd Ks T (.tup [v1, v2])) := same_new (Same.free e2 hT)
    exact ⟨_, Gr.new e2 hT, .tup (.inl upd_same) (.cons (n1.mono (e1.trans st)) (.cons (n2.mono (e1.trans st)) .nil))⟩,
   fun Ks H e1 e2 => ⟨vs, ws, (ls_mono (e1.trans e2) h).sq, (ls_mono (e1.trans e2) h').sq, by
    rw [zipD_length, r.length, r'.length]
    omega⟩⟩
def iZ (f g : F) : FA := fun ρ => (f ρ).bind fun x => (g ρ).bind fun y => match x, y with
  | .list xs, .list ys => some (zipD xs ys)
  | _, _ => none
theorem di_zip (hK : X.K = KF.K) {elts : List Expr} {kk : Nat} {tpos : Pos} (gl : Gl X "zip") (hm : X.mg "zip" = none) (ha : DE X O .cl a ta fa) (hb : DE X O .cl b tb fb) (hs : starEach [a, b] X.env = (false, eval a X.env) :: starEach [b] X.env := by rfl) (hs2 : starEach [b] X.env = (false, eval b X.env) :: starEach [] X.env := by rfl)
    (hpl : (backTo pos (starEach [b] X.env)).any (·.1) = false := by rfl) : DI X O (.Tuple elts kk tpos) (.Call (.Name "zip" p) [a, b] [] pos) (iZip X.K (tCons ta (tCons tb tNil))) (iZ fa fb) :=
  ⟨pi_zip gl hm (pa_cons ha.pe (pa_cons hb.pe pa_nil hs2) hs) hs hpl, fun ρ σ Hs H ds s hf Q q => by
    obtain ⟨x, hx, hf⟩ := bind_some hf
    obtain ⟨y, hy, hf⟩ := bind_some hf
    cases x <;> try (cases hf; done)
    cases y <;> try (cases hf; done)
    cases hf
    refine ha.ev ρ σ Hs H _ s hx _ fun v Hs1 H1 g1 r1 => ?_
    refine hb.ev ρ σ Hs1 H1 _ (s.mono g1) hy _ fun w Hs2 H2 g2 r2 => ?_
    cases R.mono g2.s r1 with
    | lst p1 q1 => cases r2 with
      | lst p2 q2 => exact ⟨_, _, _, _, rfl, by rw [hK]; exact (ls_mono g2.sub p1).sq, by rw [hK]; exact (ls_mono g2.sub p2).sq, q _ Hs2 H2 (g1.trans g2) (by rw [hK]; exact gives_zip p1 q1 p2 q2)⟩⟩
/-- reversed(xs) -/
theorem gives_rev {Hs : Hp} {a : Addr} {vs : List V} {ds : List PyData} (h : LsK Hs a vs) (r : RA Hs vs ds) : Gives (Itv KF.K a vs.length) ds.reverse Hs :=
  ⟨fun i Ks H e1 e2 hi => by
    rw [List.length_reverse, ← r.length] at hi
    exact ⟨hi, vs, vs[vs.length - 1 - i], (ls_mono (e1.trans e2) h).sq, List.getElem?_eq_getElem _⟩,
   fun i Ks H x H' e1 e2 hy d hd => by
    obtain ⟨rfl, hx⟩ := hy
    have hi := (List.getElem?_eq_some_iff.mp hd).1
    rw [List.length_reverse] at hi
    rw [List.getElem?_reverse hi] at hd
    obtain ⟨v, h1, h2⟩ := r.get hd
    rw [← r.length] at h1
    have q := hx vs ((ls_mono (e1.trans e2) h).sq)
    rw [h1] at q
    obtain rfl := Option.some.inj q
    exact ⟨Ks, .refl e2, h2.mono e1⟩,
   fun Ks H e1 e2 => by
    show vs.length ≤ ds.reverse.length
    rw [List.length_reverse, r.length]
    exact Nat.le_refl _⟩
def iRv (f : F) : FA := fun ρ => (f ρ).bind fun x => match x with
  | .list xs => some xs.reverse
  | _ => none
theorem di_rev (hK : X.K = KF.K) (gl : Gl X "reversed") (hm : X.mg "reversed" = none) (ha : DE X O .cl a ta fa) (hs : starEach [a] X.env = [(false, eval a X.env)] := by rfl) : DI X O tg (.Call (.Name "reversed" p) [a] [] pos) (iRev X.K (tCons ta tNil)) (iRv fa) :=
  ⟨pi_reversed gl hm (pa_cons ha.pe pa_nil hs) hs, fun ρ σ Hs H ds s hf Q q => by
    obtain ⟨x, hx, hf⟩ := bind_some hf
    cases x <;> try (cases hf; done)
    cases hf
    refine ha.ev ρ σ Hs H _ s hx _ fun v Hs1 H1 g1 r1 => ?_
    cases r1 with
    | lst p1 q1 => exact ⟨_, _, rfl, by rw [hK]; exact (ls_mono g1.sub p1).sq, q _ Hs1 H1 g1 (by rw [hK]; exact gives_rev p1 q1)⟩⟩
end
/-! ### targets -/
abbrev FG := PyData → Rho → Option Rho
/-- a name, at a place that holds no list of one's own -/
def gN (i : Nat) : FG := fun d ρ => some (ρ.set i (some d))
def gsR : List FG → List PyData → Rho → Option Rho
  | [], [], ρ => some ρ
  | g :: r, d :: ds, ρ => (g d ρ).bind fun ρ' => gsR r ds ρ'
  | _, _, _ => none
def gT (gs : List FG) : FG := fun d ρ => match d with
  | .tuple ds => gsR gs ds ρ
  | _ => none
/-- what a target stores: at the places js alone -/
structure DG (X : Cx) (O : List Nat) (tg : Expr) (g : TG) (k : FG) (js : List Nat) : Prop where
  pg : PG X tg g
  ho : ∀ j ∈ js, O.contains j = false
  ev : ∀ (d : PyData) (x : V) (ρ ρ' : Rho) (σ : St) (Hs H : Hp), Slots O ρ σ Hs H → R Hs x d → k d ρ = some ρ' → ∀ Q : St → Hp → Prop, (∀ σ', Slots O ρ' σ' Hs H → σ'.length = σ.length → (∀ j, j ∉ js → σ'[j]? = σ[j]? ∧ ρ'[j]? = ρ[j]?) → Q σ' H) → g x σ H Q
theorem Slots.set {O : List Nat} {ρ : Rho} {σ : St} {Hs H : Hp} {i : Nat} {d : PyData} {x : V} (s : Slots O ρ σ Hs H) (ho : O.contains i = false) (r : R Hs x d) : Slots O (ρ.set i (some d)) (σ.set i (some x)) Hs H := by
  refine ⟨s.sub, by rw [List.length_set, List.length_set]; exact s.len, fun j e h => ?_, fun j k dj dk v hn h1 h2 h3 h4 h5 h6 => ?_⟩
  · by_cases hj : i = j
    · subst hj
      have hl : i < ρ.length := by
        have := (List.getElem?_eq_some_iff.mp h).1
        rwa [List.length_set] at this
      rw [List.getElem?_set_self hl] at h
      have e1 : d = e := Option.some.inj (Option.some.inj h)
      subst e1
      exact ⟨x, List.getElem?_set_self (by rw [s.len]; exact hl), fun z => (by rw [ho] at z; cases z), fun _ => r⟩
    · rw [List.getElem?_set_ne hj] at h
      obtain ⟨v, h1, h2, h3⟩ := s.val j e h
      exact ⟨v, by rw [List.getElem?_set_ne hj]; exact h1, h2, h3⟩
  · have hj : i ≠ j := fun z => by rw [← z, ho] at h1; cases h1
    have hk : i ≠ k := fun z => by rw [← z, ho] at h2; cases h2
    rw [List.getElem?_set_ne hj] at h3 h5
    rw [List.getElem?_set_ne hk] at h4 h6
    exact s.dis j k dj dk v hn h1 h2 h3 h4 h5 h6
theorem mem_contains {O : List Nat} {i : Nat} (h : i ∈ O) : O.contains i = true := by simpa using h
theorem ne_of_own {O : List Nat} {i j : Nat} (h : j ∈ O) (ho : O.contains i = false) : i ≠ j := fun z => by
  rw [← z] at h
  rw [mem_contains h] at ho
  cases ho
section
variable {X : Cx} {O : List Nat}
theorem dg_name (i : Nat) {x : Str} {p : Pos} (ho : O.contains i = false) (h : PG X (.Name x p) (gName i)) : DG X O (.Name x p) (gName i) (gN i) [i] :=
  ⟨h, fun j hj => by
    rw [List.mem_singleton.mp hj]
    exact ho, fun d x ρ ρ' σ Hs H s r hk Q q => by
    cases hk
    exact q _ (s.set ho r) (List.length_set ..) fun j hj => ⟨List.getElem?_set_ne fun z => hj (by rw [z]; exact List.mem_singleton.mpr rfl), List.getElem?_set_ne fun z => hj (by rw [z]; exact List.mem_singleton.mpr rfl)⟩⟩
structure DGs (X : Cx) (O : List Nat) (ts : List Expr) (g : TGs) (k : List FG) (js : List Nat) : Prop where
  pg : PGs X ts g
  len : ts.length = k.length
  ho : ∀ j ∈ js, O.contains j = false
  ev : ∀ (ds : List PyData) (xs : List V) (ρ ρ' : Rho) (σ : St) (Hs H : Hp), Slots O ρ σ Hs H → RA Hs xs ds → gsR k ds ρ = some ρ' → ∀ Q : St → Hp → Prop, (∀ σ', Slots O ρ' σ' Hs H → σ'.length = σ.length → (∀ j, j ∉ js → σ'[j]? = σ[j]? ∧ ρ'[j]? = ρ[j]?) → Q σ' H) → g xs σ H Q
theorem dgs_nil : DGs X O [] gNil [] [] := ⟨pgs_nil, rfl, fun _ h => (nomatch h), fun ds xs ρ ρ' σ Hs H s r hk Q q => by
  cases r with
  | nil =>
    cases hk
    exact ⟨rfl, q σ s rfl fun i _ => ⟨rfl, rfl⟩⟩
  | cons _ _ => cases hk⟩
theorem dgs_cons {t : Expr} {ts : List Expr} {g : TG} {gs : TGs} {k : FG} {ks : List FG} {js is : List Nat} (h : DG X O t g k js) (hr : DGs X O ts gs ks is) (hs : (assignEach (t :: ts) X.env).map (·.2) = assign t X.env :: (assignEach ts X.env).map (·.2) := by rfl) : DGs X O (t :: ts) (gCons g gs) (k :: ks) (js ++ is) :=
  ⟨pgs_cons h.pg hr.pg hs, by rw [List.length_cons, List.length_cons, hr.len], fun j hj => (List.mem_append.mp hj).elim (h.ho j) (hr.ho j), fun ds xs ρ ρ' σ Hs H s r hk Q q => by
    cases r with
    | nil => cases hk
    | cons a b =>
      obtain ⟨ρ1, h1, h2⟩ := bind_some hk
      refine ⟨_, _, rfl, h.ev _ _ ρ ρ1 σ Hs H s a h1 _ fun σ1 s1 l1 e1 => ?_⟩
      exact hr.ev _ _ ρ1 ρ' σ1 Hs H s1 b h2 Q fun σ2 s2 l2 e2 => q σ2 s2 (l2.trans l1) fun i hi =>
        have n1 : i ∉ js := fun z => hi (List.mem_append_left _ z)
        have n2 : i ∉ is := fun z => hi (List.mem_append_right _ z)
        ⟨(e2 i n2).1.trans (e1 i n1).1, (e2 i n2).2.trans (e1 i n1).2⟩⟩
theorem gsR_len : ∀ {ks : List FG} {ds : List PyData} {ρ ρ' : Rho}, gsR ks ds ρ = some ρ' → ds.length = ks.length
  | [], [], _, _, _ => rfl
  | [], _ :: _, _, _, h => by cases h
  | _ :: _, [], _, _, h => by cases h
  | k :: ks, d :: ds, ρ, ρ', h => by
    obtain ⟨ρ1, _, h2⟩ := bind_some h
    rw [List.length_cons, List.length_cons, gsR_len h2]
theorem dg_tup {ts : List Expr} {n k : Nat} {p : Pos} {gs : TGs} {ks : List FG} {js : List Nat} (hc : X.calm = true) (h : DGs X O ts gs ks js) (hn : ts.length = n := by rfl) (hn2 : (assignEach ts X.env).length = n := by rfl) (hst : (assignEach ts X.env).findIdx? (·.1) = none := by rfl) : DG X O (.Tuple ts k p) (gTup X.K n gs) (gT ks) js :=
  ⟨pg_tup hc h.pg hn2 hst, h.ho, fun d x ρ ρ' σ Hs H s r hk Q q => by
    cases d <;> try (cases hk; done)
    cases r with
    | tup p1 r1 =>
      refine ⟨_, _, rfl, .inl (rd_mono s.sub p1), ?_, h.ev _ _ ρ ρ' σ Hs H s r1 hk Q q⟩
      rw [r1.length, gsR_len (show gsR ks _ ρ = some ρ' from hk), ← h.len, hn]⟩
end
end DL
set_option Elab.async false
set_option linter.all false
set_option maxRecDepth 100000
namespace DL
open PySem PySem.Spec L2
open PyProof.Rows hiding St
variable [KF]
/-! ### comprehensions -/
def wipeR (ρ : Rho) : List Nat → Rho
  | [] => ρ
  | v :: vs => (wipeR ρ vs).set v none
theorem wipe_get (σ : St) : ∀ (vs : List Nat) (j : Nat), (wipe σ vs)[j]? = if j ∈ vs then (if j < σ.length then some none else none) else σ[j]?
  | [], j => by simp [wipe]
  | v :: vs, j => by
    show ((wipe σ vs).set v none)[j]? = _
    rw [List.getElem?_set, wipe_get σ vs j, wipe_length]
    by_cases h : v = j
    · subst h
      simp
    · have h' : ¬ j = v := fun z => h z.symm
      rw [if_neg h]
      simp [h']
omit [KF] in
theorem wipeR_get (ρ : Rho) : ∀ (vs : List Nat) (j : Nat), (wipeR ρ vs)[j]? = if j ∈ vs then (if j < ρ.length then some none else none) else ρ[j]?
  | [], j => by simp [wipeR]
  | v :: vs, j => by
    have hl : ∀ vs : List Nat, (wipeR ρ vs).length = ρ.length := fun vs => by
      induction vs with
      | nil => rfl
      | cons a r ih => exact (List.length_set ..).trans ih
    show ((wipeR ρ vs).set v none)[j]? = _
    rw [List.getElem?_set, wipeR_get ρ vs j, hl]
    by_cases h : v = j
    · subst h
      simp
    · have h' : ¬ j = v := fun z => h z.symm
      rw [if_neg h]
      simp [h']
omit [KF] in
theorem wipeR_length (ρ : Rho) : ∀ vs : List Nat, (wipeR ρ vs).length = ρ.length
  | [] => rfl
  | v :: vs => (List.length_set ..).trans (wipeR_length ρ vs)
theorem wipe_same {σ σ' : St} {vs js : List Nat} (hl : σ'.length = (wipe σ vs).length) (hj : ∀ j ∈ js, j ∈ vs) (h : ∀ j, j ∉ js → σ'[j]? = (wipe σ vs)[j]?) : wipe σ' vs = wipe σ vs := by
  rw [wipe_length] at hl
  refine List.ext_getElem? fun j => ?_
  rw [wipe_get, wipe_get, hl]
  by_cases hv : j ∈ vs
  · rw [if_pos hv, if_pos hv]
  · rw [if_neg hv, if_neg hv, h j fun z => hv (hj j z), wipe_get, if_neg hv]
theorem Slots.wiped {O : List Nat} {ρ : Rho} {σ : St} {Hs H : Hp} (s : Slots O ρ σ Hs H) (vs : List Nat) : Slots O (wipeR ρ vs) (wipe σ vs) Hs H := by
  refine ⟨s.sub, by rw [wipe_length, wipeR_length]; exact s.len, fun i d h => ?_, fun i j di dj v hn h1 h2 h3 h4 h5 h6 => ?_⟩
  · rw [wipeR_get] at h
    by_cases hv : i ∈ vs
    · rw [if_pos hv] at h
      split at h <;> cases h
    · rw [if_neg hv] at h
      rw [wipe_get, if_neg hv]
      exact s.val i d h
  · rw [wipeR_get] at h3 h4
    rw [wipe_get] at h5 h6
    by_cases hi : i ∈ vs
    · rw [if_pos hi] at h3
      split at h3 <;> cases h3
    · by_cases hj : j ∈ vs
      · rw [if_pos hj] at h4
        split at h4 <;> cases h4
      · rw [if_neg hi] at h3 h5
        rw [if_neg hj] at h4 h6
        exact s.dis i j di dj v hn h1 h2 h3 h4 h5 h6
def lcF (k : FG) (t : FT) (el : F) (ρ : Rho) : List PyData → Option (List PyData)
  | [] => some []
  | d :: ds => (k d ρ).bind fun ρ1 => (t ρ1).bind fun b => if b = true then (el ρ1).bind fun x => (lcF k t el ρ ds).map (x :: ·) else lcF k t el ρ ds
def fLc (src : FA) (k : FG) (t : FT) (el : F) (vs : List Nat) : F := fun ρ => (src ρ).bind fun ds => if catC ds.length 1 = true then (lcF k t el (wipeR ρ vs) ds).map fun xs => .list xs else none
structure DTs (X : Cx) (O : List Nat) (ifs : List Expr) (tt : TT) (f : FT) : Prop where
  pt : PTs X ifs tt
  ev : ∀ (ρ : Rho) (σ : St) (Hs H : Hp) (b : Bool), Slots O ρ σ Hs H → f ρ = some b → EvT tt σ Hs H b
def tYesF : FT := fun _ => some true
theorem dts_nil {X : Cx} {O : List Nat} : DTs X O [] tYes tYesF := ⟨pts_nil, fun ρ σ Hs H b s h Q q => by
  cases h
  exact q Hs H (.refl s.sub)⟩
theorem dts_one {X : Cx} {O : List Nat} {c : Expr} {tt : TT} {f : FT} (h : DT X O c tt f) : DTs X O [c] tt f := ⟨pts_one h.pt, h.ev⟩
theorem RA.snoc {H : Hp} {vs : List V} {ds : List PyData} {v : V} {d : PyData} (r : RA H vs ds) (h : R H v d) : RA H (vs ++ [v]) (ds ++ [d]) := r.append (.cons h .nil)
/-- the reading of a comprehension -/
theorem ev_lc {wi : TI} {g : TG} {tt : TT} {te : TE} {vs js : List Nat} {k : FG} {t : FT} {el : F} {src : FA} {O : List Nat}
    (hi : ∀ (ρ : Rho) (σ : St) (Hs H : Hp) (ds : List PyData), Slots O ρ σ Hs H → src ρ = some ds → ∀ Q : It → Hp → Prop, (∀ J Hs' H', Gr Hs H Hs' H' → Gives J ds Hs' → Q J H') → wi σ H Q)
    (hg : ∀ (d : PyData) (x : V) (ρ ρ' : Rho) (σ : St) (Hs H : Hp), Slots O ρ σ Hs H → R Hs x d → k d ρ = some ρ' → ∀ Q : St → Hp → Prop, (∀ σ', Slots O ρ' σ' Hs H → σ'.length = σ.length → (∀ j, j ∉ js → σ'[j]? = σ[j]? ∧ ρ'[j]? = ρ[j]?) → Q σ' H) → g x σ H Q)
    (ht : ∀ (ρ : Rho) (σ : St) (Hs H : Hp) (b : Bool), Slots O ρ σ Hs H → t ρ = some b → EvT tt σ Hs H b)
    (he : ∀ (ρ : Rho) (σ : St) (Hs H : Hp) (d : PyData), Slots O ρ σ Hs H → el ρ = some d → Ev te σ Hs H .cl d) (hj : ∀ j ∈ js, j ∈ vs)
    {ρ : Rho} {σ : St} {Hs H : Hp} {d : PyData} (s : Slots O ρ σ Hs H) (h : fLc src k t el vs ρ = some d) : Ev (tLc wi g tt te vs) σ Hs H .ow d := fun Q q => by
  obtain ⟨ds, hds, h⟩ := bind_some h
  obtain ⟨c, h⟩ : catC ds.length 1 = true ∧ (lcF k t el (wipeR ρ vs) ds).map (fun xs => PyData.list xs) = some d := by
    by_cases c : catC ds.length 1 = true
    · rw [if_pos c] at h
      exact ⟨c, h⟩
    · rw [if_neg c] at h
      cases h
  obtain ⟨xs, hxs, rfl⟩ := Option.map_eq_some_iff.mp h
  refine hi ρ σ Hs H ds s hds _ fun J Hs1 H1 gr1 giv D hD => ?_
  have s1 := s.mono gr1
  refine ⟨fun i m K => m = ds.length - i ∧ i ≤ ds.length ∧ ∃ (Ks : Hp) (acc : List V) (done rest : List PyData), Gr Hs1 H1 Ks K ∧ Ks D = none ∧ K D = some (.lst acc) ∧ RA Ks acc done ∧ done.length ≤ i ∧
    lcF k t el (wipeR ρ vs) (ds.drop i) = some rest ∧ done ++ rest = xs, ⟨ds.length, by simp, Nat.zero_le _, Hs1, [], [], xs, Gr.own gr1.sub hD, Same.free gr1.sub hD, upd_same, .nil, Nat.le_refl _, hxs, rfl⟩, ?_⟩
  rintro i m K ⟨rfl, hle, Ks, acc, done, rest, gr2, nD, eD, ra, dl, hrest, hall⟩
  by_cases hlt : i < ds.length
  · have hdrop : ds.drop i = ds[i] :: ds.drop (i + 1) := List.drop_eq_getElem_cons hlt
    rw [hdrop] at hrest
    obtain ⟨ρ1, hk1, hrest⟩ := bind_some hrest
    obtain ⟨b, hb, hrest⟩ := bind_some hrest
    refine .inr ⟨giv.go i Ks K gr2.s gr2.sub hlt, fun K' => ∃ (Ks : Hp) (acc : List V) (done rest : List PyData), Gr Hs1 H1 Ks K' ∧ Ks D = none ∧ K' D = some (.lst acc) ∧ RA Ks acc done ∧ done.length ≤ i + 1 ∧
      lcF k t el (wipeR ρ vs) (ds.drop (i + 1)) = some rest ∧ done ++ rest = xs, fun K' hN => ⟨ds.length - (i + 1), by omega, rfl, by omega, hN⟩, fun x K' hy => ?_⟩
    obtain ⟨Ks', gr3, rx⟩ := giv.yld i Ks K x K' gr2.s gr2.sub hy ds[i] (List.getElem?_eq_getElem hlt)
    have nD3 : Ks' D = none := gr3.non D nD (by rw [eD]; simp)
    have eD3 : K' D = some (.lst acc) := gr3.h _ _ eD
    have sw : Slots O (wipeR ρ vs) (wipe σ vs) Ks' K' := ((s1.mono gr2).mono gr3).wiped vs
    refine hg _ x (wipeR ρ vs) ρ1 (wipe σ vs) Ks' K' sw rx hk1 _ fun σ2 sl2 len2 out2 => ?_
    refine ⟨wipe_same len2 hj fun j hjn => (out2 j hjn).1, ht ρ1 σ2 Ks' K' b sl2 hb _ fun Ks4 K4 gr4 => ?_⟩
    have nD4 : Ks4 D = none := gr4.non D nD3 (by rw [eD3]; simp)
    have eD4 : K4 D = some (.lst acc) := gr4.h _ _ eD3
    cases b with
    | true =>
      rw [if_pos rfl] at hrest ⊢
      obtain ⟨y, hy1, hrest⟩ := bind_some hrest
      obtain ⟨rest', hr1, rfl⟩ := Option.map_eq_some_iff.mp hrest
      refine he ρ1 σ2 Ks4 K4 y (sl2.mono gr4) hy1 _ fun v Ks5 K5 gr5 r5 => ?_
      have nD5 : Ks5 D = none := gr5.non D nD4 (by rw [eD4]; simp)
      have eD5 : K5 D = some (.lst acc) := gr5.h _ _ eD4
      have gra : Gr Hs1 H1 Ks5 K5 := ((gr2.trans gr3).trans gr4).trans gr5
      have ra5 : RA Ks5 acc done := ra.mono ((gr3.s.trans gr4.s).trans gr5.s)
      refine ⟨acc, eD5, ?_, Ks5, acc ++ [v], done ++ [y], rest', ⟨gra.s, fun a o z => ?_, fun a o z => ?_, gra.non⟩, nD5, upd_same, ra5.snoc r5, ?_, hr1, ?_⟩
      · rw [ra5.length]
        have := of_decide_eq_true (p := ds.length + 1 ≤ 100000) c
        exact Nat.lt_of_le_of_lt (show done.length ≤ 100000 by omega) (by decide)
      · rw [upd_ne (ne_of_none z hD)]
        exact gra.h a o z
      · rw [upd_ne (ne_of_none z nD5)]
        exact gra.sub a o z
      · rw [List.length_append, List.length_singleton]
        omega
      · rw [List.append_assoc]
        exact hall
    | false =>
      rw [if_neg Bool.false_ne_true] at hrest ⊢
      exact ⟨Ks4, acc, done, rest, (gr2.trans gr3).trans gr4, nD4, eD4, ra.mono (gr3.s.trans gr4.s), by omega, hrest, hall⟩
  · have ei : i = ds.length := by omega
    subst ei
    rw [List.drop_length] at hrest
    cases hrest
    rw [List.append_nil] at hall
    subst hall
    refine .inl ⟨giv.stop Ks K gr2.s gr2.sub, q _ Ks K (gr1.trans gr2) ⟨⟨D, acc, done, rfl, rfl, nD, eD, ra⟩, D, rfl, Same.free gr1.h hD⟩⟩
section
variable {X : Cx} {O : List Nat} {elt tg iter : Expr} {ifs : List Expr} {scope : Scope} {own : List (Str × Nat)} {pos : Pos} {wi : TI} {g : TG} {tt : TT} {te : TE} {k : FG} {t : FT} {el : F} {src : FA} {js : List Nat}
/-- the part of a block, in any of the contexts in which the block runs -/
structure DLc (X : Cx) (O : List Nat) (elt tg iter : Expr) (ifs : List Expr) (scope : Scope) (own : List (Str × Nat)) (wi : TI) (g : TG) (tt : TT) (te : TE) (src : FA) (k : FG) (t : FT) (el : F) (js : List Nat) : Prop where
  hi : DI X O tg iter wi src
  ok : BlkOk X.N X.env.scope scope own
  hg : ∀ (s : Shared) (H : Hp) (C : Addr) (cl : List (Str × Addr)) (fp : List Addr), DG (X.blk s H scope (compEnvC scope cl C X.env) fp) O tg g k js
  ht : ∀ (s : Shared) (H : Hp) (C : Addr) (cl : List (Str × Addr)) (fp : List Addr), DTs (X.blk s H scope (compEnvC scope cl C X.env) fp) O ifs tt t
  he : ∀ (s : Shared) (H : Hp) (C : Addr) (cl : List (Str × Addr)) (fp : List Addr), DE (X.blk s H scope (compEnvC scope cl C X.env) fp) O .cl elt te el
  hj : js.all (own.map (·.2)).contains = true
theorem lc_js (h : js.all (own.map (·.2)).contains = true) : ∀ j ∈ js, j ∈ own.map (·.2) := fun j hj => by
  have := List.all_eq_true.mp h j hj
  simpa using this
theorem de_lc (hc : X.calm = true) (hN : X.N.Nodup) (h : DLc X O elt tg iter ifs scope own wi g tt te src k t el js) (hs : ∀ x, foldedSetIterable iter X.env x = pure x := by intro _; rfl) :
    DE X O .ow (.ListComp elt [⟨tg, iter, ifs, 0⟩] scope pos) (tLc wi g tt te (own.map (·.2))) (fLc src k t el (own.map (·.2))) :=
  ⟨pe_lc hc hN h.hi.pi h.ok (fun s H C cl fp => (h.hg s H C cl fp).pg) (fun s H C cl fp => (h.ht s H C cl fp).pt) (fun s H C cl fp => (h.he s H C cl fp).pe) hs, fun ρ σ Hs H d s hf =>
    ev_lc h.hi.ev (h.hg ({} : Shared) (fun _ => none) 0 [] []).ev (h.ht ({} : Shared) (fun _ => none) 0 [] []).ev (h.he ({} : Shared) (fun _ => none) 0 [] []).ev (lc_js h.hj) s hf⟩
end
end DL
set_option Elab.async false
set_option linter.all false
set_option maxRecDepth 100000
namespace DL
open PySem PySem.Spec L2
open PyProof.Rows hiding St
variable [KF]
/-! ### statements -/
inductive Out where
  | nx (ρ : Rho) | rt (d : PyData) | bk (ρ : Rho) | ct (ρ : Rho)
abbrev FS := Rho → Option Out
structure StOK (O : List Nat) (ρ : Rho) (σ : St) (Hs0 H0 Hs H : Hp) : Prop where
  sl : Slots O ρ σ Hs H
  gr : Gr Hs0 H0 Hs H
  new : ∀ i ∈ O, ∀ d, ρ[i]? = some (some d) → ∃ a, σ[i]? = some (some (.ref a)) ∧ H0 a = none
/-- outside the places of W all is as it was -/
def Fx (W : List Nat) (σ σ' : St) (ρ ρ' : Rho) : Prop := ∀ j, j ∉ W → σ'[j]? = σ[j]? ∧ ρ'[j]? = ρ[j]?
theorem Fx.refl (W : List Nat) (σ : St) (ρ : Rho) : Fx W σ σ ρ ρ := fun _ _ => ⟨rfl, rfl⟩
theorem Fx.app {W W' : List Nat} {σ σ1 σ2 : St} {ρ ρ1 ρ2 : Rho} (a : Fx W σ σ1 ρ ρ1) (b : Fx W' σ1 σ2 ρ1 ρ2) : Fx (W ++ W') σ σ2 ρ ρ2 := fun j h =>
  have h1 := a j fun z => h (List.mem_append_left _ z)
  have h2 := b j fun z => h (List.mem_append_right _ z)
  ⟨h2.1.trans h1.1, h2.2.trans h1.2⟩
theorem Fx.mono {W W' : List Nat} {σ σ' : St} {ρ ρ' : Rho} (a : Fx W σ σ' ρ ρ') (h : ∀ j ∈ W, j ∈ W') : Fx W' σ σ' ρ ρ' := fun j hj => a j fun z => hj (h j z)
theorem Fx.set {i : Nat} {σ : St} {ρ : Rho} {x : Option V} {y : Option PyData} : Fx [i] σ (σ.set i x) ρ (ρ.set i y) := fun j h =>
  have n : i ≠ j := fun z => h (by rw [z]; exact List.mem_singleton.mpr rfl)
  ⟨List.getElem?_set_ne n, List.getElem?_set_ne n⟩
theorem Fx.setR {i : Nat} {σ : St} {ρ : Rho} {y : Option PyData} : Fx [i] σ σ ρ (ρ.set i y) := fun j h => ⟨rfl, List.getElem?_set_ne fun z => h (by rw [z]; exact List.mem_singleton.mpr rfl)⟩
def Post (m : Md) (OB O' W : List Nat) (σ0 : St) (ρ0 : Rho) (Hs0 H0 : Hp) (D : Ends) : Out → Prop
  | .nx ρ => ∀ σ Hs H, StOK O' ρ σ Hs0 H0 Hs H → Fx W σ0 σ ρ0 ρ → D.nx σ H
  | .rt d => ∀ v Hs H, Gr Hs0 H0 Hs H → Res m H0 Hs H v d → D.rt v H
  | .bk ρ => ∀ σ Hs H, StOK OB ρ σ Hs0 H0 Hs H → Fx W σ0 σ ρ0 ρ → D.bk σ H
  | .ct ρ => ∀ σ Hs H, StOK OB ρ σ Hs0 H0 Hs H → Fx W σ0 σ ρ0 ρ → D.ct σ H
def SemS (m : Md) (OB O O' W : List Nat) (ts : TS) (G : FS) : Prop := ∀ (ρ : Rho) (σ : St) (Hs0 H0 Hs H : Hp) (D : Ends) (o : Out), StOK O ρ σ Hs0 H0 Hs H → G ρ = some o → Post m OB O' W σ ρ Hs0 H0 D o → ts D σ H
structure DS (X : Cx) (m : Md) (OB O O' W : List Nat) (st : Stmt) (ts : TS) (G : FS) : Prop where
  ps : PS X st ts
  ev : SemS m OB O O' W ts G
structure DSs (X : Cx) (m : Md) (OB O O' W : List Nat) (st : List Stmt) (ts : TS) (G : FS) : Prop where
  ps : PSs X st ts
  ev : SemS m OB O O' W ts G
theorem Post.mono {m : Md} {OB O' W W' : List Nat} {σ0 : St} {ρ0 : Rho} {Hs0 H0 : Hp} {D : Ends} {o : Out} (h : ∀ j ∈ W, j ∈ W') (q : Post m OB O' W' σ0 ρ0 Hs0 H0 D o) : Post m OB O' W σ0 ρ0 Hs0 H0 D o := by
  cases o with
  | nx ρ => exact fun σ Hs H x f => q σ Hs H x (f.mono h)
  | rt d => exact q
  | bk ρ => exact fun σ Hs H x f => q σ Hs H x (f.mono h)
  | ct ρ => exact fun σ Hs H x f => q σ Hs H x (f.mono h)
def del (i : Nat) (O : List Nat) : List Nat := O.filter (· != i)
omit [KF] in
theorem del_contains {i j : Nat} {O : List Nat} : (del i O).contains j = (O.contains j && (j != i)) := by
  unfold del
  rw [Bool.eq_iff_iff]
  simp
omit [KF] in
theorem mem_del {i j : Nat} {O : List Nat} : j ∈ del i O ↔ j ∈ O ∧ j ≠ i := by
  unfold del
  simp
theorem StOK.mono {O : List Nat} {ρ : Rho} {σ : St} {Hs0 H0 Hs H Hs' H' : Hp} (x : StOK O ρ σ Hs0 H0 Hs H) (g : Gr Hs H Hs' H') : StOK O ρ σ Hs0 H0 Hs' H' := ⟨x.sl.mono g, x.gr.trans g, x.new⟩
/-- a list of one's own comes to stand -/
theorem StOK.freezeS {O : List Nat} {ρ : Rho} {σ : St} {Hs0 H0 Hs H : Hp} (i : Nat) (x : StOK O ρ σ Hs0 H0 Hs H) : ∃ Hs', StOK (del i O) ρ σ Hs0 H0 Hs' H ∧ Same Hs Hs' ∧ ∀ (a : Addr) (d : PyData), i ∈ O → ρ[i]? = some (some d) → σ[i]? = some (some (.ref a)) → Hs' a = H a := by
  by_cases hi : i ∈ O
  · cases hr : ρ[i]? with
    | none =>
      refine ⟨Hs, ⟨⟨x.sl.sub, x.sl.len, fun j d h => ?_, fun j k dj dk v hn h1 h2 => ?_⟩, x.gr, fun j hj => x.new j (mem_del.mp hj).1⟩, .refl _, fun _ _ _ z => nomatch z⟩
      · obtain ⟨v, h1, h2, h3⟩ := x.sl.val j d h
        have hji : j ≠ i := fun z => by rw [z, hr] at h; cases h
        refine ⟨v, h1, fun z => h2 ?_, fun z => h3 ?_⟩
        · rw [del_contains] at z
          exact (Bool.and_eq_true _ _ ▸ z).1
        · rw [del_contains] at z
          simpa [hji] using z
      · rw [del_contains, Bool.and_eq_true] at h1 h2
        exact x.sl.dis j k dj dk v hn h1.1 h2.1
    | some o =>
      cases o with
      | none =>
        refine ⟨Hs, ⟨⟨x.sl.sub, x.sl.len, fun j d h => ?_, fun j k dj dk v hn h1 h2 => ?_⟩, x.gr, fun j hj => x.new j (mem_del.mp hj).1⟩, .refl _, fun _ _ _ z => nomatch z⟩
        · obtain ⟨v, h1, h2, h3⟩ := x.sl.val j d h
          have hji : j ≠ i := fun z => by rw [z, hr] at h; cases h
          refine ⟨v, h1, fun z => h2 ?_, fun z => h3 ?_⟩
          · rw [del_contains] at z
            exact (Bool.and_eq_true _ _ ▸ z).1
          · rw [del_contains] at z
            simpa [hji] using z
        · rw [del_contains, Bool.and_eq_true] at h1 h2
          exact x.sl.dis j k dj dk v hn h1.1 h2.1
      | some di =>
        obtain ⟨v, hv, ho, _⟩ := x.sl.val i di hr
        obtain ⟨a, vs, ds, rfl, rfl, n1, n2, n3⟩ := ho (mem_contains hi)
        obtain ⟨a', ha', hn0⟩ := x.new i hi _ hr
        rw [hv] at ha'
        obtain rfl : a = a' := V.ref.inj (Option.some.inj (Option.some.inj ha'))
        have st : Same Hs (upd Hs a (.lst vs)) := same_new n1
        refine ⟨upd Hs a (.lst vs), ⟨⟨fun b u z => ?_, x.sl.len, fun j d h => ?_, fun j k dj dk v hn h1 h2 => ?_⟩, ⟨x.gr.s.trans st, x.gr.h, fun b u z => ?_, fun b z1 z2 => ?_⟩, fun j hj => x.new j (mem_del.mp hj).1⟩, st, fun b e _ _ z => by
          rw [hv] at z
          obtain rfl := V.ref.inj (Option.some.inj (Option.some.inj z))
          rw [upd_same, n2]⟩
        · by_cases hb : b = a
          · subst hb
            rw [upd_same] at z
            rw [n2]
            exact z
          · rw [upd_ne hb] at z
            exact x.sl.sub _ _ z
        · obtain ⟨w, h1, h2, h3⟩ := x.sl.val j d h
          refine ⟨w, h1, fun z => ?_, fun z => ?_⟩
          · rw [del_contains, Bool.and_eq_true] at z
            obtain ⟨b, ws, es, rfl, rfl, m1, m2, m3⟩ := h2 z.1
            have hji : j ≠ i := by simpa using z.2
            have hba : b ≠ a := fun e => x.sl.dis j i _ _ (.ref b) hji z.1 (mem_contains hi) h hr h1 (by rw [e]; exact hv)
            exact ⟨b, ws, es, rfl, rfl, by rw [upd_ne hba]; exact m1, m2, m3.mono st⟩
          · rw [del_contains] at z
            by_cases hji : j = i
            · subst hji
              rw [hv] at h1
              obtain rfl := Option.some.inj (Option.some.inj h1)
              rw [hr] at h
              obtain rfl := Option.some.inj (Option.some.inj h)
              exact .lst (ls_of upd_same) (n3.mono st)
            · exact (h3 (by simpa [hji] using z)).mono st
        · rw [del_contains, Bool.and_eq_true] at h1 h2
          exact x.sl.dis j k dj dk v hn h1.1 h2.1
        · by_cases hb : b = a
          · subst hb
            rw [upd_same] at z
            rw [n2]
            exact z
          · rw [upd_ne hb] at z
            exact x.sl.sub _ _ z
        · rw [upd_ne (show b ≠ a from fun e => z2 (by rw [e]; exact hn0))]
          exact x.gr.non b z1 z2
  · have e : del i O = O := by
      unfold del
      rw [List.filter_eq_self]
      intro j hj
      have : j ≠ i := fun z => hi (z ▸ hj)
      simpa using this
    exact ⟨Hs, by rw [e]; exact x, .refl _, fun _ _ z => absurd z hi⟩
theorem StOK.freeze {O : List Nat} {ρ : Rho} {σ : St} {Hs0 H0 Hs H : Hp} (i : Nat) (x : StOK O ρ σ Hs0 H0 Hs H) : ∃ Hs', StOK (del i O) ρ σ Hs0 H0 Hs' H := let ⟨Hs', h, _, _⟩ := x.freezeS i; ⟨Hs', h⟩
section
variable {X : Cx} {m : Md} {OB O O' O'' W W' : List Nat} {st : Stmt} {rest ss s1 s2 : List Stmt} {t u : TS} {G G' : FS} {e c : Expr} {te : TE} {f : F} {ft : FT} {tc : TT} {pos : Pos}
theorem DSs.frz (i : Nat) (h : DSs X m OB (del i O) O' W ss t G) : DSs X m OB O O' W ss t G := ⟨h.ps, fun ρ σ Hs0 H0 Hs H D o x hg q => by
  obtain ⟨Hs', x'⟩ := x.freeze i
  exact h.ev ρ σ Hs0 H0 Hs' H D o x' hg q⟩
theorem DSs.weak (i : Nat) (h : DSs X m OB O O' W ss t G) : DSs X m OB O (del i O') W ss t G := ⟨h.ps, fun ρ σ Hs0 H0 Hs H D o x hg q => h.ev ρ σ Hs0 H0 Hs H D o x hg (by
  cases o with
  | nx ρ' => exact fun σ' Hs' H' x' fx => let ⟨Hs2, x2⟩ := x'.freeze i; q σ' Hs2 H' x2 fx
  | rt d => exact q
  | bk ρ' => exact q
  | ct ρ' => exact q)⟩
theorem DS.frz (i : Nat) (h : DS X m OB (del i O) O' W st t G) : DS X m OB O O' W st t G := ⟨h.ps, fun ρ σ Hs0 H0 Hs H D o x hg q => by
  obtain ⟨Hs', x'⟩ := x.freeze i
  exact h.ev ρ σ Hs0 H0 Hs' H D o x' hg q⟩
def sNil : FS := fun ρ => some (.nx ρ)
def sSeq (a b : FS) : FS := fun ρ => (a ρ).bind fun o => match o with
  | .nx ρ' => b ρ'
  | .rt d => some (.rt d)
  | .bk ρ' => some (.bk ρ')
  | .ct ρ' => some (.ct ρ')
theorem dss_nil : DSs X m OB O O [] [] tNext sNil := ⟨pss_nil, fun ρ σ Hs0 H0 Hs H D o x hg q => by
  cases hg
  exact q σ Hs H x (.refl _ _ _)⟩
theorem dss_one (h : DS X m OB O O' W st t G) : DSs X m OB O O' W [st] t G := ⟨pss_one h.ps, h.ev⟩
theorem dss_cons (h : DS X m OB O O' W st t G) (hr : DSs X m OB O' O'' W' rest u G') : DSs X m OB O O'' (W ++ W') (st :: rest) (tSeq t u) (sSeq G G') := ⟨pss_cons h.ps hr.ps, fun ρ σ Hs0 H0 Hs H D o x hg q => by
  obtain ⟨o1, h1, h2⟩ := bind_some hg
  refine h.ev ρ σ Hs0 H0 Hs H { D with nx := u D } o1 x h1 ?_
  cases o1 with
  | nx ρ' =>
    refine fun σ' Hs' H' x' fx => hr.ev ρ' σ' Hs0 H0 Hs' H' D o x' h2 ?_
    cases o with
    | nx ρ2 => exact fun σ2 Hs2 H2 x2 f2 => q σ2 Hs2 H2 x2 (fx.app f2)
    | rt d => exact q
    | bk ρ2 => exact fun σ2 Hs2 H2 x2 f2 => q σ2 Hs2 H2 x2 (fx.app f2)
    | ct ρ2 => exact fun σ2 Hs2 H2 x2 f2 => q σ2 Hs2 H2 x2 (fx.app f2)
  | rt d =>
    cases h2
    exact q
  | bk ρ' =>
    cases h2
    exact fun σ2 Hs2 H2 x2 f2 => q σ2 Hs2 H2 x2 (f2.mono fun _ z => List.mem_append_left _ z)
  | ct ρ' =>
    cases h2
    exact fun σ2 Hs2 H2 x2 f2 => q σ2 Hs2 H2 x2 (f2.mono fun _ z => List.mem_append_left _ z)⟩
def sIf (c : FT) (a b : FS) : FS := fun ρ => (c ρ).bind fun k => if k = true then a ρ else b ρ
theorem ds_if (hc : DT X O c tc ft) (ha : DSs X m OB O O' W s1 t G) (hb : DSs X m OB O O' W' s2 u G') : DS X m OB O O' (W ++ W') (.If c s1 s2 pos) (tIfS tc t u) (sIf ft G G') := ⟨ps_if hc.pt ha.ps hb.ps, fun ρ σ Hs0 H0 Hs H D o x hg q => by
  obtain ⟨k, h1, h2⟩ := bind_some hg
  refine hc.ev ρ σ Hs H k x.sl h1 _ fun Hs1 H1 g1 => ?_
  cases k with
  | true => exact iteT (ha.ev ρ σ Hs0 H0 Hs1 H1 D o (x.mono g1) h2 (q.mono fun _ z => List.mem_append_left _ z))
  | false => exact iteF (hb.ev ρ σ Hs0 H0 Hs1 H1 D o (x.mono g1) h2 (q.mono fun _ z => List.mem_append_right _ z))⟩
def sRet (f : F) : FS := fun ρ => (f ρ).map .rt
theorem ds_ret (h : DE X O m e te f) : DS X m OB O O' [] (.Return (some e) pos) (tRet te) (sRet f) := ⟨ps_ret h.pe, fun ρ σ Hs0 H0 Hs H D o x hg q => by
  obtain ⟨d, h1, rfl⟩ := Option.map_eq_some_iff.mp hg
  exact h.ev ρ σ Hs H d x.sl h1 _ fun v Hs1 H1 g1 r1 => q v Hs1 H1 (x.gr.trans g1) (r1.back x.gr.h)⟩
/-- return of a name that holds a list of one's own -/
theorem ds_retOwn (i : Nat) {x : Str} {p : Pos} (ho : O.contains i = true) (h : PE X (.Name x p) (tVar i)) : DS X .ow OB O O' [] (.Return (some (.Name x p)) pos) (tRet (tVar i)) (sRet (fVar i)) := ⟨ps_ret h, fun ρ σ Hs0 H0 Hs H D o x hg q => by
  obtain ⟨d, h1, rfl⟩ := Option.map_eq_some_iff.mp hg
  unfold fVar at h1
  cases hr : ρ[i]? with
  | none => rw [hr] at h1; cases h1
  | some y =>
    rw [hr] at h1
    have h1 : y = some d := h1
    subst h1
    obtain ⟨v, k1, k2, _⟩ := x.sl.val i d hr
    obtain ⟨a, k3, k4⟩ := x.new i (by simpa using ho) d hr
    rw [k1] at k3
    exact ⟨v, k1, q v Hs H x.gr ⟨k2 ho, a, Option.some.inj (Option.some.inj k3), k4⟩⟩⟩
def sRetN : FS := fun _ => some (.rt .none)
theorem ds_retN : DS X .cl OB O O' [] (.Return none pos) tRetN sRetN := ⟨ps_retN, fun ρ σ Hs0 H0 Hs H D o x hg q => by
  cases hg
  exact q _ Hs H x.gr .non⟩
theorem ds_pass : DS X m OB O O [] (.Pass pos) tNext sNil := ⟨ps_pass, fun ρ σ Hs0 H0 Hs H D o x hg q => by
  cases hg
  exact q σ Hs H x (.refl _ _ _)⟩
def sBrk : FS := fun ρ => some (.bk ρ)
def sCnt : FS := fun ρ => some (.ct ρ)
theorem ds_break : DS X m O O O' [] (.Break pos) tBreak sBrk := ⟨ps_break, fun ρ σ Hs0 H0 Hs H D o x hg q => by
  cases hg
  exact q σ Hs H x (.refl _ _ _)⟩
theorem ds_cont : DS X m O O O' [] (.Continue pos) tCont sCnt := ⟨ps_continue, fun ρ σ Hs0 H0 Hs H D o x hg q => by
  cases hg
  exact q σ Hs H x (.refl _ _ _)⟩
/-! storing -/
theorem Slots.del {O : List Nat} {ρ : Rho} {σ : St} {Hs H : Hp} {i : Nat} {x : V} {d : PyData} (s : Slots O ρ σ Hs H) (r : R Hs x d) : Slots (del i O) (ρ.set i (some d)) (σ.set i (some x)) Hs H := by
  refine ⟨s.sub, by rw [List.length_set, List.length_set]; exact s.len, fun j e h => ?_, fun j k dj dk v hn h1 h2 h3 h4 h5 h6 => ?_⟩
  · by_cases hj : i = j
    · subst hj
      have hl : i < ρ.length := by
        have := (List.getElem?_eq_some_iff.mp h).1
        rwa [List.length_set] at this
      rw [List.getElem?_set_self hl] at h
      obtain rfl := Option.some.inj (Option.some.inj h)
      exact ⟨x, List.getElem?_set_self (by rw [s.len]; exact hl), fun z => (by rw [del_contains] at z; simp at z), fun _ => r⟩
    · rw [List.getElem?_set_ne hj] at h
      obtain ⟨v, h1, h2, h3⟩ := s.val j e h
      refine ⟨v, by rw [List.getElem?_set_ne hj]; exact h1, fun z => h2 ?_, fun z => h3 ?_⟩
      · rw [del_contains, Bool.and_eq_true] at z
        exact z.1
      · have hj' : j ≠ i := fun z => hj z.symm
        rw [del_contains] at z
        simpa [hj'] using z
  · rw [del_contains, Bool.and_eq_true] at h1 h2
    have hj : i ≠ j := fun z => by rw [z] at h1; simp at h1
    have hk : i ≠ k := fun z => by rw [z] at h2; simp at h2
    rw [List.getElem?_set_ne hj] at h3 h5
    rw [List.getElem?_set_ne hk] at h4 h6
    exact s.dis j k dj dk v hn h1.1 h2.1 h3 h4 h5 h6
theorem StOK.del {O : List Nat} {ρ : Rho} {σ : St} {Hs0 H0 Hs H : Hp} {i : Nat} {x : V} {d : PyData} (s : StOK O ρ σ Hs0 H0 Hs H) (r : R Hs x d) : StOK (DL.del i O) (ρ.set i (some d)) (σ.set i (some x)) Hs0 H0 Hs H :=
  ⟨s.sl.del r, s.gr, fun j hj e h => by
    obtain ⟨h1, h2⟩ := mem_del.mp hj
    have hn : i ≠ j := fun z => h2 z.symm
    rw [List.getElem?_set_ne hn] at h ⊢
    exact s.new j h1 e h⟩
def sAsg (i : Nat) (f : F) : FS := fun ρ => (f ρ).map fun d => .nx (ρ.set i (some d))
theorem ds_asg (i : Nat) {x : Str} {p : Pos} (h : DE X O .cl e te f) (hp : PS X (.Assign [.Name x p] e pos) (tAsg te (gName i))) : DS X m OB O (del i O) [i] (.Assign [.Name x p] e pos) (tAsg te (gName i)) (sAsg i f) := ⟨hp, fun ρ σ Hs0 H0 Hs H D o x hg q => by
  obtain ⟨d, h1, rfl⟩ := Option.map_eq_some_iff.mp hg
  exact h.ev ρ σ Hs H d x.sl h1 _ fun v Hs1 H1 g1 r1 => q _ Hs1 H1 ((x.mono g1).del r1) .set⟩
/-- a name takes a new list of one's own -/
theorem StOK.ow {O : List Nat} {ρ : Rho} {σ : St} {Hs0 H0 Hs H Hs1 H1 : Hp} {i : Nat} {v : V} {d : PyData} (x : StOK O ρ σ Hs0 H0 Hs H) (g1 : Gr Hs H Hs1 H1) (r1 : Res .ow H Hs1 H1 v d) : StOK (i :: DL.del i O) (ρ.set i (some d)) (σ.set i (some v)) Hs0 H0 Hs1 H1 := by
  obtain ⟨⟨a, vs, ds, rfl, rfl, n1, n2, n3⟩, a', ea, n4⟩ := r1
  obtain rfl := V.ref.inj ea
  have x1 := x.mono g1
  refine ⟨⟨g1.sub, by rw [List.length_set, List.length_set]; exact x1.sl.len, fun j e h => ?_, fun j k dj dk v hn h1 h2 h3 h4 h5 h6 => ?_⟩, x1.gr, fun j hj e h => ?_⟩
  · by_cases hj : i = j
    · subst hj
      have hl : i < ρ.length := by
        have := (List.getElem?_eq_some_iff.mp h).1
        rwa [List.length_set] at this
      rw [List.getElem?_set_self hl] at h
      obtain rfl := Option.some.inj (Option.some.inj h)
      exact ⟨_, List.getElem?_set_self (by rw [x1.sl.len]; exact hl), fun _ => ⟨a, vs, ds, rfl, rfl, n1, n2, n3⟩, fun z => by simp at z⟩
    · rw [List.getElem?_set_ne hj] at h
      obtain ⟨w, h1, h2, h3⟩ := x1.sl.val j e h
      have hj' : j ≠ i := fun z => hj z.symm
      refine ⟨w, by rw [List.getElem?_set_ne hj]; exact h1, fun z => h2 ?_, fun z => h3 ?_⟩
      · rw [List.contains_cons, del_contains] at z
        simpa [hj'] using z
      · rw [List.contains_cons, del_contains] at z
        simpa [hj'] using z
  · have key : ∀ j, i ≠ j → (i :: DL.del i O).contains j = true → ∀ dj, ρ[j]? = some (some dj) → σ[j]? ≠ some (some (.ref a)) := fun j hj h1 dj h3 h5 => by
      have hj' : j ≠ i := fun z => hj z.symm
      rw [List.contains_cons, del_contains] at h1
      have h1' : O.contains j = true := by simpa [hj'] using h1
      obtain ⟨w, k1, k2, _⟩ := x.sl.val j dj h3
      obtain ⟨b, ws, es, rfl, _, _, k4, _⟩ := k2 h1'
      rw [k1] at h5
      obtain rfl := V.ref.inj (Option.some.inj (Option.some.inj h5))
      rw [n4] at k4
      cases k4
    by_cases hj : i = j
    · subst hj
      have hk : i ≠ k := hn
      have hl : i < σ.length := by
        have := (List.getElem?_eq_some_iff.mp h5).1
        rwa [List.length_set] at this
      rw [List.getElem?_set_self hl] at h5
      obtain rfl := Option.some.inj (Option.some.inj h5)
      rw [List.getElem?_set_ne hk] at h4 h6
      exact key k hk h2 dk h4 h6
    · by_cases hk : i = k
      · subst hk
        have hl : i < σ.length := by
          have := (List.getElem?_eq_some_iff.mp h6).1
          rwa [List.length_set] at this
        rw [List.getElem?_set_self hl] at h6
        obtain rfl := Option.some.inj (Option.some.inj h6)
        rw [List.getElem?_set_ne hj] at h3 h5
        exact key j hj h1 dj h3 h5
      · have hj' : j ≠ i := fun z => hj z.symm
        have hk' : k ≠ i := fun z => hk z.symm
        rw [List.getElem?_set_ne hj] at h3 h5
        rw [List.getElem?_set_ne hk] at h4 h6
        rw [List.contains_cons, del_contains] at h1 h2
        exact x1.sl.dis j k dj dk v hn (by simpa [hj'] using h1) (by simpa [hk'] using h2) h3 h4 h5 h6
  · by_cases hji : i = j
    · subst hji
      have hl : i < σ.length := by
        have := (List.getElem?_eq_some_iff.mp h).1
        rw [List.length_set, ← x1.sl.len] at this
        exact this
      exact ⟨a, List.getElem?_set_self hl, Same.free x.gr.h n4⟩
    · rw [List.getElem?_set_ne hji] at h ⊢
      have hj' : j ≠ i := fun z => hji z.symm
      rcases List.mem_cons.mp hj with e1 | hj
      · exact absurd e1 hj'
      · exact x.new j (mem_del.mp hj).1 e h
theorem ds_asgOw (i : Nat) {x : Str} {p : Pos} (h : DE X O .ow e te f) (hp : PS X (.Assign [.Name x p] e pos) (tAsg te (gName i))) : DS X m OB O (i :: del i O) [i] (.Assign [.Name x p] e pos) (tAsg te (gName i)) (sAsg i f) := ⟨hp, fun ρ σ Hs0 H0 Hs H D o x hg q => by
  obtain ⟨d, h1, rfl⟩ := Option.map_eq_some_iff.mp hg
  exact h.ev ρ σ Hs H d x.sl h1 _ fun v Hs1 H1 g1 r1 => q _ Hs1 H1 (x.ow g1 r1) .set⟩
/-- targets at places that hold nothing of one's own -/
theorem StOK.tgt {O : List Nat} {ρ ρ' : Rho} {σ σ' : St} {Hs0 H0 Hs H : Hp} {js : List Nat} (x : StOK O ρ σ Hs0 H0 Hs H) (ho : ∀ j ∈ js, O.contains j = false) (s : Slots O ρ' σ' Hs H) (h : ∀ j, j ∉ js → σ'[j]? = σ[j]? ∧ ρ'[j]? = ρ[j]?) : StOK O ρ' σ' Hs0 H0 Hs H :=
  ⟨s, x.gr, fun i hi d hd => by
    have hn : i ∉ js := fun z => by
      have := ho i z
      rw [mem_contains hi] at this
      cases this
    rw [(h i hn).1]
    rw [(h i hn).2] at hd
    exact x.new i hi d hd⟩
def sAsgG (k : FG) (f : F) : FS := fun ρ => (f ρ).bind fun d => (k d ρ).map .nx
theorem ds_asgG {tg : Expr} {g : TG} {k : FG} {js : List Nat} (h : DE X O .cl e te f) (hg : DG X O tg g k js) (hs : swapsWithSole [tg] e pos.line X.env = pure false := by rfl) (hw : swappedStores [tg] e X.env = pure none := by rfl)
    (h1 : (assignEach [tg] X.env).map (·.2) = [assign tg X.env] := by rfl) : DS X m OB O O js (.Assign [tg] e pos) (tAsg te g) (sAsgG k f) := ⟨ps_asg h.pe hg.pg hs hw h1, fun ρ σ Hs0 H0 Hs H D o x hx q => by
  obtain ⟨d, h1, h2⟩ := bind_some hx
  obtain ⟨ρ', h3, rfl⟩ := Option.map_eq_some_iff.mp h2
  refine h.ev ρ σ Hs H d x.sl h1 _ fun v Hs1 H1 g1 r1 => ?_
  exact hg.ev d v ρ ρ' σ Hs1 H1 (x.sl.mono g1) r1 h3 _ fun σ' s' l' o' => q σ' Hs1 H1 ((x.mono g1).tgt hg.ho s' o') o'⟩
/-! changing a list of one's own -/
theorem StOK.upd {O : List Nat} {ρ : Rho} {σ : St} {Hs0 H0 Hs H : Hp} {i : Nat} {a : Addr} {vs : List V} {ds ds0 : List PyData} (x : StOK O ρ σ Hs0 H0 Hs H) (hi : O.contains i = true) (hs : σ[i]? = some (some (.ref a))) (hr : ρ[i]? = some (some (.list ds0))) (r : RA Hs vs ds) :
    StOK O (ρ.set i (some (.list ds))) σ Hs0 H0 Hs (upd H a (.lst vs)) := by
  obtain ⟨v, k1, k2, _⟩ := x.sl.val i _ hr
  obtain ⟨a', vs0, ds1, rfl, _, n1, n2, _⟩ := k2 hi
  rw [hs] at k1
  obtain rfl := V.ref.inj (Option.some.inj (Option.some.inj k1))
  obtain ⟨a2, k3, k4⟩ := x.new i (by simpa using hi) _ hr
  rw [hs] at k3
  obtain rfl := V.ref.inj (Option.some.inj (Option.some.inj k3))
  have sub : Same Hs (L2.upd H a (.lst vs)) := fun b u z => by
    rw [upd_ne (ne_of_none z n1)]
    exact x.sl.sub _ _ z
  refine ⟨⟨sub, by rw [List.length_set]; exact x.sl.len, fun j e h => ?_, fun j k dj dk v hn h1 h2 h3 h4 h5 h6 => ?_⟩, ⟨x.gr.s, fun b u z => ?_, sub, x.gr.non⟩, fun j hj e h => ?_⟩
  · by_cases hj : i = j
    · subst hj
      have hl : i < ρ.length := (List.getElem?_eq_some_iff.mp hr).1
      rw [List.getElem?_set_self hl] at h
      obtain rfl := Option.some.inj (Option.some.inj h)
      exact ⟨_, hs, fun _ => ⟨a, vs, ds, rfl, rfl, n1, upd_same, r⟩, fun z => by rw [hi] at z; cases z⟩
    · rw [List.getElem?_set_ne hj] at h
      obtain ⟨w, h1, h2, h3⟩ := x.sl.val j e h
      refine ⟨w, h1, fun z => ?_, h3⟩
      obtain ⟨b, ws, es, rfl, rfl, m1, m2, m3⟩ := h2 z
      have hba : b ≠ a := fun e => x.sl.dis i j _ _ (.ref a) hj hi z hr h hs (by rw [← e]; exact h1)
      exact ⟨b, ws, es, rfl, rfl, m1, by rw [upd_ne hba]; exact m2, m3⟩
  · have pick : ∀ j dj, (ρ.set i (some (PyData.list ds)))[j]? = some (some dj) → ∃ d', ρ[j]? = some (some d') := fun j dj h => by
      by_cases hj : i = j
      · subst hj
        exact ⟨_, hr⟩
      · rw [List.getElem?_set_ne hj] at h
        exact ⟨_, h⟩
    obtain ⟨dj', h3'⟩ := pick j dj h3
    obtain ⟨dk', h4'⟩ := pick k dk h4
    exact x.sl.dis j k dj' dk' v hn h1 h2 h3' h4' h5 h6
  · rw [upd_ne (ne_of_none z k4)]
    exact x.gr.h _ _ z
  · by_cases hji : i = j
    · subst hji
      exact ⟨a, hs, k4⟩
    · rw [List.getElem?_set_ne hji] at h
      exact x.new j hj e h
def sApp (i : Nat) (f : F) : FS := fun ρ => (f ρ).bind fun x => match ρ[i]? with
  | some (some (.list ds)) => if catC ds.length 1 = true then some (.nx (ρ.set i (some (.list (ds ++ [x]))))) else none
  | _ => none
theorem StOK.own_at {O : List Nat} {ρ : Rho} {σ : St} {Hs0 H0 Hs H : Hp} {i : Nat} {d : PyData} (x : StOK O ρ σ Hs0 H0 Hs H) (hi : O.contains i = true) (hr : ρ[i]? = some (some d)) : ∃ a vs ds, d = .list ds ∧ σ[i]? = some (some (.ref a)) ∧ Hs a = none ∧ H a = some (.lst vs) ∧ RA Hs vs ds := by
  obtain ⟨v, k1, k2, _⟩ := x.sl.val i _ hr
  obtain ⟨a, vs, ds, rfl, rfl, n1, n2, n3⟩ := k2 hi
  exact ⟨a, vs, ds, rfl, k1, n1, n2, n3⟩
/-- x.append(e), x a list of one's own -/
theorem ds_append (i : Nat) {x : Str} {p p2 p3 : Pos} (ho : O.contains i = true) (h : DE X O .cl e te f) (hv : PE X (.Name x p) (tVar i))
    (hp : PS X (.Expr (.Call (.Attribute (.Name x p) "append" p2) [e] [] p3) pos) (tDrop (tBM X.K "list" rAppend (tVar i) (tCons te tNil)))) :
    DS X m OB O O [i] (.Expr (.Call (.Attribute (.Name x p) "append" p2) [e] [] p3) pos) (tDrop (tBM X.K "list" rAppend (tVar i) (tCons te tNil))) (sApp i f) := ⟨hp, fun ρ σ Hs0 H0 Hs H D o x hg q => by
  obtain ⟨y, h1, h2⟩ := bind_some hg
  cases hr : ρ[i]? with
  | none => rw [hr] at h2; cases h2
  | some w =>
    rw [hr] at h2
    cases w with
    | none => cases h2
    | some d =>
      cases d <;> try (cases h2; done)
      rename_i ds
      obtain ⟨c, rfl⟩ := if_some (show (if catC ds.length 1 = true then some (Out.nx (ρ.set i (some (.list (ds ++ [y]))))) else none) = some o from h2)
      obtain ⟨a, vs, ds', e1, k1, n1, n2, n3⟩ := x.own_at ho hr
      cases e1
      refine ⟨.ref a, k1, .inl ⟨rfl, _, .inl (.inl n2)⟩, ?_⟩
      refine h.ev ρ σ Hs H y x.sl h1 _ fun v Hs1 H1 g1 r1 => ?_
      refine ⟨a, vs, v, rfl, rfl, g1.h _ _ n2, ?_, ?_⟩
      · rw [n3.length]
        have := of_decide_eq_true (p := ds.length + 1 ≤ 100000) c
        exact Nat.lt_of_lt_of_le (show ds.length < 100000 by omega) (by decide)
      · exact q σ Hs1 _ ((x.mono g1).upd ho k1 hr ((n3.mono g1.s).snoc r1)) .setR⟩
def sSetI (i : Nat) (fi fe : F) : FS := fun ρ => (fe ρ).bind fun x => (fi ρ).bind fun j => match ρ[i]?, j with
  | some (some (.list ds)), .int k => (ixN ds.length k).map fun n => .nx (ρ.set i (some (.list (ds.set n x))))
  | _, _ => none
/-- x[j] = e, x a list of one's own -/
theorem ds_setI (i : Nat) {x : Str} {p p2 : Pos} {j : Expr} {tj : TE} {fj : F} (ho : O.contains i = true) (h : DE X O .cl e te f) (hj : DE X O .rd j tj fj)
    (hp : PS X (.Assign [.Subscript (.Name x p) j p2] e pos) (tAsg te (gSub (tVar i) tj rSetL))) :
    DS X m OB O O [i] (.Assign [.Subscript (.Name x p) j p2] e pos) (tAsg te (gSub (tVar i) tj rSetL)) (sSetI i fj f) := ⟨hp, fun ρ σ Hs0 H0 Hs H D o x hg q => by
  obtain ⟨y, h1, h2⟩ := bind_some hg
  obtain ⟨z, h3, h2⟩ := bind_some h2
  cases hr : ρ[i]? with
  | none => rw [hr] at h2; cases z <;> cases h2
  | some w =>
    rw [hr] at h2
    cases w with
    | none => cases z <;> cases h2
    | some d =>
      cases d <;> cases z <;> try (cases h2; done)
      rename_i ds k
      obtain ⟨n, hn, rfl⟩ := Option.map_eq_some_iff.mp (show (ixN ds.length k).map (fun n => Out.nx (ρ.set i (some (.list (ds.set n y))))) = some o from h2)
      refine h.ev ρ σ Hs H y x.sl h1 _ fun v Hs1 H1 g1 r1 => ?_
      have x1 := x.mono g1
      obtain ⟨a, vs, ds', e1, k1, n1, n2, n3⟩ := x1.own_at ho hr
      cases e1
      refine ⟨.ref a, k1, hj.ev ρ σ Hs1 H1 _ x1.sl h3 _ fun u Hs2 H2 g2 r2 => ?_⟩
      refine ⟨a, vs, k, n, rfl, rd_int r2, g2.h _ _ n2, by rw [n3.length]; exact hn, ?_⟩
      exact q σ Hs2 _ ((x1.mono g2).upd ho k1 hr ((n3.mono g2.s).set (r1.mono g2.s) n)) .setR⟩
/-! loops -/
def loopF (k : FG) (B : FS) : List PyData → FS
  | [], ρ => some (.nx ρ)
  | d :: ds, ρ => (k d ρ).bind fun ρ1 => (B ρ1).bind fun o => match o with
    | .nx ρ2 => loopF k B ds ρ2
    | .ct ρ2 => loopF k B ds ρ2
    | .bk ρ2 => some (.nx ρ2)
    | .rt v => some (.rt v)
def sFor (src : FA) (k : FG) (B : FS) : FS := fun ρ => (src ρ).bind fun ds => loopF k B ds ρ
/-- the entry of a loop's body: what stood ahead of the loop, Hs1, stands -/
def joinH (H0 Hs1 : Hp) : Hp := fun a => match H0 a with
  | some o => some o
  | none => Hs1 a
theorem joinH_none {H0 Hs1 : Hp} {a : Addr} (h : joinH H0 Hs1 a = none) : H0 a = none ∧ Hs1 a = none := by
  unfold joinH at h
  cases q : H0 a with
  | none =>
    rw [q] at h
    exact ⟨rfl, h⟩
  | some o =>
    rw [q] at h
    cases h
theorem joinH_of {H0 Hs1 : Hp} {a : Addr} (h1 : H0 a = none) (h2 : Hs1 a = none) : joinH H0 Hs1 a = none := by
  unfold joinH
  rw [h1]
  exact h2
theorem joinH_l {H0 Hs1 : Hp} : Same H0 (joinH H0 Hs1) := fun a o h => by
  unfold joinH
  rw [h]
theorem gr_join {Hs0 H0 Hs1 H1 : Hp} (g : Gr Hs0 H0 Hs1 H1) : Gr Hs0 H0 Hs1 (joinH H0 Hs1) := ⟨g.s, joinH_l, fun a o h => by
  unfold joinH
  cases q : H0 a with
  | none => exact h
  | some o' =>
    have e1 := g.h a o' q
    have e2 := g.sub a o h
    rw [e1] at e2
    exact e2, g.non⟩
theorem StOK.rebase {O : List Nat} {ρ : Rho} {σ : St} {Hs0 H0 Hs1 H1 Ks K : Hp} (x : StOK O ρ σ Hs0 H0 Ks K) (g : Gr Hs0 H0 Hs1 H1) (e : Same Hs1 Ks) : StOK O ρ σ Hs1 (joinH H0 Hs1) Ks K :=
  ⟨x.sl, ⟨e, fun a o h => by
    unfold joinH at h
    cases q : H0 a with
    | none =>
      rw [q] at h
      exact x.sl.sub _ _ (e _ _ h)
    | some o' =>
      rw [q] at h
      cases h
      exact x.gr.h _ _ q, x.sl.sub, fun a h1 h2 => by
    refine x.gr.non a (Same.free g.s h1) fun z => h2 (joinH_of z h1)⟩, fun i hi d hd => by
    obtain ⟨a, ka, kb⟩ := x.new i hi d hd
    obtain ⟨w, k1, k2, _⟩ := x.sl.val i d hd
    obtain ⟨b, _, _, rfl, _, m1, _⟩ := k2 (by simpa using hi)
    rw [ka] at k1
    obtain rfl := V.ref.inj (Option.some.inj (Option.some.inj k1))
    exact ⟨a, ka, joinH_of kb (Same.free e m1)⟩⟩
theorem StOK.unbase {O : List Nat} {ρ : Rho} {σ : St} {Hs0 H0 Hs1 H1 Ks K : Hp} (g : Gr Hs0 H0 Hs1 H1) (x : StOK O ρ σ Hs1 (joinH H0 Hs1) Ks K) : StOK O ρ σ Hs0 H0 Ks K :=
  ⟨x.sl, (gr_join g).trans x.gr, fun i hi d hd => by
    obtain ⟨a, ka, kb⟩ := x.new i hi d hd
    exact ⟨a, ka, (joinH_none kb).1⟩⟩
theorem ds_for {tg iter : Expr} {body : List Stmt} {wi : TI} {g : TG} {tb : TS} {src : FA} {k : FG} {B : FS} {js : List Nat} (hp : PassesOwn (model X.prog X.w) X.A X.env X.xe) (hc : X.calm = true) (hi : DI X O tg iter wi src) (hg : DG X O tg g k js) (hb : DSs X m O O O W body tb B)
    (hs : ∀ x, foldedSetIterable iter X.env x = pure x := by intro _; rfl) : DS X m OB O O (js ++ W) (.For tg iter body [] pos) (tFor wi g tb) (sFor src k B) := ⟨ps_for hp hc hi.pi hg.pg hb.ps hs, fun ρ σ Hs0 H0 Hs H D o x hx q => by
  obtain ⟨ds, hds, hl⟩ := bind_some hx
  refine hi.ev ρ σ Hs H ds x.sl hds _ fun J Hs1 H1 g1 giv => ?_
  refine ⟨fun i n σ' K => n = ds.length - i ∧ i ≤ ds.length ∧ ∃ (Ks : Hp) (ρ' : Rho), StOK O ρ' σ' Hs0 H0 Ks K ∧ Same Hs1 Ks ∧ Fx (js ++ W) σ σ' ρ ρ' ∧ loopF k B (ds.drop i) ρ' = some o, ⟨ds.length, by simp, Nat.zero_le _, Hs1, ρ, x.mono g1, .refl _, .refl _ _ _, hl⟩, ?_⟩
  rintro i n σ' K ⟨rfl, hle, Ks, ρ', x', e1, fx, hl'⟩
  by_cases hlt : i < ds.length
  · have hdrop : ds.drop i = ds[i] :: ds.drop (i + 1) := List.drop_eq_getElem_cons hlt
    rw [hdrop] at hl'
    obtain ⟨ρ1, hk, hl'⟩ := bind_some hl'
    obtain ⟨o1, hB, hl'⟩ := bind_some hl'
    refine .inr ⟨giv.go i Ks K e1 x'.sl.sub hlt, fun σ2 K2 => ∃ (Ks : Hp) (ρ' : Rho), StOK O ρ' σ2 Hs0 H0 Ks K2 ∧ Same Hs1 Ks ∧ Fx (js ++ W) σ σ2 ρ ρ' ∧ loopF k B (ds.drop (i + 1)) ρ' = some o, fun σ2 K2 hN => ⟨ds.length - (i + 1), by omega, rfl, by omega, hN⟩, fun v K' hy => ?_⟩
    obtain ⟨Ks', g2, rx⟩ := giv.yld i Ks K v K' e1 x'.sl.sub hy ds[i] (List.getElem?_eq_getElem hlt)
    refine hg.ev _ v ρ' ρ1 σ' Ks' K' (x'.sl.mono g2) rx hk _ fun σ2 s2 l2 out2 => ?_
    have x2 := (x'.mono g2).tgt hg.ho s2 out2
    have gb : Gr Hs0 H0 Hs1 H1 := x.gr.trans g1
    have e2 : Same Hs1 Ks' := e1.trans g2.s
    have f2 : Fx js σ' σ2 ρ' ρ1 := out2
    have f3 : ∀ {σ3 : St} {ρ3 : Rho}, Fx W σ2 σ3 ρ1 ρ3 → Fx (js ++ W) σ σ3 ρ ρ3 := fun f => (fx.app (f2.app f)).mono fun j z => by
      rcases List.mem_append.mp z with z | z <;> exact z
    refine hb.ev ρ1 σ2 Hs1 (joinH H0 Hs1) Ks' K' _ o1 (x2.rebase gb e2) hB ?_
    have next : ∀ ρ2, loopF k B (ds.drop (i + 1)) ρ2 = some o → ∀ σ3 Hs H, StOK O ρ2 σ3 Hs1 (joinH H0 Hs1) Hs H → Fx W σ2 σ3 ρ1 ρ2 → ∃ (Ks : Hp) (ρ' : Rho), StOK O ρ' σ3 Hs0 H0 Ks H ∧ Same Hs1 Ks ∧ Fx (js ++ W) σ σ3 ρ ρ' ∧ loopF k B (ds.drop (i + 1)) ρ' = some o :=
      fun ρ2 h σ3 Hs H y f => ⟨Hs, ρ2, StOK.unbase gb y, y.gr.s, f3 f, h⟩
    cases o1 with
    | nx ρ2 => exact next ρ2 hl'
    | ct ρ2 => exact next ρ2 hl'
    | bk ρ2 =>
      cases hl'
      exact fun σ3 Hs H y f => q σ3 Hs H (StOK.unbase gb y) (f3 f)
    | rt d =>
      cases hl'
      exact fun v Hs H gr r => q v Hs H ((gr_join gb).trans gr) (r.back joinH_l)
  · have ei : i = ds.length := by omega
    subst ei
    rw [List.drop_length] at hl'
    cases hl'
    exact .inl ⟨giv.stop Ks K e1 x'.sl.sub, q σ' Ks K x' fx⟩⟩
end
end DL
set_option Elab.async false
set_option linter.all false
set_option maxRecDepth 100000
namespace DL
open PySem PySem.Spec L2
open PyProof.Rows hiding St
variable [KF]
/-! ### room, with no text being made and frames to spare -/
structure GA (k : Nat) (A : Around) : Prop where
  rm : Room k A
  gd : A.guards = some []
  dp : A.depth + 3 * k + 205 < recursionLimit
theorem GA.mono {j k : Nat} {A : Around} (r : GA k A) (h : j ≤ k) : GA j A := ⟨r.rm.mono h, r.gd, by have := r.dp; omega⟩
theorem GA.deeper {k : Nat} {A : Around} (r : GA (k + 1) A) (env : Env) : GA k (A.deeper env) := ⟨r.rm.deeper env, r.gd, by
  have h := r.dp
  show A.depth + 1 + 3 * k + 205 < recursionLimit
  omega⟩
theorem GA.u64 {k : Nat} {A : Around} (r : GA k A) : A.units + 64 < cLine := r.rm.units
/-- a def's promise where no text is being made -/
structure FnG (P : Program) (w : World) (K : PySem.W.Frag) (mg : Str → Option Value) (base : Heap) (CX : CXT) (k : Nat) (f : Addr) (fd : FuncData) (ps : List Str) (sp : Sp) : Prop where
  len : ∀ vs H Q E, sp vs H Q E → vs.length = ps.length
  run : ∀ (A : Around) (outer : List Env) (s : Shared) (H : Hp) (args : Args) (us : List Value) (vs : List V) (Q : VK) (E : XK), GA k A → Env0 P w K mg base A outer s H → BindsTo s fd args (ps.zip us) →
    Vals vs us → sp vs H Q E → codeAny (model P w) A (.call (.ref f) args) (CR CX outer P w H s Q E) s
theorem FnG.mono {P : Program} {w : World} {K : PySem.W.Frag} {mg : Str → Option Value} {base : Heap} {CX : CXT} {j k : Nat} {f : Addr} {fd : FuncData} {ps : List Str} {sp : Sp} (F : FnG P w K mg base CX j f fd ps sp) (h : j ≤ k) : FnG P w K mg base CX k f fd ps sp :=
  ⟨F.len, fun A outer s H args us vs Q E hr => F.run A outer s H args us vs Q E (hr.mono h)⟩
theorem FnG.imp {P : Program} {w : World} {K : PySem.W.Frag} {mg : Str → Option Value} {base : Heap} {CX : CXT} {k : Nat} {f : Addr} {fd : FuncData} {ps : List Str} {sp sp' : Sp} (F : FnG P w K mg base CX k f fd ps sp) (h : ∀ vs H Q E, sp' vs H Q E → sp vs H Q E) :
    FnG P w K mg base CX k f fd ps sp' := ⟨fun vs H Q E q => F.len vs H Q E (h _ _ _ _ q), fun A outer s H args us vs Q E hr he hb hv hs => F.run A outer s H args us vs Q E hr he hb hv (h _ _ _ _ hs)⟩
/-- the rule for a def -/
theorem fnG_of {P : Program} {w : World} {K : PySem.W.Frag} {mg : Str → Option Value} {base : Heap} {CX : CXT} {x qual : Str} {st : Stmt} {f : Addr} {fd : FuncData} {N ps : List Str} {k : Nat} {sp : Sp} (F : Fun K x qual st f fd) (S : FnScope N ps (defScope st))
    (len : ∀ vs H Q E, sp vs H Q E → vs.length = ps.length)
    (body : ∀ (cdv : Value) (A : Around) (outer : List Env) (s : Shared) (H : Hp) (vs : List V) (Q : VK) (E : XK), GA k (A.deeper (envOfC qual (defScope st) s.heap.objs.size f cdv)) → sp vs H Q E →
      ∃ t, PSs (cxOf CX P w K mg base N qual (defScope st) f cdv A outer s H E) (defBody st) t ∧ t { nx := fun _ H' => Q .non H', rt := Q } (start N vs) H) : FnG P w K mg base CX (k + 1) f fd ps sp := by
  obtain ⟨oc, od, kV, doc, pm, an, cdv, ct, osl, rfl, lk, hcd⟩ := F.ex
  refine ⟨len, fun A outer s H args us vs Q E ga env0 bind rel want => ?_⟩
  have keep := fun b o e => (env0.bs b o e).1
  have KX : K.In s.heap := env0.mod.kin.keeps keep
  refine codeAny_call_function ga.rm.depth (KX _ _ lk) rfl S.co S.gen rfl (PySem.W.codeRec_of KX hcd) (bind _ _ _ _ ?_)
  refine wpAny_newFunctionEnv_cells S.kind (fun ⟨n, v⟩ hy => ?_) fun env he s1 entered => ?_
  · exact (S.par n (List.of_mem_zip hy).1).elim .inl fun q => .inr ⟨q, PySem.W.cellsFrom_some _ _ _ (.inl q)⟩
  subst he
  refine ⟨(env0.mod.nolimit.keeps keep).keeps entered.toInCall.keep, codeAny_func ?_⟩
  obtain ⟨t, derived, reading⟩ := body cdv A outer s H vs Q E (ga.deeper _) want
  have inv := inv_start (CX := CX) (E := E) S ga.rm.hd env0 (len _ _ _ _ want) rel entered
  refine wpAny_mono (derived.run [] s1 (start N vs) H _ inv reading) (fun fl s' out => ?_) fun _ _ out => out
  match fl, out with
  | .ret u, ⟨v, σ', H', J, rv, q⟩ => exact ⟨v, H', J.os, J.bare, J.base, J.hok, rv, q⟩
  | .next, ⟨σ', H', J, q⟩ => exact ⟨V.non, H', J.os, J.bare, J.base, J.hok, rfl, q⟩
  | .brk, ⟨_, _, _, q⟩ => exact False.elim q
  | .cont, ⟨_, _, _, q⟩ => exact False.elim q
section
variable {X : Cx} {CX : CXT} {k : Nat} {f : Addr} {fd : FuncData} {ps : List Str} {sp : Sp} {E : XK} {x : Str} {p pos : Pos} {e : Expr} {es : List Expr} {t : TA}
theorem runG {pins : List (Addr × Obj)} {σ : St} {H : Hp} {s : Shared} {Q : VK} {us : List Value} {vs : List V} (F : FnG X.prog X.w X.K X.mg X.base CX k f fd ps sp) (ga : GA k X.A) (hb : Binds X.K fd ps []) (hx : Passes CX X E) (inv : Inv X pins σ H s) (rel : Vals vs us)
    (want : sp vs H Q E) : wpAny (model X.prog X.w) X.A (call (.ref f) us) (EP X pins σ Q) X.xe s := by
  have hl : us.length = ps.length := rel.length.symm.trans (F.len _ _ _ _ want)
  have bind := hb s us inv.kIn (by rw [List.append_nil]; exact hl)
  rw [List.append_nil] at bind
  refine wpAny_call (codeAny_mono (F.run X.A X.stack s H ⟨us, []⟩ us vs Q E ga inv.env0 bind rel want) fun r s' out => ?_)
  match r, out with
  | .error e, out => exact hx pins σ H s e s' inv out
  | .ok (.ret u), out => exact inv.after out
  | .ok .next, out => exact False.elim out
  | .ok .brk, out => exact False.elim out
  | .ok .cont, out => exact False.elim out
theorem pe_callG (F : FnG X.prog X.w X.K X.mg X.base CX k f fd ps sp) (ga : GA k X.A) (hg : Gl X x) (hm : X.mg x = some (.ref f)) (hk : PySem.W.keepIn X.K (.ref f) = true) (hb : Binds X.K fd ps []) (hx : Passes CX X E) (ha : PA X (e :: es) t)
    (hdb : (x == ("__debug__" : Str)) = false := by decide) (he : starEach (e :: es) X.env = (false, eval e X.env) :: starEach es X.env := by rfl) (hpl : (backTo pos (starEach es X.env)).any (·.1) = false := by rfl) : PE X (.Call (.Name x p) (e :: es) [] pos) (tCall sp [] E t) :=
  ⟨fun pins s σ H Q inv h => wpAny_Call_Name_kw (ld_glob inv hg hm (PySem.W.callWith_K (h₀ := X.base) inv.ok.mod.kin hk (thn (ha.run pos pins s σ H _ inv h) fun us s1 ⟨vs, H1, inv1, rel, want⟩ =>
    ⟨inv1.kIn, runG F ga hb hx inv1 rel (by have w2 : sp (vs ++ []) H1 Q E := want; rw [List.append_nil] at w2; exact w2)⟩) he hpl) hdb)⟩
end
/-! ### defs over data -/
def runF (nl : Nat) (B : FS) (ds : List PyData) : Option PyData := (B (ds.map some ++ List.replicate (nl - ds.length) none)).bind fun o => match o with
  | .rt d => some d
  | .nx _ => some .none
  | _ => none
/-- the promise: a function on data; n: how many arguments -/
def spF (n : Nat) (m : Md) (Fn : List PyData → Option PyData) : Sp := fun vs H Q _ => ∃ (ds : List PyData) (d : PyData) (Hs : Hp), ds.length = n ∧ Same Hs H ∧ RA Hs vs ds ∧ Fn ds = some d ∧ ∀ v Hs' H', Gr Hs H Hs' H' → Res m H Hs' H' v d → Q v H'
theorem spF_len {n : Nat} {m : Md} {Fn : List PyData → Option PyData} : ∀ vs H Q E, spF n m Fn vs H Q E → vs.length = n := fun vs H Q E h => by
  obtain ⟨ds, d, Hs, h1, _, h2, _⟩ := h
  rw [h2.length, h1]
theorem start_slots {N : List Str} {vs : List V} {ds : List PyData} {Hs H : Hp} (e : Same Hs H) (r : RA Hs vs ds) : StOK [] (ds.map some ++ List.replicate (N.length - ds.length) none) (start N vs) Hs H Hs H := by
  refine ⟨⟨e, ?_, fun i d h => ?_, fun i j di dj v hn h1 => ?_⟩, .refl e, fun i hi => (nomatch hi)⟩
  · unfold L2.start
    rw [List.length_append, List.length_append, List.length_map, List.length_map, List.length_replicate, List.length_replicate, r.length]
  · by_cases hi : i < ds.length
    · rw [List.getElem?_append_left (by rw [List.length_map]; exact hi), List.getElem?_map] at h
      obtain ⟨d', hd, e1⟩ := Option.map_eq_some_iff.mp h
      cases e1
      obtain ⟨v, h1, h2⟩ := r.get hd
      refine ⟨v, ?_, fun z => (nomatch z), fun _ => h2⟩
      unfold L2.start
      rw [List.getElem?_append_left (by rw [List.length_map, r.length]; exact hi), List.getElem?_map, h1] <;> rfl
    · rw [List.getElem?_append_right (by rw [List.length_map]; omega), List.length_map] at h
      have := List.mem_of_getElem? h
      have := (List.mem_replicate.mp this).2
      cases this
  · exact (nomatch h1)
/-- a def, by its body's reading -/
theorem def_of {P : Program} {w : World} {K : PySem.W.Frag} {mg : Str → Option Value} {base : Heap} {CX : CXT} {x qual : Str} {st : Stmt} {f : Addr} {fd : FuncData} {N ps : List Str} {k : Nat} {m : Md} {B : FS} {O' W : List Nat} {n : Nat} (F : Fun K x qual st f fd) (S : FnScope N ps (defScope st)) (hn : ps.length = n)
    (none_ok : m = .cl ∨ ∀ ρ ρ', B ρ ≠ some (.nx ρ'))
    (body : ∀ (cdv : Value) (A : Around) (outer : List Env) (s : Shared) (H : Hp) (E : XK), GA k (A.deeper (envOfC qual (defScope st) s.heap.objs.size f cdv)) →
      ∃ t, DSs (cxOf CX P w K mg base N qual (defScope st) f cdv A outer s H E) m [] [] O' W (defBody st) t B) : FnG P w K mg base CX (k + 1) f fd ps (spF n m (runF N.length B)) := by
  subst hn
  refine fnG_of F S spF_len fun cdv A outer s H vs Q E ga want => ?_
  obtain ⟨t, h⟩ := body cdv A outer s H E ga
  obtain ⟨ds, d, Hs, hl, e, r, hf, q⟩ := want
  refine ⟨t, h.ps, ?_⟩
  obtain ⟨o, ho, hd⟩ := bind_some hf
  refine h.ev _ _ Hs H Hs H _ o (start_slots e r) ho ?_
  cases o with
  | nx ρ' =>
    cases hd
    rcases none_ok with rfl | hno
    · exact fun σ' Hs' H' x _ => q _ Hs' H' x.gr .non
    · exact absurd ho (hno _ _)
  | rt d' =>
    cases hd
    exact fun v Hs' H' g r' => q v Hs' H' g r'
  | bk _ => cases hd
  | ct _ => cases hd
/-- a call of a def over data -/
theorem de_call {X : Cx} {O : List Nat} {CX : CXT} {k n : Nat} {f : Addr} {fd : FuncData} {ps : List Str} {m : Md} {Fn : List PyData → Option PyData} {E : XK} {x : Str} {p pos : Pos} {e : Expr} {es : List Expr} {t : TA} {fs : FA} (F : FnG X.prog X.w X.K X.mg X.base CX k f fd ps (spF n m Fn)) (ga : GA k X.A)
    (hm : X.mg x = some (.ref f)) (hk : PySem.W.keepIn X.K (.ref f) = true) (hb : Binds X.K fd ps []) (hx : Passes CX X E) (ha : DAc X O (e :: es) t fs) (hlen : (e :: es).length = n := by rfl) (hfs : ∀ ρ ds, fs ρ = some ds → ds.length = (e :: es).length) (hg : Gl X x := by rfl)
    (hdb : (x == ("__debug__" : Str)) = false := by decide) (he : starEach (e :: es) X.env = (false, eval e X.env) :: starEach es X.env := by rfl) (hpl : (backTo pos (starEach es X.env)).any (·.1) = false := by rfl) : DE X O m (.Call (.Name x p) (e :: es) [] pos) (tCall (spF n m Fn) [] E t) (fFn Fn fs) :=
  ⟨pe_callG F ga hg hm hk hb hx ha.pa hdb he hpl, fun ρ σ Hs H d s h Q q => by
    obtain ⟨xs, hxs, h⟩ := bind_some h
    refine ha.ev ρ σ Hs H xs s hxs _ fun vs Hs1 H1 g1 r1 => ?_
    refine ⟨xs, d, Hs1, (hfs ρ xs hxs).trans hlen, g1.sub, ?_, h, fun v Hs2 H2 g2 r2 => q v Hs2 H2 (g1.trans g2) (r2.back g1.h)⟩
    rw [List.append_nil]
    exact r1⟩
theorem fsA_nil : ∀ ρ ds, fNilA ρ = some ds → ds.length = ([] : List Expr).length := fun ρ ds h => by
  cases h
  rfl
theorem fsA_cons {e : Expr} {es : List Expr} {f : F} {fs : FA} (h : ∀ ρ ds, fs ρ = some ds → ds.length = es.length) : ∀ ρ ds, fConsA f fs ρ = some ds → ds.length = (e :: es).length := fun ρ ds hq => by
  obtain ⟨x, _, hq⟩ := bind_some hq
  obtain ⟨xs, h2, hq⟩ := bind_some hq
  cases hq
  rw [List.length_cons, List.length_cons, h ρ xs h2]
/-! ### texts of data -/
section
variable {X : Cx} {O : List Nat} {e : Expr} {te : TE} {f : F} {pos p : Pos}
def rRepr : List V → Hp → VK → Prop := fun xs H Q => ∃ (a : Addr) (d : PyData), xs = [.ref a] ∧ R H (.ref a) d ∧ d.showable = true ∧ d.hasDict = false ∧ d.depth ≤ 60 ∧ d.shown.length ≤ sizeLine ∧ Q (.str d.shown) H
theorem call_repr (hK : X.K = KF.K) (hg : X.A.guards = some []) (hu : X.A.units + 64 < cLine) : CallR X (.builtin "repr") rRepr := by
  intro pins s σ H xs us Q I r h
  obtain ⟨a, d, rfl, rd, h1, h2, h3, h4, q⟩ := h
  rw [Vals.ref1 r]
  obtain ⟨as, reads⟩ := Dp.reads I d (.ref a) (.ref a) (by rw [hK]; exact R.dp rd) rfl
  refine repr_of_reads' reads h1 (fun z => by rw [h2] at z; cases z) hg (by omega) (fun _ _ e => e) (fun h' u tk hk => ?_) h4
  exact ⟨.str d.shown, H, I.kept hk, ⟨_, rfl⟩, q⟩
def reprC (d : PyData) : Bool := d.showable && !d.hasDict && decide (d.depth ≤ 60) && decide (d.shown.length ≤ 16000000)
def dRepr : PyData → Option PyData := fun d => match d with
  | .list xs => if reprC (.list xs) = true then some (.str (PyData.list xs).shown) else none
  | .tuple xs => if reprC (.tuple xs) = true then some (.str (PyData.tuple xs).shown) else none
  | _ => none
theorem reprC_of {d : PyData} (h : reprC d = true) : d.showable = true ∧ d.hasDict = false ∧ d.depth ≤ 60 ∧ d.shown.length ≤ sizeLine := by
  unfold reprC at h
  simp only [Bool.and_eq_true, Bool.not_eq_true', decide_eq_true_eq] at h
  exact ⟨h.1.1.1, h.1.1.2, h.1.2, Nat.le_trans h.2 (by decide)⟩
theorem cd_repr : CallD rRepr .cl (g1 dRepr) := by
  intro Hs H vs xs z e hv hz Q q
  obtain ⟨x, rfl, hz⟩ := g1_some hz
  obtain ⟨v, rfl, hr⟩ := rdA1 hv
  have hR := rd_R e hr
  cases x <;> try (cases hz; done)
  · rename_i ds _
    obtain ⟨c, rfl⟩ := if_some (show (if reprC (.list ds) = true then some (PyData.str (PyData.list ds).shown) else none) = some z from hz)
    obtain ⟨c1, c2, c3, c4⟩ := reprC_of c
    cases hR with
    | lst a b => exact ⟨_, _, rfl, .lst a b, c1, c2, c3, c4, q _ Hs H (.refl e) (show R Hs _ _ from .str _)⟩
  · rename_i ds _
    obtain ⟨c, rfl⟩ := if_some (show (if reprC (.tuple ds) = true then some (PyData.str (PyData.tuple ds).shown) else none) = some z from hz)
    obtain ⟨c1, c2, c3, c4⟩ := reprC_of c
    cases hR with
    | tup a b => exact ⟨_, _, rfl, .tup a b, c1, c2, c3, c4, q _ Hs H (.refl e) (show R Hs _ _ from .str _)⟩
theorem de_repr (hK : X.K = KF.K) {k : Nat} (ga : GA k X.A) (gl : Gl X "repr") (hm : X.mg "repr" = none) (ha : DE X O .rd e te f) (hs : starEach [e] X.env = [(false, eval e X.env)] := by rfl) : DE X O .cl (.Call (.Name "repr" p) [e] [] pos) (tCB rRepr (tCons te tNil)) (fFn (g1 dRepr) (fConsA f fNilA)) :=
  de_b (call_repr hK ga.gd ga.u64) cd_repr gl hm (by decide +kernel) (da_cons ha da_nil hs) (he := hs)
end
/-! ### // of ints of any size -/
structure DivOK (X : Cx) : Prop where
  seer : X.base.NoSeer
  tree : X.prog.given.tree = none
  top : ∃ env l, X.A.frames = some (env :: l) ∧ env.scope.isGenerator = false ∧ env.scope.isCoroutine = false ∧ env.builtins = builtinsNs ∧ env.globals = mainGlobals
  dp : X.A.depth + 100 < recursionLimit
section
variable {X : Cx} {O : List Nat} {a b : Expr} {ta tb : TE} {fa fb : F} {pos : Pos}
abbrev rDivW : R2 := rI (fun _ j => j ≠ 0) fun i j => .int (i.fdiv j)
theorem op_divW (ok : DivOK X) : OpR X (binaryOp .FloorDiv) rDivW := by
  intro pins s σ H x y v u Q I rx ry h
  obtain ⟨i, j, rfl, rfl, hj, q⟩ := h
  obtain ⟨t, rfl⟩ := rx
  obtain ⟨t', rfl⟩ := ry
  obtain ⟨env, l, h1, h2, h3, h4, h5⟩ := ok.top
  refine PyProof.Rows.floordiv_int hj ⟨.int _, H, I.tok _, ⟨_, rfl⟩, q⟩ (.inr (PylongRoom.of I.nolimit (by have := ok.dp; exact this) (SeerAt.of (ok.seer.keeps I.bk) ok.tree h1 h2 h3 h4 h5)))
def dDivW := gI (fun _ j => decide (j ≠ 0)) fun i j => .int (i.fdiv j)
theorem de_divW (ok : DivOK X) (ha : DE X O .rd a ta fa) (hb : DE X O .rd b tb fb) : DE X O .cl (.BinOp a .FloorDiv b pos) (tOp rDivW ta tb) (fBin dDivW fa fb) := de_op (op_divW ok) (opd_I fun i j h => of_decide_eq_true (p := j ≠ 0) h) ha hb
end
end DL
set_option Elab.async false
set_option linter.all false
set_option maxRecDepth 100000
namespace DL
open PySem PySem.Spec L2
open PyProof.Rows hiding St
/-! ### the law's own call -/
/-- a heap without its tracked objects (lists) still has nothing that loads -/
theorem seer_hid {h : Heap} {H : Hp} (x : h.NoSeer) (out : ∀ (b : Addr) (o : Obj), h.get? b = some o → (o.cls ≠ .type "list" ∨ ∀ its n, o.data ≠ .seq its n) → H b = none) : (hidT h H).NoSeer := by
  have ns : ∀ {b : Addr} {m : Str → Option Value}, h.Ns b m → (hidT h H).Ns b m := fun {b m} ⟨o, es, ep, e, d, r⟩ => ⟨o, es, ep, hidT_get e (out b o e (.inr fun its n z => by rw [d] at z; cases z)), d, r⟩
  obtain ⟨mc, s1, s2, s3⟩ := x.statics
  obtain ⟨mm, m1, m2⟩ := x.mods
  obtain ⟨mb, b1, b2⟩ := x.imp
  obtain ⟨mg, bm, ob, g1, g2, g3, g4, g5⟩ := x.main
  exact ⟨⟨mc, ns s1, s2, s3⟩, ⟨mm, ns m1, m2⟩, ⟨mb, ns b1, b2⟩, ⟨mg, bm, ob, ns g1, g2, hidT_get g3 (out bm ob g3 (.inl (by rw [g4]; decide))), g4, g5⟩⟩
theorem ra_ints (H : Hp) [KF] (ns : List Int) : RA H (ns.map V.int) (ns.map PyData.int) := RA.ints ns
/-- from one abstract heap: the script's list is all that it tracks, or nothing -/
theorem law_from [KF] {P : Program} {w : World} {mg mb : Str → Option Value} {CX : CXT} {k : Nat} {fa a : Addr} {fd : FuncData} {x : Str} {s₁ : Shared} {vs : List Value} {ns : List Int} {Fn : List PyData → Option PyData}
    (KX : KF.K.In s₁.heap) (hns : s₁.heap.Ns mainGlobals mg) (hb : s₁.heap.Ns builtinsNs mb) (hbb : ∀ x : Str, x ≠ "__name__" → mb x = bootBuiltins x) (hlim : s₁.heap.NoLimit) (hseer : s₁.heap.NoSeer) (hg : s₁.gens = #[])
    (ha : s₁.heap.get? a = some { cls := .type "list", data := .seq vs.toArray }) (hr : GA k callerA)
    (F : ∀ base : Heap, KF.K.In base → base.Ns mainGlobals mg → base.NoSeer → FnG P w KF.K mg base CX k fa fd [x] (spF 1 .cl Fn)) (hbind : ∀ (s : Shared) (u : Value), BindsTo s fd ⟨[u], []⟩ [(x, u)])
    (hFn : Fn [.list (ns.map .int)] = some (.bool true)) (hCX : ∀ H e s', CX [] H s₁ (fun _ _ _ => False) e s' → False)
    (H : Hp) (hL : LsK H a (ns.map V.int)) (ok : HOk P w H s₁.heap) (only : ∀ b, H b ≠ none → b = a) (frz : ∀ u, H a = some u → ∃ o xs, u = .frz o (.lst xs)) (out : H a ≠ none → KF.K.lookup a = none) :
    codeAny (model P w) callerA (.call (.ref fa) ⟨[.ref a], []⟩) (fun r s' => r = .ok (.ret (.bool true)) ∧ PySem.OldK s₁.heap s'.heap ∧ s'.os = s₁.os ∧ AllBare s'.gens) s₁ := by
  have untr : ∀ (b : Addr) (o : Obj), s₁.heap.get? b = some o → (o.cls ≠ .type "list" ∨ ∀ its n, o.data ≠ .seq its n) → H b = none := fun b o e hd => by
    cases q : H b with
    | none => rfl
    | some u =>
      have hb : b = a := only b (by rw [q]; simp)
      subst hb
      rw [ha] at e
      cases e
      rcases hd with hd | hd
      · exact absurd rfl hd
      · exact absurd rfl (hd _ _)
  have nsB : ∀ {b : Addr} {m : Str → Option Value}, s₁.heap.Ns b m → (hidT s₁.heap H).Ns b m := fun {b m} ⟨o, es, ep, e, d, r⟩ => ⟨o, es, ep, hidT_get e (untr b o e (.inr fun its n z => by rw [d] at z; cases z)), d, r⟩
  have hKb : KF.K.In (hidT s₁.heap H) := fun b o e => by
    refine hidT_get (KX b o e) ?_
    cases q : H b with
    | none => rfl
    | some u =>
      have hb : b = a := only b (by rw [q]; simp)
      subst hb
      rw [out (by rw [q]; simp)] at e
      cases e
  obtain ⟨ml, l1, l2⟩ := hlim
  have hM : Mod KF.K mg (hidT s₁.heap H) := ⟨hKb, nsB hns, ⟨mb, nsB hb, hbb⟩, ⟨ml, nsB l1, l2⟩⟩
  have env0 : Env0 P w KF.K mg (hidT s₁.heap H) callerA [] s₁ H :=
    ⟨rfl, hM, fun b o e => of_hidT e, Nat.le_of_eq (hidT_size _ _), trivial, fun b z => absurd (show b ∈ ([] : List Addr) from z) (by simp), ok, .of_eq hg⟩
  have want : spF 1 .cl Fn [.ref a] H (fun v _ => v = .bl true) (fun _ _ _ => False) :=
    ⟨[.list (ns.map .int)], .bool true, H, rfl, .refl _, .cons (.lst hL (RA.ints ns)) .nil, hFn, fun v Hs' H' _ r => by
      cases (show R Hs' v (.bool true) from r)
      rfl⟩
  refine codeAny_mono ((F _ hKb (nsB hns) (seer_hid hseer untr)).run callerA [] s₁ H ⟨[.ref a], []⟩ [.ref a] [.ref a] _ _ hr env0 (hbind s₁ (.ref a)) (.cons rfl .nil) want) fun r s' back => ?_
  match r, back with
  | .error e, back => exact (hCX H e s' back).elim
  | .ok .next, back => exact False.elim back
  | .ok .brk, back => exact False.elim back
  | .ok .cont, back => exact False.elim back
  | .ok (.ret u), ⟨v, H', os, bare, un, ok', rel, q⟩ =>
    have q : v = .bl true := q
    subst q
    have rel : u = Value.bool true := rel
    subst rel
    refine ⟨rfl, PySem.OldK.of_keep fun b o e => ?_, os, bare⟩
    cases q : H b with
    | none => exact un.keep b o e q (fun z => absurd (show b ∈ ([] : List Addr) from z) (by simp)) (by simp)
    | some u =>
      have hb : b = a := only b (by rw [q]; simp)
      subst hb
      obtain ⟨ob, xs, rfl⟩ := frz u q
      obtain ⟨e1, _⟩ := ok b _ q
      obtain ⟨e2, _⟩ := ok' b _ (un.frzs b ob _ q)
      rw [e] at e1
      cases e1
      exact e2
/-- the goal that k_head leaves, from a promise on data -/
theorem walk_D {l : PySem.W.OpenLaw} {n k : Nat} {q : Program} {loose : List Str} {XP : (Str → Option Value) → Heap → Prop} {YP : World → Heap → Prop} {d : DefRec} {K : Params → PySem.W.Frag} {CX : World → CXT} {x : Str} {Fn : List PyData → Option PyData}
    (hn : l.most = some n) (hn2 : n ≤ sizeLine) (hdf : d.params.defaults = []) (hr : GA k callerA) (him : importsNone q = true) (hY : ∀ (w : World) (h : Heap), YP w h → (K w.params).In h)
    (F : ∀ (w : World) (mg : Str → Option Value) (fa : Addr) (h : Heap), (K w.params).In h → h.Ns mainGlobals mg → mg d.name = some (.ref fa) →
      ∃ fd : FuncData, (∀ (s : Shared) (u : Value), BindsTo s fd ⟨[u], []⟩ [(x, u)]) ∧ ∀ base : Heap, (K w.params).In base → base.Ns mainGlobals mg → base.NoSeer → FnG l.prog w (K w.params) mg base (CX w) k fa fd [x] (@spF ⟨K w.params, true⟩ 1 .cl Fn))
    (hFn : ∀ ns : List Int, ns.length ≤ n → (∀ z ∈ ns, Builtin.Int.intBits z ≤ 1048576) → Fn [.list (ns.map .int)] = some (.bool true))
    (hCX : ∀ (w : World) (H : Hp) (s : Shared) (e : Value) (s' : Shared), CX w [] H s (fun _ _ _ => False) e s' → False) : PySem.W.WalkO q loose XP YP l.row.toRowW d [] (fun f vs => PySem.call f vs) := by
  refine Att.attach_callB hn hdf fun w s₀ s₁ mg mb fa o pm cd doc a vs ns G Y ho hd hcd hmg hobj hints hlen hbits hg => ?_
  have KX := hY w _ Y
  obtain ⟨fd, hb, hF⟩ := F w mg fa _ KX G.T.g hmg
  have rv := vals_ints hints
  letI kf : KF := ⟨K w.params, true⟩
  have go := law_from (P := l.prog) (w := w) (CX := CX w) (fd := fd) KX G.T.g G.T.b G.T.builtins G.T.nolimit (G.T.seer him) hg hobj hr hF hb (hFn ns hlen hbits) fun H e s' => hCX w H s₁ e s'
  have small : (ns.map V.int).length ≤ sizeLine := by
    rw [List.length_map]
    exact Nat.le_trans hlen hn2
  cases hk : (K w.params).lookup a with
  | some ob =>
    have e := KX a ob hk
    rw [hobj] at e
    cases e
    exact go (fun _ => none) (.inr ⟨rfl, .inr ⟨vs.toArray, _, hk, by rw [List.size_toArray, ← rv.length]; exact small, by simpa using rv⟩⟩) (fun b u z => nomatch (show (none : Option HO) = some u from z)) (fun b z => absurd rfl z) (fun u z => nomatch (show (none : Option HO) = some u from z)) fun z => absurd rfl z
  | none =>
    have at_a : ∀ b, (fun b => if b = a then some (HO.frz { cls := .type "list", data := .seq vs.toArray } (.lst (ns.map V.int))) else none : Hp) b ≠ none → b = a := fun b z => by
      by_cases hb : b = a
      · exact hb
      · exact absurd (if_neg hb) z
    refine go (fun b => if b = a then some (.frz { cls := .type "list", data := .seq vs.toArray } (.lst (ns.map V.int))) else none) (.inr ⟨rfl, .inl ⟨_, if_pos rfl⟩⟩) (fun b u z => ?_) at_a (fun u z => ?_) fun _ => hk
    · have hb := at_a b (by rw [z]; simp)
      subst hb
      have z := (if_pos rfl).symm.trans z
      cases z
      exact ⟨hobj, small, vs, _, rv, hobj⟩
    · have z := (if_pos rfl).symm.trans z
      cases z
      exact ⟨_, _, rfl⟩
end DL
set_option Elab.async false
set_option linter.all false
set_option maxRecDepth 100000
namespace DL
open PySem PySem.Spec L2
open PyProof.Rows hiding St
variable [KF]
/-! ### short rules for a text's defs -/
theorem def_nx {P : Program} {w : World} {K : PySem.W.Frag} {mg : Str → Option Value} {base : Heap} {CX : CXT} {x qual : Str} {st : Stmt} {f : Addr} {fd : FuncData} {N ps : List Str} {k : Nat} {m : Md} {B : FS} {O' W : List Nat} {n nl : Nat} (F : Fun K x qual st f fd) (S : FnScope N ps (defScope st)) (hn : ps.length = n) (hnl : N.length = nl)
    (none_ok : m = .cl ∨ ∀ ρ ρ', B ρ ≠ some (.nx ρ'))
    (body : ∀ (cdv : Value) (A : Around) (outer : List Env) (s : Shared) (H : Hp) (E : XK), GA k (A.deeper (envOfC qual (defScope st) s.heap.objs.size f cdv)) →
      ∃ t, DSs (cxOf CX P w K mg base N qual (defScope st) f cdv A outer s H E).nox m [] [] O' W (defBody st) t B) : FnG P w K mg base CX (k + 1) f fd ps (spF n m (runF nl B)) := by
  subst hnl
  exact def_of F S hn none_ok fun cdv A outer s H E ga => let ⟨t, h⟩ := body cdv A outer s H E ga; ⟨t, ⟨h.ps.nox, h.ev⟩⟩
section
variable {X : Cx} {O : List Nat} {a b c : Expr} {ta tb tc : TE} {fa fb fc : F} {pos : Pos}
theorem dt_cmpR {op : CmpOp} {r : R2} {g : PyData → PyData → Option PyData} (ho : OpR X (compareOp op) r) (hg : OpD r .cl g) (ha : DE X O .rd a ta fa) (hb : DE X O .rd b tb fb) (hm : behindInMarks op b = false) : DT X O (.Compare a [op] [b] pos) (tTest (tOp r ta tb)) (tV (fBin g fa fb)) :=
  ⟨pt_cmpR ho ha.pe hb.pe hm, fun ρ σ Hs H k s h Q q => by
    obtain ⟨x, hx, h⟩ := bind_some h
    refine ev_op2 hg ha hb s hx _ fun v Hs1 H1 g1 r1 => ?_
    cases x <;> try (cases h; done)
    cases h
    exact ⟨_, rd_bool (H0 := H) (H := H1) (.inl r1), q Hs1 H1 g1⟩⟩
theorem dt_lt (ha : DE X O .rd a ta fa) (hb : DE X O .rd b tb fb) : DT X O (.Compare a [.Lt] [b] pos) (tTest (tOp rLtI ta tb)) (tV (fBin dLt fa fb)) := dt_cmpR op_lt opd_B0 ha hb (nomark _)
theorem dt_le (ha : DE X O .rd a ta fa) (hb : DE X O .rd b tb fb) : DT X O (.Compare a [.LtE] [b] pos) (tTest (tOp rLeI ta tb)) (tV (fBin dLe fa fb)) := dt_cmpR op_le opd_B0 ha hb (nomark _)
theorem dt_gt (ha : DE X O .rd a ta fa) (hb : DE X O .rd b tb fb) : DT X O (.Compare a [.Gt] [b] pos) (tTest (tOp rGtI ta tb)) (tV (fBin dGt fa fb)) := dt_cmpR op_gt opd_B0 ha hb (nomark _)
theorem dt_ge (ha : DE X O .rd a ta fa) (hb : DE X O .rd b tb fb) : DT X O (.Compare a [.GtE] [b] pos) (tTest (tOp rGeI ta tb)) (tV (fBin dGe fa fb)) := dt_cmpR op_ge opd_B0 ha hb (nomark _)
theorem dt_eq (hu : X.A.units + 64 < cLine) (hK : X.K = KF.K) (ha : DE X O .rd a ta fa) (hb : DE X O .rd b tb fb) : DT X O (.Compare a [.Eq] [b] pos) (tTest (tOp (rEqD X.K) ta tb)) (tV (fBin dEq fa fb)) := dt_cmpR (op_eqD hu) (by rw [hK]; exact opd_eq) ha hb (nomark _)
theorem dt_ne (hu : X.A.units + 64 < cLine) (hK : X.K = KF.K) (ha : DE X O .rd a ta fa) (hb : DE X O .rd b tb fb) : DT X O (.Compare a [.NotEq] [b] pos) (tTest (tOp (rNeD X.K) ta tb)) (tV (fBin dNe fa fb)) := dt_cmpR (op_neD hu) (by rw [hK]; exact opd_ne) ha hb (nomark _)
theorem dt_is (ha : DE X O .rd a ta fa) (hb : DE X O .rd b tb fb) : DT X O (.Compare a [.Is] [b] pos) (tTest (tOp rIsD ta tb)) (tV (fBin dIs fa fb)) := dt_cmpR op_isN opd_is ha hb (nomark _)
theorem dt_isnot (ha : DE X O .rd a ta fa) (hb : DE X O .rd b tb fb) : DT X O (.Compare a [.IsNot] [b] pos) (tTest (tOp rIsNotD ta tb)) (tV (fBin dIsNot fa fb)) := dt_cmpR op_notN opd_isnot ha hb (nomark _)
theorem dt_chain {op op' : CmpOp} {r r' : R2} {g g' : PyData → PyData → Option PyData} (ho : OpR X (compareOp op) r) (hg : OpD r .cl g) (ho' : OpR X (compareOp op') r') (hg' : OpD r' .cl g') (ha : DE X O .rd a ta fa) (hb : DE X O .rd b tb fb) (hc : DE X O .rd c tc fc)
    (hm : lastMarks [op, op'] [b, c] = false := by with_unfolding_all rfl) : DT X O (.Compare a [op, op'] [b, c] pos) (tTest (tChain r r' ta tb tc)) (tV (fChain g g' fa fb fc)) :=
  ⟨pt_chain ho ho' ha.pe hb.pe hc.pe hm, fun ρ σ Hs H k s h Q q => by
    obtain ⟨x, hx, h⟩ := bind_some h
    refine (de_chain (pos := pos) ho hg ho' hg' ha hb hc hm).ev ρ σ Hs H x s hx _ fun v Hs1 H1 g1 r1 => ?_
    cases x <;> try (cases h; done)
    cases h
    exact ⟨_, rd_bool (H0 := H) (H := H1) (.inl r1), q Hs1 H1 g1⟩⟩
end
section
variable {X : Cx} {O : List Nat} {e a b c : Expr} {es : List Expr} {te ta tb tc : TE} {tA' tB' : TT} {f fa fb fc : F} {ft fu : FT} {m : Md} {pos : Pos}
theorem de_eqK (hu : X.A.units + 64 < cLine) (hK : X.K = KF.K) (ha : DE X O .rd a ta fa) (hb : DE X O .rd b tb fb) : DE X O .cl (.Compare a [.Eq] [b] pos) (tOp (rEqD KF.K) ta tb) (fBin dEq fa fb) := by
  rw [← hK]
  exact de_eq hu hK ha hb
end
section
variable {X : Cx} {O : List Nat} {e a b c : Expr} {es : List Expr} {te ta tb tc : TE} {tA' tB' : TT} {f fa fb fc : F} {ft fu : FT} {m : Md} {pos : Pos}
theorem de_neK (hu : X.A.units + 64 < cLine) (hK : X.K = KF.K) (ha : DE X O .rd a ta fa) (hb : DE X O .rd b tb fb) : DE X O .cl (.Compare a [.NotEq] [b] pos) (tOp (rNeD KF.K) ta tb) (fBin dNe fa fb) := by
  rw [← hK]
  exact de_ne hu hK ha hb
end
section
variable {X : Cx} {O : List Nat} {e a b c : Expr} {es : List Expr} {te ta tb tc : TE} {tA' tB' : TT} {f fa fb fc : F} {ft fu : FT} {m : Md} {pos : Pos}
theorem dt_truK (hK : X.K = KF.K) (ha : DE X O .rd a ta fa) (he : ∀ whole, isTrue a X.env whole = (do let v ← whole; standAt a.pos; holding [v] (truthy v)) := by intro _; rfl) : DT X O a (fun σ H Q => ta σ H fun x H' => ∃ k, TruV KF.K x H' k ∧ Q k H') (tTr fa) := by
  rw [← hK]
  exact dt_tru hK ha he
end
section
variable {X : Cx} {O : List Nat} {a b c : Expr} {ta tb tc : TE} {fa fb fc : F} {pos : Pos}
theorem dt_eqK (hu : X.A.units + 64 < cLine) (hK : X.K = KF.K) (ha : DE X O .rd a ta fa) (hb : DE X O .rd b tb fb) : DT X O (.Compare a [.Eq] [b] pos) (tTest (tOp (rEqD KF.K) ta tb)) (tV (fBin dEq fa fb)) := by
  rw [← hK]
  exact dt_eq hu hK ha hb
end
section
variable {X : Cx} {O : List Nat} {a b c : Expr} {ta tb tc : TE} {fa fb fc : F} {pos : Pos}
theorem dt_neK (hu : X.A.units + 64 < cLine) (hK : X.K = KF.K) (ha : DE X O .rd a ta fa) (hb : DE X O .rd b tb fb) : DT X O (.Compare a [.NotEq] [b] pos) (tTest (tOp (rNeD KF.K) ta tb)) (tV (fBin dNe fa fb)) := by
  rw [← hK]
  exact dt_ne hu hK ha hb
end
section
variable {X : Cx} {O : List Nat} {e a b c : Expr} {es : List Expr} {te ta tb tc : TE} {t : TA} {f fa fb fc : F} {fs : FA} {m : Md} {pos : Pos}
theorem de_ixK (hK : X.K = KF.K) (ha : DE X O .rd a ta fa) (hb : DE X O .rd b tb fb) (hs : PlainIx b := by intro _ _; rfl) : DE X O .cl (.Subscript a b pos) (tOp (rIx KF.K) ta tb) (fBin dIx fa fb) := by
  rw [← hK]
  exact de_ix hK ha hb hs
end
section
variable {X : Cx} {O : List Nat} {e a b c : Expr} {es : List Expr} {te ta tb tc : TE} {t : TA} {f fa fb fc : F} {fs : FA} {m : Md} {pos : Pos}
theorem de_sliceK (hK : X.K = KF.K) {lo hi : Option Expr} {tl th : TO} {fl fh : Rho → Option (Option Int)} {p2 : Pos} (ha : DE X O .rd a ta fa) (hl : DO X O lo tl fl) (hh : DO X O hi th fh) : DE X O .ow (.Subscript a (.Slice lo hi none p2) pos) (tSl (rSlL KF.K) ta tl th) (fSl fa fl fh) := by
  rw [← hK]
  exact de_slice hK ha hl hh
end
section
variable {X : Cx} {O : List Nat} {e a b c : Expr} {es : List Expr} {te ta tb tc : TE} {t : TA} {f fa fb fc : F} {fs : FA} {m : Md} {pos : Pos}
theorem de_lenK {p : Pos} (hK : X.K = KF.K) (gl : Gl X "len") (hm : X.mg "len" = none) (ha : DE X O .rd e te f) (hs : starEach [e] X.env = [(false, eval e X.env)] := by rfl) : DE X O .cl (.Call (.Name "len" p) [e] [] pos) (tCB (rLenD KF.K) (tCons te tNil)) (fFn (g1 dLen) (fConsA f fNilA)) := by
  rw [← hK]
  exact de_len hK gl hm ha hs
end
section
variable {X : Cx} {O : List Nat} {e a b c : Expr} {es : List Expr} {te ta tb tc : TE} {t : TA} {f fa fb fc : F} {fs : FA} {m : Md} {pos : Pos}
theorem de_listcK {p : Pos} (hK : X.K = KF.K) (gl : Gl X "list") (hm : X.mg "list" = none) (ha : DE X O .rd e te f) (hs : starEach [e] X.env = [(false, eval e X.env)] := by rfl) : DE X O .ow (.Call (.Name "list" p) [e] [] pos) (tCB (rListD KF.K) (tCons te tNil)) (fFn (g1 dListOf) (fConsA f fNilA)) := by
  rw [← hK]
  exact de_listc hK gl hm ha hs
end
section
variable {X : Cx} {O : List Nat} {e a b c : Expr} {es : List Expr} {te ta tb tc : TE} {t : TA} {f fa fb fc : F} {fs : FA} {m : Md} {pos : Pos}
theorem de_sumK {p : Pos} (hK : X.K = KF.K) (hc : X.calm = true) (gl : Gl X "sum") (hm : X.mg "sum" = none) (ha : DE X O .rd e te f) (hs : starEach [e] X.env = [(false, eval e X.env)] := by rfl) : DE X O .cl (.Call (.Name "sum" p) [e] [] pos) (tCB (rSum KF.K) (tCons te tNil)) (fFn (g1 dSum) (fConsA f fNilA)) := by
  rw [← hK]
  exact de_sum hK hc gl hm ha hs
end
section
variable {X : Cx} {O : List Nat} {e a b c : Expr} {es : List Expr} {te ta tb tc : TE} {t : TA} {f fa fb fc : F} {fs : FA} {m : Md} {pos : Pos}
theorem de_anyK {p : Pos} (hK : X.K = KF.K) (hc : X.calm = true) (gl : Gl X "any") (hm : X.mg "any" = none) (ha : DE X O .rd e te f) (hs : starEach [e] X.env = [(false, eval e X.env)] := by rfl) : DE X O .cl (.Call (.Name "any" p) [e] [] pos) (tCB (rAny KF.K) (tCons te tNil)) (fFn (g1 dAny) (fConsA f fNilA)) := by
  rw [← hK]
  exact de_any hK hc gl hm ha hs
end
section
variable {X : Cx} {O : List Nat} {e a b c : Expr} {es : List Expr} {te ta tb tc : TE} {t : TA} {f fa fb fc : F} {fs : FA} {m : Md} {pos : Pos}
theorem de_allK {p : Pos} (hK : X.K = KF.K) (hc : X.calm = true) (gl : Gl X "all") (hm : X.mg "all" = none) (ha : DE X O .rd e te f) (hs : starEach [e] X.env = [(false, eval e X.env)] := by rfl) : DE X O .cl (.Call (.Name "all" p) [e] [] pos) (tCB (rAll KF.K) (tCons te tNil)) (fFn (g1 dAll) (fConsA f fNilA)) := by
  rw [← hK]
  exact de_all hK hc gl hm ha hs
end
section
variable {X : Cx} {O : List Nat} {e : Expr} {te : TE} {f : F} {pos : Pos}
theorem de_anyIK {p : Pos} (hK : X.K = KF.K) (hc : X.calm = true) (gl : Gl X "any") (hm : X.mg "any" = none) (ha : DE X O .rd e te f) (hs : starEach [e] X.env = [(false, eval e X.env)] := by rfl) : DE X O .cl (.Call (.Name "any" p) [e] [] pos) (tCB (rAnyI KF.K) (tCons te tNil)) (fFn (g1 dAnyI) (fConsA f fNilA)) := by
  rw [← hK]
  exact de_anyI hK hc gl hm ha hs
end
section
variable {X : Cx} {O : List Nat} {e : Expr} {te : TE} {f : F} {pos : Pos}
theorem de_isiK (hK : X.K = KF.K) {T : String} {c : Expr} {p : Pos} (gl : Gl X "isinstance") (hm : X.mg "isinstance" = none) (ha : DE X O .rd e te f) (hc : PE X c (tC (.ty T)))
    (he : starEach [e, c] X.env = (false, eval e X.env) :: starEach [c] X.env := by rfl) (he2 : starEach [c] X.env = (false, eval c X.env) :: starEach [] X.env := by rfl) (hpl : (backTo pos (starEach [c] X.env)).any (·.1) = false := by rfl) :
    DE X O .cl (.Call (.Name "isinstance" p) [e, c] [] pos) (tCB (rIsi KF.K) (tCons te (tCons (tC (.ty T)) tNil))) (fUn (isTy T) f) := by
  rw [← hK]
  exact de_isi hK gl hm ha hc he he2 hpl
end
section
variable {X : Cx} {O : List Nat} {e a b c tg : Expr} {te ta tb tc : TE} {f fa fb fc : F} {pos p : Pos}
theorem di_seqK (hK : X.K = KF.K) (h : DE X O .cl e te f) : DI X O tg e (fun σ H R => iList KF.K te σ H R ∨ iTup KF.K te σ H R) (iSeq f) := by
  rw [← hK]
  exact di_seq hK h
end
section
variable {X : Cx} {O : List Nat} {e a b c tg : Expr} {te ta tb tc : TE} {f fa fb fc : F} {pos p : Pos}
theorem di_zipK (hK : X.K = KF.K) {elts : List Expr} {kk : Nat} {tpos : Pos} (gl : Gl X "zip") (hm : X.mg "zip" = none) (ha : DE X O .cl a ta fa) (hb : DE X O .cl b tb fb) (hs : starEach [a, b] X.env = (false, eval a X.env) :: starEach [b] X.env := by rfl) (hs2 : starEach [b] X.env = (false, eval b X.env) :: starEach [] X.env := by rfl)
    (hpl : (backTo pos (starEach [b] X.env)).any (·.1) = false := by rfl) : DI X O (.Tuple elts kk tpos) (.Call (.Name "zip" p) [a, b] [] pos) (iZip KF.K (tCons ta (tCons tb tNil))) (iZ fa fb) := by
  rw [← hK]
  exact di_zip hK gl hm ha hb hs hs2 hpl
end
section
variable {X : Cx} {O : List Nat} {e a b c tg : Expr} {te ta tb tc : TE} {f fa fb fc : F} {pos p : Pos}
theorem di_revK (hK : X.K = KF.K) (gl : Gl X "reversed") (hm : X.mg "reversed" = none) (ha : DE X O .cl a ta fa) (hs : starEach [a] X.env = [(false, eval a X.env)] := by rfl) : DI X O tg (.Call (.Name "reversed" p) [a] [] pos) (iRev KF.K (tCons ta tNil)) (iRv fa) := by
  rw [← hK]
  exact di_rev hK gl hm ha hs
end
section
variable {X : Cx} {O : List Nat} {a b : Expr} {ta tb : TE} {fa fb : F} {pos : Pos}
theorem dg_tupK (hK : X.K = KF.K) {ts : List Expr} {n k : Nat} {p : Pos} {gs : TGs} {ks : List FG} {js : List Nat} (hc : X.calm = true) (h : DGs X O ts gs ks js) (hn : ts.length = n := by rfl) (hn2 : (assignEach ts X.env).length = n := by rfl) (hst : (assignEach ts X.env).findIdx? (·.1) = none := by rfl) : DG X O (.Tuple ts k p) (gTup KF.K n gs) (gT ks) js := by
  rw [← hK]
  exact dg_tup hc h hn hn2 hst
theorem de_inK (hu : X.A.units + 65 < cLine) (hK : X.K = KF.K) (ha : DE X O .rd a ta fa) (hb : DE X O .rd b tb fb) (hm : behindInMarks .In b = false := by rfl) : DE X O .cl (.Compare a [.In] [b] pos) (tOp (rInD KF.K) ta tb) (fBin dIn fa fb) := by
  rw [← hK]
  exact de_cmp (op_inD hu) (by rw [hK]; exact opd_in) ha hb hm
theorem de_notinK (hu : X.A.units + 65 < cLine) (hK : X.K = KF.K) (ha : DE X O .rd a ta fa) (hb : DE X O .rd b tb fb) (hm : behindInMarks .NotIn b = false := by rfl) : DE X O .cl (.Compare a [.NotIn] [b] pos) (tOp (rNotInD KF.K) ta tb) (fBin dNotIn fa fb) := by
  rw [← hK]
  exact de_cmp (op_notInD hu) (by rw [hK]; exact opd_notin) ha hb hm
end
theorem GA.u65 {k : Nat} {A : Around} (r : GA k A) : A.units + 65 < cLine := by have := r.rm.un; omega
theorem nn_ret {f : F} : ∀ ρ ρ', sRet f ρ ≠ some (.nx ρ') := fun ρ ρ' h => by
  obtain ⟨d, _, e⟩ := Option.map_eq_some_iff.mp h
  cases e
theorem nn_seq {a b : FS} (h : ∀ ρ ρ', b ρ ≠ some (.nx ρ')) : ∀ ρ ρ', sSeq a b ρ ≠ some (.nx ρ') := fun ρ ρ' q => by
  obtain ⟨o, _, q⟩ := bind_some q
  cases o with
  | nx ρ1 => exact h ρ1 ρ' q
  | rt d => cases q
  | bk ρ1 => cases q
  | ct ρ1 => cases q
theorem nn_if {c : FT} {a b : FS} (h1 : ∀ ρ ρ', a ρ ≠ some (.nx ρ')) (h2 : ∀ ρ ρ', b ρ ≠ some (.nx ρ')) : ∀ ρ ρ', sIf c a b ρ ≠ some (.nx ρ') := fun ρ ρ' q => by
  obtain ⟨k, _, q⟩ := bind_some q
  cases k with
  | true => exact h1 ρ ρ' q
  | false => exact h2 ρ ρ' q
theorem frames_deeper' {A : Around} {env : Env} {outer : List Env} (h : A.frames = some outer) : (A.deeper env).frames = some (env :: outer) := Around.frames_deeper h
section
variable {X : Cx} {m : Md} {OB O O' : List Nat} {e : Expr} {te : TE} {f : F} {pos : Pos}
theorem dsn (i : Nat) {x : Str} {p : Pos} (hN : X.N.Nodup) (h : DE X O .cl e te f) (hi : X.N[i]? = some x := by rfl) (hx : Loc X.env.scope x := by first | exact Or.inl rfl | exact Or.inr rfl) (hs : swapsWith e (some (.Name x p)) pos.line X.env = pure false := by rfl)
    (hf : X.fn x = true ∨ X.env.scope.names.lookup x = some .local := by first | exact .inl rfl | exact .inr rfl) : DS X m OB O (del i O) [i] (.Assign [.Name x p] e pos) (tAsg te (gName i)) (sAsg i f) := ds_asg i h (ps_set hN hi hx h.pe hs hf)
theorem dsnO (i : Nat) {x : Str} {p : Pos} (hN : X.N.Nodup) (h : DE X O .ow e te f) (hi : X.N[i]? = some x := by rfl) (hx : Loc X.env.scope x := by first | exact Or.inl rfl | exact Or.inr rfl) (hs : swapsWith e (some (.Name x p)) pos.line X.env = pure false := by rfl)
    (hf : X.fn x = true ∨ X.env.scope.names.lookup x = some .local := by first | exact .inl rfl | exact .inr rfl) : DS X m OB O (i :: del i O) [i] (.Assign [.Name x p] e pos) (tAsg te (gName i)) (sAsg i f) := ds_asgOw i h (ps_set hN hi hx h.pe hs hf)
theorem dgn (i : Nat) {x : Str} {p : Pos} (hN : X.N.Nodup) (ho : O.contains i = false := by rfl) (hi : X.N[i]? = some x := by rfl) (hx : Loc X.env.scope x := by first | exact Or.inl rfl | exact Or.inr rfl)
    (hf : X.fn x = true ∨ X.env.scope.names.lookup x = some .local := by first | exact .inl rfl | exact .inr rfl) : DG X O (.Name x p) (gName i) (gN i) [i] := dg_name i ho (pg_name hN hi hx hf)
theorem dsapp (i : Nat) {x : Str} {p p2 p3 : Pos} (h : DE X O .cl e te f) (hv : PE X (.Name x p) (tVar i))
    (hs : swapsWith (.Call (.Attribute (.Name x p) "append" p2) [e] [] p3) none pos.line X.env = pure false := by rfl)
    (hb : PE X e te → PE X (.Call (.Attribute (.Name x p) "append" p2) [e] [] p3) (tBM X.K "list" rAppend (tVar i) (tCons te tNil))) (ho : O.contains i = true := by rfl) :
    DS X m OB O O [i] (.Expr (.Call (.Attribute (.Name x p) "append" p2) [e] [] p3) pos) (tDrop (tBM X.K "list" rAppend (tVar i) (tCons te tNil))) (sApp i f) := ds_append i ho h hv (ps_expr (hb h.pe) hs)
theorem dssetI (i : Nat) {x : Str} {p p2 : Pos} {j : Expr} {tj : TE} {fj : F} (h : DE X O .cl e te f) (hj : DE X O .rd j tj fj) (hp : PE X e te → PE X j tj → PS X (.Assign [.Subscript (.Name x p) j p2] e pos) (tAsg te (gSub (tVar i) tj rSetL))) (ho : O.contains i = true := by rfl) :
    DS X m OB O O [i] (.Assign [.Subscript (.Name x p) j p2] e pos) (tAsg te (gSub (tVar i) tj rSetL)) (sSetI i fj f) := ds_setI i ho h hj (hp h.pe hj.pe)
section
variable {elt tg iter : Expr} {ifs : List Expr} {scope : Scope} {own : List (Str × Nat)} {spos py : Pos} {wi : TI} {g : TG} {tt : TT} {k : FG} {t : FT} {el : F} {src : FA} {js : List Nat}
theorem dlc_mk (own : List (Str × Nat)) (hi : DI X O tg iter wi src) (ok : BlkOk X.N X.env.scope scope own) (hg : ∀ (s : Shared) (H : Hp) (C : Addr) (cl : List (Str × Addr)) (fp : List Addr), DG (X.blk s H scope (compEnvC scope cl C X.env) fp) O tg g k js)
    (ht : ∀ (s : Shared) (H : Hp) (C : Addr) (cl : List (Str × Addr)) (fp : List Addr), DTs (X.blk s H scope (compEnvC scope cl C X.env) fp) O ifs tt t) (he : ∀ (s : Shared) (H : Hp) (C : Addr) (cl : List (Str × Addr)) (fp : List Addr), DE (X.blk s H scope (compEnvC scope cl C X.env) fp) O .cl elt te el)
    (hj : js.all (own.map (·.2)).contains = true := by rfl) : DLc X O elt tg iter ifs scope own wi g tt te src k t el js := ⟨hi, ok, hg, ht, he, hj⟩
theorem de_lcv {vs : List Nat} (hc : X.calm = true) (hN : X.N.Nodup) (h : DLc X O elt tg iter ifs scope own wi g tt te src k t el js) (hv : own.map (·.2) = vs := by rfl) (hs : ∀ x, foldedSetIterable iter X.env x = pure x := by intro _; rfl) : DE X O .ow (.ListComp elt [⟨tg, iter, ifs, 0⟩] scope pos) (tLc wi g tt te (own.map (·.2))) (fLc src k t el vs) := by
  subst hv
  exact de_lc hc hN h hs
/-- x = [..], a list of one's own -/
theorem dslcO_ (i : Nat) {x : Str} (hc : X.calm = true) (hN : X.N.Nodup) (h : DLc X O elt tg iter ifs scope own wi g tt te src k t el js) (hsw : swapsWith (.ListComp elt [⟨tg, iter, ifs, 0⟩] scope pos) (some (.Name x py)) spos.line X.env = pure true) (hi : X.N[i]? = some x := by rfl)
    (hx : X.env.scope.names.lookup x = some .local := by rfl) (hs : ∀ x, foldedSetIterable iter X.env x = pure x := by intro _; rfl) : DS X m OB O (i :: del i O) [i] (.Assign [.Name x py] (.ListComp elt [⟨tg, iter, ifs, 0⟩] scope pos) spos) (tAsg (tLc wi g tt te (own.map (·.2))) (gName i)) (sAsg i (fLc src k t el (own.map (·.2)))) :=
  ds_asgOw i (de_lc hc hN h hs) (ps_setLc hc hN hi hx hsw h.hi.pi h.ok (fun s H C cl fp => (h.hg s H C cl fp).pg) (fun s H C cl fp => (h.ht s H C cl fp).pt) (fun s H C cl fp => (h.he s H C cl fp).pe) hs)
theorem dslc_ (i : Nat) {x : Str} (hc : X.calm = true) (hN : X.N.Nodup) (h : DLc X O elt tg iter ifs scope own wi g tt te src k t el js) (hsw : swapsWith (.ListComp elt [⟨tg, iter, ifs, 0⟩] scope pos) (some (.Name x py)) spos.line X.env = pure true) (hi : X.N[i]? = some x := by rfl)
    (hx : X.env.scope.names.lookup x = some .local := by rfl) (hs : ∀ x, foldedSetIterable iter X.env x = pure x := by intro _; rfl) : DS X m OB O (del i O) [i] (.Assign [.Name x py] (.ListComp elt [⟨tg, iter, ifs, 0⟩] scope pos) spos) (tAsg (tLc wi g tt te (own.map (·.2))) (gName i)) (sAsg i (fLc src k t el (own.map (·.2)))) :=
  ds_asg i (de_lc hc hN h hs).cl_ (ps_setLc hc hN hi hx hsw h.hi.pi h.ok (fun s H C cl fp => (h.hg s H C cl fp).pg) (fun s H C cl fp => (h.ht s H C cl fp).pt) (fun s H C cl fp => (h.he s H C cl fp).pe) hs)
theorem dslcO (i : Nat) {vs : List Nat} {x : Str} (hc : X.calm = true) (hN : X.N.Nodup) (h : DLc X O elt tg iter ifs scope own wi g tt te src k t el js) (hsw : swapsWith (.ListComp elt [⟨tg, iter, ifs, 0⟩] scope pos) (some (.Name x py)) spos.line X.env = pure true) (hv : own.map (·.2) = vs := by rfl) (hi : X.N[i]? = some x := by rfl)
    (hx : X.env.scope.names.lookup x = some .local := by rfl) (hs : ∀ x, foldedSetIterable iter X.env x = pure x := by intro _; rfl) : DS X m OB O (i :: del i O) [i] (.Assign [.Name x py] (.ListComp elt [⟨tg, iter, ifs, 0⟩] scope pos) spos) (tAsg (tLc wi g tt te (own.map (·.2))) (gName i)) (sAsg i (fLc src k t el vs)) := by
  subst hv
  exact dslcO_ i hc hN h hsw hi hx hs
theorem dslc (i : Nat) {vs : List Nat} {x : Str} (hc : X.calm = true) (hN : X.N.Nodup) (h : DLc X O elt tg iter ifs scope own wi g tt te src k t el js) (hsw : swapsWith (.ListComp elt [⟨tg, iter, ifs, 0⟩] scope pos) (some (.Name x py)) spos.line X.env = pure true) (hv : own.map (·.2) = vs := by rfl) (hi : X.N[i]? = some x := by rfl)
    (hx : X.env.scope.names.lookup x = some .local := by rfl) (hs : ∀ x, foldedSetIterable iter X.env x = pure x := by intro _; rfl) : DS X m OB O (del i O) [i] (.Assign [.Name x py] (.ListComp elt [⟨tg, iter, ifs, 0⟩] scope pos) spos) (tAsg (tLc wi g tt te (own.map (·.2))) (gName i)) (sAsg i (fLc src k t el vs)) := by
  subst hv
  exact dslc_ i hc hN h hsw hi hx hs
end
end
end DL
set_option Elab.async false
set_option linter.all false
set_option maxRecDepth 100000
namespace DL
open PySem PySem.Spec L2
open PyProof.Rows hiding St
variable [KF]
/-! ### a list of one's own stands for a while -/
def scalD : PyData → Bool
  | .none => true
  | .bool _ => true
  | .int _ => true
  | .str _ => true
  | _ => false
theorem scal_R {Hs Hs' : Hp} {v : V} {d : PyData} (h : scalD d = true) (r : R Hs v d) : R Hs' v d := by
  cases r with
  | non => exact .non
  | bl b => exact .bl b
  | int i => exact .int i
  | str x => exact .str x
  | lst _ _ => cases h
  | tup _ _ => cases h
theorem scal_RA {Hs Hs' : Hp} : ∀ {vs : List V} {ds : List PyData}, ds.all scalD = true → RA Hs vs ds → RA Hs' vs ds
  | _, _, _, .nil => .nil
  | _, _, h, .cons a b => by
    rw [List.all_cons, Bool.and_eq_true] at h
    exact .cons (scal_R h.1 a) (scal_RA h.2 b)
theorem StOK.of_slots {O : List Nat} {ρ : Rho} {σ : St} {Hs H : Hp} (s : Slots O ρ σ Hs H) : StOK O ρ σ Hs Hs Hs H := ⟨s, ⟨.refl _, s.sub, s.sub, fun _ h1 h2 => absurd h1 h2⟩, fun i hi d hd => by
  obtain ⟨v, h1, h2, _⟩ := s.val i d hd
  obtain ⟨a, _, _, rfl, _, n, _⟩ := h2 (mem_contains hi)
  exact ⟨a, h1, n⟩⟩
def fScal (f : F) : F := fun ρ => (f ρ).bind fun d => if scalD d = true then some d else none
def fScalL (f : F) : F := fun ρ => (f ρ).bind fun d => match d with
  | .list ds => if ds.all scalD = true then some (.list ds) else none
  | _ => none
theorem gr_stay {Hs H H' : Hp} (e : Same Hs H) (g : Same H H') : Gr Hs H Hs H' := ⟨.refl _, g, e.trans g, fun _ h _ => h⟩
section
variable {X : Cx} {m : Md} {OB O O' W : List Nat} {e : Expr} {st : Stmt} {te : TE} {tt : TT} {ts : TS} {f : F} {ft : FT} {G : FS}
theorem DE.thaw (i : Nat) (h : DE X (del i O) .cl e te f) : DE X O .cl e te (fScal f) := ⟨h.pe, fun ρ σ Hs H d s hf Q q => by
  obtain ⟨d', h1, h2⟩ := bind_some hf
  obtain ⟨c, rfl⟩ := if_some (show (if scalD d' = true then some d' else none) = some d from h2)
  obtain ⟨Hs', x⟩ := (StOK.of_slots s).freeze i
  exact h.ev ρ σ Hs' H d' x.sl h1 Q fun v Hs2 H2 g r => q v Hs H2 (gr_stay s.sub g.h) (scal_R c r)⟩
theorem DE.thawL (i : Nat) (h : DE X (del i O) .ow e te f) : DE X O .ow e te (fScalL f) := ⟨h.pe, fun ρ σ Hs H d s hf Q q => by
  obtain ⟨d', h1, h2⟩ := bind_some hf
  cases d' <;> try (cases h2; done)
  rename_i ds
  obtain ⟨c, rfl⟩ := if_some (show (if ds.all scalD = true then some (PyData.list ds) else none) = some d from h2)
  obtain ⟨Hs', x⟩ := (StOK.of_slots s).freeze i
  exact h.ev ρ σ Hs' H _ x.sl h1 Q fun v Hs2 H2 g ⟨⟨a, vs, es, ev, ed, n1, n2, n3⟩, b, eb, hb⟩ => q v Hs H2 (gr_stay s.sub g.h) ⟨⟨a, vs, es, ev, ed, Same.free (x.gr.s.trans g.s) n1, n2, by
    cases ed
    exact scal_RA c n3⟩, b, eb, hb⟩⟩
theorem DT.thaw (i : Nat) (h : DT X (del i O) e tt ft) : DT X O e tt ft := ⟨h.pt, fun ρ σ Hs H b s hf Q q => by
  obtain ⟨Hs', x⟩ := (StOK.of_slots s).freeze i
  exact h.ev ρ σ Hs' H b x.sl hf Q fun Hs2 H2 g => q Hs H2 (gr_stay s.sub g.h)⟩
/-- what a statement may leave, if a list of one's own is to be that again behind it -/
def scalO : Option (Option PyData) → Bool
  | some (some d) => scalD d
  | _ => true
def scalLO : Option (Option PyData) → Bool
  | some (some (.list ds)) => ds.all scalD
  | some (some _) => false
  | _ => true
def okThaw (i : Nat) (O W : List Nat) (ρ : Rho) : Bool := !W.contains i && (W.all fun j => O.contains j || scalO ρ[j]?) && (O.all fun j => j == i || scalLO ρ[j]?)
def sThaw (i : Nat) (O W : List Nat) (G : FS) : FS := fun ρ => (G ρ).bind fun o => match o with
  | .nx ρ' => if okThaw i O W ρ' = true then some (.nx ρ') else none
  | .rt d => some (.rt d)
  | _ => none
theorem DS.thaw_ (i : Nat) (hi : O.contains i = true) (h : DS X m OB (del i O) (del i O) W st ts G) : DS X m OB O O W st ts (sThaw i O W G) := ⟨h.ps, fun ρ σ Hs0 H0 Hs H D o x hg q => by
  obtain ⟨o1, h1, h2⟩ := bind_some hg
  obtain ⟨Hs', x', low, at_i⟩ := x.freezeS i
  -- from here on what stands now, Hs', is the entry's part
  have gb : Gr Hs0 H0 Hs' H := x'.gr
  have lift : ∀ {Ks K : Hp}, Gr Hs' (joinH H0 Hs') Ks K → Gr Hs0 H0 Ks K := fun g => (gr_join gb).trans g
  refine h.ev ρ σ Hs' (joinH H0 Hs') Hs' H D o1 (x'.rebase gb (.refl _)) h1 ?_
  cases o1 with
  | bk _ => cases h2
  | ct _ => cases h2
  | rt d =>
    cases h2
    exact fun v Ks K g r => q v Ks K (lift g) (r.back joinH_l)
  | nx ρ' =>
    obtain ⟨c, rfl⟩ := if_some (show (if okThaw i O W ρ' = true then some (Out.nx ρ') else none) = some o from h2)
    unfold okThaw at c
    rw [Bool.and_eq_true, Bool.and_eq_true] at c
    obtain ⟨⟨c1, c2⟩, c3⟩ := c
    have niW : i ∉ W := fun z => by
      rw [mem_contains z] at c1
      cases c1
    intro σ' Hs2 H2 x2 fx
    have iO : i ∈ O := by simpa using hi
    have up : Same Hs Hs2 := low.trans x2.gr.s
    have sub : Same Hs H2 := up.trans x2.sl.sub
    have x3 : StOK (del i O) ρ' σ' Hs0 H0 Hs2 H2 := StOK.unbase gb x2
    -- a place's value, standing in Hs again
    have scal_own : ∀ (j : Nat) (d : PyData), j ∈ O → j ≠ i → ρ'[j]? = some (some d) → ∃ v, σ'[j]? = some (some v) ∧ Own Hs H2 v d := fun j d hj hji hd => by
      obtain ⟨v, k1, k2, _⟩ := x3.sl.val j d hd
      obtain ⟨b, ws, es, rfl, rfl, m1, m2, m3⟩ := k2 (by rw [del_contains, mem_contains hj]; simpa using hji)
      have cj := List.all_eq_true.mp c3 j hj
      rw [hd] at cj
      have cs : es.all scalD = true := by
        rcases Bool.or_eq_true_iff.mp cj with z | z
        · exact absurd (by simpa using z) hji
        · exact z
      exact ⟨_, k1, b, ws, es, rfl, rfl, Same.free up m1, m2, scal_RA cs m3⟩
    have itself : ∀ d, ρ'[i]? = some (some d) → ∃ v, σ'[i]? = some (some v) ∧ Own Hs H2 v d ∧ ∃ a, v = .ref a ∧ H0 a = none ∧ Hs2 a ≠ none := fun d hd => by
      have e1 := (fx i niW).1
      have e2 := (fx i niW).2
      rw [e2] at hd
      obtain ⟨v, k1, k2, _⟩ := x.sl.val i d hd
      obtain ⟨a, vs, ds, rfl, rfl, n1, n2, n3⟩ := k2 hi
      obtain ⟨a', ka, kb⟩ := x.new i iO _ hd
      rw [k1] at ka
      obtain rfl := V.ref.inj (Option.some.inj (Option.some.inj ka))
      have s1 : Hs' a = some (.lst vs) := by rw [at_i a _ iO hd k1]; exact n2
      have s2 : Hs2 a = some (.lst vs) := x2.gr.s _ _ s1
      exact ⟨_, by rw [e1]; exact k1, ⟨a, vs, ds, rfl, rfl, n1, x2.sl.sub _ _ s2, n3⟩, a, rfl, kb, by rw [s2]; simp⟩
    refine q σ' Hs H2 ⟨⟨sub, x2.sl.len, fun j d hd => ?_, fun j k dj dk v hn o1 o2 e1 e2 s1 s2 => ?_⟩, ⟨x.gr.s, x3.gr.h, sub, x.gr.non⟩, fun j hj d hd => ?_⟩ fx
    · by_cases hji : j = i
      · subst hji
        obtain ⟨v, k1, k2, _⟩ := itself d hd
        exact ⟨v, k1, fun _ => k2, fun z => by rw [hi] at z; cases z⟩
      · by_cases hjO : j ∈ O
        · obtain ⟨v, k1, k2⟩ := scal_own j d hjO hji hd
          exact ⟨v, k1, fun _ => k2, fun z => by rw [mem_contains hjO] at z; cases z⟩
        · have ho : O.contains j = false := by simpa using hjO
          by_cases hjW : j ∈ W
          · have cj := List.all_eq_true.mp c2 j hjW
            rw [hd, ho] at cj
            obtain ⟨v, k1, _, k3⟩ := x3.sl.val j d hd
            exact ⟨v, k1, fun z => (by rw [ho] at z; cases z), fun _ => scal_R (show scalD d = true by rw [Bool.false_or] at cj; exact cj) (k3 (by rw [del_contains, ho]; rfl))⟩
          · obtain ⟨e1, e2⟩ := fx j hjW
            rw [e2] at hd
            obtain ⟨v, k1, _, k3⟩ := x.sl.val j d hd
            exact ⟨v, by rw [e1]; exact k1, fun z => (by rw [ho] at z; cases z), fun _ => k3 ho⟩
    · have hj : j ∈ O := by simpa using o1
      have hk : k ∈ O := by simpa using o2
      by_cases hji : j = i
      · subst hji
        have hkj : k ≠ j := fun z => hn z.symm
        obtain ⟨v1, k1, _, a, rfl, _, k4⟩ := itself dj e1
        rw [s1] at k1
        obtain rfl := Option.some.inj (Option.some.inj k1)
        obtain ⟨v2, m1, m2, _⟩ := x3.sl.val k dk e2
        obtain ⟨b, _, _, rfl, _, n1, _⟩ := m2 (by rw [del_contains, o2]; simpa using hkj)
        rw [s2] at m1
        obtain rfl := V.ref.inj (Option.some.inj (Option.some.inj m1))
        exact k4 n1
      · by_cases hki : k = i
        · subst hki
          obtain ⟨v1, k1, _, a, rfl, _, k4⟩ := itself dk e2
          rw [s2] at k1
          obtain rfl := Option.some.inj (Option.some.inj k1)
          obtain ⟨v2, m1, m2, _⟩ := x3.sl.val j dj e1
          obtain ⟨b, _, _, rfl, _, n1, _⟩ := m2 (by rw [del_contains, o1]; simpa using hji)
          rw [s1] at m1
          obtain rfl := V.ref.inj (Option.some.inj (Option.some.inj m1))
          exact k4 n1
        · exact x3.sl.dis j k dj dk v hn (by rw [del_contains, o1]; simpa using hji) (by rw [del_contains, o2]; simpa using hki) e1 e2 s1 s2
    · by_cases hji : j = i
      · subst hji
        obtain ⟨v, k1, _, a, rfl, k3, _⟩ := itself d hd
        exact ⟨a, k1, k3⟩
      · exact x3.new j (mem_del.mpr ⟨hj, hji⟩) d hd⟩
theorem DS.thaw (i : Nat) {V : List Nat} (h : DS X m OB (del i O) (del i O) W st ts G) (hi : O.contains i = true := by rfl) (hW : W = V := by rfl) : DS X m OB O O W st ts (sThaw i O V G) := by
  subst hW
  exact DS.thaw_ i hi h
end
end DL
namespace DL
open PySem PySem.Spec L2
open PyProof.Rows hiding St
theorem cx_dead {P : Program} {w : World} {H : Hp} {s : Shared} {e : Value} {s' : Shared} (h : L2.CX P w [] H s (fun _ _ _ => False) e s') : False := by
  obtain ⟨_, _, _, _, _, _, _, _, _, _, _, _, z⟩ := h
  exact z
end DL
set_option Elab.async false
set_option linter.all false
set_option maxRecDepth 100000
namespace DL
open PySem PySem.Spec L2
open PyProof.Rows hiding St
/-! ### reckoning -/
theorem fBin_eq {g : PyData → PyData → Option PyData} {a b : F} {ρ : Rho} {x y : PyData} (ha : a ρ = some x) (hb : b ρ = some y) : fBin g a b ρ = g x y := by
  unfold fBin
  rw [ha, Option.bind_some, hb, Option.bind_some]
theorem dAdd_i (a b : Int) : dAdd (.int a) (.int b) = some (.int (a + b)) := rfl
theorem dSub_i (a b : Int) : dSub (.int a) (.int b) = some (.int (a - b)) := rfl
theorem gI_pos {C : Int → Int → Bool} {k : Int → Int → PyData} {i j : Int} (h : C i j = true) : gI C k (.int i) (.int j) = some (k i j) := if_pos h
theorem intBits_le {i : Int} {n : Nat} (h : i.natAbs < 2 ^ n) : Builtin.Int.intBits i ≤ n := by
  unfold Builtin.Int.intBits
  split
  · exact Nat.zero_le _
  · rename_i h0
    have hn : i.natAbs ≠ 0 := by
      intro z
      apply h0
      simpa using z
    have := (Nat.log2_lt hn).mpr h
    omega
theorem dMul_b {a b : Int} {n m : Nat} (ha : a.natAbs < 2 ^ n) (hb : b.natAbs < 2 ^ m) (h : n + m ≤ 134217728) : dMul (.int a) (.int b) = some (.int (a * b)) := gI_pos (decide_eq_true (by
  have h1 := intBits_le ha
  have h2 := intBits_le hb
  omega))
theorem dMod_i {a b : Int} (h : b ≠ 0) : dMod (.int a) (.int b) = some (.int (a.fmod b)) := gI_pos (decide_eq_true h)
theorem dMod_p {a b : Int} (h : 0 < b) : dMod (.int a) (.int b) = some (.int (a % b)) := by
  rw [dMod_i (by omega), Int.fmod_eq_emod_of_nonneg _ (by omega)]
theorem log2_lt' {n k : Nat} (h : n < 2 ^ k) (hk : 0 < k) : n.log2 < k := by
  by_cases h0 : n = 0
  · subst h0
    simpa using hk
  · exact (Nat.log2_lt h0).mpr h
theorem dDiv_b {a b : Int} {n : Nat} (h : b ≠ 0) (hb : b.natAbs < 2 ^ n) (hn : n ≤ 9000) (h0 : 0 < n) : dDiv (.int a) (.int b) = some (.int (a.fdiv b)) := gI_pos (decide_eq_true ⟨h, Nat.lt_of_lt_of_le (log2_lt' hb h0) hn⟩)
theorem dDiv_p {a b : Int} {n : Nat} (h : 0 < b) (hb : b.natAbs < 2 ^ n) (hn : n ≤ 9000) (h0 : 0 < n) : dDiv (.int a) (.int b) = some (.int (a / b)) := by
  rw [dDiv_b (by omega) hb hn h0, Int.fdiv_eq_ediv_of_nonneg _ (by omega)]
theorem dLt_i (a b : Int) : dLt (.int a) (.int b) = some (.bool (decide (a < b))) := rfl
theorem dLe_i (a b : Int) : dLe (.int a) (.int b) = some (.bool (decide (a ≤ b))) := rfl
theorem dGt_i (a b : Int) : dGt (.int a) (.int b) = some (.bool (decide (b < a))) := rfl
theorem dGe_i (a b : Int) : dGe (.int a) (.int b) = some (.bool (decide (b ≤ a))) := rfl
theorem dEq_i (a b : Int) : dEq (.int a) (.int b) = some (.bool (a == b)) := rfl
theorem dNe_i (a b : Int) : dNe (.int a) (.int b) = some (.bool (!(a == b))) := rfl
theorem dEq_s (a b : Str) (h : (SeqAt.shaped (.str a) && SeqAt.shaped (.str b)) = true) : dEq (.str a) (.str b) = some (.bool (a == b)) := if_pos h
/-- vectors -/
def vecD (ns : List Int) : PyData := .list (ns.map .int)
theorem shaped_ints_all : ∀ ns : List Int, PyData.canLayAll0 (ns.map PyData.int) = true
  | [] => by simp [PyData.canLayAll0]
  | n :: r => by simp [PyData.canLayAll0, PyData.canLay0, shaped_ints_all r]
theorem depth_ints_all : ∀ ns : List Int, PyData.depthAll (ns.map PyData.int) ≤ 1
  | [] => by simp [PyData.depthAll]
  | n :: r => by
    have := depth_ints_all r
    simp only [List.map_cons, PyData.depthAll, PyData.depth]
    omega
theorem shaped_ints (ns : List Int) : SeqAt.shaped (vecD ns) = true := by
  have h1 : PyData.canLay0 (vecD ns) = true := by
    simp only [vecD, PyData.canLay0]
    exact shaped_ints_all ns
  have h2 : PyData.depth (vecD ns) ≤ 64 := by
    simp only [vecD, PyData.depth]
    have := depth_ints_all ns
    omega
  show (PyData.canLay0 (vecD ns) && decide (PyData.depth (vecD ns) ≤ 64)) = true
  rw [h1, Bool.true_and]
  exact decide_eq_true h2
theorem eqv_ints_all : ∀ xs ys : List Int, PyData.eqvAll (xs.map PyData.int) (ys.map PyData.int) = decide (xs = ys)
  | [], [] => by simp [PyData.eqvAll]
  | [], _ :: _ => by simp [PyData.eqvAll]
  | _ :: _, [] => by simp [PyData.eqvAll]
  | x :: xs, y :: ys => by
    simp only [List.map_cons, PyData.eqvAll, PyData.eqv, eqv_ints_all xs ys, List.cons.injEq]
    by_cases h : x = y <;> simp [h]
theorem eqv_ints (xs ys : List Int) : PyData.eqv (vecD xs) (vecD ys) = decide (xs = ys) := by
  simp only [vecD, PyData.eqv]
  exact eqv_ints_all xs ys
theorem dEq_v (xs ys : List Int) : dEq (vecD xs) (vecD ys) = some (.bool (decide (xs = ys))) := by
  unfold dEq
  rw [shaped_ints, shaped_ints, eqv_ints] <;> rfl
theorem dNe_v (xs ys : List Int) : dNe (vecD xs) (vecD ys) = some (.bool (!decide (xs = ys))) := by
  unfold dNe
  rw [shaped_ints, shaped_ints, eqv_ints] <;> rfl
theorem dIx_v {xs : List Int} {i : Int} {j : Nat} {x : Int} (hi : i = j) (h : xs[j]? = some x) : dIx (vecD xs) (.int i) = some (.int x) := by
  subst hi
  show atI (xs.map PyData.int) (j : Int) = _
  exact atI_nat (by rw [List.getElem?_map, h]; rfl)
theorem dLen_v (xs : List Int) : dLen (vecD xs) = some (.int xs.length) := by
  show some (PyData.int ((xs.map PyData.int).length : Int)) = _
  rw [List.length_map]
theorem intsOf_v : ∀ ns : List Int, intsOf (ns.map PyData.int) = some ns
  | [] => rfl
  | n :: r => by
    show (intsOf (r.map PyData.int)).map (n :: ·) = some (n :: r)
    rw [intsOf_v r] <;> rfl
theorem boolsOf_v : ∀ ns : List Bool, boolsOf (ns.map PyData.bool) = some ns
  | [] => rfl
  | n :: r => by
    show (boolsOf (r.map PyData.bool)).map (n :: ·) = some (n :: r)
    rw [boolsOf_v r] <;> rfl
theorem dSum_v (xs : List Int) : dSum (vecD xs) = some (.int xs.sum) := by
  show (intsOf (xs.map PyData.int)).map _ = _
  rw [intsOf_v] <;> rfl
theorem dAnyI_v (xs : List Int) : dAnyI (vecD xs) = some (.bool (xs.any fun n => n != 0)) := by
  show (intsOf (xs.map PyData.int)).map _ = _
  rw [intsOf_v] <;> rfl
/-- loops whose turns all go on -/
theorem loop_go {k : FG} {B : FS} (Inv : Nat → Rho → Prop) : ∀ {ds : List PyData} (i : Nat) {ρ : Rho}, Inv i ρ →
    (∀ (j : Nat) (d : PyData) (ρ : Rho), ds[j]? = some d → Inv (i + j) ρ → ∃ ρ1 ρ2, k d ρ = some ρ1 ∧ (B ρ1 = some (.nx ρ2) ∨ B ρ1 = some (.ct ρ2)) ∧ Inv (i + j + 1) ρ2) → ∃ ρ', loopF k B ds ρ = some (.nx ρ') ∧ Inv (i + ds.length) ρ'
  | [], i, ρ, h0, _ => ⟨ρ, rfl, h0⟩
  | d :: ds, i, ρ, h0, step => by
    obtain ⟨ρ1, ρ2, h1, h2, h3⟩ := step 0 d ρ rfl h0
    obtain ⟨ρ', e, h⟩ := loop_go (ds := ds) Inv (i + 1) h3 fun j e ρ he hI => by
      have q := step (j + 1) e ρ (by simpa using he) (by rw [show i + (j + 1) = i + 1 + j by omega]; exact hI)
      rw [show i + (j + 1) + 1 = i + 1 + j + 1 by omega] at q
      exact q
    refine ⟨ρ', ?_, by rw [show i + (d :: ds).length = i + 1 + ds.length by rw [List.length_cons]; omega]; exact h⟩
    show (k d ρ).bind _ = _
    rw [h1, Option.bind_some]
    rcases h2 with h2 | h2 <;> (rw [h2, Option.bind_some]; exact e)
theorem seq_nx {a b : FS} {ρ ρ' : Rho} {o : Option Out} (h : a ρ = some (.nx ρ')) (h2 : b ρ' = o) : sSeq a b ρ = o := by
  unfold sSeq
  rw [h, Option.bind_some]
  exact h2
theorem seq_rt {a b : FS} {ρ : Rho} {d : PyData} (h : a ρ = some (.rt d)) : sSeq a b ρ = some (.rt d) := by
  unfold sSeq
  rw [h, Option.bind_some]
theorem asg_nx {i : Nat} {f : F} {ρ : Rho} {d : PyData} (h : f ρ = some d) : sAsg i f ρ = some (.nx (ρ.set i (some d))) := by
  unfold sAsg
  rw [h] <;> rfl
theorem if_t {c : FT} {a b : FS} {ρ : Rho} (h : c ρ = some true) : sIf c a b ρ = a ρ := by
  unfold sIf
  rw [h, Option.bind_some, if_pos rfl]
theorem if_f {c : FT} {a b : FS} {ρ : Rho} (h : c ρ = some false) : sIf c a b ρ = b ρ := by
  unfold sIf
  rw [h, Option.bind_some, if_neg Bool.false_ne_true]
theorem ret_rt {f : F} {ρ : Rho} {d : PyData} (h : f ρ = some d) : sRet f ρ = some (.rt d) := by
  unfold sRet
  rw [h] <;> rfl
theorem runF_rt {nl : Nat} {B : FS} {ds : List PyData} {d : PyData} (h : B (ds.map some ++ List.replicate (nl - ds.length) none) = some (.rt d)) : runF nl B ds = some d := by
  unfold runF
  rw [h] <;> rfl
/-- comprehensions -/
theorem lcF_map {k : FG} {t : FT} {el : F} {ρ : Rho} {α : Type} {h : α → PyData} {g : α → PyData} : ∀ {xs : List α}, (∀ x ∈ xs, ∃ ρ1, k (h x) ρ = some ρ1 ∧ t ρ1 = some true ∧ el ρ1 = some (g x)) → lcF k t el ρ (xs.map h) = some (xs.map g)
  | [], _ => rfl
  | x :: xs, hx => by
    obtain ⟨ρ1, h1, h2, h3⟩ := hx x (List.mem_cons_self ..)
    have ih := lcF_map (xs := xs) fun y hy => hx y (List.mem_cons_of_mem _ hy)
    show (k (h x) ρ).bind _ = _
    rw [h1, Option.bind_some, h2, Option.bind_some, if_pos rfl, h3, Option.bind_some, ih] <;> rfl
theorem catC_le {n m : Nat} (h : n + m ≤ 100000) : catC n m = true := decide_eq_true h
theorem fLc_map {src : FA} {k : FG} {t : FT} {el : F} {vs : List Nat} {ρ : Rho} {α : Type} {h : α → PyData} {g : α → PyData} {xs : List α} (hs : src ρ = some (xs.map h)) (hl : xs.length ≤ 90000) (hx : ∀ x ∈ xs, ∃ ρ1, k (h x) (wipeR ρ vs) = some ρ1 ∧ t ρ1 = some true ∧ el ρ1 = some (g x)) :
    fLc src k t el vs ρ = some (.list (xs.map g)) := by
  unfold fLc
  rw [hs, Option.bind_some, if_pos (catC_le (by rw [List.length_map]; omega)), lcF_map hx] <;> rfl
theorem iR1_ok {f : F} {ρ : Rho} {j : Int} (h : f ρ = some (.int j)) (hr : rgC j = true) : iR1 f ρ = some (rangeD 0 j.toNat) := by
  unfold iR1
  rw [h, Option.bind_some]
  exact if_pos hr
theorem iR2_ok {f g : F} {ρ : Rho} {i j : Int} (h : f ρ = some (.int i)) (h' : g ρ = some (.int j)) (hr : rgC i = true) (hr' : rgC j = true) : iR2 f g ρ = some (rangeD i (j - i).toNat) := by
  unfold iR2
  rw [h, Option.bind_some, h', Option.bind_some]
  exact if_pos (by rw [hr, hr'] <;> rfl)
theorem iR3_ok {f g h : F} {ρ : Rho} {i j c : Int} (h1 : f ρ = some (.int i)) (h2 : g ρ = some (.int j)) (h3 : h ρ = some (.int c)) (hr : rg3C i j c = true) : iR3 f g h ρ = some (rangeC i c (Builtin.Range.rangeSize i j c).toNat) := by
  unfold iR3
  rw [h1, Option.bind_some, h2, Option.bind_some, h3, Option.bind_some]
  exact if_pos hr
theorem for_eq {src : FA} {k : FG} {B : FS} {ρ : Rho} {ds : List PyData} (h : src ρ = some ds) : sFor src k B ρ = loopF k B ds ρ := by
  unfold sFor
  rw [h, Option.bind_some]
theorem rgC_ok {i : Int} (h1 : -(2 ^ 62) ≤ i) (h2 : i < 2 ^ 62) : rgC i = true := decide_eq_true ⟨h1, h2⟩
end DL
set_option Elab.async false
set_option linter.all false
set_option maxRecDepth 100000
namespace DL
open PySem PySem.Spec L2
open PyProof.Rows hiding St
/-! ### the text of data of numbers -/
mutual
def plainB (k : Nat) : PyData → Bool
  | .none => true
  | .bool _ => true
  | .int i => decide (i.natAbs < 10 ^ k)
  | .list xs => plainAll k xs
  | .tuple xs => plainAll k xs
  | .str _ => false
  | .dict _ => false
def plainAll (k : Nat) : List PyData → Bool
  | [] => true
  | x :: xs => plainB k x && plainAll k xs
end
mutual
def nodesD : PyData → Nat
  | .none => 1
  | .bool _ => 1
  | .int _ => 1
  | .list xs => 1 + nodesAll xs
  | .tuple xs => 1 + nodesAll xs
  | .str _ => 1
  | .dict _ => 1
def nodesAll : List PyData → Nat
  | [] => 0
  | x :: xs => nodesD x + nodesAll xs
end
set_option exponentiation.threshold 2000 in
theorem pow_log {n k : Nat} (h : n < 10 ^ k) (hk : k ≤ 479) : n.log2 < 1920 := by
  have h1 : n < 2 ^ 1920 := Nat.lt_of_lt_of_le h (Nat.le_trans (Nat.pow_le_pow_left (by omega : 10 ≤ 2 ^ 4) k) (by rw [← Nat.pow_mul]; exact Nat.pow_le_pow_right (by decide) (by omega)))
  exact log2_lt' h1 (by omega)
mutual
theorem plain_showable {k : Nat} (hk : k ≤ 479) : ∀ d : PyData, plainB k d = true → d.showable = true
  | .none, _ => rfl
  | .bool _, _ => rfl
  | .int i, h => by
    unfold plainB at h
    unfold PyData.showable
    exact decide_eq_true (pow_log (of_decide_eq_true h) hk)
  | .list xs, h => by
    unfold plainB at h
    unfold PyData.showable
    exact plain_showableAll hk xs h
  | .tuple xs, h => by
    unfold plainB at h
    unfold PyData.showable
    exact plain_showableAll hk xs h
  | .str _, h => by
    unfold plainB at h
    cases h
  | .dict _, h => by
    unfold plainB at h
    cases h
theorem plain_showableAll {k : Nat} (hk : k ≤ 479) : ∀ xs : List PyData, plainAll k xs = true → PyData.showableAll xs = true
  | [], _ => rfl
  | x :: xs, h => by
    unfold plainAll at h
    rw [Bool.and_eq_true] at h
    unfold PyData.showableAll
    rw [plain_showable hk x h.1, plain_showableAll hk xs h.2] <;> rfl
end
mutual
theorem plain_nodict {k : Nat} : ∀ d : PyData, plainB k d = true → d.hasDict = false
  | .none, _ => rfl
  | .bool _, _ => rfl
  | .int i, h => rfl
  | .list xs, h => by
    unfold plainB at h
    unfold PyData.hasDict
    exact plain_nodictAll xs h
  | .tuple xs, h => by
    unfold plainB at h
    unfold PyData.hasDict
    exact plain_nodictAll xs h
  | .str _, h => rfl
  | .dict _, h => by
    unfold plainB at h
    cases h
theorem plain_nodictAll {k : Nat} : ∀ xs : List PyData, plainAll k xs = true → PyData.hasDictAll xs = false
  | [], _ => rfl
  | x :: xs, h => by
    unfold plainAll at h
    rw [Bool.and_eq_true] at h
    unfold PyData.hasDictAll
    rw [plain_nodict x h.1, plain_nodictAll xs h.2] <;> rfl
end
mutual
theorem plain_lay {k : Nat} : ∀ d : PyData, plainB k d = true → d.canLay0 = true
  | .none, _ => rfl
  | .bool _, _ => rfl
  | .int i, h => rfl
  | .list xs, h => by
    unfold plainB at h
    unfold PyData.canLay0
    exact plain_layAll xs h
  | .tuple xs, h => by
    unfold plainB at h
    unfold PyData.canLay0
    exact plain_layAll xs h
  | .str _, h => by
    unfold plainB at h
    cases h
  | .dict _, h => by
    unfold plainB at h
    cases h
theorem plain_layAll {k : Nat} : ∀ xs : List PyData, plainAll k xs = true → PyData.canLayAll0 xs = true
  | [], _ => rfl
  | x :: xs, h => by
    unfold plainAll at h
    rw [Bool.and_eq_true] at h
    unfold PyData.canLayAll0
    rw [plain_lay x h.1, plain_layAll xs h.2] <;> rfl
end
theorem shaped_plain {k : Nat} {d : PyData} (h : plainB k d = true) (hd : d.depth ≤ 60) : SeqAt.shaped d = true := by
  show (PyData.canLay0 d && decide (PyData.depth d ≤ 64)) = true
  rw [plain_lay d h, Bool.true_and]
  exact decide_eq_true (by omega)
theorem dEq_p {k : Nat} {x y : PyData} (h : plainB k x = true) (hd : x.depth ≤ 60) (h2 : plainB k y = true) (hd2 : y.depth ≤ 60) : dEq x y = some (.bool (PyData.eqv x y)) := by
  unfold dEq
  rw [shaped_plain h hd, shaped_plain h2 hd2] <;> rfl
theorem dNe_p {k : Nat} {x y : PyData} (h : plainB k x = true) (hd : x.depth ≤ 60) (h2 : plainB k y = true) (hd2 : y.depth ≤ 60) : dNe x y = some (.bool (!PyData.eqv x y)) := by
  unfold dNe
  rw [shaped_plain h hd, shaped_plain h2 hd2] <;> rfl
def lenAll : List Str → Nat
  | [] => 0
  | t :: ts => t.length + 2 + lenAll ts
theorem join_len : ∀ ts : List Str, (Str.join ", " ts).length ≤ lenAll ts
  | [] => Nat.zero_le _
  | [x] => by
    show x.length ≤ x.length + 2 + 0
    omega
  | x :: y :: r => by
    have ih := join_len (y :: r)
    show (x ++ ((", " : String) : Str) ++ Str.join ", " (y :: r)).length ≤ x.length + 2 + lenAll (y :: r)
    rw [strLen_append, strLen_append]
    have : ((", " : String) : Str).length = 2 := by decide +kernel
    omega
theorem intlen {i : Int} {k : Nat} (hk : 0 < k) (h : i.natAbs < 10 ^ k) : ((toString i : String) : Str).length ≤ k + 1 := by
  have e := int_text_length_le10 hk h
  have e2 : ((toString i : String) : Str).length = (toString i).length := by
    exact PySem.ofString_length _
  omega
mutual
theorem plain_len {k : Nat} (hk : 0 < k) : ∀ d : PyData, plainB k d = true → d.shown.length + 2 ≤ (k + 8) * nodesD d
  | .none, _ => by
    rw [PyData.shown_none]
    have : ((("None" : String) : Str)).length = 4 := by decide +kernel
    unfold nodesD
    omega
  | .bool b, _ => by
    rw [PyData.shown_bool]
    unfold nodesD
    cases b with
    | true =>
      have : ((("True" : String) : Str)).length = 4 := by decide +kernel
      rw [if_pos rfl]
      omega
    | false =>
      have : ((("False" : String) : Str)).length = 5 := by decide +kernel
      rw [if_neg Bool.false_ne_true]
      omega
  | .int i, h => by
    unfold plainB at h
    rw [PyData.shown_int]
    have := intlen hk (of_decide_eq_true h)
    unfold nodesD
    omega
  | .list xs, h => by
    unfold plainB at h
    rw [PyData.shown_list, strLen_append, strLen_append]
    have h1 := join_len (PyData.shownAll xs)
    have h2 := plain_lenAll hk xs h
    have : ((("[" : String) : Str)).length = 1 := by decide +kernel
    have : ((("]" : String) : Str)).length = 1 := by decide +kernel
    unfold nodesD
    rw [Nat.mul_add]
    omega
  | .tuple xs, h => by
    unfold plainB at h
    rw [PyData.shown_tuple, strLen_append, strLen_append]
    have h1 := join_len (PyData.shownAll xs)
    have h2 := plain_lenAll hk xs h
    have : ((("(" : String) : Str)).length = 1 := by decide +kernel
    have : (((if xs.length == 1 then ",)" else ")" : String) : Str)).length ≤ 2 := by split <;> decide +kernel
    unfold nodesD
    rw [Nat.mul_add]
    omega
  | .str _, h => by
    unfold plainB at h
    cases h
  | .dict _, h => by
    unfold plainB at h
    cases h
theorem plain_lenAll {k : Nat} (hk : 0 < k) : ∀ xs : List PyData, plainAll k xs = true → lenAll (PyData.shownAll xs) ≤ (k + 8) * nodesAll xs
  | [], _ => by
    rw [PyData.shownAll_nil]
    exact Nat.zero_le _
  | x :: xs, h => by
    unfold plainAll at h
    rw [Bool.and_eq_true] at h
    rw [PyData.shownAll_cons]
    have h1 := plain_len hk x h.1
    have h2 := plain_lenAll hk xs h.2
    show (PyData.shown x).length + 2 + lenAll (PyData.shownAll xs) ≤ _
    unfold nodesAll
    rw [Nat.mul_add]
    omega
end
theorem reprC_plain {k : Nat} {d : PyData} (hk0 : 0 < k) (hk : k ≤ 479) (h : plainB k d = true) (hd : d.depth ≤ 60) (hn : (k + 8) * nodesD d ≤ 16000000) : reprC d = true := by
  unfold reprC
  rw [plain_showable hk d h, plain_nodict d h, decide_eq_true hd]
  have := plain_len hk0 d h
  rw [decide_eq_true (show d.shown.length ≤ 16000000 by omega)] <;> rfl
theorem strOk_of (s : String) : PyData.strOk (Str.ofString s) = true := by
  rw [Str.ofString_eq_toList]
  unfold PyData.strOk
  simp only [Array.all_eq_true_iff_forall_mem, List.mem_toArray, List.mem_map]
  rintro x ⟨c, _, rfl⟩
  have := c.valid
  rcases this with h | h
  · exact decide_eq_true (Nat.lt_trans h (by decide))
  · exact decide_eq_true h.2
theorem strOk_append (a b : Str) (ha : PyData.strOk a = true) (hb : PyData.strOk b = true) : PyData.strOk (a ++ b) = true := by
  have e : (a ++ b).cps = a.cps ++ b.cps := rfl
  unfold PyData.strOk at *
  rw [e]
  simp only [Array.all_append, ha, hb, Bool.and_self]
def okAll (ts : List Str) : Prop := ∀ t ∈ ts, PyData.strOk t = true
theorem join_ok : ∀ ts : List Str, okAll ts → PyData.strOk (Str.join ", " ts) = true
  | [], _ => strOk_of ""
  | [x], h => h x (List.mem_cons_self ..)
  | x :: y :: r, h => by
    show PyData.strOk (x ++ ((", " : String) : Str) ++ Str.join ", " (y :: r)) = true
    exact strOk_append _ _ (strOk_append _ _ (h x (List.mem_cons_self ..)) (strOk_of _)) (join_ok (y :: r) fun t ht => h t (List.mem_cons_of_mem _ ht))
mutual
theorem plain_strOk {k : Nat} : ∀ d : PyData, plainB k d = true → PyData.strOk d.shown = true
  | .none, _ => by
    rw [PyData.shown_none]
    exact strOk_of _
  | .bool b, _ => by
    rw [PyData.shown_bool]
    split <;> exact strOk_of _
  | .int i, h => by
    rw [PyData.shown_int]
    exact strOk_of _
  | .list xs, h => by
    unfold plainB at h
    rw [PyData.shown_list]
    exact strOk_append _ _ (strOk_append _ _ (strOk_of _) (join_ok _ (plain_strOkAll xs h))) (strOk_of _)
  | .tuple xs, h => by
    unfold plainB at h
    rw [PyData.shown_tuple]
    exact strOk_append _ _ (strOk_append _ _ (strOk_of _) (join_ok _ (plain_strOkAll xs h))) (strOk_of _)
  | .str _, h => by
    unfold plainB at h
    cases h
  | .dict _, h => by
    unfold plainB at h
    cases h
theorem plain_strOkAll {k : Nat} : ∀ xs : List PyData, plainAll k xs = true → okAll (PyData.shownAll xs)
  | [], _ => by
    rw [PyData.shownAll_nil]
    exact fun _ h => nomatch h
  | x :: xs, h => by
    unfold plainAll at h
    rw [Bool.and_eq_true] at h
    rw [PyData.shownAll_cons]
    intro t ht
    rcases List.mem_cons.mp ht with rfl | ht
    · exact plain_strOk x h.1
    · exact plain_strOkAll xs h.2 t ht
end
theorem eqv_str (s : Str) : PyData.eqv (.str s) (.str s) = true := by
  simp [PyData.eqv]
theorem shaped_str {s : Str} (h : PyData.strOk s = true) : SeqAt.shaped (.str s) = true := by
  show (PyData.canLay0 (.str s) && decide (PyData.depth (.str s) ≤ 64)) = true
  rw [show PyData.canLay0 (.str s) = PyData.strOk s by unfold PyData.canLay0; rfl, h]
  rfl
theorem dNe_s {s : Str} (h : PyData.strOk s = true) : dNe (.str s) (.str s) = some (.bool false) := by
  unfold dNe
  rw [shaped_str h, eqv_str] <;> rfl
/-- the text of data of numbers, as a text that is equal to itself -/
theorem repr_plain {k : Nat} {xs : List PyData} (hk0 : 0 < k) (hk : k ≤ 479) (h : plainB k (.list xs) = true) (hd : (PyData.list xs).depth ≤ 60) (hn : (k + 8) * nodesD (.list xs) ≤ 16000000) : ∃ s, dRepr (.list xs) = some (.str s) ∧ PyData.strOk s = true :=
  ⟨_, if_pos (reprC_plain hk0 hk h hd hn), plain_strOk _ h⟩
theorem plain_ints {k : Nat} {v : List Int} (h : ∀ x ∈ v, x.natAbs < 10 ^ k) : plainAll k (v.map .int) = true := by
  induction v with
  | nil => rfl
  | cons x v ih =>
    rw [List.map_cons]
    unfold plainAll
    rw [ih fun y hy => h y (List.mem_cons_of_mem _ hy)]
    unfold plainB
    rw [decide_eq_true (h x (List.mem_cons_self ..))] <;> rfl
theorem nodes_ints (v : List Int) : nodesAll (v.map .int) = v.length := by
  induction v with
  | nil => rfl
  | cons x v ih =>
    rw [List.map_cons, List.length_cons]
    unfold nodesAll
    rw [ih]
    unfold nodesD
    omega
end DL
set_option Elab.async false
set_option linter.all false
set_option maxRecDepth 100000
namespace DL
open PySem PySem.Spec L2
open PyProof.Rows hiding St
variable [KF]
/-! ### what is raised: a second reading beside the first -/
abbrev GXs := Rho → Option Str
/-- a class of the program's own, without own __init__, that is raised with a text -/
structure ErrC (K : PySem.W.Frag) (mg : Str → Option Value) (n : Str) (C : Addr) : Prop where
  g : mg n = some (.ref C)
  q : ∃ bmB, ExcBaseFacts "ValueError" "ValueError.__new__" "ValueError.__init__" bmB ∧ PySem.W.excIn K C bmB "ValueError.__new__" = true
  k : PySem.W.keepIn K (.ref C) = true
  s : PySem.W.subIn K (.ref C) (.type "BaseException") = some true
  t : PySem.W.typeIn K (.ref C) = some (.type "type")
def SemX (X : Cx) (O : List Nat) (ts : TS) (GX : GXs) (Wx : WX) : Prop := ∀ (ρ : Rho) (σ : St) (Hs0 H0 Hs H : Hp) (D : Ends) (n : Str), StOK O ρ σ Hs0 H0 Hs H → GX ρ = some n →
  (∀ (C : Addr) (σ' : St) (Hs' H' : Hp), X.mg n = some (.ref C) → Gr Hs0 H0 Hs' H' → Wx (.ref C) none σ' H') → ts D σ H
structure DX (X : Cx) (m : Md) (OB O O' W : List Nat) (st : Stmt) (ts : TS) (G : FS) (Wx : WX) (GX : GXs) : Prop where
  ds : DS X m OB O O' W st ts G
  ex : SemX X O ts GX Wx
structure DXs (X : Cx) (m : Md) (OB O O' W : List Nat) (st : List Stmt) (ts : TS) (G : FS) (Wx : WX) (GX : GXs) : Prop where
  ds : DSs X m OB O O' W st ts G
  ex : SemX X O ts GX Wx
def xNo : GXs := fun _ => none
def xIf (c : FT) (a b : GXs) : GXs := fun ρ => (c ρ).bind fun k => if k = true then a ρ else b ρ
def xSeq (a : GXs) (g : FS) (b : GXs) : GXs := fun ρ => match a ρ with
  | some n => some n
  | none => (g ρ).bind fun o => match o with
    | .nx ρ' => b ρ'
    | _ => none
def sErr : FS := fun _ => none
section
variable {X : Cx} {m : Md} {OB O O' O'' W W' : List Nat} {st : Stmt} {rest s1 s2 : List Stmt} {t u : TS} {G G' : FS} {e c : Expr} {te : TE} {f : F} {ft : FT} {tc : TT} {pos : Pos} {Wx : WX} {GX GX' : GXs}
theorem dx_of (h : DS X m OB O O' W st t G) : DX X m OB O O' W st t G Wx xNo := ⟨h, fun ρ σ Hs0 H0 Hs H D n x hg => nomatch hg⟩
theorem dxs_of (h : DSs X m OB O O' W rest t G) : DXs X m OB O O' W rest t G Wx xNo := ⟨h, fun ρ σ Hs0 H0 Hs H D n x hg => nomatch hg⟩
theorem dxs_one (h : DX X m OB O O' W st t G Wx GX) : DXs X m OB O O' W [st] t G Wx GX := ⟨dss_one h.ds, h.ex⟩
theorem dxs_cons (h : DX X m OB O O' W st t G Wx GX) (hr : DXs X m OB O' O'' W' rest u G' Wx GX') : DXs X m OB O O'' (W ++ W') (st :: rest) (tSeq t u) (sSeq G G') Wx (xSeq GX G GX') := ⟨dss_cons h.ds hr.ds, fun ρ σ Hs0 H0 Hs H D n x hg q => by
  unfold xSeq at hg
  cases ha : GX ρ with
  | some n' =>
    rw [ha] at hg
    cases hg
    exact h.ex ρ σ Hs0 H0 Hs H { D with nx := u D } n x ha q
  | none =>
    rw [ha] at hg
    obtain ⟨o, h1, h2⟩ := bind_some hg
    refine h.ds.ev ρ σ Hs0 H0 Hs H { D with nx := u D } o x h1 ?_
    cases o with
    | nx ρ' => exact fun σ' Hs' H' x' fx => hr.ex ρ' σ' Hs0 H0 Hs' H' D n x' h2 q
    | rt d => cases h2
    | bk _ => cases h2
    | ct _ => cases h2⟩
theorem dx_if (hc : DT X O c tc ft) (ha : DXs X m OB O O' W s1 t G Wx GX) (hb : DXs X m OB O O' W' s2 u G' Wx GX') : DX X m OB O O' (W ++ W') (.If c s1 s2 pos) (tIfS tc t u) (sIf ft G G') Wx (xIf ft GX GX') := ⟨ds_if hc ha.ds hb.ds, fun ρ σ Hs0 H0 Hs H D n x hg q => by
  obtain ⟨k, h1, h2⟩ := bind_some hg
  refine hc.ev ρ σ Hs H k x.sl h1 _ fun Hs1 H1 g1 => ?_
  cases k with
  | true => exact iteT (ha.ex ρ σ Hs0 H0 Hs1 H1 D n (x.mono g1) h2 q)
  | false => exact iteF (hb.ex ρ σ Hs0 H0 Hs1 H1 D n (x.mono g1) h2 q)⟩
theorem dx_raise {n msg : Str} {C : Addr} {j : Nat} {p p2 p3 : Pos} (hc : X.calm = true) (tk : Takes X Wx) (er : ErrC X.K X.mg n C) (hg : Gl X n) (hdb : (n == ("__debug__" : Str)) = false := by decide) :
    DX X m OB O O' [] (.Raise (some (.Call (.Name n p) [.Constant (.str msg) j p2] [] p3)) none pos) (fun _ σ H => Wx (.ref C) none σ H) sErr Wx (fun _ => some n) := by
  obtain ⟨bmB, F, q⟩ := er.q
  exact ⟨⟨ps_raise hc tk (pmk_own F q er.g er.k (raises_own er.s er.t) hg hdb), fun ρ σ Hs0 H0 Hs H D o x hg => nomatch hg⟩, fun ρ σ Hs0 H0 Hs H D n' x hg q => by
    cases hg
    exact q C σ Hs H er.g x.gr⟩
end
/-! ### defs that may raise -/
def runX (nl : Nat) (GX : GXs) (ds : List PyData) : Option Str := GX (ds.map some ++ List.replicate (nl - ds.length) none)
def spX (n : Nat) (m : Md) (Fn : List PyData → Option PyData) (FX : List PyData → Option Str) (mg : Str → Option Value) : Sp := fun vs H Q E => ∃ (ds : List PyData) (Hs : Hp), ds.length = n ∧ Same Hs H ∧ RA Hs vs ds ∧
  ((∃ d, Fn ds = some d ∧ ∀ v Hs' H', Gr Hs H Hs' H' → Res m H Hs' H' v d → Q v H') ∨ ∃ c, FX ds = some c ∧ ∀ (C : Addr) (Hs' H' : Hp), mg c = some (.ref C) → Gr Hs H Hs' H' → E (.ref C) none H')
theorem spX_len {n : Nat} {m : Md} {Fn : List PyData → Option PyData} {FX : List PyData → Option Str} {mg : Str → Option Value} : ∀ vs H Q E, spX n m Fn FX mg vs H Q E → vs.length = n := fun vs H Q E h => by
  obtain ⟨ds, Hs, h1, _, h2, _⟩ := h
  rw [h2.length, h1]
theorem def_ofX {P : Program} {w : World} {K : PySem.W.Frag} {mg : Str → Option Value} {base : Heap} {x qual : Str} {st : Stmt} {f : Addr} {fd : FuncData} {N ps : List Str} {k : Nat} {m : Md} {B : FS} {GX : GXs} {O' W : List Nat} {n : Nat} (F : Fun K x qual st f fd) (S : FnScope N ps (defScope st)) (hn : ps.length = n)
    (none_ok : m = .cl ∨ ∀ ρ ρ', B ρ ≠ some (.nx ρ'))
    (body : ∀ (cdv : Value) (A : Around) (outer : List Env) (s : Shared) (H : Hp) (E : XK), GA k (A.deeper (envOfC qual (defScope st) s.heap.objs.size f cdv)) →
      ∃ t, DXs (cxOf (L2.CX P w) P w K mg base N qual (defScope st) f cdv A outer s H E) m [] [] O' W (defBody st) t B (fun cls d _ H' => E cls d H') GX) : FnG P w K mg base (L2.CX P w) (k + 1) f fd ps (spX n m (runF N.length B) (runX N.length GX) mg) := by
  subst hn
  refine fnG_of F S spX_len fun cdv A outer s H vs Q E ga want => ?_
  obtain ⟨t, h⟩ := body cdv A outer s H E ga
  obtain ⟨ds, Hs, hl, e, r, want⟩ := want
  refine ⟨t, h.ds.ps, ?_⟩
  rcases want with ⟨d, hf, q⟩ | ⟨c, hf, q⟩
  · obtain ⟨o, ho, hd⟩ := bind_some hf
    refine h.ds.ev _ _ Hs H Hs H _ o (start_slots e r) ho ?_
    cases o with
    | nx ρ' =>
      cases hd
      rcases none_ok with rfl | hno
      · exact fun σ' Hs' H' x _ => q _ Hs' H' x.gr .non
      · exact absurd ho (hno _ _)
    | rt d' =>
      cases hd
      exact fun v Hs' H' g r' => q v Hs' H' g r'
    | bk _ => cases hd
    | ct _ => cases hd
  · exact h.ex _ _ Hs H Hs H _ c (start_slots e r) hf fun C σ' Hs' H' hC g => q C Hs' H' hC g
theorem FnG.plain {P : Program} {w : World} {K : PySem.W.Frag} {mg : Str → Option Value} {base : Heap} {CX : CXT} {k : Nat} {f : Addr} {fd : FuncData} {ps : List Str} {n : Nat} {m : Md} {Fn : List PyData → Option PyData} {FX : List PyData → Option Str} (F : FnG P w K mg base CX k f fd ps (spX n m Fn FX mg)) : FnG P w K mg base CX k f fd ps (spF n m Fn) :=
  F.imp fun vs H Q E ⟨ds, d, Hs, h1, h2, h3, h4, h5⟩ => ⟨ds, Hs, h1, h2, h3, .inl ⟨d, h4, h5⟩⟩
section
variable {X : Cx} {CX : CXT} {k : Nat} {f : Addr} {fd : FuncData} {ps : List Str} {sp : Sp} {E : St → XK} {x : Str} {p pos : Pos} {e : Expr} {es : List Expr} {t : TA}
theorem runSG {pins : List (Addr × Obj)} {σ : St} {H : Hp} {s : Shared} {Q : VK} {us : List Value} {vs : List V} (F : FnG X.prog X.w X.K X.mg X.base CX k f fd ps sp) (ga : GA k X.A) (hb : Binds X.K fd ps []) (hx : PassesAt CX X σ (E σ)) (inv : Inv X pins σ H s) (rel : Vals vs us)
    (want : sp vs H Q (E σ)) : wpAny (model X.prog X.w) X.A (call (.ref f) us) (EP X pins σ Q) X.xe s := by
  have hl : us.length = ps.length := rel.length.symm.trans (F.len _ _ _ _ want)
  have bind := hb s us inv.kIn (by rw [List.append_nil]; exact hl)
  rw [List.append_nil] at bind
  refine wpAny_call (codeAny_mono (F.run X.A X.stack s H ⟨us, []⟩ us vs Q (E σ) ga inv.env0 bind rel want) fun r s' out => ?_)
  match r, out with
  | .error e, out => exact hx pins H s e s' inv out
  | .ok (.ret u), out => exact inv.after out
  | .ok .next, out => exact False.elim out
  | .ok .brk, out => exact False.elim out
  | .ok .cont, out => exact False.elim out
theorem pe_callSG (F : FnG X.prog X.w X.K X.mg X.base CX k f fd ps sp) (ga : GA k X.A) (hg : Gl X x) (hm : X.mg x = some (.ref f)) (hk : PySem.W.keepIn X.K (.ref f) = true) (hb : Binds X.K fd ps []) (hx : ∀ σ, PassesAt CX X σ (E σ)) (ha : PA X (e :: es) t)
    (hdb : (x == ("__debug__" : Str)) = false := by decide) (he : starEach (e :: es) X.env = (false, eval e X.env) :: starEach es X.env := by rfl) (hpl : (backTo pos (starEach es X.env)).any (·.1) = false := by rfl) : PE X (.Call (.Name x p) (e :: es) [] pos) (tCallS sp E t) :=
  ⟨fun pins s σ H Q inv h => wpAny_Call_Name_kw (ld_glob inv hg hm (PySem.W.callWith_K (h₀ := X.base) inv.ok.mod.kin hk (thn (ha.run pos pins s σ H _ inv h) fun us s1 ⟨vs, H1, inv1, rel, want⟩ =>
    ⟨inv1.kIn, runSG F ga hb (hx σ) inv1 rel want⟩) he hpl) hdb)⟩
end
/-! ### a call alone in a try, whose clause returns a truth about the error -/
/-- a test about the error at a, in slot i -/
structure BT (X : Cx) (i : Nat) (a : Addr) (e : Expr) (te : TE) (b : Bool) : Prop where
  pe : PE X e te
  ev : ∀ (σ : St) (H : Hp) (Q : VK), σ[i]? = some (some (.ref a)) → Q (.bl b) H → te σ H Q
def sTry (i : Nat) (fs : FA) (Fn : List PyData → Option PyData) (FX : List PyData → Option Str) (n : Str) (b : Bool) : FS := fun ρ => (fs ρ).bind fun ds => match Fn ds with
  | some _ => some (.nx ρ)
  | none => if FX ds = some n ∧ i < ρ.length then some (.rt (.bool b)) else none
theorem ds_try {X : Cx} {OB O : List Nat} {k nn : Nat} {f C : Addr} {fd : FuncData} {ps : List Str} {m : Md} {Fn : List PyData → Option PyData} {FX : List PyData → Option Str} {x xc n : Str} {i : Nat} {p p2 p3 np pos pos' rp : Pos} {e r : Expr} {es : List Expr} {t : TA} {fs : FA} {b : Bool} {tr : Addr → TE}
    (hs : X.stack = X.env :: X.outer) (hf : X.env.frame = some X.env.locals) (hN : X.N.Nodup) (hi : X.N[i]? = some n) (hln : X.env.kindOf n = some .local) (hc : Names X xc (.ref C)) (gC : X.mg xc = some (.ref C)) (hex : PySem.W.exmOne X.K (.ref C) (.ref C) = some true)
    (F : FnG X.prog X.w X.K X.mg X.base (L2.CX X.prog X.w) k f fd ps (spX nn m Fn FX X.mg)) (ga : GA k X.A) (hm : X.mg x = some (.ref f)) (hk : PySem.W.keepIn X.K (.ref f) = true) (hb : Binds X.K fd ps [])
    (ha : ∀ pn xe, DAc (X.tr pn xe) O (e :: es) t fs) (hlen : (e :: es).length = nn) (hfs : ∀ ρ ds, fs ρ = some ds → ds.length = (e :: es).length) (hg : Gl X x)
    (tk : Takes X fun _ _ _ _ => False)
    (hr : ∀ (a : Addr) (oe : Obj) (pn : List (Addr × Obj)), Zc (.ref C) none oe → (∃ vs, oe.data = .fields vs) → BT (X.suite a ((a, oe) :: pn)) i a r (tr a) b)
    (hdb : (x == ("__debug__" : Str)) = false := by decide) (he : starEach (e :: es) X.env = (false, eval e X.env) :: starEach es X.env := by rfl) (hpl : (backTo p2 (starEach es X.env)).any (·.1) = false := by rfl)
    (hsw : swapsWith (.Call (.Name x p) (e :: es) [] p2) none p3.line X.env = pure false := by rfl) :
    DS X .cl OB O O [] (.Try [.Expr (.Call (.Name x p) (e :: es) [] p2) p3] [.ExceptHandler (some (.Name xc np)) (some n) [.Return (some r) rp] pos'] [] [] pos)
      (fun D σ H => tDrop (tCallS (spX nn m Fn FX X.mg) (WE (wAs X.K (.ref C) i (fun a cls d D σ H => cls = .ref C ∧ d = none ∧ tRet (tr a) D σ H) (fun _ _ _ _ => False) D)) t) D σ H) (sTry i fs Fn FX xc b) := by
  refine ⟨ps_try_as (tb := fun W => tDrop (tCallS (spX nn m Fn FX X.mg) (WE W) t)) hs hf hN hi hln hc tk (fun W pn xe tkW _ => pss_one (ps_expr (pe_callSG (X := X.tr pn xe) F ga hg hm hk hb (fun σ => passAt tkW σ) (ha pn xe).pa hdb he hpl) hsw)) (fun a oe cls d pn hz hfv => ?_), fun ρ σ Hs0 H0 Hs H D o s hgo q => ?_⟩
  · refine ⟨fun pins s σ H D I h => ?_⟩
    obtain ⟨rfl, rfl, h⟩ := h
    exact (pss_one (ps_ret (hr a oe pn hz hfv).pe)).run pins s σ H D I h
  · obtain ⟨ds, h1, h2⟩ := bind_some hgo
    refine (ha [] (fun _ _ => False)).ev ρ σ Hs H ds s.sl h1 _ fun vs Hs1 H1 g1 r1 => ?_
    refine ⟨ds, Hs1, (hfs ρ ds h1).trans hlen, g1.sub, r1, ?_⟩
    cases hF : Fn ds with
    | some d =>
      rw [hF] at h2
      cases h2
      refine .inl ⟨d, rfl, fun v Hs' H' g2 _ => q σ Hs' H' (s.mono (g1.trans g2)) (.refl _ _ _)⟩
    | none =>
      rw [hF] at h2
      have h3 : (if FX ds = some xc ∧ i < ρ.length then some (Out.rt (.bool b)) else none) = some o := h2
      by_cases hc : FX ds = some xc ∧ i < ρ.length
      · rw [if_pos hc] at h3
        cases h3
        refine .inr ⟨xc, hc.1, fun C' Hs' H' hC g2 => ?_⟩
        rw [gC] at hC
        cases hC
        refine ⟨true, hex, fun _ a na => ⟨rfl, rfl, ?_⟩, fun z => Bool.noConfusion z⟩
        refine (hr a ⟨.ref C, none, .fields #[], #[]⟩ [] ⟨rfl, rfl⟩ ⟨_, rfl⟩).ev _ _ _ ?_ ?_
        · exact List.getElem?_set_self (by rw [s.sl.len]; exact hc.2)
        · exact q (.bl b) Hs' H' (s.gr.trans (g1.trans g2)) (show R Hs' _ _ from .bl _)
      · rw [if_neg hc] at h3
        cases h3
section
variable {X : Cx} {i : Nat} {a : Addr} {e e2 : Expr} {rest : List Expr} {t u : TE} {b b' : Bool} {pos : Pos}
theorem bt_one {op : BoolOp} (h : BT X i a e t b) : BT X i a (.BoolOp op [e] pos) t b := ⟨pe_one h.pe, h.ev⟩
theorem bt_and (h : BT X i a e t b) (h2 : BT X i a (.BoolOp .And (e2 :: rest) pos) u b') : BT X i a (.BoolOp .And (e :: e2 :: rest) pos) (tAndV t u) (b && b') := ⟨pe_and h.pe h2.pe, fun σ H Q hs q => by
  refine h.ev σ H _ hs ⟨b, rfl, ?_⟩
  cases b with
  | true => exact iteT (h2.ev σ H Q hs q)
  | false => exact iteF q⟩
theorem bt_not (h : BT X i a e t b) : BT X i a (.UnaryOp .Not e pos) (tNotV t) (!b) := ⟨pe_not h.pe, fun σ H Q hs q => h.ev σ H _ hs ⟨b, rfl, q⟩⟩
end
theorem bt_is {X : Cx} {i : Nat} {a D : Addr} {oe : Obj} {pn : List (Addr × Obj)} {c : Expr} {v : V} {cv : Value} {b : Bool} {n : Str} {p p2 pos : Pos} (C : ExcC X.K D) (hz : Zc (.ref D) none oe) (hf : ∃ vs, oe.data = .fields vs) (gl : Gl (X.suite a ((a, oe) :: pn)) "isinstance") (hm : X.mg "isinstance" = none)
    (hv : PE (X.suite a ((a, oe) :: pn)) (.Name n p2) (tVar i)) (hc : PE (X.suite a ((a, oe) :: pn)) c (tC v)) (hcv : ∀ u, RelV v u → u = cv) (hk : PySem.W.kitOne X.K (.ref D) cv = some b)
    (he : starEach [.Name n p2, c] X.env = (false, eval (.Name n p2) X.env) :: starEach [c] X.env := by rfl) (he2 : starEach [c] X.env = (false, eval c X.env) :: starEach [] X.env := by rfl) (hpl : (backTo pos (starEach [c] X.env)).any (·.1) = false := by rfl) :
    BT (X.suite a ((a, oe) :: pn)) i a (.Call (.Name "isinstance" p) [.Name n p2, c] [] pos) (tCB (rIsE X.K D a) (tCons (tVar i) (tCons (tC v) tNil))) b :=
  ⟨pe_callB (call_isE C hz hf) gl hm (by decide +kernel) (pa_cons hv (pa_cons hc pa_nil he2) he) (by decide) (by decide) he hpl, fun σ H Q hs q => ⟨.ref a, hs, v, cv, b, rfl, hcv, hk, q⟩⟩
end DL
namespace DL
open PySem PySem.Spec L2
open PyProof.Rows hiding St
variable [KF]
section
variable {X : Cx} {O : List Nat} {a b : Expr} {ta tb : TE} {fa fb : F} {pos : Pos}
theorem op_divK {k : Nat} (hs : X.base.NoSeer) (hP : X.prog.given.tree = none) (ga : GA k X.A) (hst : X.stack = X.env :: X.outer) (h2 : X.env.scope.isGenerator = false) (h3 : X.env.scope.isCoroutine = false) : OpR X (binaryOp .FloorDiv) rDivW := by
  intro pins s σ H x y v u Q I rx ry h
  obtain ⟨i, j, rfl, rfl, hj, q⟩ := h
  obtain ⟨t, rfl⟩ := rx
  obtain ⟨t', rfl⟩ := ry
  refine PyProof.Rows.floordiv_int hj ⟨.int _, H, I.tok _, ⟨_, rfl⟩, q⟩ (.inr (PylongRoom.of I.nolimit (by have := ga.dp; show X.A.depth + 100 < recursionLimit; omega) (SeerAt.of (hs.keeps I.bk) hP (by rw [I.ok.frames, hst]) h2 h3 I.ok.blt I.ok.glob)))
theorem de_divK {k : Nat} (hs : X.base.NoSeer) (hP : X.prog.given.tree = none) (ga : GA k X.A) (ha : DE X O .rd a ta fa) (hb : DE X O .rd b tb fb) (hst : X.stack = X.env :: X.outer := by rfl) (h2 : X.env.scope.isGenerator = false := by rfl) (h3 : X.env.scope.isCoroutine = false := by rfl) :
    DE X O .cl (.BinOp a .FloorDiv b pos) (tOp rDivW ta tb) (fBin dDivW fa fb) := de_op (op_divK hs hP ga hst h2 h3) (opd_I fun i j h => of_decide_eq_true (p := j ≠ 0) h) ha hb
end
theorem def_nxX {P : Program} {w : World} {K : PySem.W.Frag} {mg : Str → Option Value} {base : Heap} {x qual : Str} {st : Stmt} {f : Addr} {fd : FuncData} {N ps : List Str} {k : Nat} {m : Md} {B : FS} {GX : GXs} {O' W : List Nat} {n nl : Nat} (F : Fun K x qual st f fd) (S : FnScope N ps (defScope st)) (hn : ps.length = n) (hnl : N.length = nl)
    (none_ok : m = .cl ∨ ∀ ρ ρ', B ρ ≠ some (.nx ρ'))
    (body : ∀ (cdv : Value) (A : Around) (outer : List Env) (s : Shared) (H : Hp) (E : XK), GA k (A.deeper (envOfC qual (defScope st) s.heap.objs.size f cdv)) →
      ∃ t, DXs (cxOf (L2.CX P w) P w K mg base N qual (defScope st) f cdv A outer s H E) m [] [] O' W (defBody st) t B (fun cls d _ H' => E cls d H') GX) : FnG P w K mg base (L2.CX P w) (k + 1) f fd ps (spX n m (runF nl B) (runX nl GX) mg) := by
  subst hnl
  exact def_ofX F S hn none_ok body
end DL
namespace DL
open PySem PySem.Spec L2
open PyProof.Rows hiding St
theorem kit_own {K : PySem.W.Frag} {C D : Addr} {b : Bool} (h2 : PySem.W.isClsIn K D = true) (h3 : PySem.W.typeIn K (.ref D) = some (.type "type")) (h4 : PySem.W.subIn K (.ref C) (.ref D) = some b) (hb : b = true ∨ C ≠ D) : PySem.W.kitOne K (.ref C) (.ref D) = some b := by
  have h2' : (PySem.W.clsIn K D).isSome = true := h2
  have e2 : ((PySem.W.clsIn K D).isSome && PySem.W.typeIn K (.ref D) == some (.type "type")) = true := by rw [h2', h3] <;> rfl
  have k : PySem.W.kitCls K (.ref C) (.ref D) = some b := by
    show (if ((PySem.W.clsIn K D).isSome && PySem.W.typeIn K (.ref D) == some (.type "type")) = true then PySem.W.subIn K (.ref C) (.ref D) else none) = some b
    rw [if_pos e2]
    exact h4
  unfold PySem.W.kitOne
  by_cases e : C = D
  · rcases hb with rfl | n
    · rw [e, if_pos (by simp)]
    · exact absurd e n
  · rw [if_neg (by simpa using e)]
    exact k
theorem kit_bt {K : PySem.W.Frag} {C : Addr} {T : String} {b : Bool} (hm : PySem.W.kitMeta T = true) (h4 : PySem.W.subIn K (.ref C) (.type T) = some b) : PySem.W.kitOne K (.ref C) (.type T) = some b := by
  unfold PySem.W.kitOne
  rw [if_neg (by simp)]
  show (if PySem.W.kitMeta T = true then PySem.W.subIn K (.ref C) (.type T) else none) = some b
  rw [if_pos hm]
  exact h4
end DL
set_option Elab.async false
set_option linter.all false
set_option maxRecDepth 100000
namespace DL
open PySem PySem.Spec L2
open PyProof.Rows hiding St
variable [KF]
/-! ### list(range(a, b)) -/
def rg2C (i j : Int) : Bool := decide (-(2 ^ 62) ≤ i ∧ i < 2 ^ 62 ∧ -(2 ^ 62) ≤ j ∧ j < 2 ^ 62 ∧ (j - i).toNat ≤ 90000)
def dRg2 : PyData → PyData → Option PyData
  | .int i, .int j => if rg2C i j = true then some (.list (rangeD i (j - i).toNat)) else none
  | _, _ => none
theorem ra_rg {Hs : Hp} (a : Int) : ∀ l : List Nat, RA Hs (l.map fun (i : Nat) => V.int (a + (i : Int))) (l.map fun (i : Nat) => PyData.int (a + (i : Int)))
  | [] => .nil
  | i :: l => .cons (.int _) (ra_rg a l)
theorem de_listR2 {X : Cx} {O : List Nat} {a b : Expr} {ta tb : TE} {fa fb : F} {p p2 p3 pos : Pos} (hc : X.calm = true) (hg : Gl X "list") (hm : X.mg "list" = none) (hg2 : Gl X "range") (hm2 : X.mg "range" = none) (ha : DE X O .rd a ta fa) (hb : DE X O .rd b tb fb)
    (na : starEach [.Call (.Name "range" p2) [a, b] [] p3] X.env = (false, eval (.Call (.Name "range" p2) [a, b] [] p3) X.env) :: starEach [] X.env := by rfl) (n1 : starEach [a, b] X.env = (false, eval a X.env) :: starEach [b] X.env := by rfl) (n2 : starEach [b] X.env = (false, eval b X.env) :: starEach [] X.env := by rfl) (n3 : (backTo p3 (starEach [b] X.env)).any (·.1) = false := by rfl) :
    DE X O .ow (.Call (.Name "list" p) [.Call (.Name "range" p2) [a, b] [] p3] [] pos) (tLstRg (tRg2 ta tb)) (fBin dRg2 fa fb) :=
  ⟨pe_listRg hc hg hm (prg_2 hg2 hm2 ha.pe hb.pe n1 n2 n3) na, fun ρ σ Hs H d s h Q q => by
    obtain ⟨x, hx, h⟩ := bind_some h
    obtain ⟨y, hy, h⟩ := bind_some h
    obtain ⟨i, j, rfl, rfl, c, rfl⟩ : ∃ i j : Int, x = .int i ∧ y = .int j ∧ rg2C i j = true ∧ d = .list (rangeD i (j - i).toNat) := by
      match x, y, h with
      | .int i, .int j, h =>
        obtain ⟨c, e⟩ := if_some (show (if rg2C i j = true then some (PyData.list (rangeD i (j - i).toNat)) else none) = some d from h)
        exact ⟨i, j, rfl, rfl, c, e.symm⟩
    have c := of_decide_eq_true c
    refine ha.ev ρ σ Hs H _ s hx _ fun v Hs1 H1 g1 r1 => ?_
    refine hb.ev ρ σ Hs1 H1 _ (s.mono g1) hy _ fun w Hs2 H2 g2 r2 => ?_
    have g := g1.trans g2
    refine ⟨i, j, rd_int r1, rd_int r2, ⟨c.1, c.2.1, c.2.2.1, c.2.2.2.1, by omega⟩, fun p hp => ?_⟩
    exact q _ Hs2 _ (g.trans (Gr.own g.sub hp)) (Res.back g.h (res_new g.sub hp (ra_rg i _)))⟩
end DL
set_option Elab.async false
set_option linter.all false
set_option maxRecDepth 100000
namespace DL
open PySem PySem.Spec L2
open PyProof.Rows hiding St
/-! ### fresh data: all its lists are new, none of the module's own -/
abbrev kS [k : KF] : KF := ⟨k.K, false⟩
/-- the part of Hs that is not in H0 -/
def outH (H0 Hs : Hp) : Hp := fun a => match H0 a with
  | none => Hs a
  | some _ => none
theorem outH_some {H0 Hs : Hp} {a : Addr} {u : HO} (h : outH H0 Hs a = some u) : H0 a = none ∧ Hs a = some u := by
  unfold outH at h
  cases q : H0 a with
  | none =>
    rw [q] at h
    exact ⟨rfl, h⟩
  | some o =>
    rw [q] at h
    cases h
theorem outH_of {H0 Hs : Hp} {a : Addr} (h : H0 a = none) : outH H0 Hs a = Hs a := by
  unfold outH
  rw [h]
theorem outH_sub {H0 Hs : Hp} : Same (outH H0 Hs) Hs := fun a u h => (outH_some h).2
theorem outH_mono {H0 Hs Hs' : Hp} (e : Same Hs Hs') : Same (outH H0 Hs) (outH H0 Hs') := fun a u h => by
  obtain ⟨h1, h2⟩ := outH_some h
  rw [outH_of h1]
  exact e _ _ h2
theorem outH_base {H0 H1 Hs : Hp} (e : Same H0 H1) : Same (outH H1 Hs) (outH H0 Hs) := fun a u h => by
  obtain ⟨h1, h2⟩ := outH_some h
  rw [outH_of (Same.free e h1)]
  exact h2
mutual
theorem up_R (k2 : KF) [k1 : KF] (e : ∀ H a vs, @LsK k1 H a vs → @LsK k2 H a vs) {H : Hp} : ∀ {v : V} {d : PyData}, @R k1 H v d → @R k2 H v d
  | _, _, .non => @R.non k2 _
  | _, _, .bl b => @R.bl k2 _ b
  | _, _, .int i => @R.int k2 _ i
  | _, _, .str x => @R.str k2 _ x
  | _, _, .lst h r => @R.lst k2 _ _ _ _ (e _ _ _ h) (up_RA k2 e r)
  | _, _, .tup h r => @R.tup k2 _ _ _ _ h (up_RA k2 e r)
theorem up_RA (k2 : KF) [k1 : KF] (e : ∀ H a vs, @LsK k1 H a vs → @LsK k2 H a vs) {H : Hp} : ∀ {vs : List V} {ds : List PyData}, @RA k1 H vs ds → @RA k2 H vs ds
  | _, _, .nil => @RA.nil k2 _
  | _, _, .cons h r => @RA.cons k2 _ _ _ _ _ (up_R k2 e h) (up_RA k2 e r)
end
variable [kf : KF]
abbrev RS (H : Hp) (v : V) (d : PyData) : Prop := @R kS H v d
abbrev RSA (H : Hp) (vs : List V) (ds : List PyData) : Prop := @RA kS H vs ds
theorem RS.up {H : Hp} {v : V} {d : PyData} (h : RS H v d) : R H v d := @up_R kf kS (fun H a vs h => h.elim .inl fun z => Bool.noConfusion (show false = true from z.1)) _ _ _ h
theorem RSA.up {H : Hp} {vs : List V} {ds : List PyData} (h : RSA H vs ds) : RA H vs ds := @up_RA kf kS (fun H a vs h => h.elim .inl fun z => Bool.noConfusion (show false = true from z.1)) _ _ _ h
theorem scal_RS {Hs Hs' : Hp} {v : V} {d : PyData} (h : scalD d = true) (r : R Hs v d) : RS Hs' v d := by
  cases r with
  | non => exact @R.non kS _
  | bl b => exact @R.bl kS _ b
  | int i => exact @R.int kS _ i
  | str x => exact @R.str kS _ x
  | lst _ _ => cases h
  | tup _ _ => cases h
theorem scal_RSA {Hs Hs' : Hp} : ∀ {vs : List V} {ds : List PyData}, ds.all scalD = true → RA Hs vs ds → RSA Hs' vs ds
  | _, _, _, .nil => @RA.nil kS _
  | _, _, h, .cons a b => by
    rw [List.all_cons, Bool.and_eq_true] at h
    exact @RA.cons kS _ _ _ _ _ (scal_RS h.1 a) (scal_RSA h.2 b)
def EvZ (te : TE) (σ : St) (Hs H : Hp) (d : PyData) : Prop := ∀ Q : VK, (∀ v Hs' H', Gr Hs H Hs' H' → R Hs' v d → RS (outH H Hs') v d → Q v H') → te σ H Q
/-- an expression whose value is fresh -/
structure DZ (X : Cx) (O : List Nat) (e : Expr) (te : TE) (f : F) : Prop where
  pe : PE X e te
  ev : ∀ (ρ : Rho) (σ : St) (Hs H : Hp) (d : PyData), Slots O ρ σ Hs H → f ρ = some d → EvZ te σ Hs H d
theorem DZ.cl_ {X : Cx} {O : List Nat} {e : Expr} {te : TE} {f : F} (h : DZ X O e te f) : DE X O .cl e te f := ⟨h.pe, fun ρ σ Hs H d s hf Q q => h.ev ρ σ Hs H d s hf Q fun v Hs' H' g r _ => q v Hs' H' g r⟩
/-- an own list comes to stand, and is fresh -/
theorem own_stand {Hs H Hs1 H1 : Hp} {a : Addr} {vs : List V} {ds : List PyData} (g : Gr Hs H Hs1 H1) (n0 : H a = none) (n1 : Hs1 a = none) (n2 : H1 a = some (.lst vs)) (r : RA Hs1 vs ds) (z : RSA (outH H (upd Hs1 a (.lst vs))) vs ds) :
    Gr Hs H (upd Hs1 a (.lst vs)) H1 ∧ R (upd Hs1 a (.lst vs)) (.ref a) (.list ds) ∧ RS (outH H (upd Hs1 a (.lst vs))) (.ref a) (.list ds) := by
  refine ⟨⟨g.s.trans (same_new n1), g.h, fun b u q => ?_, fun b z1 z2 => ?_⟩, .lst (ls_of upd_same) (r.mono (same_new n1)), @R.lst kS _ _ _ _ (.inl ?_) z⟩
  · by_cases hb : b = a
    · subst hb
      rw [upd_same] at q
      rw [n2]
      exact q
    · rw [upd_ne hb] at q
      exact g.sub _ _ q
  · rw [upd_ne (show b ≠ a from fun e => z2 (by rw [e]; exact n0))]
    exact g.non b z1 z2
  · rw [outH_of n0, upd_same]
/-- a new list of scalars is fresh -/
theorem DE.dz {X : Cx} {O : List Nat} {e : Expr} {te : TE} {f : F} (h : DE X O .ow e te f) : DZ X O e te (fScalL f) := ⟨h.pe, fun ρ σ Hs H d s hf Q q => by
  obtain ⟨d', h1, h2⟩ := bind_some hf
  cases d' <;> try (cases h2; done)
  rename_i ds
  obtain ⟨c, rfl⟩ := if_some (show (if ds.all scalD = true then some (PyData.list ds) else none) = some d from h2)
  refine h.ev ρ σ Hs H _ s h1 Q fun v Hs1 H1 g ⟨⟨a, vs, es, ev, ed, n1, n2, n3⟩, b, eb, hb⟩ => ?_
  cases ed
  rw [ev] at eb
  obtain rfl := V.ref.inj eb
  obtain ⟨g', r', z'⟩ := own_stand g hb n1 n2 n3 (scal_RSA c n3)
  rw [ev]
  exact q _ _ H1 g' r' z'⟩
/-- a comprehension whose items are fresh -/
theorem ev_lcZ {wi : TI} {g : TG} {tt : TT} {te : TE} {vs js : List Nat} {k : FG} {t : FT} {el : F} {src : FA} {O : List Nat}
    (hi : ∀ (ρ : Rho) (σ : St) (Hs H : Hp) (ds : List PyData), Slots O ρ σ Hs H → src ρ = some ds → ∀ Q : It → Hp → Prop, (∀ J Hs' H', Gr Hs H Hs' H' → Gives J ds Hs' → Q J H') → wi σ H Q)
    (hg : ∀ (d : PyData) (x : V) (ρ ρ' : Rho) (σ : St) (Hs H : Hp), Slots O ρ σ Hs H → R Hs x d → k d ρ = some ρ' → ∀ Q : St → Hp → Prop, (∀ σ', Slots O ρ' σ' Hs H → σ'.length = σ.length → (∀ j, j ∉ js → σ'[j]? = σ[j]? ∧ ρ'[j]? = ρ[j]?) → Q σ' H) → g x σ H Q)
    (ht : ∀ (ρ : Rho) (σ : St) (Hs H : Hp) (b : Bool), Slots O ρ σ Hs H → t ρ = some b → EvT tt σ Hs H b)
    (he : ∀ (ρ : Rho) (σ : St) (Hs H : Hp) (d : PyData), Slots O ρ σ Hs H → el ρ = some d → EvZ te σ Hs H d) (hj : ∀ j ∈ js, j ∈ vs)
    {ρ : Rho} {σ : St} {Hs H : Hp} {d : PyData} (s : Slots O ρ σ Hs H) (h : fLc src k t el vs ρ = some d) : EvZ (tLc wi g tt te vs) σ Hs H d := fun Q q => by
  obtain ⟨ds, hds, h⟩ := bind_some h
  obtain ⟨c, h⟩ : catC ds.length 1 = true ∧ (lcF k t el (wipeR ρ vs) ds).map (fun xs => PyData.list xs) = some d := by
    by_cases c : catC ds.length 1 = true
    · rw [if_pos c] at h
      exact ⟨c, h⟩
    · rw [if_neg c] at h
      cases h
  obtain ⟨xs, hxs, rfl⟩ := Option.map_eq_some_iff.mp h
  refine hi ρ σ Hs H ds s hds _ fun J Hs1 H1 gr1 giv D hD => ?_
  have s1 := s.mono gr1
  refine ⟨fun i m K => m = ds.length - i ∧ i ≤ ds.length ∧ ∃ (Ks : Hp) (acc : List V) (done rest : List PyData), Gr Hs1 H1 Ks K ∧ Ks D = none ∧ K D = some (.lst acc) ∧ RA Ks acc done ∧ RSA (outH H Ks) acc done ∧ done.length ≤ i ∧
    lcF k t el (wipeR ρ vs) (ds.drop i) = some rest ∧ done ++ rest = xs, ⟨ds.length, by simp, Nat.zero_le _, Hs1, [], [], xs, Gr.own gr1.sub hD, Same.free gr1.sub hD, upd_same, .nil, @RA.nil kS _, Nat.le_refl _, hxs, rfl⟩, ?_⟩
  rintro i m K ⟨rfl, hle, Ks, acc, done, rest, gr2, nD, eD, ra, rz, dl, hrest, hall⟩
  by_cases hlt : i < ds.length
  · have hdrop : ds.drop i = ds[i] :: ds.drop (i + 1) := List.drop_eq_getElem_cons hlt
    rw [hdrop] at hrest
    obtain ⟨ρ1, hk1, hrest⟩ := bind_some hrest
    obtain ⟨b, hb, hrest⟩ := bind_some hrest
    refine .inr ⟨giv.go i Ks K gr2.s gr2.sub hlt, fun K' => ∃ (Ks : Hp) (acc : List V) (done rest : List PyData), Gr Hs1 H1 Ks K' ∧ Ks D = none ∧ K' D = some (.lst acc) ∧ RA Ks acc done ∧ RSA (outH H Ks) acc done ∧ done.length ≤ i + 1 ∧
      lcF k t el (wipeR ρ vs) (ds.drop (i + 1)) = some rest ∧ done ++ rest = xs, fun K' hN => ⟨ds.length - (i + 1), by omega, rfl, by omega, hN⟩, fun x K' hy => ?_⟩
    obtain ⟨Ks', gr3, rx⟩ := giv.yld i Ks K x K' gr2.s gr2.sub hy ds[i] (List.getElem?_eq_getElem hlt)
    have nD3 : Ks' D = none := gr3.non D nD (by rw [eD]; simp)
    have eD3 : K' D = some (.lst acc) := gr3.h _ _ eD
    have sw : Slots O (wipeR ρ vs) (wipe σ vs) Ks' K' := ((s1.mono gr2).mono gr3).wiped vs
    refine hg _ x (wipeR ρ vs) ρ1 (wipe σ vs) Ks' K' sw rx hk1 _ fun σ2 sl2 len2 out2 => ?_
    refine ⟨wipe_same len2 hj fun j hjn => (out2 j hjn).1, ht ρ1 σ2 Ks' K' b sl2 hb _ fun Ks4 K4 gr4 => ?_⟩
    have nD4 : Ks4 D = none := gr4.non D nD3 (by rw [eD3]; simp)
    have eD4 : K4 D = some (.lst acc) := gr4.h _ _ eD3
    cases b with
    | true =>
      rw [if_pos rfl] at hrest ⊢
      obtain ⟨y, hy1, hrest⟩ := bind_some hrest
      obtain ⟨rest', hr1, rfl⟩ := Option.map_eq_some_iff.mp hrest
      refine he ρ1 σ2 Ks4 K4 y (sl2.mono gr4) hy1 _ fun v Ks5 K5 gr5 r5 z5 => ?_
      have nD5 : Ks5 D = none := gr5.non D nD4 (by rw [eD4]; simp)
      have eD5 : K5 D = some (.lst acc) := gr5.h _ _ eD4
      have gra : Gr Hs1 H1 Ks5 K5 := ((gr2.trans gr3).trans gr4).trans gr5
      have e35 : Same Ks Ks5 := (gr3.s.trans gr4.s).trans gr5.s
      have ra5 : RA Ks5 acc done := ra.mono e35
      have rz5 : RSA (outH H Ks5) acc done := @RA.mono kS _ _ (outH_mono e35) _ _ rz
      have hK4 : Same H K4 := (gr1.h.trans ((gr2.trans gr3).trans gr4).h)
      have z5' : RS (outH H Ks5) v y := @R.mono kS _ _ (outH_base hK4) _ _ z5
      refine ⟨acc, eD5, ?_, Ks5, acc ++ [v], done ++ [y], rest', ⟨gra.s, fun a o z => ?_, fun a o z => ?_, gra.non⟩, nD5, upd_same, ra5.snoc r5, @RA.snoc kS _ _ _ _ _ rz5 z5', ?_, hr1, ?_⟩
      · rw [ra5.length]
        have := of_decide_eq_true (p := ds.length + 1 ≤ 100000) c
        exact Nat.lt_of_le_of_lt (show done.length ≤ 100000 by omega) (by decide)
      · rw [upd_ne (ne_of_none z hD)]
        exact gra.h a o z
      · rw [upd_ne (ne_of_none z nD5)]
        exact gra.sub a o z
      · rw [List.length_append, List.length_singleton]
        omega
      · rw [List.append_assoc]
        exact hall
    | false =>
      rw [if_neg Bool.false_ne_true] at hrest ⊢
      have e34 : Same Ks Ks4 := gr3.s.trans gr4.s
      exact ⟨Ks4, acc, done, rest, (gr2.trans gr3).trans gr4, nD4, eD4, ra.mono e34, @RA.mono kS _ _ (outH_mono e34) _ _ rz, by omega, hrest, hall⟩
  · have ei : i = ds.length := by omega
    subst ei
    rw [List.drop_length] at hrest
    cases hrest
    rw [List.append_nil] at hall
    subst hall
    have nH : H D = none := Same.free gr1.h hD
    obtain ⟨g', r', z'⟩ := own_stand (gr1.trans gr2) nH nD eD ra (@RA.mono kS _ _ (outH_mono (same_new nD)) _ _ rz)
    exact .inl ⟨giv.stop Ks K gr2.s gr2.sub, q _ _ K g' r' z'⟩
section
variable {X : Cx} {O : List Nat} {elt tg iter : Expr} {ifs : List Expr} {scope : Scope} {own : List (Str × Nat)} {pos : Pos} {wi : TI} {g : TG} {tt : TT} {te : TE} {k : FG} {t : FT} {el : F} {src : FA} {js : List Nat}
structure DLz (X : Cx) (O : List Nat) (elt tg iter : Expr) (ifs : List Expr) (scope : Scope) (own : List (Str × Nat)) (wi : TI) (g : TG) (tt : TT) (te : TE) (src : FA) (k : FG) (t : FT) (el : F) (js : List Nat) : Prop where
  hi : DI X O tg iter wi src
  ok : BlkOk X.N X.env.scope scope own
  hg : ∀ (s : Shared) (H : Hp) (C : Addr) (cl : List (Str × Addr)) (fp : List Addr), DG (X.blk s H scope (compEnvC scope cl C X.env) fp) O tg g k js
  ht : ∀ (s : Shared) (H : Hp) (C : Addr) (cl : List (Str × Addr)) (fp : List Addr), DTs (X.blk s H scope (compEnvC scope cl C X.env) fp) O ifs tt t
  he : ∀ (s : Shared) (H : Hp) (C : Addr) (cl : List (Str × Addr)) (fp : List Addr), DZ (X.blk s H scope (compEnvC scope cl C X.env) fp) O elt te el
  hj : js.all (own.map (·.2)).contains = true
theorem dlz_mk (own : List (Str × Nat)) (hi : DI X O tg iter wi src) (ok : BlkOk X.N X.env.scope scope own) (hg : ∀ (s : Shared) (H : Hp) (C : Addr) (cl : List (Str × Addr)) (fp : List Addr), DG (X.blk s H scope (compEnvC scope cl C X.env) fp) O tg g k js)
    (ht : ∀ (s : Shared) (H : Hp) (C : Addr) (cl : List (Str × Addr)) (fp : List Addr), DTs (X.blk s H scope (compEnvC scope cl C X.env) fp) O ifs tt t) (he : ∀ (s : Shared) (H : Hp) (C : Addr) (cl : List (Str × Addr)) (fp : List Addr), DZ (X.blk s H scope (compEnvC scope cl C X.env) fp) O elt te el)
    (hj : js.all (own.map (·.2)).contains = true := by rfl) : DLz X O elt tg iter ifs scope own wi g tt te src k t el js := ⟨hi, ok, hg, ht, he, hj⟩
/-- x = e, e fresh -/
structure DSz (X : Cx) (O : List Nat) (i : Nat) (st : Stmt) (ts : TS) (f : F) : Prop where
  ps : PS X st ts
  ev : ∃ te, ts = tAsg te (gName i) ∧ ∀ (ρ : Rho) (σ : St) (Hs H : Hp) (d : PyData), Slots O ρ σ Hs H → f ρ = some d → EvZ te σ Hs H d
theorem dsz_asg (i : Nat) {x : Str} {p : Pos} {e : Expr} {te : TE} {f : F} {pos : Pos} (hN : X.N.Nodup) (h : DZ X O e te f) (hi : X.N[i]? = some x := by rfl) (hx : Loc X.env.scope x := by first | exact Or.inl rfl | exact Or.inr rfl) (hs : swapsWith e (some (.Name x p)) pos.line X.env = pure false := by rfl)
    (hf : X.fn x = true ∨ X.env.scope.names.lookup x = some .local := by first | exact .inl rfl | exact .inr rfl) : DSz X O i (.Assign [.Name x p] e pos) (tAsg te (gName i)) f := ⟨ps_set hN hi hx h.pe hs hf, te, rfl, h.ev⟩
theorem dsz_lc (i : Nat) {vs : List Nat} {x : Str} {py spos : Pos} (hc : X.calm = true) (hN : X.N.Nodup) (h : DLz X O elt tg iter ifs scope own wi g tt te src k t el js) (hsw : swapsWith (.ListComp elt [⟨tg, iter, ifs, 0⟩] scope pos) (some (.Name x py)) spos.line X.env = pure true) (hv : own.map (·.2) = vs := by rfl) (hi : X.N[i]? = some x := by rfl)
    (hx : X.env.scope.names.lookup x = some .local := by rfl) (hs : ∀ x, foldedSetIterable iter X.env x = pure x := by intro _; rfl) : DSz X O i (.Assign [.Name x py] (.ListComp elt [⟨tg, iter, ifs, 0⟩] scope pos) spos) (tAsg (tLc wi g tt te (own.map (·.2))) (gName i)) (fLc src k t el vs) := by
  subst hv
  exact ⟨ps_setLc hc hN hi hx hsw h.hi.pi h.ok (fun s H C cl fp => (h.hg s H C cl fp).pg) (fun s H C cl fp => (h.ht s H C cl fp).pt) (fun s H C cl fp => (h.he s H C cl fp).pe) hs, _, rfl, fun ρ σ Hs H d s hf =>
    ev_lcZ h.hi.ev (h.hg ({} : Shared) (fun _ => none) 0 [] []).ev (h.ht ({} : Shared) (fun _ => none) 0 [] []).ev (h.he ({} : Shared) (fun _ => none) 0 [] []).ev (lc_js h.hj) s hf⟩
end
/-! ### defs whose result is fresh -/
def spZ (n : Nat) (Fn : List PyData → Option PyData) : Sp := fun vs H Q _ => ∃ (ds : List PyData) (d : PyData) (Hs : Hp), ds.length = n ∧ Same Hs H ∧ RA Hs vs ds ∧ Fn ds = some d ∧ ∀ v Hs' H', Gr Hs H Hs' H' → R Hs' v d → RS (outH H Hs') v d → Q v H'
theorem spZ_len {n : Nat} {Fn : List PyData → Option PyData} : ∀ vs H Q E, spZ n Fn vs H Q E → vs.length = n := fun vs H Q E h => by
  obtain ⟨ds, d, Hs, h1, _, h2, _⟩ := h
  rw [h2.length, h1]
theorem FnG.unz {P : Program} {w : World} {K : PySem.W.Frag} {mg : Str → Option Value} {base : Heap} {CX : CXT} {k : Nat} {f : Addr} {fd : FuncData} {ps : List Str} {n : Nat} {Fn : List PyData → Option PyData} (F : FnG P w K mg base CX k f fd ps (spZ n Fn)) : FnG P w K mg base CX k f fd ps (spF n .cl Fn) :=
  F.imp fun vs H Q E ⟨ds, d, Hs, h1, h2, h3, h4, h5⟩ => ⟨ds, d, Hs, h1, h2, h3, h4, fun v Hs' H' g r _ => h5 v Hs' H' g r⟩
theorem dz_call {X : Cx} {O : List Nat} {CX : CXT} {k n : Nat} {f : Addr} {fd : FuncData} {ps : List Str} {Fn : List PyData → Option PyData} {E : XK} {x : Str} {p pos : Pos} {e : Expr} {es : List Expr} {t : TA} {fs : FA} (F : FnG X.prog X.w X.K X.mg X.base CX k f fd ps (spZ n Fn)) (ga : GA k X.A)
    (hm : X.mg x = some (.ref f)) (hk : PySem.W.keepIn X.K (.ref f) = true) (hb : Binds X.K fd ps []) (hx : Passes CX X E) (ha : DAc X O (e :: es) t fs) (hlen : (e :: es).length = n := by rfl) (hfs : ∀ ρ ds, fs ρ = some ds → ds.length = (e :: es).length) (hg : Gl X x := by rfl)
    (hdb : (x == ("__debug__" : Str)) = false := by decide) (he : starEach (e :: es) X.env = (false, eval e X.env) :: starEach es X.env := by rfl) (hpl : (backTo pos (starEach es X.env)).any (·.1) = false := by rfl) : DZ X O (.Call (.Name x p) (e :: es) [] pos) (tCall (spZ n Fn) [] E t) (fFn Fn fs) :=
  ⟨pe_callG F ga hg hm hk hb hx ha.pa hdb he hpl, fun ρ σ Hs H d s h Q q => by
    obtain ⟨xs, hxs, h⟩ := bind_some h
    refine ha.ev ρ σ Hs H xs s hxs _ fun vs Hs1 H1 g1 r1 => ?_
    refine ⟨xs, d, Hs1, (hfs ρ xs hxs).trans hlen, g1.sub, ?_, h, fun v Hs2 H2 g2 r2 z2 => q v Hs2 H2 (g1.trans g2) r2 (@R.mono kS _ _ (outH_base g1.h) _ _ z2)⟩
    rw [List.append_nil]
    exact r1⟩
/-- what of the slots may be kept where the old heap is forgotten -/
def cutR (ρ : Rho) : Rho := ρ.map fun o => o.bind fun d => if scalD d = true then some d else none
def sCut (i : Nat) (f : F) (G : FS) : FS := fun ρ => (f ρ).bind fun d => G ((cutR ρ).set i (some d))
theorem cut_slots {ρ : Rho} {σ : St} {Hs H H1 Hs2 H2 : Hp} {i : Nat} {v : V} {d : PyData} (s : Slots [] ρ σ Hs H1) (hH : Same H H1) (g : Gr Hs H1 Hs2 H2) (z : RS (outH H1 Hs2) v d) : @StOK kS [] ((cutR ρ).set i (some d)) (σ.set i (some v)) (outH H Hs2) H2 (outH H Hs2) H2 := by
  have e0 : Same (outH H Hs2) H2 := outH_sub.trans g.sub
  have lc : (cutR ρ).length = ρ.length := List.length_map ..
  refine @StOK.mk kS _ _ _ _ _ _ _ (@Slots.mk kS _ _ _ _ _ e0 (by rw [List.length_set, List.length_set, lc]; exact s.len) (fun j e h => ?_) fun j k dj dk v hn (h1 : false = true) => Bool.noConfusion h1) (.refl e0) fun j hj => absurd hj List.not_mem_nil
  by_cases hj : i = j
  · subst hj
    have hl : i < ρ.length := by
      have := (List.getElem?_eq_some_iff.mp h).1
      rwa [List.length_set, lc] at this
    rw [List.getElem?_set_self (by rw [lc]; exact hl)] at h
    obtain rfl := Option.some.inj (Option.some.inj h)
    exact ⟨v, List.getElem?_set_self (by rw [s.len]; exact hl), fun z => Bool.noConfusion (show false = true from z), fun _ => @R.mono kS _ _ (outH_base hH) _ _ z⟩
  · have ec : (cutR ρ)[j]? = (ρ[j]?).map fun o => o.bind fun d => if scalD d = true then some d else none := List.getElem?_map ..
    rw [List.getElem?_set_ne hj, ec] at h
    obtain ⟨o, h1, h2⟩ := Option.map_eq_some_iff.mp h
    obtain ⟨d', h3, h4⟩ := bind_some h2
    obtain ⟨c, rfl⟩ := if_some (show (if scalD d' = true then some d' else none) = some e from h4)
    rw [h3] at h1
    obtain ⟨w, k1, _, k3⟩ := s.val j d' h1
    exact ⟨w, by rw [List.getElem?_set_ne hj]; exact k1, fun z => Bool.noConfusion (show false = true from z), fun _ => scal_RS c (k3 rfl)⟩
theorem cut_back {Hs H Hs2 H2 Hs3 H3 : Hp} (e0 : Same Hs H) (hH : Same H H2) (g : Gr (outH H Hs2) H2 Hs3 H3) : Gr Hs H (joinH Hs Hs3) H3 ∧ Same Hs3 (outH H (joinH Hs Hs3)) := by
  have out : ∀ a, H a ≠ none → Hs3 a = none := fun a h => by
    refine g.non a ?_ fun z => h (Same.free hH z)
    cases q : H a with
    | none => exact absurd q h
    | some o =>
      unfold outH
      rw [q]
  have both : ∀ a u, Hs3 a = some u → H a = none := fun a u h => by
    cases q : H a with
    | none => rfl
    | some o =>
      rw [out a (by rw [q]; simp)] at h
      cases h
  refine ⟨⟨joinH_l, hH.trans g.h, fun a u h => ?_, fun a h1 h2 => joinH_of h1 (out a h2)⟩, fun a u h => ?_⟩
  · unfold joinH at h
    cases q : Hs a with
    | none =>
      rw [q] at h
      exact g.sub _ _ h
    | some o =>
      rw [q] at h
      cases h
      exact g.h _ _ (hH _ _ (e0 _ _ q))
  · have n := both a u h
    rw [outH_of n]
    unfold joinH
    rw [Same.free e0 n]
    exact h
/-- a def: statements, then x = (something fresh), then statements that read nothing older -/
theorem def_cut {P : Program} {w : World} {K : PySem.W.Frag} {mg : Str → Option Value} {base : Heap} {CX : CXT} {x qual : Str} {st : Stmt} {f : Addr} {fd : FuncData} {N ps : List Str} {k : Nat} {nl : Nat} {s1 s2 : Stmt} {rest : List Stmt} {G1 G3 : FS} {f2 : F} {i : Nat} {n : Nat} (F : Fun K x qual st f fd) (S : FnScope N ps (defScope st)) (hn : ps.length = n) (hnl : N.length = nl) (hst : defBody st = s1 :: s2 :: rest)
    (none_ok : ∀ ρ ρ', G3 ρ ≠ some (.nx ρ')) (no_rt : ∀ ρ d, G1 ρ ≠ some (.rt d))
    (body : ∀ (cdv : Value) (A : Around) (outer : List Env) (s : Shared) (H : Hp) (E : XK), GA k (A.deeper (envOfC qual (defScope st) s.heap.objs.size f cdv)) →
      ∃ t1 t2 t3 W1 W3, DS (cxOf CX P w K mg base N qual (defScope st) f cdv A outer s H E).nox .cl [] [] [] W1 s1 t1 G1 ∧ DSz (cxOf CX P w K mg base N qual (defScope st) f cdv A outer s H E).nox [] i s2 t2 f2 ∧ @DSs kS (cxOf CX P w K mg base N qual (defScope st) f cdv A outer s H E).nox .cl [] [] [] W3 rest t3 G3) : FnG P w K mg base CX (k + 1) f fd ps (spZ n (runF nl (sSeq G1 (sCut i f2 G3)))) := by
  subst hn
  subst hnl
  refine fnG_of F S spZ_len fun cdv A outer s H vs Q E ga want => ?_
  obtain ⟨t1, t2, t3, W1, W3, h1, h2, h3⟩ := body cdv A outer s H E ga
  obtain ⟨ds, d, Hs, hl, e, r, hf, q⟩ := want
  refine ⟨_, by rw [hst]; exact (pss_cons h1.ps (pss_cons h2.ps (@DSs.ps kS _ _ _ _ _ _ _ _ _ h3))).nox, ?_⟩
  obtain ⟨o, ho, hd⟩ := bind_some hf
  obtain ⟨te, rfl, hev⟩ := h2.ev
  obtain ⟨o1, ho1, ho2⟩ := bind_some ho
  have go : ∀ (ρ1 : Rho) (σ1 : St) (Hs1 H1 : Hp), StOK [] ρ1 σ1 Hs H Hs1 H1 → sCut i f2 G3 ρ1 = some o → ∀ D : Ends, (∀ v Hs' H', Gr Hs H Hs' H' → R Hs' v d → RS (outH H Hs') v d → D.rt v H') → tSeq (tAsg te (gName i)) t3 D σ1 H1 := fun ρ1 σ1 Hs1 H1 x1 hc D qr => by
    obtain ⟨d2, hd2, hc⟩ := bind_some hc
    refine hev ρ1 σ1 Hs1 H1 d2 x1.sl hd2 _ fun v Hs2 H2 g2 r2 z2 => ?_
    refine @DSs.ev kS _ _ _ _ _ _ _ _ _ h3 ((cutR ρ1).set i (some d2)) (σ1.set i (some v)) (outH H Hs2) H2 (outH H Hs2) H2 D o (cut_slots x1.sl x1.gr.h g2 z2) hc ?_
    cases o with
    | nx ρ' => exact absurd hc (none_ok _ _)
    | rt d' =>
      cases hd
      intro u Hs3 H3 g3 r3
      obtain ⟨g4, e4⟩ := cut_back e (x1.gr.h.trans g2.h) g3
      have z4 : RS (outH H (joinH Hs Hs3)) u d := @R.mono kS _ _ e4 _ _ r3
      exact qr u _ H3 g4 (RS.up (@R.mono kS _ _ outH_sub _ _ z4)) z4
    | bk _ => cases hd
    | ct _ => cases hd
  refine h1.ev _ _ Hs H Hs H _ o1 (start_slots e r) ho1 ?_
  cases o1 with
  | nx ρ1 => exact fun σ1 Hs1 H1 x1 _ => go ρ1 σ1 Hs1 H1 x1 ho2 { nx := fun _ H' => Q .non H', rt := Q } q
  | rt d' =>
    exact absurd ho1 (no_rt _ _)
  | bk _ =>
    cases ho2
    cases hd
  | ct _ =>
    cases ho2
    cases hd
end DL
set_option Elab.async false
set_option linter.all false
set_option maxRecDepth 100000
namespace DL
open PySem PySem.Spec L2
open PyProof.Rows hiding St
variable [kf : KF]
/-! ### a fresh list of lists, whose lists are appended to in the end -/
/-- the state while the slot i holds fresh data: Hb stood, with Hc about it, where it was made; Wd: the slots written since -/
structure FrSt (O : List Nat) (i : Nat) (Wd : List Nat) (ρ : Rho) (σ : St) (Hb Hc Hs H : Hp) : Prop where
  st : StOK O ρ σ Hb Hc Hs H
  fr : ∀ d, ρ[i]? = some (some d) → ∃ v, σ[i]? = some (some v) ∧ RS (outH Hc Hs) v d
  old : ∀ k, k ≠ i → k ∉ Wd → ∀ d, ρ[k]? = some (some d) → ∃ v, σ[k]? = some (some v) ∧ R Hb v d
def SemF (m : Md) (OB O O' : List Nat) (i : Nat) (Wd W : List Nat) (ts : TS) (G : FS) : Prop := ∀ (ρ0 ρ : Rho) (σ0 σ : St) (Hs0 H0 Hb Hc Hs H : Hp) (D : Ends) (o : Out), Gr Hs0 H0 Hb Hc → FrSt O i Wd ρ σ Hb Hc Hs H → Fx (i :: Wd) σ0 σ ρ0 ρ → G ρ = some o → Post m OB O' (i :: Wd ++ W) σ0 ρ0 Hs0 H0 D o → ts D σ H
structure DF (X : Cx) (m : Md) (OB O O' : List Nat) (i : Nat) (Wd W : List Nat) (st : List Stmt) (ts : TS) (G : FS) : Prop where
  ps : PSs X st ts
  ev : SemF m OB O O' i Wd W ts G
theorem StOK.base {O : List Nat} {ρ : Rho} {σ : St} {Hs0 H0 Hb Hc Hs H : Hp} (g : Gr Hs0 H0 Hb Hc) (x : StOK O ρ σ Hb Hc Hs H) : StOK O ρ σ Hs0 H0 Hs H := ⟨x.sl, g.trans x.gr, fun i hi d hd => by
  obtain ⟨a, ka, kb⟩ := x.new i hi d hd
  exact ⟨a, ka, Same.free g.h kb⟩⟩
section
variable {X : Cx} {m : Md} {OB O O' O'' W W' Wd : List Nat} {i : Nat} {st : Stmt} {rest : List Stmt} {t u : TS} {G G' : FS}
theorem df_frz (k : Nat) (h : DF X m OB (del k O) O' i Wd W rest t G) : DF X m OB O O' i Wd W rest t G := ⟨h.ps, fun ρ0 ρ σ0 σ Hs0 H0 Hb Hc Hs H D o g x fx hg q => by
  obtain ⟨Hs', x', e, _⟩ := x.st.freezeS k
  exact h.ev ρ0 ρ σ0 σ Hs0 H0 Hb Hc Hs' H D o g ⟨x', fun d hd => let ⟨v, h1, h2⟩ := x.fr d hd; ⟨v, h1, @R.mono kS _ _ (outH_mono e) _ _ h2⟩, x.old⟩ fx hg q⟩
theorem df_cons (h : DS X m OB O O' W st t G) (hr : DF X m OB O' O'' i (Wd ++ W) W' rest u G') (hi : W.contains i = false := by rfl) : DF X m OB O O'' i Wd (W ++ W') (st :: rest) (tSeq t u) (sSeq G G') := ⟨pss_cons h.ps hr.ps, fun ρ0 ρ σ0 σ Hs0 H0 Hb Hc Hs H D o g x fx hg q => by
  obtain ⟨o1, h1, h2⟩ := bind_some hg
  have gb : Gr Hb Hc Hs H := x.st.gr
  have niW : i ∉ W := fun z => by
    rw [mem_contains z] at hi
    cases hi
  have low : Gr Hs0 H0 Hs (joinH Hc Hs) := g.trans (gr_join gb)
  have fxx : ∀ {σ' : St} {ρ' : Rho}, Fx W σ σ' ρ ρ' → Fx (i :: (Wd ++ W)) σ0 σ' ρ0 ρ' := fun f => (fx.app f).mono fun j z => by
    rcases List.mem_append.mp z with z | z
    · rcases List.mem_cons.mp z with z | z
      · exact List.mem_cons.mpr (.inl z)
      · exact List.mem_cons_of_mem _ (List.mem_append_left _ z)
    · exact List.mem_cons_of_mem _ (List.mem_append_right _ z)
  have sub : ∀ {j : Nat}, j ∈ i :: (Wd ++ W) → j ∈ i :: Wd ++ (W ++ W') := fun z => by
    rcases List.mem_cons.mp z with z | z
    · exact List.mem_cons.mpr (.inl z)
    · refine List.mem_cons_of_mem _ ?_
      rcases List.mem_append.mp z with z | z
      · exact List.mem_append_left _ z
      · exact List.mem_append_right _ (List.mem_append_left _ z)
  refine h.ev ρ σ Hs (joinH Hc Hs) Hs H { D with nx := u D } o1 (x.st.rebase gb (.refl _)) h1 ?_
  cases o1 with
  | nx ρ' =>
    refine fun σ' Hs' H' x' f' => hr.ev ρ0 ρ' σ0 σ' Hs0 H0 Hb Hc Hs' H' D o g ⟨StOK.unbase gb x', fun d hd => ?_, fun k hk hkW d hd => ?_⟩ (fxx f') h2 ?_
    · obtain ⟨e1, e2⟩ := f' i niW
      rw [e2] at hd
      obtain ⟨v, k1, k2⟩ := x.fr d hd
      exact ⟨v, by rw [e1]; exact k1, @R.mono kS _ _ (outH_mono x'.gr.s) _ _ k2⟩
    · obtain ⟨e1, e2⟩ := f' k fun z => hkW (List.mem_append_right _ z)
      rw [e2] at hd
      obtain ⟨v, k1, k2⟩ := x.old k hk (fun z => hkW (List.mem_append_left _ z)) d hd
      exact ⟨v, by rw [e1]; exact k1, k2⟩
    · have ass : ∀ j, j ∈ i :: (Wd ++ W) ++ W' → j ∈ i :: Wd ++ (W ++ W') := fun j z => by
        rcases List.mem_append.mp z with z | z
        · exact sub z
        · exact List.mem_cons_of_mem _ (List.mem_append_right _ (List.mem_append_right _ z))
      exact q.mono ass
  | rt d =>
    cases h2
    exact fun v Ks K gr r => q v Ks K (low.trans gr) (r.back low.h)
  | bk ρ' =>
    cases h2
    exact fun σ' Hs' H' x' f' => q σ' Hs' H' (StOK.base g (StOK.unbase gb x')) ((fxx f').mono fun j z => sub z)
  | ct ρ' =>
    cases h2
    exact fun σ' Hs' H' x' f' => q σ' Hs' H' (StOK.base g (StOK.unbase gb x')) ((fxx f').mono fun j z => sub z)⟩
/-- x = (fresh), then the rest -/
theorem df_asg {f : F} (h : DSz X O i st t f) (hO : O = []) (hr : DF X m OB O O' i [] W rest u G') : DSs X m OB O O' (i :: [] ++ W) (st :: rest) (tSeq t u) (sSeq (sAsg i f) G') := ⟨pss_cons h.ps hr.ps, fun ρ σ Hs0 H0 Hs H D o x hg q => by
  subst hO
  obtain ⟨o1, h1, h2⟩ := bind_some hg
  obtain ⟨d, hd, rfl⟩ := Option.map_eq_some_iff.mp h1
  obtain ⟨te, rfl, hev⟩ := h.ev
  refine hev ρ σ Hs H d x.sl hd _ fun v Hs1 H1 g1 r1 z1 => ?_
  have x1 : StOK [] (ρ.set i (some d)) (σ.set i (some v)) Hs H Hs1 H1 := by
    have y : StOK [] ρ σ Hs H Hs H := ⟨x.sl, .refl x.sl.sub, fun j hj => absurd hj List.not_mem_nil⟩
    exact (y.mono g1).del (i := i) r1
  refine hr.ev ρ _ σ _ Hs0 H0 Hs H Hs1 H1 D o x.gr ⟨x1, fun d' hd' => ?_, fun k hk _ d' hd' => ?_⟩ .set h2 q
  · have hl : i < ρ.length := by
      have := (List.getElem?_eq_some_iff.mp hd').1
      rwa [List.length_set] at this
    rw [List.getElem?_set_self hl] at hd'
    obtain rfl := Option.some.inj (Option.some.inj hd')
    exact ⟨v, List.getElem?_set_self (by rw [x.sl.len]; exact hl), z1⟩
  · rw [List.getElem?_set_ne (fun z => hk z.symm)] at hd' ⊢
    obtain ⟨w, k1, _, k3⟩ := x.sl.val k d' hd'
    exact ⟨w, k1, k3 rfl⟩⟩
end
/-! the lists of a fresh list, each with something appended -/
def appD : Nat → List PyData → List PyData
  | _, [] => []
  | k, .list ws :: r => .list (ws ++ [.int (k : Int)]) :: appD (k + 1) r
  | k, d :: r => d :: appD (k + 1) r
def rowOk : PyData → Bool
  | .list ws => ws.all scalD && decide (ws.length ≤ 1000)
  | _ => false
def appOk (ds : List PyData) : Prop := ds.all rowOk = true ∧ ds.Nodup ∧ ds.length ≤ 1000
open Classical in
noncomputable def sFin (i j : Nat) (Wd : List Nat) (G : FS) : FS := fun ρ => match ρ[i]? with
  | some (some (.list ds)) => if appOk ds ∧ j < ρ.length then G ((wipeR ρ (j :: Wd)).set i (some (.list (appD 0 ds)))) else none
  | _ => none
/-- the heap after k lists were appended to -/
def updN (H : Hp) (bs : List Addr) (us : List (List V)) : Nat → Hp
  | 0 => H
  | k + 1 => upd (updN H bs us k) (bs.getD k 0) (.lst (us.getD k [] ++ [.int (k : Int)]))
theorem scal_fun {H H' : Hp} {v : V} {d d' : PyData} (h : scalD d = true) (r : R H v d) (r' : R H' v d') : d = d' := by
  cases r with
  | non => cases r'; rfl
  | bl b => cases r'; rfl
  | int n => cases r'; rfl
  | str x => cases r'; rfl
  | lst _ _ => cases h
  | tup _ _ => cases h
theorem scal_funA {H H' : Hp} : ∀ {vs : List V} {ds ds' : List PyData}, ds.all scalD = true → RA H vs ds → RA H' vs ds' → ds = ds'
  | _, _, _, _, .nil, .nil => rfl
  | _, _, _, h, .cons a b, .cons a' b' => by
    rw [List.all_cons, Bool.and_eq_true] at h
    rw [scal_fun h.1 a a', scal_funA h.2 b b']
theorem scal_ref {H : Hp} {a : Addr} {d : PyData} (h : scalD d = true) (r : R H (.ref a) d) : False := by
  cases r with
  | lst _ _ => cases h
  | tup _ _ => cases h
/-- the rows of a fresh list of rows -/
theorem fresh_rows {H : Hp} (ds : List PyData) : ∀ {vs : List V}, RSA H vs ds → ds.all rowOk = true → ∃ (bs : List Addr) (us : List (List V)), vs = bs.map V.ref ∧ bs.length = ds.length ∧ us.length = ds.length ∧
    ∀ k, k < ds.length → ∃ ws, ds[k]? = some (.list ws) ∧ ws.all scalD = true ∧ ws.length ≤ 1000 ∧ H (bs.getD k 0) = some (.lst (us.getD k [])) ∧ RA H (us.getD k []) ws := by
  induction ds with
  | nil =>
    intro vs r _
    have r' : @RA kS H vs [] := r
    cases r'
    exact ⟨[], [], rfl, rfl, rfl, fun k hk => absurd hk (Nat.not_lt_zero _)⟩
  | cons d ds ih =>
    intro vs r h
    have r' : @RA kS H vs (d :: ds) := r
    cases r'
    rename_i v vs a b
    rw [List.all_cons, Bool.and_eq_true] at h
    obtain ⟨bs, us, h1, h2, h3, h4⟩ := ih b h.2
    obtain ⟨hd, _⟩ := h
    cases d <;> try (cases hd; done)
    rename_i ws
    have hd2 : (ws.all scalD && decide (ws.length ≤ 1000)) = true := hd
    rw [Bool.and_eq_true] at hd2
    obtain ⟨c1, c2⟩ := hd2
    have hx : ∃ b0 u0, v = .ref b0 ∧ H b0 = some (.lst u0) ∧ RA H u0 ws := by
      cases a with
      | lst p r => exact ⟨_, _, rfl, p.elim id fun z => Bool.noConfusion (show false = true from z.1), RSA.up r⟩
    obtain ⟨b0, u0, rfl, p, r⟩ := hx
    refine ⟨b0 :: bs, u0 :: us, by rw [List.map_cons, h1], by rw [List.length_cons, List.length_cons, h2], by rw [List.length_cons, List.length_cons, h3], fun k hk => ?_⟩
    cases k with
    | zero => exact ⟨ws, rfl, c1, of_decide_eq_true c2, p, r⟩
    | succ k =>
      obtain ⟨ws', q1, q2⟩ := h4 k (by rw [List.length_cons] at hk; omega)
      exact ⟨ws', q1, q2⟩
theorem updN_ne {H : Hp} {bs : List Addr} {us : List (List V)} {a : Addr} : ∀ {k : Nat}, (∀ l < k, a ≠ bs.getD l 0) → updN H bs us k a = H a
  | 0, _ => rfl
  | k + 1, h => by
    show upd (updN H bs us k) _ _ a = _
    rw [upd_ne (h k (by omega)), updN_ne fun l hl => h l (by omega)]
theorem updN_at {H : Hp} {bs : List Addr} {us : List (List V)} {l : Nat} : ∀ {k : Nat}, l < k → (∀ x y, x < k → y < k → bs.getD x 0 = bs.getD y 0 → x = y) → updN H bs us k (bs.getD l 0) = some (.lst (us.getD l [] ++ [.int (l : Int)]))
  | 0, h, _ => absurd h (Nat.not_lt_zero _)
  | k + 1, h, inj => by
    show upd (updN H bs us k) (bs.getD k 0) _ (bs.getD l 0) = _
    by_cases e : l = k
    · subst e
      rw [upd_same]
    · rw [upd_ne fun z => e (inj l k h (by omega) z)]
      exact updN_at (by omega) fun x y hx hy => inj x y (by omega) (by omega)
theorem appD_length : ∀ (k : Nat) (ds : List PyData), (appD k ds).length = ds.length
  | _, [] => rfl
  | k, d :: r => by
    cases d <;> (show (appD (k + 1) r).length + 1 = r.length + 1; rw [appD_length (k + 1) r])
theorem appD_RA {H : Hp} : ∀ {ds : List PyData} {bs : List Addr} {us : List (List V)} (k0 : Nat), bs.length = ds.length → us.length = ds.length →
    (∀ k, k < ds.length → ∃ ws, ds[k]? = some (.list ws) ∧ H (bs.getD k 0) = some (.lst (us.getD k [] ++ [.int ((k0 + k : Nat) : Int)])) ∧ RA H (us.getD k []) ws) → RA H (bs.map V.ref) (appD k0 ds)
  | [], [], _, _, _, _, _ => .nil
  | [], _ :: _, _, _, h, _, _ => by cases h
  | _ :: _, [], _, _, h, _, _ => by cases h
  | _ :: _, _ :: _, [], _, _, h, _ => by cases h
  | d :: ds, b :: bs, u :: us, k0, h1, h2, h => by
    obtain ⟨ws, e, p, r⟩ := h 0 (by rw [List.length_cons]; omega)
    have e' : d = .list ws := Option.some.inj e
    subst e'
    refine .cons (.lst (ls_of p) (r.append (.cons (.int _) .nil))) (appD_RA (ds := ds) (bs := bs) (us := us) (k0 + 1) (by rw [List.length_cons, List.length_cons] at h1; omega) (by rw [List.length_cons, List.length_cons] at h2; omega) fun k hk => ?_)
    obtain ⟨ws', q1, q2, q3⟩ := h (k + 1) (by rw [List.length_cons]; omega)
    rw [show k0 + (k + 1) = k0 + 1 + k by omega] at q2
    exact ⟨ws', q1, q2, q3⟩
end DL
set_option Elab.async false
set_option linter.all false
set_option maxRecDepth 100000
namespace DL
open PySem PySem.Spec L2
open PyProof.Rows hiding St
variable [kf : KF]
theorem getD_get {α : Type} {l : List α} {k : Nat} {d : α} (h : k < l.length) : l[k]? = some (l.getD k d) := by
  rw [List.getD_eq_getElem?_getD, List.getElem?_eq_getElem h] <;> rfl
theorem wipeR_some {ρ : Rho} {vs : List Nat} {k : Nat} {d : PyData} (h : (wipeR ρ vs)[k]? = some (some d)) : k ∉ vs ∧ ρ[k]? = some (some d) := by
  rw [wipeR_get] at h
  by_cases hk : k ∈ vs
  · rw [if_pos hk] at h
    split at h <;> cases h
  · rw [if_neg hk] at h
    exact ⟨hk, h⟩
/-- for j in range(len(x)): x[j].append(j), x fresh; then the rest -/
theorem df_app {X : Cx} {m : Md} {OB O' W Wd : List Nat} (i j : Nat) {st : Stmt} {fin : List Stmt} {e ix tg : Expr} {fx : F} {tlen : TE} {tf : TS} {Gf : FS} (hlen : DE X [] .rd e tlen (fFn (g1 dLen) (fConsA (fVar i) fNilA)))
    (hix : DE X [] .cl ix (tOp (rIx KF.K) (tVar i) (tVar j)) fx) (hgj : DG X [] tg (gName j) (gN j) [j])
    (hps : PE X e tlen → PE X ix (tOp (rIx KF.K) (tVar i) (tVar j)) → PG X tg (gName j) → PS X st (tFor (iRng1 (tCons tlen tNil)) (gName j) (tDrop (tBM X.K "list" rAppend (tOp (rIx KF.K) (tVar i) (tVar j)) (tCons (tVar j) tNil))))) (hK : X.K = KF.K) (hfin : DSs X m OB [] O' W fin tf Gf) (hij : i ≠ j := by decide) :
    DF X m OB [] O' i Wd (j :: W) (st :: fin) (tSeq (tFor (iRng1 (tCons tlen tNil)) (gName j) (tDrop (tBM X.K "list" rAppend (tOp (rIx KF.K) (tVar i) (tVar j)) (tCons (tVar j) tNil)))) tf) (sFin i j Wd Gf) := ⟨pss_cons (hps hlen.pe hix.pe hgj.pg) hfin.ps, fun ρ0 ρ σ0 σ Hs0 H0 Hb Hc Hs H D o g x fx hg q => by
  unfold sFin at hg
  cases hρ : ρ[i]? with
  | none => rw [hρ] at hg; cases hg
  | some od =>
  rw [hρ] at hg
  cases od with
  | none => cases hg
  | some d =>
  cases d <;> try (cases hg; done)
  rename_i ds
  by_cases hok : appOk ds ∧ j < ρ.length
  case neg => simp only [hok, if_false] at hg; cases hg
  have hg : Gf ((wipeR ρ (j :: Wd)).set i (some (.list (appD 0 ds)))) = some o := (if_pos hok).symm.trans hg
  obtain ⟨⟨hrow, hnd, hlen1000⟩, hjρ⟩ := hok
  obtain ⟨v, hv, hz⟩ := x.fr _ hρ
  -- the rows and their addresses
  obtain ⟨a0, vs0, rfl, p0, rz⟩ : ∃ a0 vs0, v = .ref a0 ∧ outH Hc Hs a0 = some (.lst vs0) ∧ RSA (outH Hc Hs) vs0 ds := by
    have hz2 : @R kS (outH Hc Hs) v (.list ds) := hz
    cases hz2 with
    | lst p r => exact ⟨_, _, rfl, p.elim id fun z => Bool.noConfusion (show false = true from z.1), r⟩
  obtain ⟨bs, us, rfl, lb, lu, hrows⟩ := fresh_rows ds rz hrow
  obtain ⟨n0, p0'⟩ := outH_some p0
  have at_ : ∀ k, k < ds.length → ∃ ws, ds[k]? = some (.list ws) ∧ ws.all scalD = true ∧ ws.length ≤ 1000 ∧ Hc (bs.getD k 0) = none ∧ Hs (bs.getD k 0) = some (.lst (us.getD k [])) ∧ RA (outH Hc Hs) (us.getD k []) ws := fun k hk => by
    obtain ⟨ws, q1, q2, q3, q4, q5⟩ := hrows k hk
    obtain ⟨q6, q7⟩ := outH_some q4
    exact ⟨ws, q1, q2, q3, q6, q7, q5⟩
  have inj : ∀ x y, x < ds.length → y < ds.length → bs.getD x 0 = bs.getD y 0 → x = y := fun x y hx hy e => by
    obtain ⟨ws, a1, a2, _, _, a5, a6⟩ := at_ x hx
    obtain ⟨ws', b1, b2, _, _, b5, b6⟩ := at_ y hy
    rw [e, b5] at a5
    have e2 : us.getD y [] = us.getD x [] := by
      have := Option.some.inj a5
      exact (HO.lst.inj this)
    rw [e2] at b6
    have e3 := scal_funA a2 a6 b6
    subst e3
    have hx' := List.getElem?_eq_some_iff.mp a1
    have hy' := List.getElem?_eq_some_iff.mp b1
    obtain ⟨x1, x2⟩ := hx'
    obtain ⟨y1, y2⟩ := hy'
    have nd := List.pairwise_iff_getElem.mp hnd
    rcases Nat.lt_trichotomy x y with h | h | h
    · exact absurd (x2.trans y2.symm) (nd x y x1 y1 h)
    · exact h
    · exact absurd (y2.trans x2.symm) (nd y x y1 x1 h)
  have na0 : ∀ k, k < ds.length → a0 ≠ bs.getD k 0 := fun k hk e => by
    obtain ⟨ws, a1, a2, _, _, a5, a6⟩ := at_ k hk
    rw [← e, p0'] at a5
    have e2 : us.getD k [] = bs.map V.ref := (HO.lst.inj (Option.some.inj a5)).symm
    rw [e2] at a6
    have hkb : k < bs.length := by omega
    have e3 : (bs.map V.ref)[k]? = some (.ref (bs.getD k 0)) := by rw [List.getElem?_map, getD_get hkb] <;> rfl
    cases ws with
    | nil =>
      have := a6.length
      rw [List.length_map, List.length_nil] at this
      omega
    | cons w ws =>
      rw [List.all_cons, Bool.and_eq_true] at a2
      cases bs with
      | nil => cases hkb
      | cons b bs =>
        rw [List.map_cons] at a6
        cases a6 with
        | cons a b => exact scal_ref a2.1 a
  -- len(x)
  refine hlen.ev ρ σ Hs H (.int (ds.length : Int)) x.st.sl ?_ _ fun vl Hs1 H1 g1 r1 => ?_
  · unfold fFn fConsA fNilA fVar
    rw [hρ] <;> rfl
  have hvl := rd_int r1
  subst hvl
  refine ⟨(ds.length : Int), rfl, by omega, by omega, ?_⟩
  have up : Same Hs H1 := g1.s.trans g1.sub
  have A0 : H1 a0 = some (.lst (bs.map V.ref)) := up _ _ p0'
  have AB : ∀ k, k < ds.length → H1 (bs.getD k 0) = some (.lst (us.getD k [])) := fun k hk => let ⟨_, _, _, _, _, a5, _⟩ := at_ k hk; up _ _ a5
  refine ⟨fun k n σ' K => n = ds.length - k ∧ k ≤ ds.length ∧ σ'.length = σ.length ∧ (∀ l, l ≠ j → σ'[l]? = σ[l]?) ∧ K = updN H1 bs us k, ⟨ds.length, by simp, Nat.zero_le _, rfl, fun _ _ => rfl, rfl⟩, ?_⟩
  rintro k n σ' K ⟨rfl, hk, hσl, hσ, rfl⟩
  by_cases hlt : k < ds.length
  · refine .inr ⟨by show k < (ds.length : Int).toNat; omega, fun σ'' K'' => σ''.length = σ.length ∧ (∀ l, l ≠ j → σ''[l]? = σ[l]?) ∧ K'' = updN H1 bs us (k + 1), fun σ'' K'' ⟨h1, h2, h3⟩ => ⟨ds.length - (k + 1), by omega, rfl, by omega, h1, h2, h3⟩, fun xv K' hy => ?_⟩
    obtain ⟨rfl, rfl⟩ := hy
    have hjl : j < σ'.length → (σ'.set j (some (V.int (0 + (k : Int)))))[j]? = some (some (V.int (0 + (k : Int)))) := fun h => List.getElem?_set_self h
    have hi' : (σ'.set j (some (V.int (0 + (k : Int)))))[i]? = some (some (.ref a0)) := by
      rw [List.getElem?_set_ne hij.symm, hσ i hij]
      exact hv
    have hjr : j < σ'.length := by rw [hσl, x.st.sl.len]; exact hjρ
    · obtain ⟨ws, b1, b2, b3, b4, b5, b6⟩ := at_ k hlt
      refine ⟨.ref a0, hi', .int (0 + (k : Int)), hjl hjr, ?_⟩
      refine .inl ⟨a0, bs.map V.ref, 0 + (k : Int), .ref (bs.getD k 0), rfl, rfl, .inl (.inl (by rw [updN_ne fun l hl => na0 l (by omega)]; exact A0)), ?_, ?_⟩
      · rw [Int.zero_add]
        refine atI_nat ?_
        rw [List.getElem?_map, getD_get (d := 0) (by omega)] <;> rfl
      · have at_k : updN H1 bs us k (bs.getD k 0) = some (.lst (us.getD k [])) := by
          rw [updN_ne fun l hl e => by have := inj k l hlt (by omega) e; omega]
          exact AB k hlt
        refine ⟨.inl ⟨rfl, _, .inl (.inl at_k)⟩, .int (0 + (k : Int)), hjl hjr, bs.getD k 0, us.getD k [], .int (0 + (k : Int)), rfl, rfl, at_k, ?_, ?_⟩
        · rw [b6.length]
          exact Nat.lt_of_le_of_lt b3 (by decide)
        · refine ⟨by rw [List.length_set, hσl], fun l hl => by rw [List.getElem?_set_ne (fun z => hl z.symm), hσ l hl], ?_⟩
          rw [Int.zero_add]
          rfl
  · have ek : k = ds.length := by omega
    subst ek
    refine .inl ⟨by show (ds.length : Int).toNat ≤ ds.length; omega, ?_⟩
    -- what stands now
    let New : Hp := fun a => if a = a0 ∨ a ∈ bs then updN H1 bs us ds.length a else Hb a
    have memb : ∀ a, a ∈ bs → ∃ k, k < ds.length ∧ a = bs.getD k 0 := fun a ha => by
      obtain ⟨k, hk, e⟩ := List.mem_iff_getElem.mp ha
      refine ⟨k, by omega, ?_⟩
      rw [List.getD_eq_getElem?_getD, List.getElem?_eq_getElem hk, e] <;> rfl
    have fresh : ∀ a, a = a0 ∨ a ∈ bs → Hc a = none := fun a h => by
      rcases h with rfl | h
      · exact n0
      · obtain ⟨k, hk, rfl⟩ := memb a h
        obtain ⟨_, _, _, _, b4, _⟩ := at_ k hk
        exact b4
    have gc : Gr Hb Hc Hs H := x.st.gr
    have bc : ∀ a u, Hb a = some u → H1 a = some u := fun a u h => up _ _ (gc.s _ _ h)
    have HbHc : Same Hb Hc := g.sub
    have notnew : ∀ a u, Hb a = some u → ¬ (a = a0 ∨ a ∈ bs) := fun a u h z => by
      have := fresh a z
      rw [HbHc _ _ h] at this
      cases this
    have keepU : ∀ a, ¬ (a = a0 ∨ a ∈ bs) → updN H1 bs us ds.length a = H1 a := fun a h => updN_ne fun l hl e => h (.inr (by
      rw [e, List.getD_eq_getElem?_getD, List.getElem?_eq_getElem (by omega)]
      exact List.getElem_mem _))
    have sNew : Same Hb New := fun a u h => by
      show (if a = a0 ∨ a ∈ bs then _ else Hb a) = some u
      rw [if_neg (notnew a u h)]
      exact h
    have subNew : Same New (updN H1 bs us ds.length) := fun a u h => by
      have h' : (if a = a0 ∨ a ∈ bs then updN H1 bs us ds.length a else Hb a) = some u := h
      by_cases c : a = a0 ∨ a ∈ bs
      · rw [if_pos c] at h'
        exact h'
      · rw [if_neg c] at h'
        rw [keepU a c]
        exact bc a u h'
    have rNew : R New (.ref a0) (.list (appD 0 ds)) := by
      refine .lst (vs := bs.map V.ref) (ls_of ?_) (appD_RA (us := us) 0 lb lu fun k hk => ?_)
      · show (if a0 = a0 ∨ a0 ∈ bs then _ else Hb a0) = _
        rw [if_pos (.inl rfl), updN_ne fun l hl => na0 l (by omega)]
        exact A0
      · obtain ⟨ws, b1, b2, b3, b4, b5, b6⟩ := at_ k hk
        refine ⟨ws, b1, ?_, scal_RA b2 b6⟩
        show (if bs.getD k 0 = a0 ∨ bs.getD k 0 ∈ bs then _ else Hb _) = _
        rw [if_pos (.inr (by
          rw [List.getD_eq_getElem?_getD, List.getElem?_eq_getElem (by omega)]
          exact List.getElem_mem _)), updN_at hk inj, Nat.zero_add]
    have hil : i < ρ.length := (List.getElem?_eq_some_iff.mp hρ).1
    have lenρ : σ'.length = ρ.length := by rw [hσl, x.st.sl.len]
    have st' : StOK [] ((wipeR ρ (j :: Wd)).set i (some (.list (appD 0 ds)))) σ' Hs0 H0 New (updN H1 bs us ds.length) := by
      refine ⟨⟨subNew, by rw [List.length_set, wipeR_length, lenρ], fun k d hd => ?_, fun k l dk dl v hn (h1 : false = true) => Bool.noConfusion h1⟩, ⟨g.s.trans sNew, fun a u h => ?_, subNew, fun a h1 h2 => ?_⟩, fun k hk => absurd hk List.not_mem_nil⟩
      · by_cases hki : i = k
        · subst hki
          rw [List.getElem?_set_self (by rw [wipeR_length]; exact hil)] at hd
          obtain rfl := Option.some.inj (Option.some.inj hd)
          exact ⟨.ref a0, by rw [hσ i hij]; exact hv, fun z => Bool.noConfusion (show false = true from z), fun _ => rNew⟩
        · rw [List.getElem?_set_ne hki] at hd
          obtain ⟨h1, h2⟩ := wipeR_some hd
          obtain ⟨w, k1, k2⟩ := x.old k (fun z => hki z.symm) (fun z => h1 (List.mem_cons_of_mem _ z)) d h2
          exact ⟨w, by rw [hσ k fun z => h1 (by rw [z]; exact List.mem_cons_self ..)]; exact k1, fun z => Bool.noConfusion (show false = true from z), fun _ => k2.mono sNew⟩
      · have hca : Hc a = some u := g.h _ _ h
        rw [keepU a fun z => by rw [fresh a z] at hca; cases hca]
        exact (gc.h.trans g1.h) _ _ hca
      · show (if a = a0 ∨ a ∈ bs then _ else Hb a) = none
        have hca : Hc a ≠ none := fun z => h2 (Same.free g.h z)
        rw [if_neg fun z => hca (fresh a z)]
        exact g.non a h1 h2
    have fx' : Fx (i :: j :: Wd) σ σ' ρ ((wipeR ρ (j :: Wd)).set i (some (.list (appD 0 ds)))) := fun k hk => by
      have hki : i ≠ k := fun z => hk (by rw [z]; exact List.mem_cons_self ..)
      have hkj : k ≠ j := fun z => hk (by rw [z]; exact List.mem_cons_of_mem _ (List.mem_cons_self ..))
      have hkW : k ∉ j :: Wd := fun z => hk (List.mem_cons_of_mem _ z)
      exact ⟨hσ k hkj, by rw [List.getElem?_set_ne hki, wipeR_get, if_neg hkW]⟩
    refine hfin.ev _ σ' Hs0 H0 New (updN H1 bs us ds.length) D o st' hg ?_
    have tot : ∀ {σ2 : St} {ρ2 : Rho}, Fx W σ' σ2 ((wipeR ρ (j :: Wd)).set i (some (.list (appD 0 ds)))) ρ2 → Fx (i :: Wd ++ j :: W) σ0 σ2 ρ0 ρ2 := fun f => ((fx.app fx').app f).mono fun l z => by
      simp only [List.mem_append, List.mem_cons] at z ⊢
      rcases z with ((z | z) | (z | z | z)) | z
      · exact .inl (.inl z)
      · exact .inl (.inr z)
      · exact .inl (.inl z)
      · exact .inr (.inl z)
      · exact .inl (.inr z)
      · exact .inr (.inr z)
    cases o with
    | nx ρ2 => exact fun σ2 Hs2 H2 x2 f2 => q σ2 Hs2 H2 x2 (tot f2)
    | rt d => exact q
    | bk ρ2 => exact fun σ2 Hs2 H2 x2 f2 => q σ2 Hs2 H2 x2 (tot f2)
    | ct ρ2 => exact fun σ2 Hs2 H2 x2 f2 => q σ2 Hs2 H2 x2 (tot f2)⟩
end DL
set_option Elab.async false
set_option linter.all false
set_option maxRecDepth 100000
set_option maxHeartbeats 4000000
namespace Law
noncomputable section
open PySem PySem.Spec L2 DL
open PyProof.Rows hiding St
def topS (i : Nat) : Stmt := PySem.Challenge.pw_floodmark_k03_rows_in_echelon_form.main.body.getD i (.Pass ⟨0, 0, 0, 0⟩)
abbrev s_primitive : Stmt := topS 2
theorem sc_primitive : FnScope ["vector", "divisor", "item"] ["vector"] (defScope s_primitive) := ⟨rfl, rfl, rfl, by decide +kernel, rfl, by decide +kernel, by decide +kernel⟩
abbrev s_combined : Stmt := topS 3
theorem sc_combined : FnScope ["first", "vector", "second", "other", "left", "right"] ["first", "vector", "second", "other"] (defScope s_combined) := ⟨rfl, rfl, rfl, by decide +kernel, rfl, by decide +kernel, by decide +kernel⟩
abbrev s_column_order : Stmt := topS 4
theorem sc_column_order : FnScope ["size"] ["size"] (defScope s_column_order) := ⟨rfl, rfl, rfl, by decide +kernel, rfl, by decide +kernel, by decide +kernel⟩
abbrev s_pivot : Stmt := topS 5
theorem sc_pivot : FnScope ["vector", "column"] ["vector"] (defScope s_pivot) := ⟨rfl, rfl, rfl, by decide +kernel, rfl, by decide +kernel, by decide +kernel⟩
abbrev s_cleared : Stmt := topS 6
theorem sc_cleared : FnScope ["vector", "row", "column"] ["vector", "row", "column"] (defScope s_cleared) := ⟨rfl, rfl, rfl, by decide +kernel, rfl, by decide +kernel, by decide +kernel⟩
abbrev s_echelon : Stmt := topS 7
theorem sc_echelon : FnScope ["rows", "size", "left", "row", "found", "column", "candidates", "other", "item"] ["rows"] (defScope s_echelon) := ⟨rfl, rfl, rfl, by decide +kernel, rfl, by decide +kernel, by decide +kernel⟩
abbrev s_reduced : Stmt := topS 8
theorem sc_reduced : FnScope ["vector", "rows", "result", "row"] ["vector", "rows"] (defScope s_reduced) := ⟨rfl, rfl, rfl, by decide +kernel, rfl, by decide +kernel, by decide +kernel⟩
abbrev s_law_cell : Stmt := topS 10
theorem sc_law_cell : FnScope ["script", "k"] ["script", "k"] (defScope s_law_cell) := ⟨rfl, rfl, rfl, by decide +kernel, rfl, by decide +kernel, by decide +kernel⟩
abbrev s_law_draws : Stmt := topS 11
theorem sc_law_draws : FnScope ["cell", "limits", "found", "rest", "state", "free", "limit"] ["cell", "limits"] (defScope s_law_draws) := ⟨rfl, rfl, rfl, by decide +kernel, rfl, by decide +kernel, by decide +kernel⟩
abbrev s_law_gcd : Stmt := topS 12
theorem sc_law_gcd : FnScope ["a", "b", "k", "rest"] ["a", "b"] (defScope s_law_gcd) := ⟨rfl, rfl, rfl, by decide +kernel, rfl, by decide +kernel, by decide +kernel⟩
abbrev s_law_primitive : Stmt := topS 13
theorem sc_law_primitive : FnScope ["vector", "common", "item"] ["vector"] (defScope s_law_primitive) := ⟨rfl, rfl, rfl, by decide +kernel, rfl, by decide +kernel, by decide +kernel⟩
abbrev s_law_dot : Stmt := topS 14
theorem sc_law_dot : FnScope ["first", "second", "k"] ["first", "second"] (defScope s_law_dot) := ⟨rfl, rfl, rfl, by decide +kernel, rfl, by decide +kernel, by decide +kernel⟩
abbrev s_law_sum : Stmt := topS 15
theorem sc_law_sum : FnScope ["first", "vector", "second", "other", "k"] ["first", "vector", "second", "other"] (defScope s_law_sum) := ⟨rfl, rfl, rfl, by decide +kernel, rfl, by decide +kernel, by decide +kernel⟩
abbrev s_law_pivot : Stmt := topS 16
theorem sc_law_pivot : FnScope ["vector", "column"] ["vector"] (defScope s_law_pivot) := ⟨rfl, rfl, rfl, by decide +kernel, rfl, by decide +kernel, by decide +kernel⟩
abbrev s_law_echelon : Stmt := topS 17
theorem sc_law_echelon : FnScope ["rows", "found", "left", "row", "columns", "k", "column", "chosen", "item", "other"] ["rows"] (defScope s_law_echelon) := ⟨rfl, rfl, rfl, by decide +kernel, rfl, by decide +kernel, by decide +kernel⟩
abbrev s_law_reduced : Stmt := topS 18
theorem sc_law_reduced : FnScope ["vector", "rows", "row", "pivot_v"] ["vector", "rows"] (defScope s_law_reduced) := ⟨rfl, rfl, rfl, by decide +kernel, rfl, by decide +kernel, by decide +kernel⟩
abbrev s_law_null : Stmt := topS 19
theorem sc_law_null : FnScope ["rows", "size", "pivots", "row", "scale", "k", "found", "column", "vector"] ["rows", "size"] (defScope s_law_null) := ⟨rfl, rfl, rfl, by decide +kernel, rfl, by decide +kernel, by decide +kernel⟩
abbrev s_law_vector : Stmt := topS 20
theorem sc_law_vector : FnScope ["cell", "size", "draws", "k"] ["cell", "size"] (defScope s_law_vector) := ⟨rfl, rfl, rfl, by decide +kernel, rfl, by decide +kernel, by decide +kernel⟩
abbrev s_law_is_echelon : Stmt := topS 21
theorem sc_law_is_echelon : FnScope ["rows", "size", "last", "pivots", "row", "pivot_v", "rank", "k", "j"] ["rows", "size"] (defScope s_law_is_echelon) := ⟨rfl, rfl, rfl, by decide +kernel, rfl, by decide +kernel, by decide +kernel⟩
abbrev s_law : Stmt := topS 22
theorem sc_law : FnScope ["script", "k", "draws", "size", "rows", "j", "kept", "actual", "row", "other", "item"] ["script"] (defScope s_law) := ⟨rfl, rfl, rfl, by decide +kernel, rfl, by decide +kernel, by decide +kernel⟩
variable [KF] {P : Program} {w : World} {mg : Str → Option Value} {base : Heap}
structure Txt (K : PySem.W.Frag) (mg : Str → Option Value) where
  a_primitive : Addr
  d_primitive : FuncData
  F_primitive : Fun K "primitive" "primitive" s_primitive a_primitive d_primitive
  g_primitive : mg "primitive" = some (.ref a_primitive)
  b_primitive : L2.Binds K d_primitive ["vector"] []
  a_combined : Addr
  d_combined : FuncData
  F_combined : Fun K "combined" "combined" s_combined a_combined d_combined
  g_combined : mg "combined" = some (.ref a_combined)
  b_combined : L2.Binds K d_combined ["first", "vector", "second", "other"] []
  a_column_order : Addr
  d_column_order : FuncData
  F_column_order : Fun K "column_order" "column_order" s_column_order a_column_order d_column_order
  g_column_order : mg "column_order" = some (.ref a_column_order)
  b_column_order : L2.Binds K d_column_order ["size"] []
  a_pivot : Addr
  d_pivot : FuncData
  F_pivot : Fun K "pivot" "pivot" s_pivot a_pivot d_pivot
  g_pivot : mg "pivot" = some (.ref a_pivot)
  b_pivot : L2.Binds K d_pivot ["vector"] []
  a_cleared : Addr
  d_cleared : FuncData
  F_cleared : Fun K "cleared" "cleared" s_cleared a_cleared d_cleared
  g_cleared : mg "cleared" = some (.ref a_cleared)
  b_cleared : L2.Binds K d_cleared ["vector", "row", "column"] []
  a_echelon : Addr
  d_echelon : FuncData
  F_echelon : Fun K "echelon" "echelon" s_echelon a_echelon d_echelon
  g_echelon : mg "echelon" = some (.ref a_echelon)
  b_echelon : L2.Binds K d_echelon ["rows"] []
  a_reduced : Addr
  d_reduced : FuncData
  F_reduced : Fun K "reduced" "reduced" s_reduced a_reduced d_reduced
  g_reduced : mg "reduced" = some (.ref a_reduced)
  b_reduced : L2.Binds K d_reduced ["vector", "rows"] []
  a_law_cell : Addr
  d_law_cell : FuncData
  F_law_cell : Fun K "_law_cell" "_law_cell" s_law_cell a_law_cell d_law_cell
  g_law_cell : mg "_law_cell" = some (.ref a_law_cell)
  b_law_cell : L2.Binds K d_law_cell ["script", "k"] []
  a_law_draws : Addr
  d_law_draws : FuncData
  F_law_draws : Fun K "_law_draws" "_law_draws" s_law_draws a_law_draws d_law_draws
  g_law_draws : mg "_law_draws" = some (.ref a_law_draws)
  b_law_draws : L2.Binds K d_law_draws ["cell", "limits"] []
  a_law_gcd : Addr
  d_law_gcd : FuncData
  F_law_gcd : Fun K "_law_gcd" "_law_gcd" s_law_gcd a_law_gcd d_law_gcd
  g_law_gcd : mg "_law_gcd" = some (.ref a_law_gcd)
  b_law_gcd : L2.Binds K d_law_gcd ["a", "b"] []
  a_law_primitive : Addr
  d_law_primitive : FuncData
  F_law_primitive : Fun K "_law_primitive" "_law_primitive" s_law_primitive a_law_primitive d_law_primitive
  g_law_primitive : mg "_law_primitive" = some (.ref a_law_primitive)
  b_law_primitive : L2.Binds K d_law_primitive ["vector"] []
  a_law_sum : Addr
  d_law_sum : FuncData
  F_law_sum : Fun K "_law_sum" "_law_sum" s_law_sum a_law_sum d_law_sum
  g_law_sum : mg "_law_sum" = some (.ref a_law_sum)
  b_law_sum : L2.Binds K d_law_sum ["first", "vector", "second", "other"] []
  a_law_pivot : Addr
  d_law_pivot : FuncData
  F_law_pivot : Fun K "_law_pivot" "_law_pivot" s_law_pivot a_law_pivot d_law_pivot
  g_law_pivot : mg "_law_pivot" = some (.ref a_law_pivot)
  b_law_pivot : L2.Binds K d_law_pivot ["vector"] []
  a_law_echelon : Addr
  d_law_echelon : FuncData
  F_law_echelon : Fun K "_law_echelon" "_law_echelon" s_law_echelon a_law_echelon d_law_echelon
  g_law_echelon : mg "_law_echelon" = some (.ref a_law_echelon)
  b_law_echelon : L2.Binds K d_law_echelon ["rows"] []
  a_law_vector : Addr
  d_law_vector : FuncData
  F_law_vector : Fun K "_law_vector" "_law_vector" s_law_vector a_law_vector d_law_vector
  g_law_vector : mg "_law_vector" = some (.ref a_law_vector)
  b_law_vector : L2.Binds K d_law_vector ["cell", "size"] []
  a_law_is_echelon : Addr
  d_law_is_echelon : FuncData
  F_law_is_echelon : Fun K "_law_is_echelon" "_law_is_echelon" s_law_is_echelon a_law_is_echelon d_law_is_echelon
  g_law_is_echelon : mg "_law_is_echelon" = some (.ref a_law_is_echelon)
  b_law_is_echelon : L2.Binds K d_law_is_echelon ["rows", "size"] []
  a_law : Addr
  d_law : FuncData
  F_law : Fun K "law" "law" s_law a_law d_law
  g_law : mg "law" = some (.ref a_law)
  b_law : L2.Binds K d_law ["script"] []
  z_abs : mg "abs" = none
  z_any : mg "any" = none
  z_int : mg "int" = none
  z_isinstance : mg "isinstance" = none
  z_len : mg "len" = none
  z_list : mg "list" = none
  z_range : mg "range" = none
  z_repr : mg "repr" = none
  z_reversed : mg "reversed" = none
  z_zip : mg "zip" = none
  m_gcd : mg "gcd" = some (.builtin "math.gcd")
def B_primitive : FS := (sSeq (sAsg 1 (fC (.int 0))) (sSeq (sFor (iSeq (fVar 0)) (gN 2) (sSeq (sAsg 1 (fFn (g2 dGcd) (fConsA (fVar 1) (fConsA (fVar 2) fNilA)))) sNil)) (sSeq (sIf (tV (fBin dEq (fVar 1) (fC (.int 0)))) (sRet (fFn (g1 dListOf) (fConsA (fVar 0) fNilA))) sNil) (sRet (fLc (iSeq (fVar 0)) (gN 2) tYesF (fBin dDiv (fVar 2) (fVar 1)) [2])))))
def R_primitive : List PyData → Option PyData := runF 3 B_primitive
theorem nx_primitive : ∀ ρ ρ', B_primitive ρ ≠ some (.nx ρ') := (nn_seq (nn_seq (nn_seq nn_ret)))
theorem ok_primitive (T : Txt KF.K mg) : FnG P w KF.K mg base (L2.CX P w) 1 T.a_primitive T.d_primitive ["vector"] (spF 1 .ow R_primitive) :=
  def_nx (k := 0) (B := B_primitive) (O' := []) T.F_primitive sc_primitive rfl rfl (.inr (nx_primitive)) fun cdv A outer s H E ga => ⟨_, (dss_cons (O' := []) (dsn 1 sc_primitive.nd de_int) (dss_cons (O' := []) (ds_for PassesOwn.never rfl (di_seqK rfl (de_var 0 rfl)) (dgn 2 sc_primitive.nd) (dss_cons (O' := []) (dsn 1 sc_primitive.nd (de_gcd rfl T.m_gcd (DE.rd_ (de_var 1 rfl)) (DE.rd_ (de_var 2 rfl)))) dss_nil)) (dss_cons (O' := []) (ds_if (dt_eqK ga.u64 rfl (DE.rd_ (de_var 1 rfl)) (DE.rd_ de_int)) (dss_one (ds_ret (de_listcK rfl rfl T.z_list (DE.rd_ (de_var 0 rfl))))) dss_nil) (dss_one (ds_ret (de_lcv rfl sc_primitive.nd (dlc_mk [("item", 2)] (di_seqK rfl (de_var 0 rfl)) (blkOk_by (N := ["vector", "divisor", "item"]) (sc := defScope s_primitive) (by decide +kernel)) (fun _ _ _ _ _ => (dgn 2 sc_primitive.nd)) (fun _ _ _ _ _ => dts_nil) (fun _ _ _ _ _ => (de_div (DE.rd_ (de_var 2 rfl)) (DE.rd_ (de_var 1 rfl)))))))))))⟩
def B_combined : FS := (sRet (fLc (iZ (fVar 1) (fVar 3)) (gT [(gN 4), (gN 5)]) tYesF (fBin dAdd (fBin dMul (fVar 0) (fVar 4)) (fBin dMul (fVar 2) (fVar 5))) [4, 5]))
def R_combined : List PyData → Option PyData := runF 6 B_combined
theorem nx_combined : ∀ ρ ρ', B_combined ρ ≠ some (.nx ρ') := nn_ret
theorem ok_combined (T : Txt KF.K mg) : FnG P w KF.K mg base (L2.CX P w) 1 T.a_combined T.d_combined ["first", "vector", "second", "other"] (spF 4 .ow R_combined) :=
  def_nx (k := 0) (B := B_combined) (O' := []) T.F_combined sc_combined rfl rfl (.inr (nx_combined)) fun cdv A outer s H E ga => ⟨_, (dss_one (ds_ret (de_lcv rfl sc_combined.nd (dlc_mk [("left", 4), ("right", 5)] (di_zipK rfl rfl T.z_zip (de_var 1 rfl) (de_var 3 rfl)) (blkOk_by (N := ["first", "vector", "second", "other", "left", "right"]) (sc := defScope s_combined) (by decide +kernel)) (fun _ _ _ _ _ => (dg_tupK rfl rfl (dgs_cons (dgn 4 sc_combined.nd) (dgs_cons (dgn 5 sc_combined.nd) dgs_nil)))) (fun _ _ _ _ _ => dts_nil) (fun _ _ _ _ _ => (de_addI (DE.rd_ (de_mulI (DE.rd_ (de_var 0 rfl)) (DE.rd_ (de_var 4 rfl)))) (DE.rd_ (de_mulI (DE.rd_ (de_var 2 rfl)) (DE.rd_ (de_var 5 rfl))))))))))⟩
def B_column_order : FS := (sSeq (sIf (tV (fBin dEq (fVar 0) (fC (.int 0)))) (sRet (fFn dList fNilA)) sNil) (sRet (fBin dCat (fBin dRg2 (fC (.int 1)) (fVar 0)) (fFn dList (fConsA (fC (.int 0)) fNilA)))))
def R_column_order : List PyData → Option PyData := runF 1 B_column_order
theorem ok_column_order (T : Txt KF.K mg) : FnG P w KF.K mg base (L2.CX P w) 1 T.a_column_order T.d_column_order ["size"] (spF 1 .cl R_column_order) :=
  def_nx (k := 0) (B := B_column_order) (O' := []) T.F_column_order sc_column_order rfl rfl (.inl rfl) fun cdv A outer s H E ga => ⟨_, (dss_cons (O' := []) (ds_if (dt_eqK ga.u64 rfl (DE.rd_ (de_var 0 rfl)) (DE.rd_ de_int)) (dss_one (ds_ret (DE.cl_ (de_list dac_nil)))) dss_nil) (dss_one (ds_ret (DE.cl_ (de_cat rfl (DE.or_ (de_listR2 rfl rfl T.z_list rfl T.z_range (DE.rd_ de_int) (DE.rd_ (de_var 0 rfl)))) (DE.or_ (de_list (dac_cons de_int dac_nil))))))))⟩
def B_pivot : FS := (sSeq (sFor (iSeq (fFn R_column_order (fConsA (fFn (g1 dLen) (fConsA (fVar 0) fNilA)) fNilA))) (gN 1) (sSeq (sIf (tV (fBin dNe (fBin dIx (fVar 0) (fVar 1)) (fC (.int 0)))) (sRet (fVar 1)) sNil) sNil)) (sRet (fC .none)))
def R_pivot : List PyData → Option PyData := runF 2 B_pivot
theorem ok_pivot (T : Txt KF.K mg) : FnG P w KF.K mg base (L2.CX P w) 2 T.a_pivot T.d_pivot ["vector"] (spF 1 .cl R_pivot) :=
  def_nx (k := 1) (B := B_pivot) (O' := []) T.F_pivot sc_pivot rfl rfl (.inl rfl) fun cdv A outer s H E ga => ⟨_, (dss_cons (O' := []) (ds_for PassesOwn.never rfl (di_seqK rfl (de_call (ok_column_order T) (ga.mono (by decide)) T.g_column_order T.F_column_order.kp T.b_column_order passL (dac_cons (de_lenK rfl rfl T.z_len (DE.rd_ (de_var 0 rfl))) dac_nil) rfl (fsA_cons fsA_nil))) (dgn 1 sc_pivot.nd) (dss_cons (O' := []) (ds_if (dt_neK ga.u64 rfl (DE.rd_ (de_ixK rfl (DE.rd_ (de_var 0 rfl)) (DE.rd_ (de_var 1 rfl)))) (DE.rd_ de_int)) (dss_one (ds_ret (de_var 1 rfl))) dss_nil) dss_nil)) (dss_one (ds_ret de_non)))⟩
def B_cleared : FS := (sRet (fFn R_primitive (fConsA (fFn R_combined (fConsA (fBin dIx (fVar 1) (fVar 2)) (fConsA (fVar 0) (fConsA (fUn dNeg (fBin dIx (fVar 0) (fVar 2))) (fConsA (fVar 1) fNilA))))) fNilA)))
def R_cleared : List PyData → Option PyData := runF 3 B_cleared
theorem nx_cleared : ∀ ρ ρ', B_cleared ρ ≠ some (.nx ρ') := nn_ret
theorem ok_cleared (T : Txt KF.K mg) : FnG P w KF.K mg base (L2.CX P w) 2 T.a_cleared T.d_cleared ["vector", "row", "column"] (spF 3 .ow R_cleared) :=
  def_nx (k := 1) (B := B_cleared) (O' := []) T.F_cleared sc_cleared rfl rfl (.inr (nx_cleared)) fun cdv A outer s H E ga => ⟨_, (dss_one (ds_ret (de_call (ok_primitive T) (ga.mono (by decide)) T.g_primitive T.F_primitive.kp T.b_primitive passL (dac_cons (DE.cl_ (de_call (ok_combined T) (ga.mono (by decide)) T.g_combined T.F_combined.kp T.b_combined passL (dac_cons (de_ixK rfl (DE.rd_ (de_var 1 rfl)) (DE.rd_ (de_var 2 rfl))) (dac_cons (de_var 0 rfl) (dac_cons (de_neg (DE.rd_ (de_ixK rfl (DE.rd_ (de_var 0 rfl)) (DE.rd_ (de_var 2 rfl))))) (dac_cons (de_var 1 rfl) dac_nil)))) rfl (fsA_cons (fsA_cons (fsA_cons (fsA_cons fsA_nil)))))) dac_nil) rfl (fsA_cons fsA_nil))))⟩
def B1_echelon : FS := (sAsg 1 (fIf (tTr (fVar 0)) (fFn (g1 dLen) (fConsA (fBin dIx (fVar 0) (fC (.int 0))) fNilA)) (fC (.int 0))))
def F2_echelon : F := (fLc (iSeq (fVar 0)) (gN 3) tYesF (fScalL (fFn R_primitive (fConsA (fVar 3) fNilA))) [3])
def B3_echelon : FS := (sSeq (sAsg 4 (fFn dList fNilA)) (sSeq (sFor (iSeq (fFn R_column_order (fConsA (fVar 1) fNilA))) (gN 5) (sSeq (sAsg 6 (fLc (iSeq (fVar 2)) (gN 7) (tV (fBin dNe (fBin dIx (fVar 7) (fVar 5)) (fC (.int 0)))) (fVar 7) [7])) (sSeq (sIf (tTr (fVar 6)) (sSeq (sAsg 3 (fBin dIx (fVar 6) (fC (.int 0)))) (sSeq (sIf (tV (fBin dLt (fBin dIx (fVar 3) (fVar 5)) (fC (.int 0)))) (sSeq (sAsg 3 (fLc (iSeq (fVar 3)) (gN 8) tYesF (fUn dNeg (fVar 8)) [8])) sNil) sNil) (sSeq (sAsg 2 (fLc (iSeq (fVar 2)) (gN 7) tYesF (fFn R_cleared (fConsA (fVar 7) (fConsA (fVar 3) (fConsA (fVar 5) fNilA)))) [7])) (sSeq (sAsg 4 (fBin dCat (fLc (iSeq (fVar 4)) (gN 7) tYesF (fFn R_cleared (fConsA (fVar 7) (fConsA (fVar 3) (fConsA (fVar 5) fNilA)))) [7]) (fFn dList (fConsA (fVar 3) fNilA)))) sNil)))) sNil) sNil))) (sRet (fVar 4))))
def R_echelon : List PyData → Option PyData := runF 9 (sSeq B1_echelon (sCut 2 F2_echelon B3_echelon))
theorem rest_echelon (T : Txt KF.K mg) (cdv : Value) (A : Around) (outer : List Env) (s : Shared) (H : Hp) (E : XK) (ga : GA 2 (A.deeper (envOfC "echelon" (defScope s_echelon) s.heap.objs.size T.a_echelon cdv))) : ∃ t W, DSs (cxOf (L2.CX P w) P w KF.K mg base ["rows", "size", "left", "row", "found", "column", "candidates", "other", "item"] "echelon" (defScope s_echelon) T.a_echelon cdv A outer s H E).nox .cl [] [] [] W ((defBody s_echelon).drop 2) t B3_echelon := ⟨_, _, (dss_cons (O' := []) (dsn 4 sc_echelon.nd (DE.cl_ (de_list dac_nil))) (dss_cons (O' := []) (ds_for PassesOwn.never rfl (di_seqK rfl (de_call (ok_column_order T) (ga.mono (by decide)) T.g_column_order T.F_column_order.kp T.b_column_order passL (dac_cons (de_var 1 rfl) dac_nil) rfl (fsA_cons fsA_nil))) (dgn 5 sc_echelon.nd) (dss_cons (O' := []) (dslc 6 rfl sc_echelon.nd (dlc_mk [("other", 7)] (di_seqK rfl (de_var 2 rfl)) (blkOk_by (N := ["rows", "size", "left", "row", "found", "column", "candidates", "other", "item"]) (sc := defScope s_echelon) (by decide +kernel)) (fun _ _ _ _ _ => (dgn 7 sc_echelon.nd)) (fun _ _ _ _ _ => (dts_one (dt_neK ga.u64 rfl (DE.rd_ (de_ixK rfl (DE.rd_ (de_var 7 rfl)) (DE.rd_ (de_var 5 rfl)))) (DE.rd_ de_int)))) (fun _ _ _ _ _ => (de_var 7 rfl))) (sw_true rfl rfl rfl (by decide +kernel))) (dss_cons (O' := []) (ds_if (dt_truK rfl (DE.rd_ (de_var 6 rfl))) (dss_cons (O' := []) (dsn 3 sc_echelon.nd (de_ixK rfl (DE.rd_ (de_var 6 rfl)) (DE.rd_ de_int))) (dss_cons (O' := []) (ds_if (dt_lt (DE.rd_ (de_ixK rfl (DE.rd_ (de_var 3 rfl)) (DE.rd_ (de_var 5 rfl)))) (DE.rd_ de_int)) (dss_cons (O' := []) (dsn 3 sc_echelon.nd (DE.cl_ (de_lcv rfl sc_echelon.nd (dlc_mk [("item", 8)] (di_seqK rfl (de_var 3 rfl)) (blkOk_by (N := ["rows", "size", "left", "row", "found", "column", "candidates", "other", "item"]) (sc := defScope s_echelon) (by decide +kernel)) (fun _ _ _ _ _ => (dgn 8 sc_echelon.nd)) (fun _ _ _ _ _ => dts_nil) (fun _ _ _ _ _ => (de_neg (DE.rd_ (de_var 8 rfl)))))))) dss_nil) dss_nil) (dss_cons (O' := []) (dslc 2 rfl sc_echelon.nd (dlc_mk [("other", 7)] (di_seqK rfl (de_var 2 rfl)) (blkOk_by (N := ["rows", "size", "left", "row", "found", "column", "candidates", "other", "item"]) (sc := defScope s_echelon) (by decide +kernel)) (fun _ _ _ _ _ => (dgn 7 sc_echelon.nd)) (fun _ _ _ _ _ => dts_nil) (fun _ _ _ _ _ => (DE.cl_ (de_call (ok_cleared T) (ga.mono (by decide)) T.g_cleared T.F_cleared.kp T.b_cleared passL (dac_cons (de_var 7 rfl) (dac_cons (de_var 3 rfl) (dac_cons (de_var 5 rfl) dac_nil))) rfl (fsA_cons (fsA_cons (fsA_cons fsA_nil))))))) (sw_true rfl rfl rfl (by decide +kernel))) (dss_cons (O' := []) (dsn 4 sc_echelon.nd (DE.cl_ (de_cat rfl (DE.or_ (de_lcv rfl sc_echelon.nd (dlc_mk [("other", 7)] (di_seqK rfl (de_var 4 rfl)) (blkOk_by (N := ["rows", "size", "left", "row", "found", "column", "candidates", "other", "item"]) (sc := defScope s_echelon) (by decide +kernel)) (fun _ _ _ _ _ => (dgn 7 sc_echelon.nd)) (fun _ _ _ _ _ => dts_nil) (fun _ _ _ _ _ => (DE.cl_ (de_call (ok_cleared T) (ga.mono (by decide)) T.g_cleared T.F_cleared.kp T.b_cleared passL (dac_cons (de_var 7 rfl) (dac_cons (de_var 3 rfl) (dac_cons (de_var 5 rfl) dac_nil))) rfl (fsA_cons (fsA_cons (fsA_cons fsA_nil))))))))) (DE.or_ (de_list (dac_cons (de_var 3 rfl) dac_nil)))))) dss_nil)))) dss_nil) dss_nil))) (dss_one (ds_ret (de_var 4 rfl)))))⟩
theorem ok_echelon (T : Txt KF.K mg) : FnG P w KF.K mg base (L2.CX P w) 3 T.a_echelon T.d_echelon ["rows"] (spZ 1 R_echelon) :=
  def_cut (k := 2) (G1 := B1_echelon) (f2 := F2_echelon) (G3 := B3_echelon) (i := 2) T.F_echelon sc_echelon rfl rfl rfl (nn_seq (nn_seq nn_ret)) (fun ρ d h => by obtain ⟨_, _, e⟩ := Option.map_eq_some_iff.mp h; cases e) fun cdv A outer s H E ga =>
    let ⟨t3, W3, h3⟩ := @rest_echelon kS P w mg base T cdv A outer s H E ga; ⟨_, _, t3, _, W3, (dsn 1 sc_echelon.nd (de_if (dt_truK rfl (DE.rd_ (de_var 0 rfl))) (de_lenK rfl rfl T.z_len (DE.rd_ (de_ixK rfl (DE.rd_ (de_var 0 rfl)) (DE.rd_ de_int)))) de_int)), (dsz_lc 2 rfl sc_echelon.nd (dlz_mk [("row", 3)] (di_seqK rfl (de_var 0 rfl)) (blkOk_by (N := ["rows", "size", "left", "row", "found", "column", "candidates", "other", "item"]) (sc := defScope s_echelon) (by decide +kernel)) (fun _ _ _ _ _ => (dgn 3 sc_echelon.nd)) (fun _ _ _ _ _ => dts_nil) (fun _ _ _ _ _ => (DE.dz (de_call (ok_primitive T) (ga.mono (by decide)) T.g_primitive T.F_primitive.kp T.b_primitive passL (dac_cons (de_var 3 rfl) dac_nil) rfl (fsA_cons fsA_nil))))) (sw_true rfl rfl rfl (by decide +kernel))), h3⟩
def B_reduced : FS := (sSeq (sAsg 2 (fFn R_primitive (fConsA (fVar 0) fNilA))) (sSeq (sFor (iSeq (fVar 1)) (gN 3) (sSeq (sAsg 2 (fScalL (fFn R_cleared (fConsA (fVar 2) (fConsA (fVar 3) (fConsA (fFn R_pivot (fConsA (fVar 3) fNilA)) fNilA)))))) sNil)) (sRet (fVar 2))))
def R_reduced : List PyData → Option PyData := runF 4 B_reduced
theorem nx_reduced : ∀ ρ ρ', B_reduced ρ ≠ some (.nx ρ') := (nn_seq (nn_seq nn_ret))
theorem ok_reduced (T : Txt KF.K mg) : FnG P w KF.K mg base (L2.CX P w) 3 T.a_reduced T.d_reduced ["vector", "rows"] (spF 2 .ow R_reduced) :=
  def_nx (k := 2) (B := B_reduced) (O' := []) T.F_reduced sc_reduced rfl rfl (.inr (nx_reduced)) fun cdv A outer s H E ga => ⟨_, (dss_cons (O' := [2]) (dsnO 2 sc_reduced.nd (de_call (ok_primitive T) (ga.mono (by decide)) T.g_primitive T.F_primitive.kp T.b_primitive passL (dac_cons (de_var 0 rfl) dac_nil) rfl (fsA_cons fsA_nil))) (dss_cons (O' := [2]) (ds_for PassesOwn.never rfl (di_seqK rfl (de_var 1 rfl)) (dgn 3 sc_reduced.nd) (dss_cons (O' := [2]) (dsnO 2 sc_reduced.nd (DE.thawL 2 (de_call (ok_cleared T) (ga.mono (by decide)) T.g_cleared T.F_cleared.kp T.b_cleared passL (dac_cons (de_var 2 rfl) (dac_cons (de_var 3 rfl) (dac_cons (de_call (ok_pivot T) (ga.mono (by decide)) T.g_pivot T.F_pivot.kp T.b_pivot passL (dac_cons (de_var 3 rfl) dac_nil) rfl (fsA_cons fsA_nil)) dac_nil))) rfl (fsA_cons (fsA_cons (fsA_cons fsA_nil)))))) dss_nil)) (dss_one (ds_retOwn 2 (by rfl) (pv 2)))))⟩
def B_law_cell : FS := (sSeq (sIf (tV (fBin dLt (fVar 1) (fFn (g1 dLen) (fConsA (fVar 0) fNilA)))) (sRet (fFn (g1 dInt) (fConsA (fBin dIx (fVar 0) (fVar 1)) fNilA))) sNil) (sRet (fC (.int 0))))
def R_law_cell : List PyData → Option PyData := runF 2 B_law_cell
theorem ok_law_cell (T : Txt KF.K mg) : FnG P w KF.K mg base (L2.CX P w) 1 T.a_law_cell T.d_law_cell ["script", "k"] (spF 2 .cl R_law_cell) :=
  def_nx (k := 0) (B := B_law_cell) (O' := []) T.F_law_cell sc_law_cell rfl rfl (.inl rfl) fun cdv A outer s H E ga => ⟨_, (dss_cons (O' := []) (ds_if (dt_lt (DE.rd_ (de_var 1 rfl)) (DE.rd_ (de_lenK rfl rfl T.z_len (DE.rd_ (de_var 0 rfl))))) (dss_one (ds_ret (de_intc rfl T.z_int (DE.rd_ (de_ixK rfl (DE.rd_ (de_var 0 rfl)) (DE.rd_ (de_var 1 rfl))))))) dss_nil) (dss_one (ds_ret de_int)))⟩
def B_law_draws : FS := (sSeq (sAsg 2 (fFn dList fNilA)) (sSeq (sAsg 3 (fFn (g1 dAbs) (fConsA (fFn (g1 dInt) (fConsA (fVar 0) fNilA)) fNilA))) (sSeq (sAsg 4 (fBin dMod (fFn (g1 dInt) (fConsA (fVar 3) fNilA)) (fC (.int 2147483647)))) (sSeq (sAsg 5 (fOr (fBin dLt (fVar 0) (fC (.int 0))) (fBin dGe (fVar 0) (fBin dPow (fC (.int 10)) (fC (.int 18)))))) (sSeq (sFor (iSeq (fVar 1)) (gN 6) (sSeq (sIf (tA (tV (fVar 5)) (tV (fBin dGt (fVar 3) (fC (.int 1))))) (sSeq (sApp 2 (fBin dMod (fFn (g1 dInt) (fConsA (fVar 3) fNilA)) (fVar 6))) (sSeq (sAsg 3 (fBin dDiv (fVar 3) (fVar 6))) sNil)) (sSeq (sAsg 4 (fBin dMod (fFn (g1 dInt) (fConsA (fBin dAdd (fBin dMul (fVar 4) (fC (.int 48271))) (fC (.int 11))) fNilA)) (fC (.int 2147483647)))) (sSeq (sAsg 4 (fBin dMod (fFn (g1 dInt) (fConsA (fBin dAdd (fBin dMul (fVar 4) (fC (.int 69621))) (fC (.int 7))) fNilA)) (fC (.int 2147483647)))) (sSeq (sApp 2 (fBin dMod (fFn (g1 dInt) (fConsA (fBin dDiv (fVar 4) (fC (.int 13))) fNilA)) (fVar 6))) sNil)))) sNil)) (sRet (fVar 2)))))))
def R_law_draws : List PyData → Option PyData := runF 7 B_law_draws
theorem ok_law_draws (T : Txt KF.K mg) : FnG P w KF.K mg base (L2.CX P w) 1 T.a_law_draws T.d_law_draws ["cell", "limits"] (spF 2 .cl R_law_draws) :=
  def_nx (k := 0) (B := B_law_draws) (O' := []) T.F_law_draws sc_law_draws rfl rfl (.inl rfl) fun cdv A outer s H E ga => ⟨_, (dss_cons (O' := [2]) (dsnO 2 sc_law_draws.nd (de_list dac_nil)) (dss_cons (O' := [2]) (dsn 3 sc_law_draws.nd (de_abs rfl T.z_abs (DE.rd_ (de_intc rfl T.z_int (DE.rd_ (de_var 0 rfl)))))) (dss_cons (O' := [2]) (dsn 4 sc_law_draws.nd (de_mod (DE.rd_ (de_intc rfl T.z_int (DE.rd_ (de_var 3 rfl)))) (DE.rd_ de_int))) (dss_cons (O' := [2]) (dsn 5 sc_law_draws.nd (de_or (DE.rd_ (de_lt (DE.rd_ (de_var 0 rfl)) (DE.rd_ de_int))) (de_one (de_ge (DE.rd_ (de_var 0 rfl)) (DE.rd_ (de_pow (DE.rd_ de_int) (DE.rd_ de_int))))))) (dss_cons (O' := [2]) (ds_for PassesOwn.never rfl (di_seqK rfl (de_var 1 rfl)) (dgn 6 sc_law_draws.nd) (dss_cons (O' := [2]) (ds_if (DW.dt (dw_and (dt_val (DE.rd_ (de_var 5 rfl))) (dw_and1 (dt_gt (DE.rd_ (de_var 3 rfl)) (DE.rd_ de_int))))) (dss_cons (O' := [2]) (dsapp 2 (de_mod (DE.rd_ (de_intc rfl T.z_int (DE.rd_ (de_var 3 rfl)))) (DE.rd_ (de_var 6 rfl))) (pv 2) (hb := fun ph => pe_bm PySem.F.plainAttrs_list PySem.F.slot_list_append PySem.F.type_list_append mt_append (pv 2) (pa_cons ph pa_nil))) (dss_cons (O' := [2]) (dsn 3 sc_law_draws.nd (de_div (DE.rd_ (de_var 3 rfl)) (DE.rd_ (de_var 6 rfl)))) dss_nil)) (dss_cons (O' := [2]) (dsn 4 sc_law_draws.nd (de_mod (DE.rd_ (de_intc rfl T.z_int (DE.rd_ (de_addI (DE.rd_ (de_mulI (DE.rd_ (de_var 4 rfl)) (DE.rd_ de_int))) (DE.rd_ de_int))))) (DE.rd_ de_int))) (dss_cons (O' := [2]) (dsn 4 sc_law_draws.nd (de_mod (DE.rd_ (de_intc rfl T.z_int (DE.rd_ (de_addI (DE.rd_ (de_mulI (DE.rd_ (de_var 4 rfl)) (DE.rd_ de_int))) (DE.rd_ de_int))))) (DE.rd_ de_int))) (dss_cons (O' := [2]) (dsapp 2 (de_mod (DE.rd_ (de_intc rfl T.z_int (DE.rd_ (de_div (DE.rd_ (de_var 4 rfl)) (DE.rd_ de_int))))) (DE.rd_ (de_var 6 rfl))) (pv 2) (hb := fun ph => pe_bm PySem.F.plainAttrs_list PySem.F.slot_list_append PySem.F.type_list_append mt_append (pv 2) (pa_cons ph pa_nil))) dss_nil)))) dss_nil)) (DSs.frz 2 (dss_one (ds_ret (de_var 2 rfl)))))))))⟩
def B_law_gcd : FS := (sSeq (sAsg 0 (fFn (g1 dAbs) (fConsA (fVar 0) fNilA))) (sSeq (sAsg 1 (fFn (g1 dAbs) (fConsA (fVar 1) fNilA))) (sSeq (sFor (iR1 (fBin dAdd (fBin dAdd (fUn dBits (fVar 0)) (fUn dBits (fVar 1))) (fC (.int 4)))) (gN 2) (sSeq (sIf (tV (fBin dEq (fVar 1) (fC (.int 0)))) (sRet (fVar 0)) sNil) (sSeq (sAsg 3 (fBin dMod (fFn (g1 dInt) (fConsA (fVar 0) fNilA)) (fVar 1))) (sSeq (sAsg 0 (fVar 1)) (sSeq (sAsg 1 (fVar 3)) sNil))))) (sRet (fVar 0)))))
def R_law_gcd : List PyData → Option PyData := runF 4 B_law_gcd
theorem ok_law_gcd (T : Txt KF.K mg) : FnG P w KF.K mg base (L2.CX P w) 1 T.a_law_gcd T.d_law_gcd ["a", "b"] (spF 2 .cl R_law_gcd) :=
  def_nx (k := 0) (B := B_law_gcd) (O' := []) T.F_law_gcd sc_law_gcd rfl rfl (.inl rfl) fun cdv A outer s H E ga => ⟨_, (dss_cons (O' := []) (dsn 0 sc_law_gcd.nd (de_abs rfl T.z_abs (DE.rd_ (de_var 0 rfl)))) (dss_cons (O' := []) (dsn 1 sc_law_gcd.nd (de_abs rfl T.z_abs (DE.rd_ (de_var 1 rfl)))) (dss_cons (O' := []) (ds_for PassesOwn.never rfl (di_r1 rfl T.z_range (DE.rd_ (de_addI (DE.rd_ (de_addI (DE.rd_ (de_bits (DE.rd_ (de_var 0 rfl)))) (DE.rd_ (de_bits (DE.rd_ (de_var 1 rfl)))))) (DE.rd_ de_int)))) (dgn 2 sc_law_gcd.nd) (dss_cons (O' := []) (ds_if (dt_eqK ga.u64 rfl (DE.rd_ (de_var 1 rfl)) (DE.rd_ de_int)) (dss_one (ds_ret (de_var 0 rfl))) dss_nil) (dss_cons (O' := []) (dsn 3 sc_law_gcd.nd (de_mod (DE.rd_ (de_intc rfl T.z_int (DE.rd_ (de_var 0 rfl)))) (DE.rd_ (de_var 1 rfl)))) (dss_cons (O' := []) (dsn 0 sc_law_gcd.nd (de_var 1 rfl)) (dss_cons (O' := []) (dsn 1 sc_law_gcd.nd (de_var 3 rfl)) dss_nil))))) (dss_one (ds_ret (de_var 0 rfl))))))⟩
def B_law_primitive : FS := (sSeq (sAsg 1 (fC (.int 0))) (sSeq (sFor (iSeq (fVar 0)) (gN 2) (sSeq (sAsg 1 (fFn R_law_gcd (fConsA (fVar 1) (fConsA (fVar 2) fNilA)))) sNil)) (sSeq (sIf (tV (fBin dEq (fVar 1) (fC (.int 0)))) (sRet (fFn (g1 dListOf) (fConsA (fVar 0) fNilA))) sNil) (sRet (fLc (iSeq (fVar 0)) (gN 2) tYesF (fBin dDiv (fVar 2) (fVar 1)) [2])))))
def R_law_primitive : List PyData → Option PyData := runF 3 B_law_primitive
theorem ok_law_primitive (T : Txt KF.K mg) : FnG P w KF.K mg base (L2.CX P w) 2 T.a_law_primitive T.d_law_primitive ["vector"] (spF 1 .cl R_law_primitive) :=
  def_nx (k := 1) (B := B_law_primitive) (O' := []) T.F_law_primitive sc_law_primitive rfl rfl (.inl rfl) fun cdv A outer s H E ga => ⟨_, (dss_cons (O' := []) (dsn 1 sc_law_primitive.nd de_int) (dss_cons (O' := []) (ds_for PassesOwn.never rfl (di_seqK rfl (de_var 0 rfl)) (dgn 2 sc_law_primitive.nd) (dss_cons (O' := []) (dsn 1 sc_law_primitive.nd (de_call (ok_law_gcd T) (ga.mono (by decide)) T.g_law_gcd T.F_law_gcd.kp T.b_law_gcd passL (dac_cons (de_var 1 rfl) (dac_cons (de_var 2 rfl) dac_nil)) rfl (fsA_cons (fsA_cons fsA_nil)))) dss_nil)) (dss_cons (O' := []) (ds_if (dt_eqK ga.u64 rfl (DE.rd_ (de_var 1 rfl)) (DE.rd_ de_int)) (dss_one (ds_ret (DE.cl_ (de_listcK rfl rfl T.z_list (DE.rd_ (de_var 0 rfl)))))) dss_nil) (dss_one (ds_ret (DE.cl_ (de_lcv rfl sc_law_primitive.nd (dlc_mk [("item", 2)] (di_seqK rfl (de_var 0 rfl)) (blkOk_by (N := ["vector", "common", "item"]) (sc := defScope s_law_primitive) (by decide +kernel)) (fun _ _ _ _ _ => (dgn 2 sc_law_primitive.nd)) (fun _ _ _ _ _ => dts_nil) (fun _ _ _ _ _ => (de_div (DE.rd_ (de_var 2 rfl)) (DE.rd_ (de_var 1 rfl))))))))))))⟩
def B_law_sum : FS := (sRet (fLc (iR1 (fFn (g1 dLen) (fConsA (fVar 1) fNilA))) (gN 4) tYesF (fBin dAdd (fBin dMul (fVar 0) (fBin dIx (fVar 1) (fVar 4))) (fBin dMul (fVar 2) (fBin dIx (fVar 3) (fVar 4)))) [4]))
def R_law_sum : List PyData → Option PyData := runF 5 B_law_sum
theorem ok_law_sum (T : Txt KF.K mg) : FnG P w KF.K mg base (L2.CX P w) 1 T.a_law_sum T.d_law_sum ["first", "vector", "second", "other"] (spF 4 .cl R_law_sum) :=
  def_nx (k := 0) (B := B_law_sum) (O' := []) T.F_law_sum sc_law_sum rfl rfl (.inl rfl) fun cdv A outer s H E ga => ⟨_, (dss_one (ds_ret (DE.cl_ (de_lcv rfl sc_law_sum.nd (dlc_mk [("k", 4)] (di_r1 rfl T.z_range (DE.rd_ (de_lenK rfl rfl T.z_len (DE.rd_ (de_var 1 rfl))))) (blkOk_by (N := ["first", "vector", "second", "other", "k"]) (sc := defScope s_law_sum) (by decide +kernel)) (fun _ _ _ _ _ => (dgn 4 sc_law_sum.nd)) (fun _ _ _ _ _ => dts_nil) (fun _ _ _ _ _ => (de_addI (DE.rd_ (de_mulI (DE.rd_ (de_var 0 rfl)) (DE.rd_ (de_ixK rfl (DE.rd_ (de_var 1 rfl)) (DE.rd_ (de_var 4 rfl)))))) (DE.rd_ (de_mulI (DE.rd_ (de_var 2 rfl)) (DE.rd_ (de_ixK rfl (DE.rd_ (de_var 3 rfl)) (DE.rd_ (de_var 4 rfl)))))))))))))⟩
def B_law_pivot : FS := (sSeq (sFor (iR2 (fC (.int 1)) (fFn (g1 dLen) (fConsA (fVar 0) fNilA))) (gN 1) (sSeq (sIf (tV (fBin dNe (fBin dIx (fVar 0) (fVar 1)) (fC (.int 0)))) (sRet (fVar 1)) sNil) sNil)) (sSeq (sIf (tA (tV (fBin dGt (fFn (g1 dLen) (fConsA (fVar 0) fNilA)) (fC (.int 0)))) (tV (fBin dNe (fBin dIx (fVar 0) (fC (.int 0))) (fC (.int 0))))) (sRet (fC (.int 0))) sNil) (sRet (fC .none))))
def R_law_pivot : List PyData → Option PyData := runF 2 B_law_pivot
theorem ok_law_pivot (T : Txt KF.K mg) : FnG P w KF.K mg base (L2.CX P w) 1 T.a_law_pivot T.d_law_pivot ["vector"] (spF 1 .cl R_law_pivot) :=
  def_nx (k := 0) (B := B_law_pivot) (O' := []) T.F_law_pivot sc_law_pivot rfl rfl (.inl rfl) fun cdv A outer s H E ga => ⟨_, (dss_cons (O' := []) (ds_for PassesOwn.never rfl (di_r2 rfl T.z_range (DE.rd_ de_int) (DE.rd_ (de_lenK rfl rfl T.z_len (DE.rd_ (de_var 0 rfl))))) (dgn 1 sc_law_pivot.nd) (dss_cons (O' := []) (ds_if (dt_neK ga.u64 rfl (DE.rd_ (de_ixK rfl (DE.rd_ (de_var 0 rfl)) (DE.rd_ (de_var 1 rfl)))) (DE.rd_ de_int)) (dss_one (ds_ret (de_var 1 rfl))) dss_nil) dss_nil)) (dss_cons (O' := []) (ds_if (DW.dt (dw_and (dt_gt (DE.rd_ (de_lenK rfl rfl T.z_len (DE.rd_ (de_var 0 rfl)))) (DE.rd_ de_int)) (dw_and1 (dt_neK ga.u64 rfl (DE.rd_ (de_ixK rfl (DE.rd_ (de_var 0 rfl)) (DE.rd_ de_int))) (DE.rd_ de_int))))) (dss_one (ds_ret de_int)) dss_nil) (dss_one (ds_ret de_non))))⟩
def B_law_echelon : FS := (sSeq (sAsg 1 (fFn dList fNilA)) (sSeq (sAsg 2 (fLc (iSeq (fVar 0)) (gN 3) tYesF (fFn R_law_primitive (fConsA (fVar 3) fNilA)) [3])) (sSeq (sAsg 4 (fFn dList fNilA)) (sSeq (sIf (tV (fBin dGt (fFn (g1 dLen) (fConsA (fVar 0) fNilA)) (fC (.int 0)))) (sSeq (sAsg 4 (fBin dCat (fLc (iR2 (fC (.int 1)) (fFn (g1 dLen) (fConsA (fBin dIx (fVar 0) (fC (.int 0))) fNilA))) (gN 5) tYesF (fVar 5) [5]) (fFn dList (fConsA (fC (.int 0)) fNilA)))) sNil) sNil) (sSeq (sFor (iSeq (fVar 4)) (gN 6) (sSeq (sAsg 7 (fLc (iR1 (fFn (g1 dLen) (fConsA (fVar 2) fNilA))) (gN 5) (tV (fBin dNe (fBin dIx (fBin dIx (fVar 2) (fVar 5)) (fVar 6)) (fC (.int 0)))) (fVar 5) [5])) (sSeq (sIf (tV (fBin dGt (fFn (g1 dLen) (fConsA (fVar 7) fNilA)) (fC (.int 0)))) (sSeq (sAsg 3 (fBin dIx (fVar 2) (fBin dIx (fVar 7) (fC (.int 0))))) (sSeq (sIf (tV (fBin dLt (fBin dIx (fVar 3) (fVar 6)) (fC (.int 0)))) (sSeq (sAsg 3 (fLc (iSeq (fVar 3)) (gN 8) tYesF (fUn dNeg (fVar 8)) [8])) sNil) sNil) (sSeq (sAsg 2 (fBin dCat (fSl (fVar 2) oNone (oSome (fBin dIx (fVar 7) (fC (.int 0))))) (fSl (fVar 2) (oSome (fBin dAdd (fBin dIx (fVar 7) (fC (.int 0))) (fC (.int 1)))) oNone))) (sSeq (sAsg 2 (fLc (iSeq (fVar 2)) (gN 9) tYesF (fFn R_law_primitive (fConsA (fFn R_law_sum (fConsA (fBin dIx (fVar 3) (fVar 6)) (fConsA (fVar 9) (fConsA (fUn dNeg (fBin dIx (fVar 9) (fVar 6))) (fConsA (fVar 3) fNilA))))) fNilA)) [9])) (sSeq (sAsg 1 (fBin dCat (fLc (iSeq (fVar 1)) (gN 9) tYesF (fFn R_law_primitive (fConsA (fFn R_law_sum (fConsA (fBin dIx (fVar 3) (fVar 6)) (fConsA (fVar 9) (fConsA (fUn dNeg (fBin dIx (fVar 9) (fVar 6))) (fConsA (fVar 3) fNilA))))) fNilA)) [9]) (fFn dList (fConsA (fVar 3) fNilA)))) sNil))))) sNil) sNil))) (sRet (fVar 1)))))))
def R_law_echelon : List PyData → Option PyData := runF 10 B_law_echelon
theorem ok_law_echelon (T : Txt KF.K mg) : FnG P w KF.K mg base (L2.CX P w) 3 T.a_law_echelon T.d_law_echelon ["rows"] (spF 1 .cl R_law_echelon) :=
  def_nx (k := 2) (B := B_law_echelon) (O' := []) T.F_law_echelon sc_law_echelon rfl rfl (.inl rfl) fun cdv A outer s H E ga => ⟨_, (dss_cons (O' := []) (dsn 1 sc_law_echelon.nd (DE.cl_ (de_list dac_nil))) (dss_cons (O' := []) (dsn 2 sc_law_echelon.nd (DE.cl_ (de_lcv rfl sc_law_echelon.nd (dlc_mk [("row", 3)] (di_seqK rfl (de_var 0 rfl)) (blkOk_by (N := ["rows", "found", "left", "row", "columns", "k", "column", "chosen", "item", "other"]) (sc := defScope s_law_echelon) (by decide +kernel)) (fun _ _ _ _ _ => (dgn 3 sc_law_echelon.nd)) (fun _ _ _ _ _ => dts_nil) (fun _ _ _ _ _ => (de_call (ok_law_primitive T) (ga.mono (by decide)) T.g_law_primitive T.F_law_primitive.kp T.b_law_primitive passL (dac_cons (de_var 3 rfl) dac_nil) rfl (fsA_cons fsA_nil))))))) (dss_cons (O' := []) (dsn 4 sc_law_echelon.nd (DE.cl_ (de_list dac_nil))) (dss_cons (O' := []) (ds_if (dt_gt (DE.rd_ (de_lenK rfl rfl T.z_len (DE.rd_ (de_var 0 rfl)))) (DE.rd_ de_int)) (dss_cons (O' := []) (dsn 4 sc_law_echelon.nd (DE.cl_ (de_cat rfl (DE.or_ (de_lcv rfl sc_law_echelon.nd (dlc_mk [("k", 5)] (di_r2 rfl T.z_range (DE.rd_ de_int) (DE.rd_ (de_lenK rfl rfl T.z_len (DE.rd_ (de_ixK rfl (DE.rd_ (de_var 0 rfl)) (DE.rd_ de_int)))))) (blkOk_by (N := ["rows", "found", "left", "row", "columns", "k", "column", "chosen", "item", "other"]) (sc := defScope s_law_echelon) (by decide +kernel)) (fun _ _ _ _ _ => (dgn 5 sc_law_echelon.nd)) (fun _ _ _ _ _ => dts_nil) (fun _ _ _ _ _ => (de_var 5 rfl))))) (DE.or_ (de_list (dac_cons de_int dac_nil)))))) dss_nil) dss_nil) (dss_cons (O' := []) (ds_for PassesOwn.never rfl (di_seqK rfl (de_var 4 rfl)) (dgn 6 sc_law_echelon.nd) (dss_cons (O' := []) (dslc 7 rfl sc_law_echelon.nd (dlc_mk [("k", 5)] (di_r1 rfl T.z_range (DE.rd_ (de_lenK rfl rfl T.z_len (DE.rd_ (de_var 2 rfl))))) (blkOk_by (N := ["rows", "found", "left", "row", "columns", "k", "column", "chosen", "item", "other"]) (sc := defScope s_law_echelon) (by decide +kernel)) (fun _ _ _ _ _ => (dgn 5 sc_law_echelon.nd)) (fun _ _ _ _ _ => (dts_one (dt_neK ga.u64 rfl (DE.rd_ (de_ixK rfl (DE.rd_ (de_ixK rfl (DE.rd_ (de_var 2 rfl)) (DE.rd_ (de_var 5 rfl)))) (DE.rd_ (de_var 6 rfl)))) (DE.rd_ de_int)))) (fun _ _ _ _ _ => (de_var 5 rfl))) (sw_true rfl rfl rfl (by decide +kernel))) (dss_cons (O' := []) (ds_if (dt_gt (DE.rd_ (de_lenK rfl rfl T.z_len (DE.rd_ (de_var 7 rfl)))) (DE.rd_ de_int)) (dss_cons (O' := []) (dsn 3 sc_law_echelon.nd (de_ixK rfl (DE.rd_ (de_var 2 rfl)) (DE.rd_ (de_ixK rfl (DE.rd_ (de_var 7 rfl)) (DE.rd_ de_int))))) (dss_cons (O' := []) (ds_if (dt_lt (DE.rd_ (de_ixK rfl (DE.rd_ (de_var 3 rfl)) (DE.rd_ (de_var 6 rfl)))) (DE.rd_ de_int)) (dss_cons (O' := []) (dsn 3 sc_law_echelon.nd (DE.cl_ (de_lcv rfl sc_law_echelon.nd (dlc_mk [("item", 8)] (di_seqK rfl (de_var 3 rfl)) (blkOk_by (N := ["rows", "found", "left", "row", "columns", "k", "column", "chosen", "item", "other"]) (sc := defScope s_law_echelon) (by decide +kernel)) (fun _ _ _ _ _ => (dgn 8 sc_law_echelon.nd)) (fun _ _ _ _ _ => dts_nil) (fun _ _ _ _ _ => (de_neg (DE.rd_ (de_var 8 rfl)))))))) dss_nil) dss_nil) (dss_cons (O' := []) (dsn 2 sc_law_echelon.nd (DE.cl_ (de_cat rfl (DE.or_ (de_sliceK rfl (DE.rd_ (de_var 2 rfl)) do_none (do_some (DE.rd_ (de_ixK rfl (DE.rd_ (de_var 7 rfl)) (DE.rd_ de_int)))))) (DE.or_ (de_sliceK rfl (DE.rd_ (de_var 2 rfl)) (do_some (DE.rd_ (de_addI (DE.rd_ (de_ixK rfl (DE.rd_ (de_var 7 rfl)) (DE.rd_ de_int))) (DE.rd_ de_int)))) do_none))))) (dss_cons (O' := []) (dsn 2 sc_law_echelon.nd (DE.cl_ (de_lcv rfl sc_law_echelon.nd (dlc_mk [("other", 9)] (di_seqK rfl (de_var 2 rfl)) (blkOk_by (N := ["rows", "found", "left", "row", "columns", "k", "column", "chosen", "item", "other"]) (sc := defScope s_law_echelon) (by decide +kernel)) (fun _ _ _ _ _ => (dgn 9 sc_law_echelon.nd)) (fun _ _ _ _ _ => dts_nil) (fun _ _ _ _ _ => (de_call (ok_law_primitive T) (ga.mono (by decide)) T.g_law_primitive T.F_law_primitive.kp T.b_law_primitive passL (dac_cons (de_call (ok_law_sum T) (ga.mono (by decide)) T.g_law_sum T.F_law_sum.kp T.b_law_sum passL (dac_cons (de_ixK rfl (DE.rd_ (de_var 3 rfl)) (DE.rd_ (de_var 6 rfl))) (dac_cons (de_var 9 rfl) (dac_cons (de_neg (DE.rd_ (de_ixK rfl (DE.rd_ (de_var 9 rfl)) (DE.rd_ (de_var 6 rfl))))) (dac_cons (de_var 3 rfl) dac_nil)))) rfl (fsA_cons (fsA_cons (fsA_cons (fsA_cons fsA_nil))))) dac_nil) rfl (fsA_cons fsA_nil))))))) (dss_cons (O' := []) (dsn 1 sc_law_echelon.nd (DE.cl_ (de_cat rfl (DE.or_ (de_lcv rfl sc_law_echelon.nd (dlc_mk [("other", 9)] (di_seqK rfl (de_var 1 rfl)) (blkOk_by (N := ["rows", "found", "left", "row", "columns", "k", "column", "chosen", "item", "other"]) (sc := defScope s_law_echelon) (by decide +kernel)) (fun _ _ _ _ _ => (dgn 9 sc_law_echelon.nd)) (fun _ _ _ _ _ => dts_nil) (fun _ _ _ _ _ => (de_call (ok_law_primitive T) (ga.mono (by decide)) T.g_law_primitive T.F_law_primitive.kp T.b_law_primitive passL (dac_cons (de_call (ok_law_sum T) (ga.mono (by decide)) T.g_law_sum T.F_law_sum.kp T.b_law_sum passL (dac_cons (de_ixK rfl (DE.rd_ (de_var 3 rfl)) (DE.rd_ (de_var 6 rfl))) (dac_cons (de_var 9 rfl) (dac_cons (de_neg (DE.rd_ (de_ixK rfl (DE.rd_ (de_var 9 rfl)) (DE.rd_ (de_var 6 rfl))))) (dac_cons (de_var 3 rfl) dac_nil)))) rfl (fsA_cons (fsA_cons (fsA_cons (fsA_cons fsA_nil))))) dac_nil) rfl (fsA_cons fsA_nil)))))) (DE.or_ (de_list (dac_cons (de_var 3 rfl) dac_nil)))))) dss_nil))))) dss_nil) dss_nil))) (dss_one (ds_ret (de_var 1 rfl))))))))⟩
def B_law_vector : FS := (sSeq (sAsg 2 (fFn R_law_draws (fConsA (fVar 0) (fConsA (fBin dCat (fBin dCat (fFn dList (fConsA (fC (.int 6)) fNilA)) (fBin dRep (fFn dList (fConsA (fC (.int 2000001)) fNilA)) (fVar 1))) (fBin dRep (fFn dList (fConsA (fC (.int 7)) fNilA)) (fVar 1))) fNilA)))) (sSeq (sIf (tV (fBin dEq (fBin dIx (fVar 2) (fC (.int 0))) (fC (.int 0)))) (sRet (fLc (iR1 (fVar 1)) (gN 3) tYesF (fBin dSub (fBin dIx (fVar 2) (fBin dAdd (fC (.int 1)) (fVar 3))) (fC (.int 1000000))) [3])) sNil) (sSeq (sIf (tV (fBin dEq (fBin dIx (fVar 2) (fC (.int 0))) (fC (.int 1)))) (sRet (fLc (iR1 (fVar 1)) (gN 3) tYesF (fBin dMul (fBin dSub (fBin dIx (fVar 2) (fBin dAdd (fBin dAdd (fC (.int 1)) (fVar 1)) (fVar 3))) (fC (.int 3))) (fC (.int 6))) [3])) sNil) (sSeq (sIf (tV (fBin dEq (fBin dIx (fVar 2) (fC (.int 0))) (fC (.int 2)))) (sRet (fLc (iR1 (fVar 1)) (gN 3) tYesF (fBin dMul (fFn (g1 dInt) (fConsA (fBin dEq (fBin dIx (fVar 2) (fBin dAdd (fBin dAdd (fC (.int 1)) (fVar 1)) (fVar 3))) (fC (.int 3))) fNilA)) (fBin dAdd (fC (.int 1)) (fBin dIx (fVar 2) (fBin dAdd (fC (.int 1)) (fVar 3))))) [3])) sNil) (sRet (fLc (iR1 (fVar 1)) (gN 3) tYesF (fBin dSub (fBin dIx (fVar 2) (fBin dAdd (fBin dAdd (fC (.int 1)) (fVar 1)) (fVar 3))) (fC (.int 3))) [3]))))))
def R_law_vector : List PyData → Option PyData := runF 4 B_law_vector
theorem ok_law_vector (T : Txt KF.K mg) : FnG P w KF.K mg base (L2.CX P w) 2 T.a_law_vector T.d_law_vector ["cell", "size"] (spF 2 .cl R_law_vector) :=
  def_nx (k := 1) (B := B_law_vector) (O' := []) T.F_law_vector sc_law_vector rfl rfl (.inl rfl) fun cdv A outer s H E ga => ⟨_, (dss_cons (O' := []) (dsn 2 sc_law_vector.nd (de_call (ok_law_draws T) (ga.mono (by decide)) T.g_law_draws T.F_law_draws.kp T.b_law_draws passL (dac_cons (de_var 0 rfl) (dac_cons (DE.cl_ (de_cat rfl (DE.or_ (de_cat rfl (DE.or_ (de_list (dac_cons de_int dac_nil))) (DE.or_ (de_rep (de_list (dac_cons de_int dac_nil)) (DE.rd_ (de_var 1 rfl)))))) (DE.or_ (de_rep (de_list (dac_cons de_int dac_nil)) (DE.rd_ (de_var 1 rfl)))))) dac_nil)) rfl (fsA_cons (fsA_cons fsA_nil)))) (dss_cons (O' := []) (ds_if (dt_eqK ga.u64 rfl (DE.rd_ (de_ixK rfl (DE.rd_ (de_var 2 rfl)) (DE.rd_ de_int))) (DE.rd_ de_int)) (dss_one (ds_ret (DE.cl_ (de_lcv rfl sc_law_vector.nd (dlc_mk [("k", 3)] (di_r1 rfl T.z_range (DE.rd_ (de_var 1 rfl))) (blkOk_by (N := ["cell", "size", "draws", "k"]) (sc := defScope s_law_vector) (by decide +kernel)) (fun _ _ _ _ _ => (dgn 3 sc_law_vector.nd)) (fun _ _ _ _ _ => dts_nil) (fun _ _ _ _ _ => (de_sub (DE.rd_ (de_ixK rfl (DE.rd_ (de_var 2 rfl)) (DE.rd_ (de_addI (DE.rd_ de_int) (DE.rd_ (de_var 3 rfl)))))) (DE.rd_ de_int)))))))) dss_nil) (dss_cons (O' := []) (ds_if (dt_eqK ga.u64 rfl (DE.rd_ (de_ixK rfl (DE.rd_ (de_var 2 rfl)) (DE.rd_ de_int))) (DE.rd_ de_int)) (dss_one (ds_ret (DE.cl_ (de_lcv rfl sc_law_vector.nd (dlc_mk [("k", 3)] (di_r1 rfl T.z_range (DE.rd_ (de_var 1 rfl))) (blkOk_by (N := ["cell", "size", "draws", "k"]) (sc := defScope s_law_vector) (by decide +kernel)) (fun _ _ _ _ _ => (dgn 3 sc_law_vector.nd)) (fun _ _ _ _ _ => dts_nil) (fun _ _ _ _ _ => (de_mulI (DE.rd_ (de_sub (DE.rd_ (de_ixK rfl (DE.rd_ (de_var 2 rfl)) (DE.rd_ (de_addI (DE.rd_ (de_addI (DE.rd_ de_int) (DE.rd_ (de_var 1 rfl)))) (DE.rd_ (de_var 3 rfl)))))) (DE.rd_ de_int))) (DE.rd_ de_int)))))))) dss_nil) (dss_cons (O' := []) (ds_if (dt_eqK ga.u64 rfl (DE.rd_ (de_ixK rfl (DE.rd_ (de_var 2 rfl)) (DE.rd_ de_int))) (DE.rd_ de_int)) (dss_one (ds_ret (DE.cl_ (de_lcv rfl sc_law_vector.nd (dlc_mk [("k", 3)] (di_r1 rfl T.z_range (DE.rd_ (de_var 1 rfl))) (blkOk_by (N := ["cell", "size", "draws", "k"]) (sc := defScope s_law_vector) (by decide +kernel)) (fun _ _ _ _ _ => (dgn 3 sc_law_vector.nd)) (fun _ _ _ _ _ => dts_nil) (fun _ _ _ _ _ => (de_mulI (DE.rd_ (de_intc rfl T.z_int (DE.rd_ (de_eqK ga.u64 rfl (DE.rd_ (de_ixK rfl (DE.rd_ (de_var 2 rfl)) (DE.rd_ (de_addI (DE.rd_ (de_addI (DE.rd_ de_int) (DE.rd_ (de_var 1 rfl)))) (DE.rd_ (de_var 3 rfl)))))) (DE.rd_ de_int))))) (DE.rd_ (de_addI (DE.rd_ de_int) (DE.rd_ (de_ixK rfl (DE.rd_ (de_var 2 rfl)) (DE.rd_ (de_addI (DE.rd_ de_int) (DE.rd_ (de_var 3 rfl))))))))))))))) dss_nil) (dss_one (ds_ret (DE.cl_ (de_lcv rfl sc_law_vector.nd (dlc_mk [("k", 3)] (di_r1 rfl T.z_range (DE.rd_ (de_var 1 rfl))) (blkOk_by (N := ["cell", "size", "draws", "k"]) (sc := defScope s_law_vector) (by decide +kernel)) (fun _ _ _ _ _ => (dgn 3 sc_law_vector.nd)) (fun _ _ _ _ _ => dts_nil) (fun _ _ _ _ _ => (de_sub (DE.rd_ (de_ixK rfl (DE.rd_ (de_var 2 rfl)) (DE.rd_ (de_addI (DE.rd_ (de_addI (DE.rd_ de_int) (DE.rd_ (de_var 1 rfl)))) (DE.rd_ (de_var 3 rfl)))))) (DE.rd_ de_int))))))))))))⟩
def B_law_is_echelon : FS := (sSeq (sAsg 2 (fC (.int 0))) (sSeq (sAsg 3 (fFn dList fNilA)) (sSeq (sFor (iSeq (fVar 0)) (gN 4) (sSeq (sIf (tO (tN (tV (fUn (isTy "list") (fVar 4)))) (tO (tV (fBin dNe (fFn (g1 dLen) (fConsA (fVar 4) fNilA)) (fVar 1))) (tO (tV (fBin dNe (fVar 4) (fFn R_law_primitive (fConsA (fVar 4) fNilA)))) (tV (fBin dIs (fFn R_law_pivot (fConsA (fVar 4) fNilA)) (fC .none)))))) (sRet (fC (.bool false))) sNil) (sSeq (sAsg 5 (fFn R_law_pivot (fConsA (fVar 4) fNilA))) (sSeq (sAsg 6 (fVar 5)) (sSeq (sIf (tV (fBin dEq (fVar 5) (fC (.int 0)))) (sSeq (sAsg 6 (fVar 1)) sNil) sNil) (sSeq (sIf (tO (tV (fBin dLe (fBin dIx (fVar 4) (fVar 5)) (fC (.int 0)))) (tV (fBin dLe (fVar 6) (fVar 2)))) (sRet (fC (.bool false))) sNil) (sSeq (sAsg 2 (fVar 6)) (sSeq (sApp 3 (fVar 5)) sNil)))))))) (sSeq (sFor (iR1 (fFn (g1 dLen) (fConsA (fVar 0) fNilA))) (gN 7) (sSeq (sFor (iR1 (fFn (g1 dLen) (fConsA (fVar 0) fNilA))) (gN 8) (sSeq (sIf (tA (tV (fBin dNe (fVar 8) (fVar 7))) (tV (fBin dNe (fBin dIx (fBin dIx (fVar 0) (fVar 7)) (fBin dIx (fVar 3) (fVar 8))) (fC (.int 0))))) (sRet (fC (.bool false))) sNil) sNil)) sNil)) (sRet (fC (.bool true)))))))
def R_law_is_echelon : List PyData → Option PyData := runF 9 B_law_is_echelon
theorem ok_law_is_echelon (T : Txt KF.K mg) : FnG P w KF.K mg base (L2.CX P w) 3 T.a_law_is_echelon T.d_law_is_echelon ["rows", "size"] (spF 2 .cl R_law_is_echelon) :=
  def_nx (k := 2) (B := B_law_is_echelon) (O' := []) T.F_law_is_echelon sc_law_is_echelon rfl rfl (.inl rfl) fun cdv A outer s H E ga => ⟨_, (dss_cons (O' := []) (dsn 2 sc_law_is_echelon.nd de_int) (dss_cons (O' := [3]) (dsnO 3 sc_law_is_echelon.nd (de_list dac_nil)) (dss_cons (O' := [3]) (ds_for PassesOwn.never rfl (di_seqK rfl (de_var 0 rfl)) (dgn 4 sc_law_is_echelon.nd) (dss_cons (O' := [3]) (ds_if (DW.dt (dw_or (dt_not (dt_val (DE.rd_ (de_isiK rfl (T := "list") rfl T.z_isinstance (DE.rd_ (de_var 4 rfl)) (pe_bltn (by rfl) T.z_list (by decide +kernel) rfl))))) (dw_or (dt_neK ga.u64 rfl (DE.rd_ (de_lenK rfl rfl T.z_len (DE.rd_ (de_var 4 rfl)))) (DE.rd_ (de_var 1 rfl))) (dw_or (dt_neK ga.u64 rfl (DE.rd_ (de_var 4 rfl)) (DE.rd_ (de_call (ok_law_primitive T) (ga.mono (by decide)) T.g_law_primitive T.F_law_primitive.kp T.b_law_primitive passL (dac_cons (de_var 4 rfl) dac_nil) rfl (fsA_cons fsA_nil)))) (dw_or1 (dt_is (DE.rd_ (de_call (ok_law_pivot T) (ga.mono (by decide)) T.g_law_pivot T.F_law_pivot.kp T.b_law_pivot passL (dac_cons (de_var 4 rfl) dac_nil) rfl (fsA_cons fsA_nil))) (DE.rd_ de_non))))))) (dss_one (ds_ret de_bl)) dss_nil) (dss_cons (O' := [3]) (dsn 5 sc_law_is_echelon.nd (de_call (ok_law_pivot T) (ga.mono (by decide)) T.g_law_pivot T.F_law_pivot.kp T.b_law_pivot passL (dac_cons (de_var 4 rfl) dac_nil) rfl (fsA_cons fsA_nil))) (dss_cons (O' := [3]) (dsn 6 sc_law_is_echelon.nd (de_var 5 rfl)) (dss_cons (O' := [3]) (ds_if (dt_eqK ga.u64 rfl (DE.rd_ (de_var 5 rfl)) (DE.rd_ de_int)) (dss_cons (O' := [3]) (dsn 6 sc_law_is_echelon.nd (de_var 1 rfl)) dss_nil) dss_nil) (dss_cons (O' := [3]) (ds_if (DW.dt (dw_or (dt_le (DE.rd_ (de_ixK rfl (DE.rd_ (de_var 4 rfl)) (DE.rd_ (de_var 5 rfl)))) (DE.rd_ de_int)) (dw_or1 (dt_le (DE.rd_ (de_var 6 rfl)) (DE.rd_ (de_var 2 rfl)))))) (dss_one (ds_ret de_bl)) dss_nil) (dss_cons (O' := [3]) (dsn 2 sc_law_is_echelon.nd (de_var 6 rfl)) (dss_cons (O' := [3]) (dsapp 3 (de_var 5 rfl) (pv 3) (hb := fun ph => pe_bm PySem.F.plainAttrs_list PySem.F.slot_list_append PySem.F.type_list_append mt_append (pv 3) (pa_cons ph pa_nil))) dss_nil)))))))) (DSs.frz 3 (dss_cons (O' := []) (ds_for PassesOwn.never rfl (di_r1 rfl T.z_range (DE.rd_ (de_lenK rfl rfl T.z_len (DE.rd_ (de_var 0 rfl))))) (dgn 7 sc_law_is_echelon.nd) (dss_cons (O' := []) (ds_for PassesOwn.never rfl (di_r1 rfl T.z_range (DE.rd_ (de_lenK rfl rfl T.z_len (DE.rd_ (de_var 0 rfl))))) (dgn 8 sc_law_is_echelon.nd) (dss_cons (O' := []) (ds_if (DW.dt (dw_and (dt_neK ga.u64 rfl (DE.rd_ (de_var 8 rfl)) (DE.rd_ (de_var 7 rfl))) (dw_and1 (dt_neK ga.u64 rfl (DE.rd_ (de_ixK rfl (DE.rd_ (de_ixK rfl (DE.rd_ (de_var 0 rfl)) (DE.rd_ (de_var 7 rfl)))) (DE.rd_ (de_ixK rfl (DE.rd_ (de_var 3 rfl)) (DE.rd_ (de_var 8 rfl)))))) (DE.rd_ de_int))))) (dss_one (ds_ret de_bl)) dss_nil) dss_nil)) dss_nil)) (dss_one (ds_ret de_bl)))))))⟩
def B_law : FS := (sSeq (sFor (iR3 (fC (.int 0)) (fBin dAdd (fFn (g1 dLen) (fConsA (fVar 0) fNilA)) (fC (.int 8))) (fC (.int 8))) (gN 1) (sSeq (sAsg 2 (fFn R_law_draws (fConsA (fFn R_law_cell (fConsA (fVar 0) (fConsA (fVar 1) fNilA))) (fConsA (fFn dList (fConsA (fC (.int 6)) (fConsA (fC (.int 5)) (fConsA (fC (.int 5)) (fConsA (fC (.int 5)) (fConsA (fC (.int 7)) (fConsA (fC (.int 7)) fNilA))))))) fNilA)))) (sSeq (sAsg 3 (fBin dAdd (fC (.int 1)) (fBin dIx (fVar 2) (fC (.int 1))))) (sSeq (sAsg 4 (fLc (iR1 (fBin dIx (fVar 2) (fC (.int 0)))) (gN 5) tYesF (fFn R_law_vector (fConsA (fFn R_law_cell (fConsA (fVar 0) (fConsA (fBin dAdd (fBin dAdd (fVar 1) (fC (.int 1))) (fVar 5)) fNilA))) (fConsA (fVar 3) fNilA))) [5])) (sSeq (sIf (tA (tV (fBin dGt (fFn (g1 dLen) (fConsA (fVar 4) fNilA)) (fC (.int 1)))) (tV (fBin dEq (fBin dIx (fVar 2) (fC (.int 2))) (fC (.int 0))))) (sSeq (sApp 4 (fFn R_law_sum (fConsA (fBin dSub (fBin dIx (fVar 2) (fC (.int 4))) (fC (.int 3))) (fConsA (fBin dIx (fVar 4) (fC (.int 0))) (fConsA (fBin dSub (fBin dIx (fVar 2) (fC (.int 5))) (fC (.int 3))) (fConsA (fBin dIx (fVar 4) (fC (.int 1))) fNilA)))))) sNil) sNil) (sSeq (sAsg 6 (fFn (g1 dRepr) (fConsA (fVar 4) fNilA))) (sSeq (sAsg 7 (fFn R_echelon (fConsA (fVar 4) fNilA))) (sSeq (sIf (tO (tN (tV (fUn (isTy "list") (fVar 7)))) (tO (tN (tV (fFn R_law_is_echelon (fConsA (fVar 7) (fConsA (fVar 3) fNilA))))) (tO (tV (fBin dNe (fVar 7) (fFn R_law_echelon (fConsA (fVar 4) fNilA)))) (tV (fBin dNe (fFn (g1 dRepr) (fConsA (fVar 4) fNilA)) (fVar 6)))))) (sRet (fC (.bool false))) sNil) (sSeq (sFor (iSeq (fVar 4)) (gN 8) (sSeq (sIf (tV (fFn (g1 dAnyI) (fConsA (fFn R_reduced (fConsA (fVar 8) (fConsA (fVar 7) fNilA))) fNilA))) (sRet (fC (.bool false))) sNil) sNil)) (sSeq (sAsg 9 (fLc (iRv (fVar 4)) (gN 8) tYesF (fLc (iSeq (fVar 8)) (gN 10) tYesF (fBin dMul (fBin dSub (fBin dIx (fVar 2) (fC (.int 3))) (fC (.int 5))) (fVar 10)) [10]) [8])) (sSeq (sIf (tV (fBin dGt (fFn (g1 dLen) (fConsA (fVar 4) fNilA)) (fC (.int 1)))) (sSeq (sApp 9 (fFn R_law_sum (fConsA (fC (.int 3)) (fConsA (fBin dIx (fVar 4) (fC (.int 0))) (fConsA (fUn dNeg (fC (.int 2))) (fConsA (fBin dIx (fVar 4) (fUn dNeg (fC (.int 1)))) fNilA)))))) sNil) sNil) (sSeq (sIf (tO (tV (fBin dNe (fFn R_echelon (fConsA (fVar 9) fNilA)) (fVar 7))) (tV (fBin dNe (fFn R_echelon (fConsA (fVar 7) fNilA)) (fVar 7)))) (sRet (fC (.bool false))) sNil) (sFin 7 5 [8, 9, 9] (sSeq (sIf (tO (tV (fBin dNe (fFn (g1 dRepr) (fConsA (fVar 4) fNilA)) (fVar 6))) (tV (fBin dNe (fLc (iSeq (fVar 7)) (gN 8) tYesF (fBin dIx (fVar 8) (fUn dNeg (fC (.int 1)))) [8]) (fLc (iR1 (fFn (g1 dLen) (fConsA (fVar 7) fNilA))) (gN 5) tYesF (fVar 5) [5])))) (sRet (fC (.bool false))) sNil) sNil)))))))))))))) (sRet (fC (.bool true))))
def R_law : List PyData → Option PyData := runF 11 B_law
theorem ok_law (T : Txt KF.K mg) : FnG P w KF.K mg base (L2.CX P w) 4 T.a_law T.d_law ["script"] (spF 1 .cl R_law) :=
  def_nx (k := 3) (B := B_law) (O' := []) T.F_law sc_law rfl rfl (.inl rfl) fun cdv A outer s H E ga => ⟨_, (dss_cons (O' := []) (ds_for PassesOwn.never rfl (di_r3 rfl T.z_range (DE.rd_ de_int) (DE.rd_ (de_addI (DE.rd_ (de_lenK rfl rfl T.z_len (DE.rd_ (de_var 0 rfl)))) (DE.rd_ de_int))) (DE.rd_ de_int)) (dgn 1 sc_law.nd) (dss_cons (O' := []) (dsn 2 sc_law.nd (de_call (ok_law_draws T) (ga.mono (by decide)) T.g_law_draws T.F_law_draws.kp T.b_law_draws passL (dac_cons (de_call (ok_law_cell T) (ga.mono (by decide)) T.g_law_cell T.F_law_cell.kp T.b_law_cell passL (dac_cons (de_var 0 rfl) (dac_cons (de_var 1 rfl) dac_nil)) rfl (fsA_cons (fsA_cons fsA_nil))) (dac_cons (DE.cl_ (de_list (dac_cons de_int (dac_cons de_int (dac_cons de_int (dac_cons de_int (dac_cons de_int (dac_cons de_int dac_nil)))))))) dac_nil)) rfl (fsA_cons (fsA_cons fsA_nil)))) (dss_cons (O' := []) (dsn 3 sc_law.nd (de_addI (DE.rd_ de_int) (DE.rd_ (de_ixK rfl (DE.rd_ (de_var 2 rfl)) (DE.rd_ de_int))))) (dss_cons (O' := [4]) (dslcO 4 rfl sc_law.nd (dlc_mk [("j", 5)] (di_r1 rfl T.z_range (DE.rd_ (de_ixK rfl (DE.rd_ (de_var 2 rfl)) (DE.rd_ de_int)))) (blkOk_by (N := ["script", "k", "draws", "size", "rows", "j", "kept", "actual", "row", "other", "item"]) (sc := defScope s_law) (by decide +kernel)) (fun _ _ _ _ _ => (dgn 5 sc_law.nd)) (fun _ _ _ _ _ => dts_nil) (fun _ _ _ _ _ => (de_call (ok_law_vector T) (ga.mono (by decide)) T.g_law_vector T.F_law_vector.kp T.b_law_vector passL (dac_cons (de_call (ok_law_cell T) (ga.mono (by decide)) T.g_law_cell T.F_law_cell.kp T.b_law_cell passL (dac_cons (de_var 0 rfl) (dac_cons (de_addI (DE.rd_ (de_addI (DE.rd_ (de_var 1 rfl)) (DE.rd_ de_int))) (DE.rd_ (de_var 5 rfl))) dac_nil)) rfl (fsA_cons (fsA_cons fsA_nil))) (dac_cons (de_var 3 rfl) dac_nil)) rfl (fsA_cons (fsA_cons fsA_nil))))) (sw_true rfl rfl rfl (by decide +kernel))) (dss_cons (O' := [4]) (ds_if (DW.dt (dw_and (dt_gt (DE.rd_ (de_lenK rfl rfl T.z_len (de_varR 4))) (DE.rd_ de_int)) (dw_and1 (dt_eqK ga.u64 rfl (DE.rd_ (de_ixK rfl (DE.rd_ (de_var 2 rfl)) (DE.rd_ de_int))) (DE.rd_ de_int))))) (dss_cons (O' := [4]) (dsapp 4 (de_call (ok_law_sum T) (ga.mono (by decide)) T.g_law_sum T.F_law_sum.kp T.b_law_sum passL (dac_cons (de_sub (DE.rd_ (de_ixK rfl (DE.rd_ (de_var 2 rfl)) (DE.rd_ de_int))) (DE.rd_ de_int)) (dac_cons (de_ixK rfl (de_varR 4) (DE.rd_ de_int)) (dac_cons (de_sub (DE.rd_ (de_ixK rfl (DE.rd_ (de_var 2 rfl)) (DE.rd_ de_int))) (DE.rd_ de_int)) (dac_cons (de_ixK rfl (de_varR 4) (DE.rd_ de_int)) dac_nil)))) rfl (fsA_cons (fsA_cons (fsA_cons (fsA_cons fsA_nil))))) (pv 4) (hb := fun ph => pe_bm PySem.F.plainAttrs_list PySem.F.slot_list_append PySem.F.type_list_append mt_append (pv 4) (pa_cons ph pa_nil))) dss_nil) dss_nil) (DSs.frz 4 (dss_cons (O' := []) (dsn 6 sc_law.nd (de_repr rfl ga rfl T.z_repr (DE.rd_ (de_var 4 rfl)))) (df_asg (dsz_asg 7 sc_law.nd (dz_call (ok_echelon T) (ga.mono (by decide)) T.g_echelon T.F_echelon.kp T.b_echelon passL (dac_cons (de_var 4 rfl) dac_nil) rfl (fsA_cons fsA_nil))) rfl (df_cons (O' := []) (ds_if (DW.dt (dw_or (dt_not (dt_val (DE.rd_ (de_isiK rfl (T := "list") rfl T.z_isinstance (DE.rd_ (de_var 7 rfl)) (pe_bltn (by rfl) T.z_list (by decide +kernel) rfl))))) (dw_or (dt_not (dt_val (DE.rd_ (de_call (ok_law_is_echelon T) (ga.mono (by decide)) T.g_law_is_echelon T.F_law_is_echelon.kp T.b_law_is_echelon passL (dac_cons (de_var 7 rfl) (dac_cons (de_var 3 rfl) dac_nil)) rfl (fsA_cons (fsA_cons fsA_nil)))))) (dw_or (dt_neK ga.u64 rfl (DE.rd_ (de_var 7 rfl)) (DE.rd_ (de_call (ok_law_echelon T) (ga.mono (by decide)) T.g_law_echelon T.F_law_echelon.kp T.b_law_echelon passL (dac_cons (de_var 4 rfl) dac_nil) rfl (fsA_cons fsA_nil)))) (dw_or1 (dt_neK ga.u64 rfl (DE.rd_ (de_repr rfl ga rfl T.z_repr (DE.rd_ (de_var 4 rfl)))) (DE.rd_ (de_var 6 rfl)))))))) (dss_one (ds_ret de_bl)) dss_nil) (df_cons (O' := []) (ds_for PassesOwn.never rfl (di_seqK rfl (de_var 4 rfl)) (dgn 8 sc_law.nd) (dss_cons (O' := []) (ds_if (dt_val (DE.rd_ (de_anyIK rfl rfl rfl T.z_any (DE.or_ (de_call (ok_reduced T) (ga.mono (by decide)) T.g_reduced T.F_reduced.kp T.b_reduced passL (dac_cons (de_var 8 rfl) (dac_cons (de_var 7 rfl) dac_nil)) rfl (fsA_cons (fsA_cons fsA_nil))))))) (dss_one (ds_ret de_bl)) dss_nil) dss_nil)) (df_cons (O' := [9]) (dslcO 9 rfl sc_law.nd (dlc_mk [("row", 8)] (di_revK rfl rfl T.z_reversed (de_var 4 rfl)) (blkOk_by (N := ["script", "k", "draws", "size", "rows", "j", "kept", "actual", "row", "other", "item"]) (sc := defScope s_law) (by decide +kernel)) (fun _ _ _ _ _ => (dgn 8 sc_law.nd)) (fun _ _ _ _ _ => dts_nil) (fun _ _ _ _ _ => (DE.cl_ (de_lcv rfl sc_law.nd (dlc_mk [("item", 10)] (di_seqK rfl (de_var 8 rfl)) (blkOk_by (N := ["script", "k", "draws", "size", "rows", "j", "kept", "actual", "row", "other", "item"]) (sc := { kind := ScopeKind.function, names := [(".0", NameKind.local), ("row", NameKind.local), ("draws", NameKind.cell)], isGenerator := false, isCoroutine := false }) (by decide +kernel)) (fun _ _ _ _ _ => (dgn 10 sc_law.nd)) (fun _ _ _ _ _ => dts_nil) (fun _ _ _ _ _ => (de_mulI (DE.rd_ (de_sub (DE.rd_ (de_ixK rfl (DE.rd_ (de_var 2 rfl)) (DE.rd_ de_int))) (DE.rd_ de_int))) (DE.rd_ (de_var 10 rfl))))))))) (sw_true rfl rfl rfl (by decide +kernel))) (df_cons (O' := [9]) (ds_if (dt_gt (DE.rd_ (de_lenK rfl rfl T.z_len (DE.rd_ (de_var 4 rfl)))) (DE.rd_ de_int)) (dss_cons (O' := [9]) (dsapp 9 (de_call (ok_law_sum T) (ga.mono (by decide)) T.g_law_sum T.F_law_sum.kp T.b_law_sum passL (dac_cons de_int (dac_cons (de_ixK rfl (DE.rd_ (de_var 4 rfl)) (DE.rd_ de_int)) (dac_cons (de_neg (DE.rd_ de_int)) (dac_cons (de_ixK rfl (DE.rd_ (de_var 4 rfl)) (DE.rd_ (de_neg (DE.rd_ de_int)))) dac_nil)))) rfl (fsA_cons (fsA_cons (fsA_cons (fsA_cons fsA_nil))))) (pv 9) (hb := fun ph => pe_bm PySem.F.plainAttrs_list PySem.F.slot_list_append PySem.F.type_list_append mt_append (pv 9) (pa_cons ph pa_nil))) dss_nil) dss_nil) (df_frz 9 (df_cons (O' := []) (ds_if (DW.dt (dw_or (dt_neK ga.u64 rfl (DE.rd_ (de_call (ok_echelon T).unz (ga.mono (by decide)) T.g_echelon T.F_echelon.kp T.b_echelon passL (dac_cons (de_var 9 rfl) dac_nil) rfl (fsA_cons fsA_nil))) (DE.rd_ (de_var 7 rfl))) (dw_or1 (dt_neK ga.u64 rfl (DE.rd_ (de_call (ok_echelon T).unz (ga.mono (by decide)) T.g_echelon T.F_echelon.kp T.b_echelon passL (dac_cons (de_var 7 rfl) dac_nil) rfl (fsA_cons fsA_nil))) (DE.rd_ (de_var 7 rfl)))))) (dss_one (ds_ret de_bl)) dss_nil) (df_app 7 5 (DE.rd_ (de_lenK rfl rfl T.z_len (DE.rd_ (de_var 7 rfl)))) (de_ixK rfl (DE.rd_ (de_var 7 rfl)) (DE.rd_ (de_var 5 rfl))) (dgn 5 sc_law.nd) (fun hl hx hg => ps_for PassesOwn.never rfl (pi_range1 rfl T.z_range (pa_cons hl pa_nil)) hg (pss_one (ps_expr (pe_bm PySem.F.plainAttrs_list PySem.F.slot_list_append PySem.F.type_list_append mt_append hx (pa_cons (pv 5) pa_nil))))) rfl (dss_cons (O' := []) (ds_if (DW.dt (dw_or (dt_neK ga.u64 rfl (DE.rd_ (de_repr rfl ga rfl T.z_repr (DE.rd_ (de_var 4 rfl)))) (DE.rd_ (de_var 6 rfl))) (dw_or1 (dt_neK ga.u64 rfl (DE.or_ (de_lcv rfl sc_law.nd (dlc_mk [("row", 8)] (di_seqK rfl (de_var 7 rfl)) (blkOk_by (N := ["script", "k", "draws", "size", "rows", "j", "kept", "actual", "row", "other", "item"]) (sc := defScope s_law) (by decide +kernel)) (fun _ _ _ _ _ => (dgn 8 sc_law.nd)) (fun _ _ _ _ _ => dts_nil) (fun _ _ _ _ _ => (de_ixK rfl (DE.rd_ (de_var 8 rfl)) (DE.rd_ (de_neg (DE.rd_ de_int)))))))) (DE.or_ (de_lcv rfl sc_law.nd (dlc_mk [("j", 5)] (di_r1 rfl T.z_range (DE.rd_ (de_lenK rfl rfl T.z_len (DE.rd_ (de_var 7 rfl))))) (blkOk_by (N := ["script", "k", "draws", "size", "rows", "j", "kept", "actual", "row", "other", "item"]) (sc := defScope s_law) (by decide +kernel)) (fun _ _ _ _ _ => (dgn 5 sc_law.nd)) (fun _ _ _ _ _ => dts_nil) (fun _ _ _ _ _ => (de_var 5 rfl))))))))) (dss_one (ds_ret de_bl)) dss_nil) dss_nil)))))))))))))))) (dss_one (ds_ret de_bl)))⟩
end
end Law
set_option Elab.async false
set_option linter.all false
set_option maxRecDepth 100000
set_option maxHeartbeats 2000000
namespace Law
open PySem PySem.Spec L2 DL
open PyProof.Rows hiding St
local macro_rules | `(tactic| walk_at "ev") => `(tactic| simp only [runF, sSeq, sIf, sAsg, sRet, sNil, sFor, sApp, fVar, fC, fBin, fUn, fFn, fNilA, fConsA, fAnd, fOr, gNot, g1, g2, tV, tA, tO, tN, gN, gT, gsR, iSeq, iR1, iR2, iZ, tYesF, Option.bind_some, Option.bind_none, Option.map_some, List.getElem?_cons_zero, List.getElem?_cons_succ, Option.getD_some,
  List.set_cons_zero, List.set_cons_succ, List.replicate, List.map_cons, List.map_nil, List.cons_append, List.nil_append, List.length_cons, List.length_nil, dAdd_i, dSub_i, dLt_i, dLe_i, dGt_i, dGe_i, dEq_i, dNe_i, dLen_v, dSum_v, dAnyI_v, dEq_v, dNe_v, dInt, dAbs, dNeg, dGcd, dListOf, if_true, if_false, Bool.false_eq_true, reduceIte, Bool.not_true, Bool.not_false, wipeR, decide_true, decide_false, *])
/-! ### cells -/
def cellV (ns : List Int) (k : Int) : Int := if k < ns.length then ns.getD k.toNat 0 else 0
theorem R_cell (ns : List Int) {k : Int} (hk : 0 ≤ k) : R_law_cell [vecD ns, .int k] = some (.int (cellV ns k)) := by
  unfold R_law_cell B_law_cell cellV
  by_cases h : k < ns.length
  · have h1 : ns[k.toNat]? = some (ns.getD k.toNat 0) := by
      rw [List.getD_eq_getElem?_getD, List.getElem?_eq_getElem (by omega)] <;> rfl
    have h2 := dIx_v (i := k) (by omega : k = (k.toNat : Int)) h1
    walk_at "ev"
  · walk_at "ev"
/-! ### the greatest common divisor -/
theorem bits_lt {a b : Nat} (h : a ≤ b) : (if a = 0 then 0 else a.log2 + 1) ≤ (if b = 0 then 0 else b.log2 + 1) := by
  by_cases ha : a = 0
  · rw [if_pos ha]
    exact Nat.zero_le _
  · have hb : b ≠ 0 := by omega
    rw [if_neg ha, if_neg hb]
    have : a.log2 ≤ b.log2 := by
      rw [Nat.le_log2 hb]
      exact Nat.le_trans (Nat.log2_self_le ha) h
    omega
def nb (n : Nat) : Nat := if n = 0 then 0 else n.log2 + 1
theorem nb_half {a b : Nat} (hb : 0 < b) (h : b ≤ a) : nb (a % b) + 1 ≤ nb a := by
  have h1 : 2 * (a % b) < a := by
    have := Nat.mod_lt a hb
    have := Nat.div_add_mod a b
    have : 1 ≤ a / b := (Nat.le_div_iff_mul_le hb).mpr (by omega)
    have : b * 1 ≤ b * (a / b) := Nat.mul_le_mul_left _ this
    omega
  unfold nb
  have ha : a ≠ 0 := by omega
  rw [if_neg ha]
  by_cases hr : a % b = 0
  · rw [if_pos hr]
    omega
  · rw [if_neg hr]
    have h2 : 2 ^ ((a % b).log2 + 1) ≤ a := by
      rw [Nat.pow_succ]
      have := Nat.log2_self_le hr
      omega
    have := (Nat.le_log2 ha).mpr h2
    omega
/-- the loop of the law's gcd, with n turns left -/
theorem gcd_loop : ∀ (n : Nat) (ds : List PyData) (a b : Nat) (v x : Option PyData), ds.length = n → (∀ d ∈ ds, ∃ i : Int, d = .int i) → (b ≤ a → nb a + nb b + 1 ≤ n) → (a < b → nb a + nb b + 2 ≤ n) →
    loopF (gN 2) (sSeq (sIf (tV (fBin dEq (fVar 1) (fC (.int 0)))) (sRet (fVar 0)) sNil) (sSeq (sAsg 3 (fBin dMod (fFn (g1 dInt) (fConsA (fVar 0) fNilA)) (fVar 1))) (sSeq (sAsg 0 (fVar 1)) (sSeq (sAsg 1 (fVar 3)) sNil)))) ds
      [some (.int (a : Int)), some (.int (b : Int)), v, x] = some (.rt (.int ((Nat.gcd a b : Nat) : Int)))
  | 0, ds, a, b, v, x, hl, hd, h1, h2 => by
    exfalso
    by_cases h : b ≤ a
    · have := h1 h
      omega
    · have := h2 (by omega)
      omega
  | n + 1, [], a, b, v, x, hl, hd, h1, h2 => by
    cases hl
  | n + 1, d :: ds, a, b, v, x, hl, hd, h1, h2 => by
    obtain ⟨i, rfl⟩ := hd d (List.mem_cons_self ..)
    by_cases hb : b = 0
    · subst hb
      have hz : (((0 : Nat) : Int) == 0) = true := rfl
      rw [Nat.gcd_zero_right]
      simp only [loopF]
      walk_at "ev"
    · have ih := gcd_loop n ds b (a % b) (some (.int i)) (some (.int ((a % b : Nat) : Int))) (by simpa using hl) (fun d h => hd d (List.mem_cons_of_mem _ h)) (fun _ => by
          by_cases h : b ≤ a
          · have := h1 h
            have := nb_half (by omega) h
            omega
          · have := h2 (by omega)
            rw [Nat.mod_eq_of_lt (by omega)]
            omega) (fun z => by
          have := Nat.mod_lt a (show 0 < b by omega)
          omega)
      rw [Nat.gcd_comm, Nat.gcd_rec, Nat.gcd_comm]
      have hz : ((b : Int) == 0) = false := by
        simp
        omega
      have hm : dMod (.int (a : Int)) (.int (b : Int)) = some (.int ((a % b : Nat) : Int)) := by
        rw [dMod_p (by omega)]
        rfl
      clear hd h1 h2 hl
      simp only [loopF]
      walk_at "ev"
theorem dAbs_i (a : Int) : dAbs (.int a) = some (.int (a.natAbs : Int)) := by
  show some (PyData.int (if a < 0 then -a else a)) = _
  by_cases h : a < 0
  · rw [if_pos h, show -a = (a.natAbs : Int) by omega]
  · rw [if_neg h, show a = (a.natAbs : Int) by omega]
    simp
theorem dBits_n (n : Nat) : dBits (.int (n : Int)) = some (.int (nb n : Int)) := by
  show some (PyData.int ((Builtin.Int.intBits (n : Int) : Nat) : Int)) = _
  have : Builtin.Int.intBits (n : Int) = nb n := by
    unfold Builtin.Int.intBits nb
    by_cases h : n = 0
    · subst h
      rfl
    · rw [if_neg h]
      split
      · rename_i h2
        exact absurd h2 (by simpa using h)
      · simp
  rw [this]
theorem nb_le {n k : Nat} (h : n < 2 ^ k) : nb n ≤ k := by
  unfold nb
  by_cases h0 : n = 0
  · rw [if_pos h0]
    exact Nat.zero_le _
  · rw [if_neg h0]
    have := (Nat.log2_lt h0).mpr h
    omega
theorem rangeD_ints {lo : Int} {n : Nat} : ∀ d ∈ rangeD lo n, ∃ i : Int, d = .int i := fun d hd => by
  unfold rangeD at hd
  obtain ⟨i, _, rfl⟩ := List.mem_map.mp hd
  exact ⟨_, rfl⟩
theorem R_gcd {a b : Int} {n m : Nat} (ha : a.natAbs < 2 ^ n) (hb : b.natAbs < 2 ^ m) (hn : n + m ≤ 100000000) : R_law_gcd [.int a, .int b] = some (.int ((Nat.gcd a.natAbs b.natAbs : Nat) : Int)) := by
  have h1 := nb_le ha
  have h2 := nb_le hb
  have hr : rgC ((nb a.natAbs : Int) + (nb b.natAbs : Int) + 4) = true := rgC_ok (by omega) (by omega)
  have hloop := gcd_loop ((nb a.natAbs : Int) + (nb b.natAbs : Int) + 4).toNat (rangeD 0 ((nb a.natAbs : Int) + (nb b.natAbs : Int) + 4).toNat) a.natAbs b.natAbs none none (rangeD_length ..) rangeD_ints (fun _ => by omega) (fun _ => by omega)
  clear ha hb hn h1 h2
  unfold R_law_gcd B_law_gcd
  refine runF_rt (seq_nx (asg_nx (d := .int (a.natAbs : Int)) ?_) (seq_nx (asg_nx (d := .int (b.natAbs : Int)) ?_) (seq_rt ?_)))
  · show dAbs (.int a) = _
    exact dAbs_i a
  · show dAbs (.int b) = _
    exact dAbs_i b
  · show (iR1 _ [some (.int (a.natAbs : Int)), some (.int (b.natAbs : Int)), none, none]).bind _ = _
    have d1 := dBits_n a.natAbs
    have d2 := dBits_n b.natAbs
    rw [iR1_ok (j := (nb a.natAbs : Int) + (nb b.natAbs : Int) + 4) (by
      clear hr hloop
      walk_at "ev") hr, Option.bind_some]
    exact hloop
/-! ### primitive vectors -/
def gcdL : List Int → Nat → Nat
  | [], g => g
  | x :: r, g => gcdL r (Nat.gcd g x.natAbs)
def prim (v : List Int) : List Int := if gcdL v 0 = 0 then v else v.map (· / (gcdL v 0 : Int))
def Small (n : Nat) (v : List Int) : Prop := ∀ x ∈ v, x.natAbs < 2 ^ n
theorem gcd_small {n g a : Nat} (hg : g < 2 ^ n) (ha : a < 2 ^ n) : Nat.gcd g a < 2 ^ n := by
  by_cases h0 : g = 0
  · rw [h0, Nat.gcd_zero_left]
    exact ha
  · exact Nat.lt_of_le_of_lt (Nat.gcd_le_left a (Nat.pos_of_ne_zero h0)) hg
theorem gcdL_cons (x : Int) (r : List Int) (g : Nat) : gcdL (x :: r) g = gcdL r (Nat.gcd g x.natAbs) := by
  rw [gcdL]
theorem gcdL_small {n : Nat} (v : List Int) : ∀ {g : Nat}, Small n v → g < 2 ^ n → gcdL v g < 2 ^ n := by
  induction v with
  | nil =>
    intro g _ h
    rw [gcdL]
    exact h
  | cons x r ih =>
    intro g hs h
    rw [gcdL_cons]
    exact ih (fun y hy => hs y (List.mem_cons_of_mem _ hy)) (gcd_small h (hs x (List.mem_cons_self ..)))
/-! ### the same, with the function as a variable -/
abbrev GF := List PyData → Option PyData
def GcdOk (n : Nat) (G : GF) : Prop := ∀ a b : Int, a.natAbs < 2 ^ n → b.natAbs < 2 ^ n → G [.int a, .int b] = some (.int ((Nat.gcd a.natAbs b.natAbs : Nat) : Int))
theorem gcd_fold {n : Nat} {k : FG} {B : FS} (st : Nat → Option PyData → Rho) (h : ∀ (g : Nat) (y : Option PyData) (a : Int), g < 2 ^ n → a.natAbs < 2 ^ n → ∃ ρ1, k (.int a) (st g y) = some ρ1 ∧ B ρ1 = some (.nx (st (Nat.gcd g a.natAbs) (some (.int a))))) (v : List Int) :
    ∀ (g : Nat) (y : Option PyData), Small n v → g < 2 ^ n → ∃ y', (y' = y ∨ ∃ a : Int, y' = some (.int a)) ∧ loopF k B (v.map .int) (st g y) = some (.nx (st (gcdL v g) y')) := by
  induction v with
  | nil => exact fun g y _ _ => ⟨y, .inl rfl, rfl⟩
  | cons a v ih =>
    intro g y hs hg
    have ha := hs a (List.mem_cons_self ..)
    obtain ⟨ρ1, h1, h2⟩ := h g y a hg ha
    obtain ⟨y', hy, e⟩ := ih (Nat.gcd g a.natAbs) (some (.int a)) (fun y hy => hs y (List.mem_cons_of_mem _ hy)) (gcd_small hg ha)
    refine ⟨y', .inr (hy.elim (fun h => ⟨a, h⟩) id), ?_⟩
    rw [gcdL_cons]
    show (k (.int a) (st g y)).bind _ = _
    rw [h1, Option.bind_some, h2, Option.bind_some]
    exact e
theorem fn2 {G : GF} {i j : Nat} {ρ : Rho} {x y z : PyData} (h1 : fVar i ρ = some x) (h2 : fVar j ρ = some y) (h : G [x, y] = some z) : fFn G (fConsA (fVar i) (fConsA (fVar j) fNilA)) ρ = some z := by
  unfold fFn fConsA fNilA
  rw [h1, Option.bind_some]
  simp only [Option.bind_some]
  rw [h2]
  simp only [Option.bind_some]
  exact h
def BG (G : GF) : FS := (sSeq (sAsg 1 (fC (.int 0))) (sSeq (sFor (iSeq (fVar 0)) (gN 2) (sSeq (sAsg 1 (fFn G (fConsA (fVar 1) (fConsA (fVar 2) fNilA)))) sNil)) (sSeq (sIf (tV (fBin dEq (fVar 1) (fC (.int 0)))) (sRet (fFn (g1 dListOf) (fConsA (fVar 0) fNilA))) sNil) (sRet (fLc (iSeq (fVar 0)) (gN 2) tYesF (fBin dDiv (fVar 2) (fVar 1)) [2])))))
theorem lc_div {g : Int} {n : Nat} (hg : 0 < g) (hs : g.natAbs < 2 ^ n) (hn : n ≤ 9000) (hn0 : 0 < n) (z : Option PyData) (v : List Int) (hl : v.length ≤ 90000) : fLc (iSeq (fVar 0)) (gN 2) tYesF (fBin dDiv (fVar 2) (fVar 1)) [2] [some (vecD v), some (.int g), z] = some (vecD (v.map (· / g))) := by
  unfold vecD
  rw [List.map_map]
  refine fLc_map (α := Int) (h := .int) (xs := v) rfl hl fun a ha => ⟨[some (.list (v.map .int)), some (.int g), some (.int a)], rfl, rfl, ?_⟩
  exact dDiv_p hg hs (by omega) hn0
theorem R_primG {G : GF} {n : Nat} (hG : GcdOk n G) (hn : n ≤ 9000) (hn0 : 0 < n) {v : List Int} (hs : Small n v) (hl : v.length ≤ 90000) : runF 3 (BG G) [vecD v] = some (vecD (prim v)) := by
  obtain ⟨y', _, hloop⟩ := gcd_fold (n := n) (k := gN 2) (B := sSeq (sAsg 1 (fFn G (fConsA (fVar 1) (fConsA (fVar 2) fNilA)))) sNil) (fun g y => [some (vecD v), some (.int (g : Int)), y]) (fun g y a hg ha => ⟨_, rfl, seq_nx (asg_nx (d := .int ((Nat.gcd g a.natAbs : Nat) : Int)) (fn2 rfl rfl (hG (g : Int) a (by rw [Int.natAbs_natCast]; exact hg) ha))) rfl⟩) v 0 none hs (Nat.two_pow_pos n)
  have hgs := gcdL_small v (g := 0) hs (Nat.two_pow_pos n)
  have hsrc : iSeq (fVar 0) [some (vecD v), some (.int 0), none] = some (v.map .int) := rfl
  refine runF_rt (seq_nx (asg_nx (d := .int 0) rfl) (seq_nx (ρ' := [some (vecD v), some (.int (gcdL v 0 : Int)), y']) ((for_eq hsrc).trans hloop) ?_))
  unfold prim
  by_cases h : gcdL v 0 = 0
  · rw [if_pos h, h]
    exact seq_rt ((if_t rfl).trans (ret_rt rfl))
  · rw [if_neg h]
    refine seq_nx (ρ' := [some (vecD v), some (.int (gcdL v 0 : Int)), y']) ((if_f ?_).trans rfl) (ret_rt (lc_div (n := n) (by omega) (by rw [Int.natAbs_natCast]; exact hgs) hn hn0 y' v hl))
    show (some (PyData.bool (((gcdL v 0 : Nat) : Int) == 0))).bind _ = _
    rw [show (((gcdL v 0 : Nat) : Int) == 0) = false by simpa using h]
    rfl
theorem gcdOk_law {n : Nat} (hn : n ≤ 9000) : GcdOk n R_law_gcd := fun a b ha hb => R_gcd ha hb (by omega)
theorem gcdOk_c (n : Nat) : GcdOk n (g2 dGcd) := fun a b _ _ => rfl
theorem R_lprim {n : Nat} (hn : n ≤ 9000) (hn0 : 0 < n) {v : List Int} (hs : Small n v) (hl : v.length ≤ 90000) : R_law_primitive [vecD v] = some (vecD (prim v)) :=
  R_primG (gcdOk_law hn) hn hn0 hs hl
theorem R_prim {n : Nat} (hn : n ≤ 9000) (hn0 : 0 < n) {v : List Int} (hs : Small n v) (hl : v.length ≤ 90000) : R_primitive [vecD v] = some (vecD (prim v)) :=
  R_primG (gcdOk_c n) hn hn0 hs hl
/-! ### what primitive vectors are -/
theorem gcdL_dvd (v : List Int) : ∀ g : Nat, gcdL v g ∣ g ∧ ∀ x ∈ v, gcdL v g ∣ x.natAbs := by
  induction v with
  | nil =>
    intro g
    refine ⟨?_, fun x hx => nomatch hx⟩
    rw [gcdL]
    exact Nat.dvd_refl _
  | cons a v ih =>
    intro g
    rw [gcdL_cons]
    obtain ⟨h1, h2⟩ := ih (Nat.gcd g a.natAbs)
    refine ⟨Nat.dvd_trans h1 (Nat.gcd_dvd_left ..), fun x hx => ?_⟩
    rcases List.mem_cons.mp hx with rfl | hx
    · exact Nat.dvd_trans h1 (Nat.gcd_dvd_right ..)
    · exact h2 x hx
theorem dvd_gcdL {c : Nat} (v : List Int) : ∀ g : Nat, c ∣ g → (∀ x ∈ v, c ∣ x.natAbs) → c ∣ gcdL v g := by
  induction v with
  | nil =>
    intro g h _
    rw [gcdL]
    exact h
  | cons a v ih =>
    intro g h h2
    rw [gcdL_cons]
    exact ih _ (Nat.dvd_gcd h (h2 a (List.mem_cons_self ..))) fun x hx => h2 x (List.mem_cons_of_mem _ hx)
theorem gcdL_zero_iff (v : List Int) : gcdL v 0 = 0 ↔ ∀ x ∈ v, x = 0 := by
  constructor
  · intro h x hx
    have := (gcdL_dvd v 0).2 x hx
    rw [h] at this
    have := Nat.eq_zero_of_zero_dvd this
    omega
  · intro h
    exact Nat.eq_zero_of_zero_dvd (dvd_gcdL v 0 (Nat.dvd_refl _) fun x hx => by rw [h x hx]; exact Nat.dvd_refl _)
theorem gcdL_prim {v : List Int} (h : gcdL v 0 ≠ 0) : gcdL (prim v) 0 = 1 := by
  unfold prim
  rw [if_neg h]
  have hd := (gcdL_dvd v 0).2
  generalize hg : gcdL v 0 = g at *
  have hd2 := (gcdL_dvd (v.map (· / (g : Int))) 0).2
  generalize hc : gcdL (v.map (· / (g : Int))) 0 = c at *
  have h3 : g * c ∣ g := by
    conv => rhs; rw [← hg]
    refine dvd_gcdL v 0 (Nat.dvd_zero _) fun x hx => ?_
    have h1 : (x / (g : Int)).natAbs * g = x.natAbs := by
      have : (g : Int) ∣ x := Int.natAbs_dvd_natAbs.mp (by rw [Int.natAbs_natCast]; exact hd x hx)
      obtain ⟨q, rfl⟩ := this
      rw [Int.mul_ediv_cancel_left _ (by omega), Int.natAbs_mul, Int.natAbs_natCast, Nat.mul_comm]
    have h2 : c ∣ (x / (g : Int)).natAbs := hd2 _ (List.mem_map.mpr ⟨x, hx, rfl⟩)
    rw [← h1, Nat.mul_comm]
    exact Nat.mul_dvd_mul_right h2 g
  obtain ⟨q, e⟩ := h3
  have : g * (c * q) = g * 1 := by
    rw [← Nat.mul_assoc, Nat.mul_one]
    exact e.symm
  exact Nat.dvd_one.mp ⟨q, (Nat.eq_of_mul_eq_mul_left (Nat.pos_of_ne_zero h) this).symm⟩
theorem prim_prim (v : List Int) : prim (prim v) = prim v := by
  by_cases h : gcdL v 0 = 0
  · have : prim v = v := if_pos h
    rw [this, this]
  · show (if gcdL (prim v) 0 = 0 then prim v else (prim v).map (· / (gcdL (prim v) 0 : Int))) = prim v
    rw [gcdL_prim h]
    simp
theorem prim_length (v : List Int) : (prim v).length = v.length := by
  unfold prim
  split
  · rfl
  · rw [List.length_map]
theorem prim_small {n : Nat} {v : List Int} (hs : Small n v) : Small n (prim v) := by
  unfold prim
  split
  · exact hs
  · intro x hx
    obtain ⟨y, hy, rfl⟩ := List.mem_map.mp hx
    refine Nat.lt_of_le_of_lt ?_ (hs y hy)
    have hd := (gcdL_dvd v 0).2 y hy
    generalize gcdL v 0 = g at *
    obtain ⟨q, rfl⟩ : (g : Int) ∣ y := Int.natAbs_dvd_natAbs.mp (by rw [Int.natAbs_natCast]; exact hd)
    rw [Int.mul_ediv_cancel_left _ (by omega), Int.natAbs_mul, Int.natAbs_natCast]
    exact Nat.le_mul_of_pos_left _ (by omega)
end Law
set_option Elab.async false
set_option linter.all false
set_option maxRecDepth 100000
set_option maxHeartbeats 2000000
namespace Law
open PySem PySem.Spec L2 DL
open PyProof.Rows hiding St
local macro_rules | `(tactic| walk_at "ev") => `(tactic| simp only [runF, sSeq, sIf, sAsg, sRet, sNil, sFor, sApp, fVar, fC, fBin, fUn, fFn, fNilA, fConsA, fAnd, fOr, gNot, g1, g2, tV, tA, tO, tN, gN, gT, gsR, iSeq, iR1, iR2, iZ, tYesF, Option.bind_some, Option.bind_none, Option.map_some, List.getElem?_cons_zero, List.getElem?_cons_succ, Option.getD_some,
  List.set_cons_zero, List.set_cons_succ, List.replicate, List.map_cons, List.map_nil, List.cons_append, List.nil_append, List.length_cons, List.length_nil, dAdd_i, dSub_i, dLt_i, dLe_i, dGt_i, dGe_i, dEq_i, dNe_i, dLen_v, dSum_v, dAnyI_v, dEq_v, dNe_v, dInt, dAbs, dNeg, dGcd, dListOf, if_true, if_false, Bool.false_eq_true, reduceIte, Bool.not_true, Bool.not_false, wipeR, decide_true, decide_false, *])
/-! ### draws -/
theorem fn1 {G : List PyData → Option PyData} {f : F} {ρ : Rho} {x z : PyData} (h : f ρ = some x) (h2 : G [x] = some z) : fFn G (fConsA f fNilA) ρ = some z := by
  unfold fFn fConsA fNilA
  rw [h, Option.bind_some]
  simp only [Option.bind_some]
  exact h2
inductive Dr : List Int → List Int → Prop
  | nil : Dr [] []
  | cons {d l : Int} {ds ls : List Int} : 0 ≤ d → d < l → Dr ds ls → Dr (d :: ds) (l :: ls)
theorem app_nx {i : Nat} {f : F} {ρ : Rho} {x : Int} {xs : List Int} (h : f ρ = some (.int x)) (h2 : ρ[i]? = some (some (vecD xs))) (hl : xs.length ≤ 90000) : sApp i f ρ = some (.nx (ρ.set i (some (vecD (xs ++ [x]))))) := by
  unfold sApp
  rw [h, Option.bind_some, h2]
  show (if catC (xs.map PyData.int).length 1 = true then _ else _) = _
  rw [if_pos (catC_le (by rw [List.length_map]; omega))]
  unfold vecD
  rw [List.map_append] <;> rfl
def dBody : FS := sSeq (sIf (tA (tV (fVar 5)) (tV (fBin dGt (fVar 3) (fC (.int 1))))) (sSeq (sApp 2 (fBin dMod (fFn (g1 dInt) (fConsA (fVar 3) fNilA)) (fVar 6))) (sSeq (sAsg 3 (fBin dDiv (fVar 3) (fVar 6))) sNil)) (sSeq (sAsg 4 (fBin dMod (fFn (g1 dInt) (fConsA (fBin dAdd (fBin dMul (fVar 4) (fC (.int 48271))) (fC (.int 11))) fNilA)) (fC (.int 2147483647)))) (sSeq (sAsg 4 (fBin dMod (fFn (g1 dInt) (fConsA (fBin dAdd (fBin dMul (fVar 4) (fC (.int 69621))) (fC (.int 7))) fNilA)) (fC (.int 2147483647)))) (sSeq (sApp 2 (fBin dMod (fFn (g1 dInt) (fConsA (fBin dDiv (fVar 4) (fC (.int 13))) fNilA)) (fVar 6))) sNil)))) sNil
theorem t_free (c l a : Option PyData) (rest : Int) (st : Option PyData) (fr : Bool) (y : Option PyData) : tA (tV (fVar 5)) (tV (fBin dGt (fVar 3) (fC (.int 1)))) [c, l, a, some (.int rest), st, some (.bool fr), y] = some (fr && decide (1 < rest)) := by
  cases fr <;> rfl
theorem draw_loop : ∀ (ls : List Int) (acc : List Int) (rest state : Int) (c l : Option PyData) (fr : Bool) (x : Option PyData), (∀ y ∈ ls, 0 < y ∧ y < 2 ^ 31) → 0 ≤ state → state < 2 ^ 31 → acc.length + ls.length ≤ 80000 →
    ∃ ds r' s' x', Dr ds ls ∧ loopF (gN 6) dBody (ls.map .int)
      [c, l, some (vecD acc), some (.int rest), some (.int state), some (.bool fr), x] = some (.nx [c, l, some (vecD (acc ++ ds)), some (.int r'), some (.int s'), some (.bool fr), x']) := by
  intro ls
  induction ls with
  | nil =>
    intro acc rest state c l fr x _ _ _ _
    exact ⟨[], rest, state, x, .nil, by rw [List.append_nil]; rfl⟩
  | cons y ls ih =>
    intro acc rest state c l fr x hy h0 h1 hl
    obtain ⟨y0, y1⟩ := hy y (List.mem_cons_self ..)
    have hy' : ∀ z ∈ ls, 0 < z ∧ z < 2 ^ 31 := fun z hz => hy z (List.mem_cons_of_mem _ hz)
    rw [List.length_cons] at hl
    by_cases hf : (fr && decide (1 < rest)) = true
    · simp only [Bool.and_eq_true, decide_eq_true_eq] at hf
      obtain ⟨rfl, hr⟩ := hf
      obtain ⟨ds, r', s', x', hd, e⟩ := ih (acc ++ [rest % y]) (rest / y) state c l true (some (.int y)) hy' h0 h1 (by rw [List.length_append, List.length_singleton]; omega)
      refine ⟨rest % y :: ds, r', s', x', .cons (Int.emod_nonneg _ (by omega)) (Int.emod_lt_of_pos _ y0) hd, ?_⟩
      rw [List.append_assoc] at e
      refine Eq.trans ?_ e
      show Option.bind (some [c, l, some (vecD acc), some (.int rest), some (.int state), some (.bool true), some (.int y)]) _ = _
      rw [Option.bind_some]
      have hb : dBody
          [c, l, some (vecD acc), some (.int rest), some (.int state), some (.bool true), some (.int y)] = some (.nx [c, l, some (vecD (acc ++ [rest % y])), some (.int (rest / y)), some (.int state), some (.bool true), some (.int y)]) := by
        refine seq_nx (ρ' := [c, l, some (vecD (acc ++ [rest % y])), some (.int (rest / y)), some (.int state), some (.bool true), some (.int y)]) ((if_t ((t_free ..).trans ?_)).trans (seq_nx (ρ' := [c, l, some (vecD (acc ++ [rest % y])), some (.int rest), some (.int state), some (.bool true), some (.int y)]) (app_nx (x := rest % y) (xs := acc) (dMod_p y0) rfl (by omega)) (seq_nx (asg_nx (d := .int (rest / y)) (dDiv_p (n := 31) y0 (by omega) (by omega) (by omega))) rfl))) rfl
        rw [show decide (1 < rest) = true from decide_eq_true hr] <;> rfl
      rw [hb] <;> rfl
    · have e1 : 0 ≤ (state * 48271 + 11) % 2147483647 := Int.emod_nonneg _ (by omega)
      have e2 : (state * 48271 + 11) % 2147483647 < 2147483647 := Int.emod_lt_of_pos _ (by omega)
      generalize hs1 : (state * 48271 + 11) % 2147483647 = s1 at *
      have e3 : 0 ≤ (s1 * 69621 + 7) % 2147483647 := Int.emod_nonneg _ (by omega)
      have e4 : (s1 * 69621 + 7) % 2147483647 < 2147483647 := Int.emod_lt_of_pos _ (by omega)
      generalize hs2 : (s1 * 69621 + 7) % 2147483647 = s2 at *
      obtain ⟨ds, r', s', x', hd, e⟩ := ih (acc ++ [s2 / 13 % y]) rest s2 c l fr (some (.int y)) hy' e3 (by omega) (by rw [List.length_append, List.length_singleton]; omega)
      refine ⟨s2 / 13 % y :: ds, r', s', x', .cons (Int.emod_nonneg _ (by omega)) (Int.emod_lt_of_pos _ y0) hd, ?_⟩
      rw [List.append_assoc] at e
      refine Eq.trans ?_ e
      show Option.bind (some [c, l, some (vecD acc), some (.int rest), some (.int state), some (.bool fr), some (.int y)]) _ = _
      rw [Option.bind_some]
      have m1 : dMul (.int state) (.int 48271) = some (.int (state * 48271)) := dMul_b (n := 31) (m := 16) (by omega) (by omega) (by omega)
      have m2 : dMul (.int s1) (.int 69621) = some (.int (s1 * 69621)) := dMul_b (n := 31) (m := 17) (by omega) (by omega) (by omega)
      have m3 : dMod (.int (state * 48271 + 11)) (.int 2147483647) = some (.int s1) := by
        rw [dMod_p (by omega), hs1]
      have m4 : dMod (.int (s1 * 69621 + 7)) (.int 2147483647) = some (.int s2) := by
        rw [dMod_p (by omega), hs2]
      have m5 : dDiv (.int s2) (.int 13) = some (.int (s2 / 13)) := dDiv_p (n := 4) (by omega) (by omega) (by omega) (by omega)
      have hb : dBody
          [c, l, some (vecD acc), some (.int rest), some (.int state), some (.bool fr), some (.int y)] = some (.nx [c, l, some (vecD (acc ++ [s2 / 13 % y])), some (.int rest), some (.int s2), some (.bool fr), some (.int y)]) := by
        refine seq_nx (ρ' := [c, l, some (vecD (acc ++ [s2 / 13 % y])), some (.int rest), some (.int s2), some (.bool fr), some (.int y)]) ((if_f ((t_free ..).trans (by rw [Bool.eq_false_iff.mpr hf]))).trans (seq_nx (ρ' := [c, l, some (vecD acc), some (.int rest), some (.int s1), some (.bool fr), some (.int y)]) (asg_nx (d := .int s1) ?_) (seq_nx (ρ' := [c, l, some (vecD acc), some (.int rest), some (.int s2), some (.bool fr), some (.int y)]) (asg_nx (d := .int s2) ?_) (seq_nx (ρ' := [c, l, some (vecD (acc ++ [s2 / 13 % y])), some (.int rest), some (.int s2), some (.bool fr), some (.int y)]) (app_nx (x := s2 / 13 % y) (xs := acc) ?_ rfl (by omega)) rfl)))) rfl
        · refine (fBin_eq (x := .int (state * 48271 + 11)) ?_ rfl).trans m3
          exact fn1 ((fBin_eq (fBin_eq rfl rfl |>.trans m1) rfl).trans rfl) rfl
        · refine (fBin_eq (x := .int (s1 * 69621 + 7)) ?_ rfl).trans m4
          exact fn1 ((fBin_eq (fBin_eq rfl rfl |>.trans m2) rfl).trans rfl) rfl
        · refine (fBin_eq (x := .int (s2 / 13)) ?_ rfl).trans (dMod_p y0)
          exact fn1 ((fBin_eq rfl rfl).trans m5) rfl
      rw [hb] <;> rfl
theorem R_draws {c : Int} {ls : List Int} (hy : ∀ y ∈ ls, 0 < y ∧ y < 2 ^ 31) (hl : ls.length ≤ 80000) : ∃ ds, R_law_draws [.int c, vecD ls] = some (vecD ds) ∧ Dr ds ls := by
  have e1 : 0 ≤ (if c < 0 then -c else c) % 2147483647 := Int.emod_nonneg _ (by omega)
  have e2 : (if c < 0 then -c else c) % 2147483647 < 2147483647 := Int.emod_lt_of_pos _ (by omega)
  have hm : dMod (.int (if c < 0 then -c else c)) (.int 2147483647) = some (.int ((if c < 0 then -c else c) % 2147483647)) := dMod_p (by omega)
  obtain ⟨fr, hfr⟩ : ∃ fr : Bool, fOr (fBin dLt (fVar 0) (fC (.int 0))) (fBin dGe (fVar 0) (fBin dPow (fC (.int 10)) (fC (.int 18)))) [some (.int c), some (vecD ls), some (.list []), some (.int (if c < 0 then -c else c)), some (.int ((if c < 0 then -c else c) % 2147483647)), none, none] = some (.bool fr) := by
    by_cases h : c < 0
    · refine ⟨true, ?_⟩
      show (some (PyData.bool (decide (c < 0)))).bind _ = _
      rw [show decide (c < 0) = true from decide_eq_true h]
      rfl
    · refine ⟨decide (10 ^ 18 ≤ c), ?_⟩
      show (some (PyData.bool (decide (c < 0)))).bind _ = _
      rw [show decide (c < 0) = false from decide_eq_false h]
      rfl
  obtain ⟨ds, r', s', x', hd, e⟩ := draw_loop ls [] (if c < 0 then -c else c) _ (some (.int c)) (some (vecD ls)) fr none hy e1 (by omega) (by rw [List.length_nil]; omega)
  refine ⟨ds, ?_, hd⟩
  unfold R_law_draws B_law_draws
  refine runF_rt (seq_nx (asg_nx (d := .list []) rfl) (seq_nx (asg_nx (d := .int (if c < 0 then -c else c)) rfl) (seq_nx (asg_nx hm) (seq_nx (asg_nx hfr) (seq_nx ((for_eq (ds := ls.map .int) rfl).trans e) (ret_rt ?_))))))
  rfl
end Law
set_option Elab.async false
set_option linter.all false
set_option maxRecDepth 100000
set_option maxHeartbeats 2000000
namespace Law
open PySem PySem.Spec L2 DL
open PyProof.Rows hiding St
theorem Dr.length {ds ls : List Int} (h : Dr ds ls) : ds.length = ls.length := by
  induction h with
  | nil => rfl
  | cons _ _ _ ih => rw [List.length_cons, List.length_cons, ih]
theorem Dr.at {ds ls : List Int} (h : Dr ds ls) : ∀ {i : Nat} {l : Int}, ls[i]? = some l → ∃ d, ds[i]? = some d ∧ 0 ≤ d ∧ d < l := by
  induction h with
  | nil => intro i l h; cases h
  | cons h1 h2 _ ih =>
    intro i l h
    cases i with
    | zero =>
      cases h
      exact ⟨_, rfl, h1, h2⟩
    | succ i => exact ih (by simpa using h)
theorem cat_v {a b : List Int} (h : a.length + b.length ≤ 90000) : dCat (vecD a) (vecD b) = some (vecD (a ++ b)) := by
  show (if catC (a.map PyData.int).length (b.map PyData.int).length = true then _ else _) = _
  rw [if_pos (catC_le (by rw [List.length_map, List.length_map]; omega))]
  unfold vecD
  rw [List.map_append] <;> rfl
theorem rep_v {x : Int} {n : Nat} (h : n ≤ 1000) : dRep (vecD [x]) (.int n) = some (vecD (List.replicate n x)) := by
  have e : ∀ n : Nat, (List.replicate n [PyData.int x]).flatten = (List.replicate n x).map PyData.int := by
    intro n
    induction n with
    | zero => rfl
    | succ n ih => rw [List.replicate_succ, List.flatten_cons, ih, List.replicate_succ] <;> rfl
  show (if repC 1 (n : Int) = true then some (PyData.list (List.replicate (n : Int).toNat [PyData.int x]).flatten) else none) = _
  rw [if_pos (show repC 1 (n : Int) = true from decide_eq_true ⟨by omega, by omega, by omega⟩), Int.toNat_natCast, e] <;> rfl
theorem rng_lc {f el : F} {p : Nat} {ρ : Rho} {val : Nat → Int} {n : Nat} (hf : f ρ = some (.int n)) (hn : n ≤ 1000) (he : ∀ i < n, el ((wipeR ρ [p]).set p (some (.int (i : Int)))) = some (.int (val i))) : fLc (iR1 f) (gN p) tYesF el [p] ρ = some (vecD ((List.range n).map val)) := by
  unfold vecD
  rw [List.map_map]
  have hs : iR1 f ρ = some ((List.range n).map fun (i : Nat) => PyData.int (0 + (i : Int))) := by
    rw [iR1_ok hf (rgC_ok (by omega) (by omega))]
    unfold rangeD
    rw [Int.toNat_natCast]
  refine fLc_map (α := Nat) hs (by rw [List.length_range]; omega) fun i hi => ⟨_, rfl, rfl, ?_⟩
  rw [Int.zero_add]
  exact he i (List.mem_range.mp hi)
def VecOk (n : Nat) (v : List Int) : Prop := v.length = n ∧ Small 21 v
theorem vecOk_map {n : Nat} {val : Nat → Int} (h : ∀ i < n, (val i).natAbs < 2 ^ 21) : VecOk n ((List.range n).map val) := ⟨by rw [List.length_map, List.length_range], fun x hx => by
  obtain ⟨i, hi, rfl⟩ := List.mem_map.mp hx
  exact h i (List.mem_range.mp hi)⟩
def lims (n : Nat) : List Int := [6] ++ List.replicate n 2000001 ++ List.replicate n 7
theorem lims_mem {n : Nat} : ∀ y ∈ lims n, 0 < y ∧ y < 2 ^ 31 := by
  intro y hy
  unfold lims at hy
  rw [List.mem_append, List.mem_append] at hy
  rcases hy with (hy | hy) | hy
  · rw [List.mem_singleton.mp hy]
    decide
  · rw [(List.mem_replicate.mp hy).2]
    decide
  · rw [(List.mem_replicate.mp hy).2]
    decide
theorem lims_1 {n i : Nat} (h : i < n) : (lims n)[1 + i]? = some 2000001 := by
  unfold lims
  rw [List.append_assoc, List.getElem?_append_right (by simp)]
  rw [List.getElem?_append_left (by simpa using h), List.getElem?_replicate, if_pos (by simpa using h)]
theorem lims_2 {n i : Nat} (h : i < n) : (lims n)[1 + n + i]? = some 7 := by
  unfold lims
  rw [List.getElem?_append_right (by simp; omega), List.getElem?_replicate, if_pos (by simp; omega)]
theorem lims_length (n : Nat) : (lims n).length = 1 + n + n := by
  unfold lims
  simp
  omega
theorem R_vector {c : Int} {n : Nat} (hn : n ≤ 1000) : ∃ v, R_law_vector [.int c, .int n] = some (vecD v) ∧ VecOk n v := by
  obtain ⟨ds, hd, dr⟩ := R_draws (c := c) (ls := lims n) lims_mem (by rw [lims_length]; omega)
  obtain ⟨d0, g0, p0, q0⟩ := dr.at (i := 0) (l := 6) rfl
  have g1 : ∀ i < n, ∃ d, ds[1 + i]? = some d ∧ 0 ≤ d ∧ d < 2000001 := fun i hi => dr.at (lims_1 hi)
  have g2 : ∀ i < n, ∃ d, ds[1 + n + i]? = some d ∧ 0 ≤ d ∧ d < 7 := fun i hi => dr.at (lims_2 hi)
  have ix1 : ∀ (i : Nat), i < n → fBin dIx (fVar 2) (fBin dAdd (fC (.int 1)) (fVar 3)) [some (.int c), some (.int n), some (vecD ds), some (.int (i : Int))] = some (.int (ds.getD (1 + i) 0)) := fun i hi => by
    obtain ⟨d, h, _⟩ := g1 i hi
    refine (fBin_eq (x := vecD ds) (y := .int (1 + (i : Int))) rfl rfl).trans ?_
    rw [List.getD_eq_getElem?_getD, h]
    exact dIx_v (by omega) h
  have ix2 : ∀ (i : Nat), i < n → fBin dIx (fVar 2) (fBin dAdd (fBin dAdd (fC (.int 1)) (fVar 1)) (fVar 3)) [some (.int c), some (.int n), some (vecD ds), some (.int (i : Int))] = some (.int (ds.getD (1 + n + i) 0)) := fun i hi => by
    obtain ⟨d, h, _⟩ := g2 i hi
    refine (fBin_eq (x := vecD ds) (y := .int (1 + (n : Int) + (i : Int))) rfl rfl).trans ?_
    rw [List.getD_eq_getElem?_getD, h]
    exact dIx_v (by omega) h
  have b1 : ∀ i < n, 0 ≤ ds.getD (1 + i) 0 ∧ ds.getD (1 + i) 0 < 2000001 := fun i hi => by
    obtain ⟨d, h, h1, h2⟩ := g1 i hi
    rw [List.getD_eq_getElem?_getD, h]
    exact ⟨h1, h2⟩
  have b2 : ∀ i < n, 0 ≤ ds.getD (1 + n + i) 0 ∧ ds.getD (1 + n + i) 0 < 7 := fun i hi => by
    obtain ⟨d, h, h1, h2⟩ := g2 i hi
    rw [List.getD_eq_getElem?_getD, h]
    exact ⟨h1, h2⟩
  have arg : fConsA (fVar 0) (fConsA (fBin dCat (fBin dCat (fFn dList (fConsA (fC (.int 6)) fNilA)) (fBin dRep (fFn dList (fConsA (fC (.int 2000001)) fNilA)) (fVar 1))) (fBin dRep (fFn dList (fConsA (fC (.int 7)) fNilA)) (fVar 1))) fNilA) [some (.int c), some (.int n), none, none] = some [.int c, vecD (lims n)] := by
    have r1 : fBin dRep (fFn dList (fConsA (fC (.int 2000001)) fNilA)) (fVar 1) [some (.int c), some (.int n), none, none] = some (vecD (List.replicate n 2000001)) := (fBin_eq (x := vecD [2000001]) rfl rfl).trans (rep_v hn)
    have r2 : fBin dRep (fFn dList (fConsA (fC (.int 7)) fNilA)) (fVar 1) [some (.int c), some (.int n), none, none] = some (vecD (List.replicate n 7)) := (fBin_eq (x := vecD [7]) rfl rfl).trans (rep_v hn)
    have r3 := (fBin_eq (g := dCat) (a := fFn dList (fConsA (fC (.int 6)) fNilA)) (x := vecD [6]) rfl r1).trans (cat_v (by simp; omega))
    have r4 := (fBin_eq (g := dCat) r3 r2).trans (cat_v (by simp; omega))
    show Option.bind (some (PyData.int c)) _ = _
    rw [Option.bind_some]
    show Option.bind (Option.bind _ _) _ = _
    rw [r4] <;> rfl
  have hd2 : fFn R_law_draws (fConsA (fVar 0) (fConsA (fBin dCat (fBin dCat (fFn dList (fConsA (fC (.int 6)) fNilA)) (fBin dRep (fFn dList (fConsA (fC (.int 2000001)) fNilA)) (fVar 1))) (fBin dRep (fFn dList (fConsA (fC (.int 7)) fNilA)) (fVar 1))) fNilA)) [some (.int c), some (.int n), none, none] = some (vecD ds) := by
    unfold fFn at *
    rw [arg, Option.bind_some]
    exact hd
  have t0 : ∀ z : Int, tV (fBin dEq (fBin dIx (fVar 2) (fC (.int 0))) (fC (.int z))) [some (.int c), some (.int n), some (vecD ds), none] = some (d0 == z) := fun z => by
    unfold tV
    rw [fBin_eq (x := .int d0) (y := .int z) ((fBin_eq rfl rfl).trans (dIx_v (j := 0) rfl g0)) rfl]
    rfl
  clear arg dr g1 g2 hd g0
  unfold R_law_vector B_law_vector
  by_cases h0 : d0 = 0
  · refine ⟨_, runF_rt (seq_nx (asg_nx hd2) (seq_rt ((if_t ((t0 0).trans (by rw [h0]; rfl))).trans (ret_rt (rng_lc (val := fun i => ds.getD (1 + i) 0 - 1000000) (n := n) rfl hn fun i hi => ?_))))), ?_⟩
    · exact (fBin_eq (ix1 i hi) rfl).trans rfl
    · exact vecOk_map fun i hi => by
        have := b1 i hi
        show (_ - _ : Int).natAbs < _
        omega
  · have f0 : (d0 == 0) = false := by simpa using h0
    by_cases h1 : d0 = 1
    · refine ⟨_, runF_rt (seq_nx (asg_nx hd2) (seq_nx ((if_f ((t0 0).trans (by rw [f0]))).trans rfl) (seq_rt ((if_t ((t0 1).trans (by rw [h1]; rfl))).trans (ret_rt (rng_lc (val := fun i => (ds.getD (1 + n + i) 0 - 3) * 6) (n := n) rfl hn fun i hi => ?_)))))), ?_⟩
      · have := b2 i hi
        exact (fBin_eq ((fBin_eq (ix2 i hi) rfl).trans rfl) rfl).trans (dMul_b (n := 4) (m := 3) (by omega) (by omega) (by omega))
      · exact vecOk_map fun i hi => by
          have := b2 i hi
          show ((_ - _) * _ : Int).natAbs < _
          omega
    · have f1 : (d0 == 1) = false := by simpa using h1
      by_cases h2 : d0 = 2
      · refine ⟨_, runF_rt (seq_nx (asg_nx hd2) (seq_nx ((if_f ((t0 0).trans (by rw [f0]))).trans rfl) (seq_nx ((if_f ((t0 1).trans (by rw [f1]))).trans rfl) (seq_rt ((if_t ((t0 2).trans (by rw [h2]; rfl))).trans (ret_rt (rng_lc (val := fun i => (if ds.getD (1 + n + i) 0 == 3 then 1 else 0) * (1 + ds.getD (1 + i) 0)) (n := n) rfl hn fun i hi => ?_))))))), ?_⟩
        · have := b1 i hi
          refine (fBin_eq (fn1 (x := .bool (ds.getD (1 + n + i) 0 == 3)) ((fBin_eq (ix2 i hi) rfl).trans rfl) rfl) (y := .int (1 + ds.getD (1 + i) 0)) ((fBin_eq rfl (ix1 i hi)).trans rfl)).trans (dMul_b (n := 1) (m := 21) (by split <;> decide) (by omega) (by omega))
        · exact vecOk_map fun i hi => by
            have := b1 i hi
            show (_ * _ : Int).natAbs < _
            split
            · rw [Int.one_mul]
              omega
            · rw [Int.zero_mul]
              decide
      · have f2 : (d0 == 2) = false := by simpa using h2
        refine ⟨_, runF_rt (seq_nx (asg_nx hd2) (seq_nx ((if_f ((t0 0).trans (by rw [f0]))).trans rfl) (seq_nx ((if_f ((t0 1).trans (by rw [f1]))).trans rfl) (seq_nx ((if_f ((t0 2).trans (by rw [f2]))).trans rfl) (ret_rt (rng_lc (val := fun i => ds.getD (1 + n + i) 0 - 3) (n := n) rfl hn fun i hi => ?_)))))), ?_⟩
        · exact (fBin_eq (ix2 i hi) rfl).trans rfl
        · exact vecOk_map fun i hi => by
            have := b2 i hi
            show (_ - _ : Int).natAbs < _
            omega
end Law
set_option Elab.async false
set_option linter.all false
set_option maxRecDepth 100000
set_option maxHeartbeats 2000000
namespace Law
open PySem PySem.Spec L2 DL
open PyProof.Rows hiding St
/-! ### sums -/
def dotL (a b : List Int) : Int := ((List.range a.length).map fun i => a.getD i 0 * b.getD i 0).sum
def comb (f : Int) (a : List Int) (g : Int) (b : List Int) : List Int := (List.range a.length).map fun i => f * a.getD i 0 + g * b.getD i 0
theorem getD_at {a : List Int} {i : Nat} (h : i < a.length) : a[i]? = some (a.getD i 0) := by
  rw [List.getD_eq_getElem?_getD, List.getElem?_eq_getElem h] <;> rfl
theorem getD_small {n : Nat} {a : List Int} (hs : Small n a) (i : Nat) : (a.getD i 0).natAbs < 2 ^ n := by
  rw [List.getD_eq_getElem?_getD]
  cases h : a[i]? with
  | none => exact Nat.two_pow_pos n
  | some x => exact hs x (List.mem_of_getElem? h)
theorem lenF {a : Option PyData} {v : List Int} (i : Nat) {ρ : Rho} (h : fVar i ρ = some (vecD v)) : fFn (g1 dLen) (fConsA (fVar i) fNilA) ρ = some (.int v.length) := fn1 h (dLen_v v)
theorem R_lsum {n m : Nat} {a b : List Int} {f g : Int} (hf : f.natAbs < 2 ^ m) (hg : g.natAbs < 2 ^ m) (ha : Small n a) (hb : Small n b) (hnm : n + m ≤ 100000) (h : a.length = b.length) (hl : a.length ≤ 1000) : R_law_sum [.int f, vecD a, .int g, vecD b] = some (vecD (comb f a g b)) := by
  unfold R_law_sum B_law_sum
  refine runF_rt (ret_rt (rng_lc (n := a.length) (val := fun i => f * a.getD i 0 + g * b.getD i 0) (fn1 rfl (dLen_v a)) hl fun i hi => ?_))
  have h1 : fBin dIx (fVar 1) (fVar 4) [some (.int f), some (vecD a), some (.int g), some (vecD b), some (.int (i : Int))] = some (.int (a.getD i 0)) := (fBin_eq rfl rfl).trans (dIx_v (j := i) rfl (getD_at hi))
  have h2 : fBin dIx (fVar 3) (fVar 4) [some (.int f), some (vecD a), some (.int g), some (vecD b), some (.int (i : Int))] = some (.int (b.getD i 0)) := (fBin_eq rfl rfl).trans (dIx_v (j := i) rfl (getD_at (by omega)))
  exact (fBin_eq ((fBin_eq rfl h1).trans (dMul_b hf (getD_small ha i) (by omega))) ((fBin_eq rfl h2).trans (dMul_b hg (getD_small hb i) (by omega)))).trans (dAdd_i ..)
theorem zip_ints : ∀ (a b : List Int), a.length = b.length → zipD (a.map .int) (b.map .int) = (List.range a.length).map fun i => PyData.tuple [.int (a.getD i 0), .int (b.getD i 0)]
  | [], [], _ => rfl
  | [], _ :: _, h => by cases h
  | _ :: _, [], h => by cases h
  | x :: a, y :: b, h => by
    have ih := zip_ints a b (by simpa using h)
    show PyData.tuple [.int x, .int y] :: zipD (a.map .int) (b.map .int) = _
    rw [ih, List.length_cons, List.range_succ_eq_map, List.map_cons, List.map_map] <;> rfl
theorem zip_lc {f g el : F} {p q : Nat} {ρ : Rho} {val : Nat → Int} {a b : List Int} (hf : f ρ = some (vecD a)) (hg : g ρ = some (vecD b)) (h : a.length = b.length) (hn : a.length ≤ 1000)
    (he : ∀ i < a.length, el (((wipeR ρ [p, q]).set p (some (.int (a.getD i 0)))).set q (some (.int (b.getD i 0)))) = some (.int (val i))) : fLc (iZ f g) (gT [(gN p), (gN q)]) tYesF el [p, q] ρ = some (vecD ((List.range a.length).map val)) := by
  unfold vecD
  rw [List.map_map]
  have hs : iZ f g ρ = some ((List.range a.length).map fun i => PyData.tuple [.int (a.getD i 0), .int (b.getD i 0)]) := by
    unfold iZ
    rw [hf, Option.bind_some, hg, Option.bind_some]
    exact congrArg some (zip_ints a b h)
  exact fLc_map (α := Nat) hs (by rw [List.length_range]; omega) fun i hi => ⟨_, rfl, rfl, he i (List.mem_range.mp hi)⟩
theorem R_combP {n m : Nat} {a b : List Int} {f g : Int} (hf : f.natAbs < 2 ^ m) (hg : g.natAbs < 2 ^ m) (ha : Small n a) (hb : Small n b) (hnm : n + m ≤ 100000) (h : a.length = b.length) (hl : a.length ≤ 1000) : R_combined [.int f, vecD a, .int g, vecD b] = some (vecD (comb f a g b)) := by
  unfold R_combined B_combined
  refine runF_rt (ret_rt (zip_lc (val := fun i => f * a.getD i 0 + g * b.getD i 0) rfl rfl h hl fun i hi => ?_))
  exact (fBin_eq ((fBin_eq rfl rfl).trans (dMul_b hf (getD_small ha i) (by omega))) ((fBin_eq rfl rfl).trans (dMul_b hg (getD_small hb i) (by omega)))).trans (dAdd_i ..)
theorem comb_length (f : Int) (a : List Int) (g : Int) (b : List Int) : (comb f a g b).length = a.length := by
  unfold comb
  rw [List.length_map, List.length_range]
/-! ### lists of integers -/
/-! ### texts -/
theorem repr2 {a b : List Int} (ha : Small 60 a) (hb : Small 60 b) (la : a.length ≤ 100) (lb : b.length ≤ 100) : ∃ s, dRepr (.list [vecD a, vecD b]) = some (.str s) ∧ PyData.strOk s = true := by
  refine repr_plain (k := 20) (by omega) (by omega) ?_ ?_ ?_
  · unfold plainB plainAll plainAll plainAll vecD plainB
    rw [plain_ints fun x hx => Nat.lt_of_lt_of_le (ha x hx) (by decide), plain_ints fun x hx => Nat.lt_of_lt_of_le (hb x hx) (by decide)] <;> rfl
  · have h1 := depth_ints_all a
    have h2 := depth_ints_all b
    simp only [PyData.depth, PyData.depthAll, vecD]
    omega
  · unfold nodesD nodesAll nodesAll nodesAll vecD nodesD
    rw [nodes_ints, nodes_ints]
    omega
theorem fnn2 {G : GF} {f g : F} {ρ : Rho} {x y z : PyData} (h1 : f ρ = some x) (h2 : g ρ = some y) (h : G [x, y] = some z) : fFn G (fConsA f (fConsA g fNilA)) ρ = some z := by
  unfold fFn fConsA fNilA
  rw [h1, Option.bind_some]
  simp only [Option.bind_some]
  rw [h2]
  simp only [Option.bind_some]
  exact h
theorem fnn4 {G : GF} {f g f' g' : F} {ρ : Rho} {x y x' y' z : PyData} (h1 : f ρ = some x) (h2 : g ρ = some y) (h3 : f' ρ = some x') (h4 : g' ρ = some y') (h : G [x, y, x', y'] = some z) : fFn G (fConsA f (fConsA g (fConsA f' (fConsA g' fNilA)))) ρ = some z := by
  unfold fFn fConsA fNilA
  rw [h1, Option.bind_some]
  simp only [Option.bind_some]
  rw [h2]
  simp only [Option.bind_some]
  rw [h3]
  simp only [Option.bind_some]
  rw [h4]
  simp only [Option.bind_some]
  exact h
theorem tV_b {f : F} {ρ : Rho} {b : Bool} (h : f ρ = some (.bool b)) : tV f ρ = some b := by
  unfold tV
  rw [h] <;> rfl
theorem tN_b {t : FT} {ρ : Rho} {b : Bool} (h : t ρ = some b) : tN t ρ = some (!b) := by
  unfold tN
  rw [h] <;> rfl
theorem tO_ff {a b : FT} {ρ : Rho} (h : a ρ = some false) (h2 : b ρ = some false) : tO a b ρ = some false := by
  unfold tO
  rw [h, Option.bind_some, if_neg Bool.false_ne_true]
  exact h2
theorem tA_f {a b : FT} {ρ : Rho} {x y : Bool} (h : a ρ = some x) (h2 : b ρ = some y) (hxy : (x && y) = false) : tA a b ρ = some false := by
  unfold tA
  rw [h, Option.bind_some]
  cases x with
  | false => rfl
  | true =>
    rw [if_pos rfl, h2]
    rw [Bool.true_and] at hxy
    rw [hxy]
theorem ne_v {f g : F} {ρ : Rho} {v : List Int} (h : f ρ = some (vecD v)) (h2 : g ρ = some (vecD v)) : fBin dNe f g ρ = some (.bool false) := by
  rw [fBin_eq h h2, dNe_v]
  simp
theorem ne_i {f g : F} {ρ : Rho} {v : Int} (h : f ρ = some (.int v)) (h2 : g ρ = some (.int v)) : fBin dNe f g ρ = some (.bool false) := by
  rw [fBin_eq h h2, dNe_i]
  simp
theorem fnn3 {G : List PyData → Option PyData} {f g f' : F} {ρ : Rho} {x y x' z : PyData} (h1 : f ρ = some x) (h2 : g ρ = some y) (h3 : f' ρ = some x') (h : G [x, y, x'] = some z) : fFn G (fConsA f (fConsA g (fConsA f' fNilA))) ρ = some z := by
  unfold fFn fConsA fNilA
  rw [h1, Option.bind_some]
  simp only [Option.bind_some]
  rw [h2]
  simp only [Option.bind_some]
  rw [h3]
  simp only [Option.bind_some]
  exact h
end Law
set_option Elab.async false
set_option linter.all false
set_option maxRecDepth 100000
set_option maxHeartbeats 2000000
namespace Law
open PySem PySem.Spec L2 DL
open PyProof.Rows hiding St
/-! ### vectors -/
abbrev Vc := List Int
def av (v : Vc) (c : Nat) : Int := v.getD c 0
theorem ext_v {a b : Vc} (h : a.length = b.length) (e : ∀ i < a.length, av a i = av b i) : a = b := by
  refine List.ext_getElem h fun i h1 h2 => ?_
  have := e i h1
  unfold av at this
  rw [List.getD_eq_getElem?_getD, List.getD_eq_getElem?_getD, List.getElem?_eq_getElem h1, List.getElem?_eq_getElem h2] at this
  exact this
theorem av_out {v : Vc} {c : Nat} (h : v.length ≤ c) : av v c = 0 := by
  unfold av
  rw [List.getD_eq_getElem?_getD, List.getElem?_eq_none h] <;> rfl
theorem av_comb {f g : Int} {a b : Vc} {i : Nat} (h : i < a.length) : av (comb f a g b) i = f * av a i + g * av b i := by
  unfold av comb
  rw [List.getD_eq_getElem?_getD, List.getElem?_map, List.getElem?_range h] <;> rfl
def sc (g : Int) (v : Vc) : Vc := v.map (g * ·)
theorem sc_length (g : Int) (v : Vc) : (sc g v).length = v.length := List.length_map ..
theorem av_sc {g : Int} {v : Vc} {i : Nat} : av (sc g v) i = g * av v i := by
  unfold av sc
  rw [List.getD_eq_getElem?_getD, List.getD_eq_getElem?_getD, List.getElem?_map]
  cases v[i]? with
  | none => simp
  | some x => rfl
theorem gcdL_sc (g : Int) (w : Vc) : ∀ k : Nat, gcdL (sc g w) (g.natAbs * k) = g.natAbs * gcdL w k := by
  induction w with
  | nil => exact fun k => rfl
  | cons x w ih =>
    intro k
    show gcdL (g * x :: sc g w) (g.natAbs * k) = _
    rw [gcdL_cons, gcdL_cons, Int.natAbs_mul, Nat.gcd_mul_left]
    exact ih _
theorem prim_sc {g : Int} (hg : 1 ≤ g) (w : Vc) : prim (sc g w) = prim w := by
  have e := gcdL_sc g w 0
  rw [Nat.mul_zero] at e
  unfold prim
  rw [e]
  by_cases h : gcdL w 0 = 0
  · rw [h, Nat.mul_zero, if_pos rfl, if_pos rfl]
    have h0 := (gcdL_zero_iff w).mp h
    refine ext_v (sc_length ..) fun i _ => ?_
    rw [av_sc]
    have : av w i = 0 := by
      unfold av
      rw [List.getD_eq_getElem?_getD]
      cases e : w[i]? with
      | none => rfl
      | some x => exact h0 x (List.mem_of_getElem? e)
    rw [this, Int.mul_zero]
  · rw [if_neg h, if_neg (by
      have : 0 < g.natAbs * gcdL w 0 := Nat.mul_pos (by omega) (by omega)
      omega)]
    unfold sc
    rw [List.map_map]
    refine List.map_congr_left fun x _ => ?_
    show g * x / ((g.natAbs * gcdL w 0 : Nat) : Int) = _
    rw [Int.natCast_mul, show ((g.natAbs : Nat) : Int) = g by omega]
    exact Int.mul_ediv_mul_of_pos _ _ (by omega)
theorem prim_neg (w : Vc) : prim (sc (-1) w) = sc (-1) (prim w) := by
  have e := gcdL_sc (-1) w 0
  rw [Nat.mul_zero, show (-1 : Int).natAbs = 1 from rfl, Nat.one_mul] at e
  unfold prim
  rw [e]
  by_cases h : gcdL w 0 = 0
  · rw [if_pos h, if_pos h]
  · rw [if_neg h, if_neg h]
    unfold sc
    rw [List.map_map, List.map_map]
    refine List.map_congr_left fun x hx => ?_
    have hd : (gcdL w 0 : Int) ∣ x := Int.natAbs_dvd_natAbs.mp (by rw [Int.natAbs_natCast]; exact (gcdL_dvd w 0).2 x hx)
    show -1 * x / _ = -1 * (x / _)
    rw [Int.neg_one_mul, Int.neg_one_mul, Int.neg_ediv_of_dvd hd]
theorem prim_of (w : Vc) : ∃ g : Int, 1 ≤ g ∧ w = sc g (prim w) := by
  by_cases h : gcdL w 0 = 0
  · refine ⟨1, by omega, ?_⟩
    have : prim w = w := if_pos h
    rw [this]
    exact ext_v (sc_length ..).symm fun i _ => by rw [av_sc, Int.one_mul]
  · refine ⟨(gcdL w 0 : Int), by omega, ?_⟩
    have e : prim w = w.map (· / (gcdL w 0 : Int)) := if_neg h
    rw [e]
    unfold sc
    rw [List.map_map]
    refine (List.map_id w).symm.trans (List.map_congr_left fun x hx => ?_)
    have hd : (gcdL w 0 : Int) ∣ x := Int.natAbs_dvd_natAbs.mp (by rw [Int.natAbs_natCast]; exact (gcdL_dvd w 0).2 x hx)
    show x = (gcdL w 0 : Int) * (x / (gcdL w 0 : Int))
    rw [Int.mul_ediv_cancel' hd]
theorem av_prim_zero {w : Vc} {i : Nat} : av (prim w) i = 0 ↔ av w i = 0 := by
  obtain ⟨g, hg, e⟩ := prim_of w
  have : av w i = g * av (prim w) i := by
    conv => lhs; rw [e]
    exact av_sc
  rw [this]
  constructor
  · intro h
    rw [h, Int.mul_zero]
  · intro h
    rcases Int.mul_eq_zero.mp h with h | h
    · omega
    · exact h
/-! ### one step of reducing -/
def stp (p : Nat) (r v : Vc) : Vc := comb (av r p) v (-(av v p)) r
theorem stp_length {p : Nat} {r v : Vc} : (stp p r v).length = v.length := comb_length ..
theorem av_stp {p : Nat} {r v : Vc} {i : Nat} (h : i < v.length) : av (stp p r v) i = av r p * av v i - av v p * av r i := by
  unfold stp
  rw [av_comb h, Int.neg_mul]
  omega
theorem stp_sc {p : Nat} {r v : Vc} (g : Int) : stp p r (sc g v) = sc g (stp p r v) := by
  refine ext_v (by rw [stp_length, sc_length, sc_length, stp_length]) fun i hi => ?_
  rw [stp_length, sc_length] at hi
  rw [av_stp (by rw [sc_length]; exact hi), av_sc, av_sc, av_sc, av_stp hi, Int.mul_sub]
  congr 1 <;> ac_rfl
theorem stp_comb {p : Nat} {r v u : Vc} (f g : Int) (h : v.length = u.length) (hp : p < v.length) : stp p r (comb f v g u) = comb f (stp p r v) g (stp p r u) := by
  refine ext_v (by rw [stp_length, comb_length, comb_length, stp_length]) fun i hi => ?_
  rw [stp_length, comb_length] at hi
  rw [av_stp (by rw [comb_length]; exact hi), av_comb hi, av_comb hp, av_comb (by rw [stp_length]; exact hi), av_stp hi, av_stp (by omega)]
  simp only [Int.mul_add, Int.add_mul, Int.mul_sub]
  have e1 : av r p * (f * av v i) = f * (av r p * av v i) := by ac_rfl
  have e2 : av r p * (g * av u i) = g * (av r p * av u i) := by ac_rfl
  have e3 : f * av v p * av r i = f * (av v p * av r i) := by ac_rfl
  have e4 : g * av u p * av r i = g * (av u p * av r i) := by ac_rfl
  omega
theorem prim_stp (p : Nat) (r v : Vc) : prim (stp p r (prim v)) = prim (stp p r v) := by
  obtain ⟨g, hg, e⟩ := prim_of v
  conv => rhs; rw [e]
  rw [stp_sc, prim_sc hg]
/-! ### rows with their pivots -/
abbrev RP := List (Vc × Nat)
def red : RP → Vc → Vc
  | [], v => v
  | (r, p) :: rs, v => red rs (stp p r v)
theorem red_length : ∀ (rs : RP) (v : Vc), (red rs v).length = v.length
  | [], v => rfl
  | (r, p) :: rs, v => by
    rw [red, red_length, stp_length]
theorem red_sc : ∀ (rs : RP) (g : Int) (v : Vc), red rs (sc g v) = sc g (red rs v)
  | [], g, v => rfl
  | (r, p) :: rs, g, v => by rw [red, red, stp_sc, red_sc]
theorem red_comb : ∀ (rs : RP) (f g : Int) {v u : Vc}, v.length = u.length → (∀ x ∈ rs, x.2 < v.length) → red rs (comb f v g u) = comb f (red rs v) g (red rs u)
  | [], f, g, v, u, _, _ => rfl
  | (r, p) :: rs, f, g, v, u, h, hp => by
    rw [red, red, red, stp_comb f g h (hp _ (List.mem_cons_self ..)), red_comb rs f g (by rw [stp_length, stp_length, h]) fun x hx => by rw [stp_length]; exact hp x (List.mem_cons_of_mem _ hx)]
theorem red_prim (rs : RP) (v : Vc) : prim (red rs (prim v)) = prim (red rs v) := by
  obtain ⟨g, hg, e⟩ := prim_of v
  conv => rhs; rw [e]
  rw [red_sc, prim_sc hg]
/-- rows in echelon form, what reducing needs of it -/
inductive Ef (n : Nat) : RP → Prop
  | nil : Ef n []
  | cons {r : Vc} {p : Nat} {rs : RP} : r.length = n → p < n → 0 < av r p → (∀ x ∈ rs, av x.1 p = 0 ∧ av r x.2 = 0) → Ef n rs → Ef n ((r, p) :: rs)
theorem red_keep : ∀ (rs : RP) {n : Nat} {v : Vc} {c : Nat}, v.length = n → c < n → (∀ x ∈ rs, av x.1 c = 0) → av v c = 0 → av (red rs v) c = 0
  | [], n, v, c, _, _, _, h => h
  | (r, p) :: rs, n, v, c, hl, hc, hx, h => by
    rw [red]
    refine red_keep rs (n := n) (by rw [stp_length, hl]) hc (fun x h => hx x (List.mem_cons_of_mem _ h)) ?_
    rw [av_stp (by omega), h, hx (r, p) (List.mem_cons_self ..), Int.mul_zero, Int.mul_zero]
    rfl
theorem red_zero {n : Nat} {rs : RP} (e : Ef n rs) : ∀ {v : Vc}, v.length = n → ∀ x ∈ rs, av (red rs v) x.2 = 0 := by
  induction e with
  | nil => exact fun _ x hx => nomatch hx
  | cons h1 h2 h3 h4 h5 ih =>
    rename_i r p rs
    intro v hl x hx
    rw [red]
    rcases List.mem_cons.mp hx with rfl | hx
    · refine red_keep rs (n := n) (by rw [stp_length, hl]) h2 (fun x h => (h4 x h).1) ?_
      show av (stp p r v) p = 0
      rw [av_stp (by omega), Int.mul_comm, Int.sub_self]
    · exact ih (by rw [stp_length, hl]) x hx
/-- a vector that is 0 at the pivots -/
theorem red_at {n : Nat} {rs : RP} (e : Ef n rs) : ∀ {v : Vc}, v.length = n → (∀ x ∈ rs, av v x.2 = 0) → ∃ g : Int, 1 ≤ g ∧ red rs v = sc g v := by
  induction e with
  | nil => exact fun {v} _ _ => ⟨1, by omega, ext_v (sc_length ..).symm fun i _ => by rw [av_sc, Int.one_mul]; rfl⟩
  | cons h1 h2 h3 h4 h5 ih =>
    rename_i r p rs
    intro v hl hz
    have hs : stp p r v = sc (av r p) v := ext_v (by rw [stp_length, sc_length]) fun i hi => by
      rw [stp_length] at hi
      rw [av_stp hi, av_sc, hz (r, p) (List.mem_cons_self ..), Int.zero_mul, Int.sub_zero]
    obtain ⟨g, hg, e⟩ := ih hl fun x hx => hz x (List.mem_cons_of_mem _ hx)
    refine ⟨av r p * g, ?_, ?_⟩
    · have := Int.mul_le_mul (show 1 ≤ av r p by omega) hg (by omega) (by omega)
      omega
    · rw [red, hs, red_sc, e]
      refine ext_v (by rw [sc_length, sc_length, sc_length]) fun i _ => ?_
      rw [av_sc, av_sc, av_sc]
      ac_rfl
def isZero (v : Vc) : Prop := ∀ i, av v i = 0
theorem red_isZero : ∀ (rs : RP) {v : Vc}, isZero v → isZero (red rs v)
  | [], v, h => h
  | (r, p) :: rs, v, h => by
    rw [red]
    refine red_isZero rs fun i => ?_
    by_cases hi : i < v.length
    · rw [av_stp hi, h, h, Int.mul_zero, Int.zero_mul]
      rfl
    · exact av_out (by rw [stp_length]; omega)
theorem red_row {n : Nat} {rs : RP} (e : Ef n rs) : ∀ x ∈ rs, isZero (red rs x.1) := by
  induction e with
  | nil => exact fun x hx => nomatch hx
  | cons h1 h2 h3 h4 h5 ih =>
    rename_i r p rs
    intro x hx
    rw [red]
    rcases List.mem_cons.mp hx with rfl | hx
    · refine red_isZero rs fun i => ?_
      show av (stp p r r) i = 0
      by_cases hi : i < r.length
      · rw [av_stp hi, Int.sub_self]
      · exact av_out (by rw [stp_length]; omega)
    · have hs : stp p r x.1 = sc (av r p) x.1 := ext_v (by rw [stp_length, sc_length]) fun i hi => by
        rw [stp_length] at hi
        rw [av_stp hi, av_sc, (h4 x hx).1, Int.zero_mul, Int.sub_zero]
      rw [hs, red_sc]
      intro i
      rw [av_sc, ih x hx i, Int.mul_zero]
end Law
set_option Elab.async false
set_option linter.all false
set_option maxRecDepth 100000
set_option maxHeartbeats 2000000
set_option exponentiation.threshold 9000
namespace Law
open PySem PySem.Spec L2 DL
open PyProof.Rows hiding St
theorem av_small {n : Nat} {a : Vc} (hs : Small n a) (i : Nat) : (av a i).natAbs < 2 ^ n := getD_small hs i
theorem Small.up {n m : Nat} {v : Vc} (h : Small n v) (hm : n ≤ m) : Small m v := fun x hx => Nat.lt_of_lt_of_le (h x hx) (Nat.pow_le_pow_right (by decide) hm)
theorem small_of_av {n : Nat} {v : Vc} (h : ∀ i < v.length, (av v i).natAbs < 2 ^ n) : Small n v := fun x hx => by
  obtain ⟨i, hi, e⟩ := List.mem_iff_getElem.mp hx
  have := h i hi
  unfold av at this
  rw [List.getD_eq_getElem?_getD, List.getElem?_eq_getElem hi, e] at this
  exact this
theorem small_stp {n m p : Nat} {r v : Vc} (hr : Small n r) (hv : Small m v) : Small (n + m + 1) (stp p r v) := small_of_av fun i hi => by
  rw [stp_length] at hi
  rw [av_stp hi]
  have h1 : (av r p * av v i).natAbs < 2 ^ (n + m) := by
    rw [Int.natAbs_mul, Nat.pow_add]
    exact Nat.mul_lt_mul_of_lt_of_lt (av_small hr p) (av_small hv i)
  have h2 : (av v p * av r i).natAbs < 2 ^ (n + m) := by
    rw [Int.natAbs_mul, Nat.add_comm, Nat.pow_add]
    exact Nat.mul_lt_mul_of_lt_of_lt (av_small hv p) (av_small hr i)
  rw [Nat.pow_succ]
  omega
/-! ### index and clearing -/
theorem ix_v {f g : F} {ρ : Rho} {v : Vc} {i : Nat} (h : f ρ = some (vecD v)) (h2 : g ρ = some (.int (i : Int))) (hi : i < v.length) : fBin dIx f g ρ = some (.int (av v i)) := (fBin_eq h h2).trans (dIx_v (j := i) rfl (getD_at hi))
theorem neg_ok {f : F} {ρ : Rho} {a : Int} (h : f ρ = some (.int a)) : fUn dNeg f ρ = some (.int (-a)) := by
  unfold fUn
  rw [h] <;> rfl
theorem R_clear {v r : Vc} {p : Nat} (hv : Small 4100 v) (hr : Small 4100 r) (h : v.length = r.length) (hl : v.length ≤ 1000) (hp : p < v.length) : R_cleared [vecD v, vecD r, .int (p : Int)] = some (vecD (prim (stp p r v))) := by
  have hc := R_combP (n := 4100) (m := 4100) (av_small hr p) (show (-(av v p)).natAbs < 2 ^ 4100 by rw [Int.natAbs_neg]; exact av_small hv p) hv hr (by omega) h hl
  have hq := R_prim (n := 8201) (by omega) (by omega) (small_stp (p := p) hr hv) (by rw [stp_length]; omega)
  unfold R_cleared B_cleared
  exact runF_rt (ret_rt (fn1 (fnn4 (ix_v rfl rfl (by omega)) rfl (neg_ok (ix_v rfl rfl hp)) rfl hc) hq))
/-! ### the order of columns, pivots -/
def order : Nat → List Nat
  | 0 => []
  | n + 1 => (List.range n).map (1 + ·) ++ [0]
def natsD (l : List Nat) : List PyData := l.map fun (c : Nat) => PyData.int (c : Int)
theorem order_lt {n c : Nat} (h : c ∈ order n) : c < n := by
  cases n with
  | zero => cases h
  | succ n =>
    unfold order at h
    rcases List.mem_append.mp h with h | h
    · obtain ⟨i, hi, rfl⟩ := List.mem_map.mp h
      have := List.mem_range.mp hi
      omega
    · rw [List.mem_singleton.mp h]
      omega
theorem mem_order {n c : Nat} (h : c < n) : c ∈ order n := by
  cases n with
  | zero => omega
  | succ n =>
    unfold order
    cases c with
    | zero => exact List.mem_append_right _ (List.mem_singleton.mpr rfl)
    | succ c => exact List.mem_append_left _ (List.mem_map.mpr ⟨c, List.mem_range.mpr (by omega), by omega⟩)
theorem R_order {n : Nat} (hn : n ≤ 1000) : R_column_order [.int (n : Int)] = some (.list (natsD (order n))) := by
  have q : tV (fBin dEq (fVar 0) (fC (.int 0))) [some (.int (n : Int))] = some ((n : Int) == 0) := rfl
  unfold R_column_order B_column_order
  cases n with
  | zero => exact runF_rt (seq_rt ((if_t (q.trans rfl)).trans (ret_rt rfl)))
  | succ n =>
    refine runF_rt (seq_nx ((if_f (q.trans (by rw [show (((n + 1 : Nat) : Int) == 0) = false by simp; omega]))).trans rfl) (ret_rt ?_))
    have h1 : fBin dRg2 (fC (.int 1)) (fVar 0) [some (.int ((n + 1 : Nat) : Int))] = some (.list (rangeD 1 n)) := by
      rw [fBin_eq (x := .int 1) (y := .int ((n + 1 : Nat) : Int)) rfl rfl]
      show (if rg2C 1 ((n + 1 : Nat) : Int) = true then some (PyData.list (rangeD 1 (((n + 1 : Nat) : Int) - 1).toNat)) else none) = _
      rw [if_pos (show rg2C 1 ((n + 1 : Nat) : Int) = true from decide_eq_true ⟨by omega, by omega, by omega, by omega, by omega⟩), show (((n + 1 : Nat) : Int) - 1).toNat = n by omega]
    rw [fBin_eq (y := .list [.int 0]) h1 rfl]
    show (if catC (rangeD 1 n).length 1 = true then some (PyData.list (rangeD 1 n ++ [.int 0])) else none) = _
    rw [if_pos (catC_le (by rw [rangeD_length]; omega))]
    unfold natsD order rangeD
    rw [List.map_append, List.map_map]
    congr 3
structure IsPiv (v : Vc) (p : Nat) : Prop where
  ne : av v p ≠ 0
  at_ : ∃ pre post, order v.length = pre ++ p :: post ∧ ∀ c ∈ pre, av v c = 0
theorem IsPiv.lt {v : Vc} {p : Nat} (h : IsPiv v p) : p < v.length := by
  obtain ⟨pre, post, e, _⟩ := h.at_
  exact order_lt (by rw [e]; exact List.mem_append_right _ (List.mem_cons_self ..))
def pBody : FS := (sSeq (sIf (tV (fBin dNe (fBin dIx (fVar 0) (fVar 1)) (fC (.int 0)))) (sRet (fVar 1)) sNil) sNil)
theorem t_nz {f : F} {ρ : Rho} {a : Int} (h : f ρ = some (.int a)) : tV (fBin dNe f (fC (.int 0))) ρ = some (!(a == 0)) := tV_b ((fBin_eq h rfl).trans (dNe_i ..))
theorem piv_go {v : Vc} : ∀ (pre : List Nat) (post : List Nat) (x : Option PyData) (o : Option Out), (∀ c ∈ pre, c < v.length ∧ av v c = 0) → (∀ x, loopF (gN 1) pBody (natsD post) [some (vecD v), x] = o) → loopF (gN 1) pBody (natsD (pre ++ post)) [some (vecD v), x] = o
  | [], post, x, o, _, h => h x
  | c :: pre, post, x, o, hc, h => by
    obtain ⟨h1, h2⟩ := hc c (List.mem_cons_self ..)
    have ih := piv_go pre post (some (.int (c : Int))) o (fun c h => hc c (List.mem_cons_of_mem _ h)) h
    have hb : pBody [some (vecD v), some (.int (c : Int))] = some (.nx [some (vecD v), some (.int (c : Int))]) := seq_nx ((if_f ((t_nz (ix_v rfl rfl h1)).trans (by rw [h2]; rfl))).trans rfl) rfl
    show Option.bind (some [some (vecD v), some (.int (c : Int))]) _ = _
    rw [Option.bind_some, hb, Option.bind_some]
    exact ih
theorem piv_hit {v : Vc} {p : Nat} (hp : p < v.length) (hn : av v p ≠ 0) (post : List Nat) (x : Option PyData) : loopF (gN 1) pBody (natsD (p :: post)) [some (vecD v), x] = some (.rt (.int (p : Int))) := by
  have hb : pBody [some (vecD v), some (.int (p : Int))] = some (.rt (.int (p : Int))) := seq_rt ((if_t ((t_nz (ix_v rfl rfl hp)).trans (by rw [show (av v p == 0) = false by simpa using hn]; rfl))).trans (ret_rt rfl))
  show Option.bind (some [some (vecD v), some (.int (p : Int))]) _ = _
  rw [Option.bind_some, hb, Option.bind_some]
theorem R_piv {v : Vc} {p : Nat} (hl : v.length ≤ 1000) (h : IsPiv v p) : R_pivot [vecD v] = some (.int (p : Int)) := by
  obtain ⟨pre, post, e, hz⟩ := h.at_
  have hs : iSeq (fFn R_column_order (fConsA (fFn (g1 dLen) (fConsA (fVar 0) fNilA)) fNilA)) [some (vecD v), none] = some (natsD (order v.length)) := by
    unfold iSeq
    rw [fn1 (fn1 (x := vecD v) rfl (dLen_v v)) (R_order hl)] <;> rfl
  have hlp := piv_go (v := v) pre (p :: post) none _ (fun c hc => ⟨order_lt (n := v.length) (by rw [e]; exact List.mem_append_left _ hc), hz c hc⟩) (fun x => piv_hit h.lt h.ne post x)
  rw [← e] at hlp
  unfold R_pivot B_pivot
  exact runF_rt (seq_rt ((for_eq hs).trans hlp))
theorem R_lpiv {v : Vc} {p : Nat} (hl : v.length ≤ 1000) (h : IsPiv v p) : R_law_pivot [vecD v] = some (.int (p : Int)) := by
  have hlt := h.lt
  obtain ⟨pre, post, e, hz⟩ := h.at_
  obtain ⟨m, hm⟩ : ∃ m, v.length = m + 1 := ⟨v.length - 1, by omega⟩
  have hs : iR2 (fC (.int 1)) (fFn (g1 dLen) (fConsA (fVar 0) fNilA)) [some (vecD v), none] = some (natsD ((List.range m).map (1 + ·))) := by
    rw [iR2_ok (i := 1) (j := v.length) rfl (fn1 (x := vecD v) rfl (dLen_v v)) (by decide) (rgC_ok (by omega) (by omega)), hm, show (((m + 1 : Nat) : Int) - 1).toNat = m by omega]
    unfold rangeD natsD
    rw [List.map_map]
    congr 1
  have hz' : ∀ c ∈ pre, c < v.length ∧ av v c = 0 := fun c hc => ⟨order_lt (n := v.length) (by rw [e]; exact List.mem_append_left _ hc), hz c hc⟩
  rw [hm] at e
  unfold R_law_pivot B_law_pivot
  rcases List.eq_nil_or_concat post with rfl | ⟨q, b, rfl⟩
  · have e2 : (List.range m).map (1 + ·) ++ [0] = pre ++ [p] := e
    obtain ⟨e3, e4⟩ := List.append_inj' e2 rfl
    cases e4
    have hlp := piv_go (v := v) pre [] none (some (.nx [some (vecD v), (if pre = [] then none else some (.int ((pre.getLastD 0 : Nat) : Int)))])) hz'
    have : ∃ y, loopF (gN 1) pBody (natsD pre) [some (vecD v), none] = some (.nx [some (vecD v), y]) := by
      clear e e2 e3 hs hlp hz
      suffices h : ∀ (pre : List Nat) (x : Option PyData), (∀ c ∈ pre, c < v.length ∧ av v c = 0) → ∃ y, loopF (gN 1) pBody (natsD pre) [some (vecD v), x] = some (.nx [some (vecD v), y]) from h pre none hz'
      intro pre
      induction pre with
      | nil => exact fun x _ => ⟨x, rfl⟩
      | cons c pre ih =>
        intro x hc
        obtain ⟨h1, h2⟩ := hc c (List.mem_cons_self ..)
        obtain ⟨y, hy⟩ := ih (some (.int (c : Int))) (fun c h => hc c (List.mem_cons_of_mem _ h))
        have hb : pBody [some (vecD v), some (.int (c : Int))] = some (.nx [some (vecD v), some (.int (c : Int))]) := seq_nx ((if_f ((t_nz (ix_v rfl rfl h1)).trans (by rw [h2]; rfl))).trans rfl) rfl
        refine ⟨y, ?_⟩
        show Option.bind (some [some (vecD v), some (.int (c : Int))]) _ = _
        rw [Option.bind_some, hb, Option.bind_some]
        exact hy
    obtain ⟨y, hy⟩ := this
    rw [e3] at hs
    refine runF_rt (seq_nx (ρ' := [some (vecD v), y]) ((for_eq hs).trans hy) (seq_rt ((if_t ?_).trans (ret_rt rfl))))
    unfold tA
    rw [show tV (fBin dGt (fFn (g1 dLen) (fConsA (fVar 0) fNilA)) (fC (.int 0))) [some (vecD v), y] = some true from tV_b ((fBin_eq (fn1 (x := vecD v) rfl (dLen_v v)) rfl).trans ((dGt_i ..).trans (by rw [decide_eq_true (by omega)]))), Option.bind_some, if_pos rfl]
    exact (t_nz (ix_v (i := 0) rfl rfl hlt)).trans (by rw [show (av v 0 == 0) = false by simpa using h.ne]; rfl)
  · have e2 : (List.range m).map (1 + ·) ++ [0] = (pre ++ p :: q) ++ [b] := by
      rw [List.append_assoc, List.cons_append]
      rw [List.concat_eq_append] at e
      exact e
    obtain ⟨e3, e4⟩ := List.append_inj' e2 rfl
    rw [e3] at hs
    have hlp := piv_go (v := v) pre (p :: q) none _ hz' (fun x => piv_hit hlt h.ne q x)
    exact runF_rt (seq_rt ((for_eq hs).trans hlp))
end Law
set_option Elab.async false
set_option linter.all false
set_option maxRecDepth 100000
set_option maxHeartbeats 2000000
set_option exponentiation.threshold 9000
namespace Law
open PySem PySem.Spec L2 DL
open PyProof.Rows hiding St
def matD (m : List Vc) : PyData := .list (m.map vecD)
def rowsOf (rs : RP) : List Vc := rs.map (·.1)
/-- rows of the length n, of at most B bits, with their pivots -/
def Good (n B : Nat) (rs : RP) : Prop := ∀ x ∈ rs, x.1.length = n ∧ Small B x.1 ∧ IsPiv x.1 x.2
theorem scalL_v {f : F} {ρ : Rho} {v : Vc} (h : f ρ = some (vecD v)) : fScalL f ρ = some (vecD v) := by
  unfold fScalL
  rw [h, Option.bind_some]
  refine if_pos ?_
  rw [List.all_eq_true]
  intro x hx
  obtain ⟨i, _, rfl⟩ := List.mem_map.mp hx
  rfl
def rBody : FS := (sSeq (sAsg 2 (fScalL (fFn R_cleared (fConsA (fVar 2) (fConsA (fVar 3) (fConsA (fFn R_pivot (fConsA (fVar 3) fNilA)) fNilA)))))) sNil)
theorem red_loop {n B : Nat} (hn : n ≤ 1000) (hB : B ≤ 4100) (a b : Option PyData) : ∀ (rs : RP) (u : Vc) (m : Nat) (x : Option PyData), Good n B rs → u.length = n → Small m u → m + rs.length * (B + 1) ≤ 4100 →
    ∃ x', loopF (gN 3) rBody ((rowsOf rs).map vecD) [a, b, some (vecD (prim u)), x] = some (.nx [a, b, some (vecD (prim (red rs u))), x'])
  | [], u, m, x, _, _, _, _ => ⟨x, rfl⟩
  | (r, p) :: rs, u, m, x, hg, hl, hs, hm => by
    obtain ⟨g1, g2, g3⟩ : r.length = n ∧ Small B r ∧ IsPiv r p := hg _ (List.mem_cons_self ..)
    rw [List.length_cons, Nat.add_mul, Nat.one_mul] at hm
    have hp := g3.lt
    have hu := prim_small hs
    have hlu : (prim u).length = n := (prim_length u).trans hl
    have hc := R_clear (v := prim u) (r := r) (p := p) (hu.up (by omega)) (g2.up hB) (hlu.trans g1.symm) (by omega) (by omega)
    rw [prim_stp] at hc
    obtain ⟨x', e⟩ := red_loop hn hB a b rs (stp p r u) (B + m + 1) (some (vecD r)) (fun y hy => hg y (List.mem_cons_of_mem _ hy)) (by rw [stp_length, hl]) (small_stp g2 hs) (by omega)
    refine ⟨x', ?_⟩
    have hb : rBody [a, b, some (vecD (prim u)), some (vecD r)] = some (.nx [a, b, some (vecD (prim (stp p r u))), some (vecD r)]) := seq_nx (asg_nx (scalL_v (fnn3 rfl rfl (fn1 rfl (R_piv (by omega) g3)) hc))) rfl
    show Option.bind (some [a, b, some (vecD (prim u)), some (vecD r)]) _ = _
    rw [Option.bind_some, hb, Option.bind_some]
    exact e
theorem R_red {n B m : Nat} (hn : n ≤ 1000) (hB : B ≤ 4100) {rs : RP} {v : Vc} (hg : Good n B rs) (hl : v.length = n) (hs : Small m v) (h0 : 0 < m) (hm : m + rs.length * (B + 1) ≤ 4100) : R_reduced [vecD v, matD (rowsOf rs)] = some (vecD (prim (red rs v))) := by
  obtain ⟨x', e⟩ := red_loop hn hB (some (vecD v)) (some (matD (rowsOf rs))) rs v m none hg hl hs hm
  have hp := R_prim (n := m) (by omega) h0 hs (by omega)
  unfold R_reduced B_reduced
  exact runF_rt (seq_nx (asg_nx (fn1 (x := vecD v) rfl hp)) (seq_nx ((for_eq (ds := (rowsOf rs).map vecD) rfl).trans e) (ret_rt rfl)))
def lrBody : FS := (sSeq (sAsg 3 (fFn R_law_pivot (fConsA (fVar 2) fNilA))) (sSeq (sAsg 0 (fFn R_law_sum (fConsA (fBin dIx (fVar 2) (fVar 3)) (fConsA (fVar 0) (fConsA (fUn dNeg (fBin dIx (fVar 0) (fVar 3))) (fConsA (fVar 2) fNilA)))))) sNil))
theorem lred_loop {n B : Nat} (hn : n ≤ 1000) (hB : B ≤ 4100) (b : Option PyData) : ∀ (rs : RP) (u : Vc) (m : Nat) (x y : Option PyData), Good n B rs → u.length = n → Small m u → m + rs.length * (B + 1) ≤ 4100 →
    ∃ x' y', loopF (gN 2) lrBody ((rowsOf rs).map vecD) [some (vecD u), b, x, y] = some (.nx [some (vecD (red rs u)), b, x', y']) ∧ Small 4100 (red rs u)
  | [], u, m, x, y, _, _, hs, hm => ⟨x, y, rfl, hs.up (by omega)⟩
  | (r, p) :: rs, u, m, x, y, hg, hl, hs, hm => by
    obtain ⟨g1, g2, g3⟩ : r.length = n ∧ Small B r ∧ IsPiv r p := hg _ (List.mem_cons_self ..)
    rw [List.length_cons, Nat.add_mul, Nat.one_mul] at hm
    have hp := g3.lt
    have hc := R_lsum (n := 4100) (m := 4100) (f := av r p) (g := -(av u p)) (a := u) (b := r) (av_small (g2.up hB) p) (by rw [Int.natAbs_neg]; exact av_small (hs.up (by omega)) p) (hs.up (by omega)) (g2.up hB) (by omega) (hl.trans g1.symm) (by omega)
    obtain ⟨x', y', e, s'⟩ := lred_loop hn hB b rs (stp p r u) (B + m + 1) (some (vecD r)) (some (.int (p : Int))) (fun y hy => hg y (List.mem_cons_of_mem _ hy)) (by rw [stp_length, hl]) (small_stp g2 hs) (by omega)
    refine ⟨x', y', ?_, s'⟩
    have hb : lrBody [some (vecD u), b, some (vecD r), y] = some (.nx [some (vecD (stp p r u)), b, some (vecD r), some (.int (p : Int))]) := seq_nx (ρ' := [some (vecD u), b, some (vecD r), some (.int (p : Int))]) (asg_nx (fn1 (x := vecD r) rfl (R_lpiv (by omega) g3))) (seq_nx (asg_nx (fnn4 (ix_v rfl rfl (by omega)) rfl (neg_ok (ix_v rfl rfl (by omega))) rfl hc)) rfl)
    show Option.bind (some [some (vecD u), b, some (vecD r), y]) _ = _
    rw [Option.bind_some, hb, Option.bind_some]
    exact e
end Law
set_option Elab.async false
set_option linter.all false
set_option maxRecDepth 100000
set_option maxHeartbeats 2000000
set_option exponentiation.threshold 9000
namespace Law
open PySem PySem.Spec L2 DL
open PyProof.Rows hiding St
/-! ### lists of vectors -/
theorem matD_len (m : List Vc) : dLen (matD m) = some (.int m.length) := by
  show some (PyData.int ((m.map vecD).length : Int)) = _
  rw [List.length_map]
theorem matD_cat {a b : List Vc} (h : a.length + b.length ≤ 90000) : dCat (matD a) (matD b) = some (matD (a ++ b)) := by
  show (if catC (a.map vecD).length (b.map vecD).length = true then _ else _) = _
  rw [if_pos (catC_le (by rw [List.length_map, List.length_map]; omega))]
  unfold matD
  rw [List.map_append] <;> rfl
theorem matD_ix {m : List Vc} {k : Nat} {v : Vc} (h : m[k]? = some v) : dIx (matD m) (.int (k : Int)) = some (vecD v) := by
  show atI (m.map vecD) (k : Int) = _
  exact atI_nat (by rw [List.getElem?_map, h] <;> rfl)
theorem mat_map {f el : F} {p : Nat} {ρ : Rho} {m : List Vc} {g : Vc → Vc} (hf : f ρ = some (matD m)) (hl : m.length ≤ 90000) (he : ∀ v ∈ m, el ((wipeR ρ [p]).set p (some (vecD v))) = some (vecD (g v))) : fLc (iSeq f) (gN p) tYesF el [p] ρ = some (matD (m.map g)) := by
  unfold matD
  rw [List.map_map]
  refine fLc_map (α := Vc) (h := vecD) (xs := m) (by unfold iSeq; rw [hf] <;> rfl) hl fun v hv => ⟨_, rfl, rfl, he v hv⟩
theorem lcF_filter {k : FG} {t : FT} {el : F} {ρ : Rho} {α : Type} {h g : α → PyData} {P : α → Bool} : ∀ {xs : List α}, (∀ x ∈ xs, ∃ ρ1, k (h x) ρ = some ρ1 ∧ t ρ1 = some (P x) ∧ (P x = true → el ρ1 = some (g x))) → lcF k t el ρ (xs.map h) = some ((xs.filter P).map g)
  | [], _ => rfl
  | x :: xs, hx => by
    obtain ⟨ρ1, h1, h2, h3⟩ := hx x (List.mem_cons_self ..)
    have ih := lcF_filter (xs := xs) fun y hy => hx y (List.mem_cons_of_mem _ hy)
    show (k (h x) ρ).bind _ = _
    rw [h1, Option.bind_some, h2, Option.bind_some]
    cases hP : P x with
    | true => rw [if_pos rfl, h3 hP, Option.bind_some, ih, List.filter_cons_of_pos hP] <;> rfl
    | false => rw [if_neg Bool.false_ne_true, ih, List.filter_cons_of_neg (by rw [hP]; exact Bool.false_ne_true)]
theorem fLc_filter {src : FA} {k : FG} {t : FT} {el : F} {vs : List Nat} {ρ : Rho} {α : Type} {h g : α → PyData} {P : α → Bool} {xs : List α} (hs : src ρ = some (xs.map h)) (hl : xs.length ≤ 90000) (hx : ∀ x ∈ xs, ∃ ρ1, k (h x) (wipeR ρ vs) = some ρ1 ∧ t ρ1 = some (P x) ∧ (P x = true → el ρ1 = some (g x))) :
    fLc src k t el vs ρ = some (.list ((xs.filter P).map g)) := by
  unfold fLc
  rw [hs, Option.bind_some, if_pos (catC_le (by rw [List.length_map]; omega)), lcF_filter hx] <;> rfl
theorem cut_l {m : List Vc} {k : Nat} : DL.cutD (m.map vecD) none (some (k : Int)) = (m.take k).map vecD := by
  unfold DL.cutD
  rw [HT.sIx_none, HT.sIx_nat, List.drop_zero, Nat.sub_zero, List.map_take, List.length_map, ← List.length_map (f := vecD), List.take_eq_take_iff]
  omega
theorem cut_r {m : List Vc} {k : Nat} : DL.cutD (m.map vecD) (some (k : Int)) none = (m.drop k).map vecD := by
  unfold DL.cutD
  rw [HT.sIx_none, HT.sIx_nat, List.map_drop]
  by_cases h : k ≤ (m.map vecD).length
  · rw [Nat.min_eq_left h, List.take_of_length_le (by rw [List.length_drop]; omega)]
  · rw [Nat.min_eq_right (by omega), List.drop_of_length_le (Nat.le_refl _), List.drop_of_length_le (by omega), List.take_nil]
/-! ### the law's step -/
def clr (c : Nat) (r v : Vc) : Vc := prim (stp c r v)
theorem neg_v {f : F} {p : Nat} {ρ : Rho} {v : Vc} (hf : f ρ = some (vecD v)) (hv : ∀ (ρ : Rho) (x : PyData), p < ρ.length → fVar p ((wipeR ρ [p]).set p (some x)) = some x) (hp : p < ρ.length) (hl : v.length ≤ 90000) : fLc (iSeq f) (gN p) tYesF (fUn dNeg (fVar p)) [p] ρ = some (vecD (sc (-1) v)) := by
  unfold vecD sc
  rw [List.map_map]
  refine fLc_map (α := Int) (h := .int) (xs := v) (by unfold iSeq; rw [hf] <;> rfl) hl fun x hx => ⟨_, rfl, rfl, ?_⟩
  rw [neg_ok (hv ρ (.int x) hp)]
  show some (PyData.int (-x)) = some (PyData.int (-1 * x))
  rw [Int.neg_one_mul]
theorem R_lclr {f g h : F} {ρ : Rho} {v r : Vc} {p : Nat} (hv : Small 4100 v) (hr : Small 4100 r) (hl : v.length = r.length) (hn : v.length ≤ 1000) (hp : p < v.length) (hf : f ρ = some (vecD r)) (hg : g ρ = some (.int (p : Int))) (hh : h ρ = some (vecD v)) :
    fFn R_law_primitive (fConsA (fFn R_law_sum (fConsA (fBin dIx f g) (fConsA h (fConsA (fUn dNeg (fBin dIx h g)) (fConsA f fNilA))))) fNilA) ρ = some (vecD (clr p r v)) := by
  have hc := R_lsum (n := 4100) (m := 4100) (f := av r p) (g := -(av v p)) (a := v) (b := r) (av_small hr p) (by rw [Int.natAbs_neg]; exact av_small hv p) hv hr (by omega) hl hn
  have hq := R_lprim (n := 8201) (by omega) (by omega) (small_stp (p := p) hr hv) (by rw [stp_length]; omega)
  exact fn1 (fnn4 (ix_v hf hg (by omega)) hh (neg_ok (ix_v hh hg hp)) hf hc) hq
def leBody : FS := (sSeq (sAsg 7 (fLc (iR1 (fFn (g1 dLen) (fConsA (fVar 2) fNilA))) (gN 5) (tV (fBin dNe (fBin dIx (fBin dIx (fVar 2) (fVar 5)) (fVar 6)) (fC (.int 0)))) (fVar 5) [5])) (sSeq (sIf (tV (fBin dGt (fFn (g1 dLen) (fConsA (fVar 7) fNilA)) (fC (.int 0)))) (sSeq (sAsg 3 (fBin dIx (fVar 2) (fBin dIx (fVar 7) (fC (.int 0))))) (sSeq (sIf (tV (fBin dLt (fBin dIx (fVar 3) (fVar 6)) (fC (.int 0)))) (sSeq (sAsg 3 (fLc (iSeq (fVar 3)) (gN 8) tYesF (fUn dNeg (fVar 8)) [8])) sNil) sNil) (sSeq (sAsg 2 (fBin dCat (fSl (fVar 2) oNone (oSome (fBin dIx (fVar 7) (fC (.int 0))))) (fSl (fVar 2) (oSome (fBin dAdd (fBin dIx (fVar 7) (fC (.int 0))) (fC (.int 1)))) oNone))) (sSeq (sAsg 2 (fLc (iSeq (fVar 2)) (gN 9) tYesF (fFn R_law_primitive (fConsA (fFn R_law_sum (fConsA (fBin dIx (fVar 3) (fVar 6)) (fConsA (fVar 9) (fConsA (fUn dNeg (fBin dIx (fVar 9) (fVar 6))) (fConsA (fVar 3) fNilA))))) fNilA)) [9])) (sSeq (sAsg 1 (fBin dCat (fLc (iSeq (fVar 1)) (gN 9) tYesF (fFn R_law_primitive (fConsA (fFn R_law_sum (fConsA (fBin dIx (fVar 3) (fVar 6)) (fConsA (fVar 9) (fConsA (fUn dNeg (fBin dIx (fVar 9) (fVar 6))) (fConsA (fVar 3) fNilA))))) fNilA)) [9]) (fFn dList (fConsA (fVar 3) fNilA)))) sNil))))) sNil) sNil))
def lmap (a b c : Nat) : F := (fLc (iSeq (fVar a)) (gN b) tYesF (fFn R_law_primitive (fConsA (fFn R_law_sum (fConsA (fBin dIx (fVar 3) (fVar 6)) (fConsA (fVar b) (fConsA (fUn dNeg (fBin dIx (fVar b) (fVar 6))) (fConsA (fVar 3) fNilA))))) fNilA)) [c])
theorem cover {left : List Vc} {k : Nat} {r0 : Vc} (hg : left[k]? = some r0) : ∀ v ∈ left, v = r0 ∨ v ∈ left.take k ++ left.drop (k + 1) := fun v hv => by
  obtain ⟨j, hj, e⟩ := List.mem_iff_getElem.mp hv
  rcases Nat.lt_trichotomy j k with h | h | h
  · refine .inr (List.mem_append_left _ (List.mem_iff_getElem.mpr ⟨j, by rw [List.length_take]; omega, ?_⟩))
    rw [List.getElem_take, e]
  · subst h
    rw [List.getElem?_eq_getElem hj, e] at hg
    exact .inl (Option.some.inj hg)
  · refine .inr (List.mem_append_right _ (List.mem_iff_getElem.mpr ⟨j - (k + 1), by rw [List.length_drop]; omega, ?_⟩))
    rw [List.getElem_drop]
    have hq : k + 1 + (j - (k + 1)) = j := by omega
    simp only [hq]
    exact e
theorem le_step {n : Nat} (hn : n ≤ 1000) {left found : List Vc} {c : Nat} (hc : c < n) (hL : ∀ v ∈ left, v.length = n ∧ Small 4100 v) (hF : ∀ v ∈ found, v.length = n ∧ Small 4100 v) (ll : left.length ≤ 1000) (lf : found.length ≤ 1000) (x0 x3 x4 x5 x7 x8 x9 : Option PyData) :
    ∃ (left' found' : List Vc) (y3 y7 : Option PyData), leBody [x0, some (matD found), some (matD left), x3, x4, x5, some (.int (c : Int)), x7, x8, x9] = some (.nx [x0, some (matD found'), some (matD left'), y3, x4, x5, some (.int (c : Int)), y7, x8, x9]) ∧
      ((left' = left ∧ found' = found ∧ ∀ v ∈ left, av v c = 0) ∨ ∃ (r0 r : Vc) (rest : List Vc), r0 ∈ left ∧ (∀ v ∈ rest, v ∈ left) ∧ (∀ v ∈ left, v = r0 ∨ v ∈ rest) ∧ rest.length + 1 ≤ left.length ∧ (r = r0 ∨ r = sc (-1) r0) ∧ 0 < av r c ∧ left' = rest.map (clr c r) ∧ found' = found.map (clr c r) ++ [r]) := by
  -- the choice
  have hch : (fLc (iR1 (fFn (g1 dLen) (fConsA (fVar 2) fNilA))) (gN 5) (tV (fBin dNe (fBin dIx (fBin dIx (fVar 2) (fVar 5)) (fVar 6)) (fC (.int 0)))) (fVar 5) [5]) [x0, some (matD found), some (matD left), x3, x4, x5, some (.int (c : Int)), x7, x8, x9] = some (.list (((List.range left.length).filter fun k => !(av (left.getD k []) c == 0)).map fun (k : Nat) => PyData.int (k : Int))) := by
    refine fLc_filter (α := Nat) (h := fun (i : Nat) => PyData.int (0 + (i : Int))) (xs := List.range left.length) ?_ (by rw [List.length_range]; omega) fun k hk => ?_
    · rw [iR1_ok (j := left.length) (fn1 rfl (matD_len left)) (rgC_ok (by omega) (by omega))]
      unfold rangeD
      rw [Int.toNat_natCast]
    · have hk := List.mem_range.mp hk
      have hg : left[k]? = some (left.getD k []) := by
        rw [List.getD_eq_getElem?_getD, List.getElem?_eq_getElem hk] <;> rfl
      have hm := (hL _ (List.mem_of_getElem? hg)).1
      rw [Int.zero_add]
      exact ⟨_, rfl, t_nz (ix_v (i := c) ((fBin_eq (x := matD left) (y := .int (k : Int)) rfl rfl).trans (matD_ix hg)) rfl (by omega)), fun _ => rfl⟩
  cases hcs : (List.range left.length).filter fun k => !(av (left.getD k []) c == 0) with
  | nil =>
    rw [hcs] at hch
    refine ⟨left, found, x3, some (.list []), seq_nx (asg_nx hch) (seq_nx ((if_f (tV_b ((fBin_eq (fn1 (x := .list []) rfl rfl) rfl).trans rfl))).trans rfl) rfl), .inl ⟨rfl, rfl, fun v hv => ?_⟩⟩
    obtain ⟨k, hk, e⟩ := List.mem_iff_getElem.mp hv
    have := (List.filter_eq_nil_iff.mp hcs) k (List.mem_range.mpr hk)
    rw [List.getD_eq_getElem?_getD, List.getElem?_eq_getElem hk, Option.getD_some, e] at this
    simpa using this
  | cons k ks =>
    rw [hcs] at hch
    have hm : k ∈ (List.range left.length).filter fun k => !(av (left.getD k []) c == 0) := by
      rw [hcs]
      exact List.mem_cons_self ..
    obtain ⟨hk, hnz⟩ := List.mem_filter.mp hm
    have hk := List.mem_range.mp hk
    have hnz : av (left.getD k []) c ≠ 0 := by simpa using hnz
    have hg : left[k]? = some (left.getD k []) := by
      rw [List.getD_eq_getElem?_getD, List.getElem?_eq_getElem hk] <;> rfl
    have hr0 := List.mem_of_getElem? hg
    generalize left.getD k [] = r0 at hg hr0 hnz
    obtain ⟨l0, s0⟩ := hL r0 hr0
    clear hcs hm
    have hkd : ∀ (y2 y3 : Option PyData), fBin dIx (fVar 7) (fC (.int 0)) [x0, some (matD found), y2, y3, x4, x5, some (.int (c : Int)), some (.list ((k :: ks).map fun (k : Nat) => PyData.int (k : Int))), x8, x9] = some (.int (k : Int)) := fun y2 y3 => by
      refine (fBin_eq (x := .list ((k :: ks).map fun (k : Nat) => PyData.int (k : Int))) (y := .int ((0 : Nat) : Int)) rfl rfl).trans ?_
      show atI ((k :: ks).map fun (k : Nat) => PyData.int (k : Int)) ((0 : Nat) : Int) = _
      exact atI_nat rfl
    obtain ⟨r, hr, hp, lr, sr, t1⟩ : ∃ r : Vc, (r = r0 ∨ r = sc (-1) r0) ∧ 0 < av r c ∧ r.length = n ∧ Small 4100 r ∧ (sIf (tV (fBin dLt (fBin dIx (fVar 3) (fVar 6)) (fC (.int 0)))) (sSeq (sAsg 3 (fLc (iSeq (fVar 3)) (gN 8) tYesF (fUn dNeg (fVar 8)) [8])) sNil) sNil) [x0, some (matD found), some (matD left), some (vecD r0), x4, x5, some (.int (c : Int)), some (.list ((k :: ks).map fun (k : Nat) => PyData.int (k : Int))), x8, x9] = some (.nx [x0, some (matD found), some (matD left), some (vecD r), x4, x5, some (.int (c : Int)), some (.list ((k :: ks).map fun (k : Nat) => PyData.int (k : Int))), x8, x9]) := by
      have q : tV (fBin dLt (fBin dIx (fVar 3) (fVar 6)) (fC (.int 0))) [x0, some (matD found), some (matD left), some (vecD r0), x4, x5, some (.int (c : Int)), some (.list ((k :: ks).map fun (k : Nat) => PyData.int (k : Int))), x8, x9] = some (decide (av r0 c < 0)) := tV_b ((fBin_eq (ix_v (v := r0) rfl rfl (by omega)) rfl).trans (dLt_i ..))
      by_cases h : av r0 c < 0
      · refine ⟨sc (-1) r0, .inr rfl, by rw [av_sc]; omega, by rw [sc_length]; exact l0, fun x hx => ?_, (if_t (q.trans (by rw [decide_eq_true h]))).trans (seq_nx (asg_nx (d := vecD (sc (-1) r0)) ?_) rfl)⟩
        · obtain ⟨y, hy, rfl⟩ := List.mem_map.mp hx
          rw [Int.neg_one_mul, Int.natAbs_neg]
          exact s0 y hy
        · unfold vecD sc
          rw [List.map_map]
          refine fLc_map (α := Int) (h := .int) (xs := r0) rfl (by omega) fun x hx => ⟨[x0, some (matD found), some (matD left), some (vecD r0), x4, x5, some (.int (c : Int)), some (.list ((k :: ks).map fun (k : Nat) => PyData.int (k : Int))), some (.int x), x9], rfl, rfl, ?_⟩
          rw [neg_ok (a := x) rfl]
          show some (PyData.int (-x)) = some (PyData.int (-1 * x))
          rw [Int.neg_one_mul]
      · exact ⟨r0, .inl rfl, by omega, l0, s0, (if_f (q.trans (by rw [decide_eq_false h]))).trans rfl⟩
    have hrest : ∀ v ∈ left.take k ++ left.drop (k + 1), v ∈ left := fun v hv => by
      rcases List.mem_append.mp hv with h | h
      · exact List.mem_of_mem_take h
      · exact List.mem_of_mem_drop h
    have hcov := cover hg
    have hlen : (left.take k ++ left.drop (k + 1)).length + 1 ≤ left.length := by
      rw [List.length_append, List.length_take, List.length_drop]
      omega
    have t2 : (fBin dCat (fSl (fVar 2) oNone (oSome (fBin dIx (fVar 7) (fC (.int 0))))) (fSl (fVar 2) (oSome (fBin dAdd (fBin dIx (fVar 7) (fC (.int 0))) (fC (.int 1)))) oNone)) [x0, some (matD found), some (matD left), some (vecD r), x4, x5, some (.int (c : Int)), some (.list ((k :: ks).map fun (k : Nat) => PyData.int (k : Int))), x8, x9] = some (matD (left.take k ++ left.drop (k + 1))) := by
      refine (fBin_eq (x := matD (left.take k)) (y := matD (left.drop (k + 1))) ?_ ?_).trans (matD_cat (by rw [List.length_take, List.length_drop]; omega))
      · unfold fSl oNone oSome
        rw [hkd]
        show some (PyData.list (DL.cutD (left.map vecD) none (some (k : Int)))) = _
        rw [cut_l] <;> rfl
      · unfold fSl oNone oSome
        rw [fBin_eq (hkd _ _) (y := .int 1) rfl, dAdd_i]
        show some (PyData.list (DL.cutD (left.map vecD) (some ((k : Int) + 1)) none)) = _
        rw [show (k : Int) + 1 = ((k + 1 : Nat) : Int) by omega, cut_r] <;> rfl
    generalize left.take k ++ left.drop (k + 1) = rest at *
    have t3 : (fLc (iSeq (fVar 2)) (gN 9) tYesF (fFn R_law_primitive (fConsA (fFn R_law_sum (fConsA (fBin dIx (fVar 3) (fVar 6)) (fConsA (fVar 9) (fConsA (fUn dNeg (fBin dIx (fVar 9) (fVar 6))) (fConsA (fVar 3) fNilA))))) fNilA)) [9]) [x0, some (matD found), some (matD rest), some (vecD r), x4, x5, some (.int (c : Int)), some (.list ((k :: ks).map fun (k : Nat) => PyData.int (k : Int))), x8, x9] = some (matD (rest.map (clr c r))) :=
      mat_map rfl (by omega) fun v hv => R_lclr (hL v (hrest v hv)).2 sr ((hL v (hrest v hv)).1.trans lr.symm) (by rw [(hL v (hrest v hv)).1]; exact hn) (by rw [(hL v (hrest v hv)).1]; exact hc) rfl rfl rfl
    have t4 : (fBin dCat (fLc (iSeq (fVar 1)) (gN 9) tYesF (fFn R_law_primitive (fConsA (fFn R_law_sum (fConsA (fBin dIx (fVar 3) (fVar 6)) (fConsA (fVar 9) (fConsA (fUn dNeg (fBin dIx (fVar 9) (fVar 6))) (fConsA (fVar 3) fNilA))))) fNilA)) [9]) (fFn dList (fConsA (fVar 3) fNilA))) [x0, some (matD found), some (matD (rest.map (clr c r))), some (vecD r), x4, x5, some (.int (c : Int)), some (.list ((k :: ks).map fun (k : Nat) => PyData.int (k : Int))), x8, x9] = some (matD (found.map (clr c r) ++ [r])) := by
      refine (fBin_eq (x := matD (found.map (clr c r))) (y := matD [r]) (mat_map rfl (by omega) fun v hv => R_lclr (hF v hv).2 sr ((hF v hv).1.trans lr.symm) (by rw [(hF v hv).1]; exact hn) (by rw [(hF v hv).1]; exact hc) rfl rfl rfl) rfl).trans (matD_cat (by rw [List.length_map, List.length_singleton]; omega))
    refine ⟨rest.map (clr c r), found.map (clr c r) ++ [r], some (vecD r), some (.list ((k :: ks).map fun (k : Nat) => PyData.int (k : Int))), ?_, .inr ⟨r0, r, rest, hr0, hrest, hcov, hlen, hr, hp, rfl, rfl⟩⟩
    have t0 : (fBin dIx (fVar 2) (fBin dIx (fVar 7) (fC (.int 0)))) [x0, some (matD found), some (matD left), x3, x4, x5, some (.int (c : Int)), some (.list ((k :: ks).map fun (k : Nat) => PyData.int (k : Int))), x8, x9] = some (vecD r0) := (fBin_eq (x := matD left) (y := .int (k : Int)) rfl (hkd _ _)).trans (matD_ix hg)
    refine seq_nx (asg_nx hch) (seq_nx (ρ' := [x0, some (matD (found.map (clr c r) ++ [r])), some (matD (rest.map (clr c r))), some (vecD r), x4, x5, some (.int (c : Int)), some (.list ((k :: ks).map fun (k : Nat) => PyData.int (k : Int))), x8, x9]) ((if_t (tV_b ((fBin_eq (fn1 (x := .list ((k :: ks).map fun (k : Nat) => PyData.int (k : Int))) rfl rfl) (y := .int 0) rfl).trans ((dGt_i ..).trans (by rw [decide_eq_true (by simp)]))))).trans ?_) rfl)
    refine seq_nx (ρ' := [x0, some (matD found), some (matD left), some (vecD r0), x4, x5, some (.int (c : Int)), some (.list ((k :: ks).map fun (k : Nat) => PyData.int (k : Int))), x8, x9]) (asg_nx t0) ?_
    refine seq_nx t1 ?_
    refine seq_nx (ρ' := [x0, some (matD found), some (matD rest), some (vecD r), x4, x5, some (.int (c : Int)), some (.list ((k :: ks).map fun (k : Nat) => PyData.int (k : Int))), x8, x9]) (asg_nx t2) ?_
    refine seq_nx (ρ' := [x0, some (matD found), some (matD (rest.map (clr c r))), some (vecD r), x4, x5, some (.int (c : Int)), some (.list ((k :: ks).map fun (k : Nat) => PyData.int (k : Int))), x8, x9]) (asg_nx t3) ?_
    exact seq_nx (asg_nx t4) rfl
end Law
set_option Elab.async false
set_option linter.all false
set_option maxRecDepth 100000
set_option maxHeartbeats 2000000
set_option exponentiation.threshold 9000
namespace Law
open PySem PySem.Spec L2 DL
open PyProof.Rows hiding St
/-! ### spans over the fractions -/
def zeros (n : Nat) : Vc := List.replicate n 0
theorem av_zeros {n i : Nat} : av (zeros n) i = 0 := by
  unfold av zeros
  rw [List.getD_eq_getElem?_getD, List.getElem?_replicate]
  split <;> rfl
theorem zeros_length {n : Nat} : (zeros n).length = n := List.length_replicate ..
theorem eq_zeros {n : Nat} {v : Vc} (h : v.length = n) (hz : ∀ i, av v i = 0) : v = zeros n := ext_v (by unfold zeros; rw [List.length_replicate, h]) fun i _ => by rw [hz, av_zeros]
theorem zeros_small {n b : Nat} : Small b (zeros n) := fun x hx => by
  rw [(List.mem_replicate.mp hx).2]
  exact Nat.two_pow_pos b
inductive Span (n : Nat) (B : List Vc) : Vc → Prop
  | mem {v : Vc} : v ∈ B → v.length = n → Span n B v
  | zero : Span n B (zeros n)
  | comb {a b : Vc} (f g : Int) : Span n B a → Span n B b → Span n B (comb f a g b)
  | div {v : Vc} {k : Int} : k ≠ 0 → v.length = n → Span n B (sc k v) → Span n B v
theorem Span.length {n : Nat} {B : List Vc} {v : Vc} (h : Span n B v) : v.length = n := by
  induction h with
  | mem _ h => exact h
  | zero => exact zeros_length
  | comb f g _ _ ih _ => rw [comb_length, ih]
  | div _ h _ _ => exact h
theorem Span.trans {n : Nat} {B C : List Vc} (h : ∀ v ∈ B, v.length = n → Span n C v) {v : Vc} (x : Span n B v) : Span n C v := by
  induction x with
  | mem h1 h2 => exact h _ h1 h2
  | zero => exact .zero
  | comb f g _ _ ih1 ih2 => exact .comb f g ih1 ih2
  | div h1 h2 _ ih => exact .div h1 h2 ih
theorem comb_sc {f : Int} {v : Vc} : comb f v 0 v = sc f v := ext_v (by rw [comb_length, sc_length]) fun i hi => by
  rw [comb_length] at hi
  rw [av_comb hi, av_sc, Int.zero_mul, Int.add_zero]
theorem Span.sc {n : Nat} {B : List Vc} {v : Vc} (f : Int) (x : Span n B v) : Span n B (sc f v) := by
  have := Span.comb f 0 x x
  rwa [comb_sc] at this
theorem Span.prim_iff {n : Nat} {B : List Vc} {v : Vc} (h : v.length = n) : Span n B (prim v) ↔ Span n B v := by
  obtain ⟨g, hg, e⟩ := prim_of v
  constructor
  · intro x
    rw [e]
    exact x.sc g
  · intro x
    rw [e] at x
    exact .div (k := g) (by omega) (by rw [prim_length, h]) x
/-- clearing keeps a span: from v and r -/
theorem Span.clr {n c : Nat} {B : List Vc} {r v : Vc} (hr : Span n B r) (hv : Span n B v) : Span n B (clr c r v) := by
  unfold Law.clr
  rw [Span.prim_iff (stp_length.trans hv.length)]
  exact Span.comb _ _ hv hr
/-- and back -/
theorem Span.unclr {n c : Nat} {B : List Vc} {r v : Vc} (hl : v.length = n) (hp : av r c ≠ 0) (hr : Span n B r) (hv : Span n B (Law.clr c r v)) : Span n B v := by
  unfold Law.clr at hv
  rw [Span.prim_iff (stp_length.trans hl)] at hv
  refine .div hp hl ?_
  have e : Law.sc (av r c) v = Law.comb 1 (stp c r v) (av v c) r := ext_v (by rw [sc_length, comb_length, stp_length]) fun i hi => by
    rw [sc_length] at hi
    rw [av_sc, av_comb (by rw [stp_length]; exact hi), av_stp hi]
    omega
  rw [e]
  exact .comb _ _ hv hr
/-! ### what a span is, by rows in echelon form -/
def repS (D : Int) (v : Vc) (c : Nat) : RP → Int
  | [] => 0
  | (r, p) :: rs => (D / av r p) * (av v p * av r c) + repS D v c rs
theorem repS_zero {D : Int} {v : Vc} {c : Nat} : ∀ {rs : RP}, (∀ x ∈ rs, av v x.2 * av x.1 c = 0) → repS D v c rs = 0
  | [], _ => rfl
  | (r, p) :: rs, h => by
    rw [repS, h (r, p) (List.mem_cons_self ..), Int.mul_zero, Int.zero_add]
    exact repS_zero fun x hx => h x (List.mem_cons_of_mem _ hx)
theorem repS_one {D : Int} {v : Vc} {c : Nat} : ∀ {rs : RP} {y : Vc × Nat}, y ∈ rs → rs.Pairwise (fun a b => a.2 ≠ b.2) → (∀ x ∈ rs, x.2 ≠ y.2 → av v x.2 * av x.1 c = 0) → repS D v c rs = (D / av y.1 y.2) * (av v y.2 * av y.1 c)
  | [], y, h, _, _ => by cases h
  | (r, p) :: rs, y, h, P, hz => by
    rw [List.pairwise_cons] at P
    rw [repS]
    rcases List.mem_cons.mp h with rfl | h
    · rw [repS_zero fun x hx => hz x (List.mem_cons_of_mem _ hx) fun e => (P.1 x hx) e.symm, Int.add_zero]
    · have := hz (r, p) (List.mem_cons_self ..) (P.1 y h)
      rw [this, Int.mul_zero, Int.zero_add]
      exact repS_one h P.2 fun x hx => hz x (List.mem_cons_of_mem _ hx)
theorem repS_comb {D f g : Int} {a b : Vc} {c n : Nat} : ∀ {rs : RP}, a.length = n → (∀ x ∈ rs, x.2 < n) → repS D (comb f a g b) c rs = f * repS D a c rs + g * repS D b c rs
  | [], _, _ => by simp [repS]
  | (r, p) :: rs, h, hp => by
    have h1 : p < n := hp (r, p) (List.mem_cons_self ..)
    rw [repS, repS, repS, repS_comb h fun x hx => hp x (List.mem_cons_of_mem _ hx), av_comb (by omega)]
    generalize repS D a c rs = A
    generalize repS D b c rs = B
    generalize D / av r p = w
    rw [Int.mul_add, Int.mul_add, Int.add_mul, Int.mul_add]
    have e1 : w * (f * av a p * av r c) = f * (w * (av a p * av r c)) := by ac_rfl
    have e2 : w * (g * av b p * av r c) = g * (w * (av b p * av r c)) := by ac_rfl
    omega
theorem repS_sc {D k : Int} {v : Vc} {c : Nat} : ∀ {rs : RP}, repS D (sc k v) c rs = k * repS D v c rs
  | [] => by simp [repS]
  | (r, p) :: rs => by
    rw [repS, repS, repS_sc, av_sc, Int.mul_add]
    congr 1
    ac_rfl
/-- rows in echelon form -/
structure Ech (n : Nat) (rs : RP) : Prop where
  R : ∀ x ∈ rs, x.1.length = n ∧ prim x.1 = x.1 ∧ 0 < av x.1 x.2 ∧ x.2 < n ∧ ∀ done c rest, order n = done ++ c :: rest → x.2 ∈ rest → av x.1 c = 0
  P : rs.Pairwise fun x y => av x.1 y.2 = 0 ∧ av y.1 x.2 = 0
  S : (rs.map (·.2)).Sublist (order n)
def prodD : RP → Int
  | [] => 1
  | (r, p) :: rs => av r p * prodD rs
theorem prodD_pos {n : Nat} : ∀ {rs : RP}, (∀ x ∈ rs, 0 < av x.1 x.2) → 0 < prodD rs
  | [], _ => by decide
  | (r, p) :: rs, h => Int.mul_pos (h (r, p) (List.mem_cons_self ..)) (prodD_pos (n := n) fun x hx => h x (List.mem_cons_of_mem _ hx))
theorem prodD_dvd : ∀ {rs : RP} {x : Vc × Nat}, x ∈ rs → av x.1 x.2 ∣ prodD rs
  | [], x, h => by cases h
  | (r, p) :: rs, x, h => by
    rcases List.mem_cons.mp h with rfl | h
    · exact Int.dvd_mul_right ..
    · exact Int.dvd_trans (prodD_dvd h) (Int.dvd_mul_left ..)
theorem Ech.pw {n : Nat} {rs : RP} (e : Ech n rs) : ∀ x ∈ rs, ∀ y ∈ rs, x.2 ≠ y.2 → av x.1 y.2 = 0 := by
  have P := e.P
  clear e
  induction rs with
  | nil => exact fun x hx => nomatch hx
  | cons z rs ih =>
    rw [List.pairwise_cons] at P
    intro x hx y hy hn
    rcases List.mem_cons.mp hx with hx | hx
    · rcases List.mem_cons.mp hy with hy | hy
      · exact absurd (by rw [hx, hy]) hn
      · rw [hx]
        exact (P.1 y hy).1
    · rcases List.mem_cons.mp hy with hy | hy
      · rw [hy]
        exact (P.1 x hx).2
      · exact ih P.2 x hx y hy hn
theorem Ech.ne {n : Nat} {rs : RP} (e : Ech n rs) : rs.Pairwise (fun a b => a.2 ≠ b.2) := by
  refine e.P.imp_of_mem fun {x y} hx hy h z => ?_
  have h1 := (e.R y hy).2.2.1
  rw [← z, h.2] at h1
  omega
theorem Ech.rep {n : Nat} {rs : RP} (e : Ech n rs) {v : Vc} (h : Span n (rs.map (·.1)) v) (c : Nat) : prodD rs * av v c = repS (prodD rs) v c rs := by
  induction h with
  | mem h1 h2 =>
    obtain ⟨x, hx, rfl⟩ := List.mem_map.mp h1
    rw [repS_one hx e.ne fun y hy hn => by rw [e.pw x hx y hy hn.symm, Int.zero_mul], ← Int.mul_assoc, Int.ediv_mul_cancel (prodD_dvd hx)]
  | zero =>
    rw [av_zeros, Int.mul_zero]
    exact (repS_zero fun x hx => by rw [av_zeros, Int.zero_mul]).symm
  | comb f g h1 h2 ih1 ih2 =>
    rename_i a b
    rw [repS_comb h1.length (fun x hx => (e.R x hx).2.2.2.1), ← ih1, ← ih2]
    by_cases hc : c < a.length
    · rw [av_comb hc, Int.mul_add]
      congr 1 <;> ac_rfl
    · rw [av_out (by rw [comb_length]; omega), av_out (v := a) (by omega), av_out (v := b) (by rw [h2.length, ← h1.length]; omega)]
      simp
  | div hk h1 h2 ih =>
    rename_i v k
    rw [av_sc, repS_sc] at ih
    have : k * (prodD rs * av v c) = k * repS (prodD rs) v c rs := by rw [← ih]; ac_rfl
    exact Int.eq_of_mul_eq_mul_left hk this
/-- what is in the span and 0 at the pivots is 0 -/
theorem Ech.zero {n : Nat} {rs : RP} (e : Ech n rs) {v : Vc} (h : Span n (rs.map (·.1)) v) (hz : ∀ x ∈ rs, av v x.2 = 0) : isZero v := fun c => by
  have h1 := e.rep h c
  rw [repS_zero fun x hx => by rw [hz x hx, Int.zero_mul]] at h1
  have h2 := prodD_pos (n := n) fun x hx => (e.R x hx).2.2.1
  rcases Int.mul_eq_zero.mp h1 with h | h
  · omega
  · exact h
theorem sub_filter {l : List Nat} (nd : l.Nodup) : ∀ {l1 : List Nat}, l1.Sublist l → l1 = l.filter fun x => decide (x ∈ l1) := by
  induction l with
  | nil =>
    intro l1 s
    rw [List.sublist_nil.mp s]
    rfl
  | cons a l ih =>
    rw [List.nodup_cons] at nd
    intro l1 s
    cases s with
    | cons _ s =>
      have ha : a ∉ l1 := fun z => nd.1 (s.subset z)
      rw [List.filter_cons_of_neg (by simpa using ha)]
      exact ih nd.2 s
    | cons_cons _ s =>
      rename_i l2
      rw [List.filter_cons_of_pos (by simp)]
      congr 1
      refine (ih nd.2 s).trans (List.filter_congr fun x hx => ?_)
      have hxa : x ≠ a := fun z => nd.1 (by rw [← z]; exact hx)
      simp [hxa]
theorem sub_eq {l l1 l2 : List Nat} (nd : l.Nodup) (h1 : l1.Sublist l) (h2 : l2.Sublist l) (h : ∀ x, x ∈ l1 ↔ x ∈ l2) : l1 = l2 := by
  rw [sub_filter nd h1, sub_filter nd h2]
  exact List.filter_congr fun x _ => by simp [h x]
theorem order_nodup' (n : Nat) : (order n).Nodup := by
  cases n with
  | zero => exact List.nodup_nil
  | succ n =>
    unfold order
    rw [List.nodup_append]
    refine ⟨?_, by simp, fun a ha b hb => ?_⟩
    · refine List.Pairwise.map _ (fun a b h => ?_) (List.nodup_range (n := n))
      show 1 + a ≠ 1 + b
      omega
    · obtain ⟨i, _, rfl⟩ := List.mem_map.mp ha
      rw [List.mem_singleton.mp hb]
      omega
theorem two_in {l : List Nat} {p q : Nat} (hp : p ∈ l) (hq : q ∈ l) (h : p ≠ q) : (∃ done rest, l = done ++ p :: rest ∧ q ∈ rest) ∨ ∃ done rest, l = done ++ q :: rest ∧ p ∈ rest := by
  obtain ⟨a, b, e⟩ := List.append_of_mem hp
  rw [e] at hq
  rcases List.mem_append.mp hq with hq | hq
  · obtain ⟨c, d, e2⟩ := List.append_of_mem hq
    refine .inr ⟨c, d ++ p :: b, by rw [e, e2, List.append_assoc, List.cons_append], List.mem_append_right _ (List.mem_cons_self ..)⟩
  · rcases List.mem_cons.mp hq with rfl | hq
    · exact absurd rfl h
    · exact .inl ⟨a, b, e, hq⟩
theorem Ech.piv_in {n : Nat} {E F : RP} (e : Ech n E) (f : Ech n F) (h : ∀ x ∈ E, Span n (F.map (·.1)) x.1) {x : Vc × Nat} (hx : x ∈ E) : ∃ y ∈ F, y.2 = x.2 := by
  obtain ⟨x1, x2, x3, x4, x5⟩ := e.R x hx
  have h1 := f.rep (h x hx) x.2
  have h2 := prodD_pos (n := n) fun x hx => (f.R x hx).2.2.1
  have h3 : ∃ y ∈ F, av x.1 y.2 * av y.1 x.2 ≠ 0 := by
    refine Classical.byContradiction fun z => ?_
    rw [repS_zero fun y hy => Classical.byContradiction fun q => z ⟨y, hy, q⟩] at h1
    rcases Int.mul_eq_zero.mp h1 with h | h <;> omega
  obtain ⟨y, hy, hne⟩ := h3
  have n1 : av x.1 y.2 ≠ 0 := fun z => hne (by rw [z, Int.zero_mul])
  have n2 : av y.1 x.2 ≠ 0 := fun z => hne (by rw [z, Int.mul_zero])
  obtain ⟨y1, y2, y3, y4, y5⟩ := f.R y hy
  refine ⟨y, hy, Classical.byContradiction fun z => ?_⟩
  rcases two_in (mem_order y4) (mem_order x4) z with ⟨done, rest, ho, hm⟩ | ⟨done, rest, ho, hm⟩
  · exact n1 (x5 done y.2 rest ho hm)
  · exact n2 (y5 done x.2 rest ho hm)
theorem Ech.same_row {n : Nat} {E F : RP} (e : Ech n E) (f : Ech n F) (h : ∀ x ∈ E, Span n (F.map (·.1)) x.1) (h' : ∀ x ∈ F, Span n (E.map (·.1)) x.1) {x y : Vc × Nat} (hx : x ∈ E) (hy : y ∈ F) (hp : x.2 = y.2) : x.1 = y.1 := by
  obtain ⟨x1, x2, x3, x4, x5⟩ := e.R x hx
  obtain ⟨y1, y2, y3, y4, y5⟩ := f.R y hy
  have hD := prodD_pos (n := n) fun x hx => (f.R x hx).2.2.1
  have hs : sc (av y.1 y.2) x.1 = sc (av x.1 y.2) y.1 := ext_v (by rw [sc_length, sc_length, x1, y1]) fun c _ => by
    rw [av_sc, av_sc]
    have h1 := f.rep (h x hx) c
    rw [repS_one hy f.ne fun z hz hn => by
      obtain ⟨w, hw, e2⟩ := f.piv_in e h' hz
      rw [← e2, e.pw x hx w hw (by rw [e2, hp]; exact hn.symm), Int.zero_mul]] at h1
    obtain ⟨q, hq⟩ := prodD_dvd hy
    have hdq : prodD F / av y.1 y.2 = q := by rw [hq]; exact Int.mul_ediv_cancel_left _ (by omega)
    rw [hdq, hq] at h1
    have hq0 : q ≠ 0 := fun z => by rw [z, Int.mul_zero] at hq; omega
    refine Int.eq_of_mul_eq_mul_left hq0 ?_
    rw [← h1]
    ac_rfl
  have p1 := prim_sc (show 1 ≤ av y.1 y.2 by omega) x.1
  rw [hs, prim_sc (by rw [← hp]; omega), y2, x2] at p1
  exact p1.symm
theorem rp_eq : ∀ {E F : RP}, E.map (·.2) = F.map (·.2) → (∀ x ∈ E, ∀ y ∈ F, x.2 = y.2 → x.1 = y.1) → E = F
  | [], [], _, _ => rfl
  | [], _ :: _, h, _ => by cases h
  | _ :: _, [], h, _ => by cases h
  | x :: E, y :: F, h, hr => by
    rw [List.map_cons, List.map_cons] at h
    obtain ⟨h1, h2⟩ := List.cons.inj h
    have e1 := hr x (List.mem_cons_self ..) y (List.mem_cons_self ..) h1
    have e2 : x = y := Prod.ext e1 h1
    rw [e2, rp_eq h2 fun a ha b hb => hr a (List.mem_cons_of_mem _ ha) b (List.mem_cons_of_mem _ hb)]
/-- there is one list in echelon form with a span -/
theorem Ech.uniq {n : Nat} {E F : RP} (e : Ech n E) (f : Ech n F) (h : ∀ x ∈ E, Span n (F.map (·.1)) x.1) (h' : ∀ x ∈ F, Span n (E.map (·.1)) x.1) : E = F := by
  refine rp_eq (sub_eq (order_nodup' n) e.S f.S fun p => ⟨fun hp => ?_, fun hp => ?_⟩) fun x hx y hy => e.same_row f h h' hx hy
  · obtain ⟨x, hx, rfl⟩ := List.mem_map.mp hp
    obtain ⟨y, hy, e2⟩ := e.piv_in f h hx
    exact List.mem_map.mpr ⟨y, hy, e2⟩
  · obtain ⟨x, hx, rfl⟩ := List.mem_map.mp hp
    obtain ⟨y, hy, e2⟩ := f.piv_in e h' hx
    exact List.mem_map.mpr ⟨y, hy, e2⟩
end Law
set_option Elab.async false
set_option linter.all false
set_option maxRecDepth 100000
set_option maxHeartbeats 2000000
set_option exponentiation.threshold 9000
namespace Law
open PySem PySem.Spec L2 DL
open PyProof.Rows hiding St
theorem av_clr_zero {c : Nat} {r v : Vc} {i : Nat} (h : av r c * av v i - av v c * av r i = 0) : av (clr c r v) i = 0 := by
  unfold clr
  rw [av_prim_zero]
  by_cases hi : i < v.length
  · rw [av_stp hi]
    exact h
  · exact av_out (by rw [stp_length]; omega)
theorem clr_length {c : Nat} {r v : Vc} : (clr c r v).length = v.length := (prim_length _).trans stp_length
theorem clr_small {c b : Nat} {r v : Vc} (hr : Small b r) (hv : Small b v) : Small (2 * b + 1) (clr c r v) := prim_small ((small_stp hr hv).up (by omega))
theorem clr_prim {c : Nat} {r v : Vc} : prim (clr c r v) = clr c r v := prim_prim _
theorem av_clr_pos {c : Nat} {r v : Vc} {i : Nat} (hi : i < v.length) (h : 0 < av r c * av v i - av v c * av r i) : 0 < av (clr c r v) i := by
  obtain ⟨g, hg, e⟩ := prim_of (stp c r v)
  have e2 : av (stp c r v) i = g * av (clr c r v) i := by
    conv => lhs; rw [e]
    exact av_sc
  rw [av_stp hi] at e2
  rw [e2] at h
  have : ¬ av (clr c r v) i ≤ 0 := fun z => by
    have := Int.mul_nonpos_of_nonneg_of_nonpos (show 0 ≤ g by omega) z
    omega
  omega
structure LInv (n b : Nat) (done : List Nat) (left : List Vc) (rs : RP) : Prop where
  L : ∀ v ∈ left, v.length = n ∧ Small b v ∧ prim v = v ∧ ∀ c ∈ done, av v c = 0
  R : ∀ x ∈ rs, x.1.length = n ∧ Small b x.1 ∧ prim x.1 = x.1 ∧ 0 < av x.1 x.2 ∧ x.2 ∈ done ∧ ∃ pre post, order n = pre ++ x.2 :: post ∧ ∀ c ∈ pre, av x.1 c = 0 ∧ c ∈ done
  P : rs.Pairwise fun x y => av x.1 y.2 = 0 ∧ av y.1 x.2 = 0
  S : (rs.map (·.2)).Sublist done
theorem linv_same {n b c : Nat} {done : List Nat} {left : List Vc} {rs : RP} (x : LInv n b done left rs) (h : ∀ v ∈ left, av v c = 0) : LInv n (2 * b + 1) (done ++ [c]) left rs :=
  ⟨fun v hv => let ⟨h1, h2, h3, h4⟩ := x.L v hv; ⟨h1, h2.up (by omega), h3, fun c' hc => by
      rcases List.mem_append.mp hc with hc | hc
      · exact h4 c' hc
      · rw [List.mem_singleton.mp hc]
        exact h v hv⟩,
   fun y hy => let ⟨h1, h2, h3, h4, h5, pre, post, e, h6⟩ := x.R y hy; ⟨h1, h2.up (by omega), h3, h4, List.mem_append_left _ h5, pre, post, e, fun c' hc => ⟨(h6 c' hc).1, List.mem_append_left _ (h6 c' hc).2⟩⟩,
   x.P, x.S.trans (List.sublist_append_left ..)⟩
theorem linv_step {n b c : Nat} {done rest' : List Nat} {left rest : List Vc} {rs : RP} (x : LInv n b done left rs) (ho : order n = done ++ c :: rest') {r0 r : Vc} (h0 : r0 ∈ left) (hrest : ∀ v ∈ rest, v ∈ left) (hr : r = r0 ∨ r = sc (-1) r0) (hp : 0 < av r c) :
    LInv n (2 * b + 1) (done ++ [c]) (rest.map (clr c r)) (rs.map (fun y => (clr c r y.1, y.2)) ++ [(r, c)]) := by
  obtain ⟨g1, g2, g3, g4⟩ := x.L r0 h0
  have r1 : r.length = n ∧ Small b r ∧ prim r = r ∧ ∀ c ∈ done, av r c = 0 := by
    rcases hr with rfl | rfl
    · exact ⟨g1, g2, g3, g4⟩
    · refine ⟨by rw [sc_length, g1], fun y hy => ?_, by rw [prim_neg, g3], fun c hc => by rw [av_sc, g4 c hc, Int.mul_zero]⟩
      obtain ⟨z, hz, rfl⟩ := List.mem_map.mp hy
      rw [Int.neg_one_mul, Int.natAbs_neg]
      exact g2 z hz
  obtain ⟨q1, q2, q3, q4⟩ := r1
  have keep : ∀ y ∈ rs, ∀ c' ∈ done, av y.1 c' = 0 → av (clr c r y.1) c' = 0 := fun y hy c' hc h => av_clr_zero (by rw [h, q4 c' hc, Int.mul_zero, Int.mul_zero]; rfl)
  have atc : ∀ v : Vc, av (clr c r v) c = 0 := fun v => av_clr_zero (by rw [Int.mul_comm, Int.sub_self])
  refine ⟨fun v hv => ?_, fun y hy => ?_, ?_, ?_⟩
  · obtain ⟨u, hu, rfl⟩ := List.mem_map.mp hv
    obtain ⟨u1, u2, u3, u4⟩ := x.L u (hrest u hu)
    refine ⟨by rw [clr_length, u1], clr_small q2 u2, clr_prim, fun c' hc => ?_⟩
    rcases List.mem_append.mp hc with hc | hc
    · exact av_clr_zero (by rw [u4 c' hc, q4 c' hc, Int.mul_zero, Int.mul_zero]; rfl)
    · rw [List.mem_singleton.mp hc]
      exact atc u
  · rcases List.mem_append.mp hy with hy | hy
    · obtain ⟨z, hz, rfl⟩ := List.mem_map.mp hy
      obtain ⟨z1, z2, z3, z4, z5, pre, post, e, z6⟩ := x.R z hz
      refine ⟨by show (clr c r z.1).length = n; rw [clr_length, z1], clr_small q2 z2, clr_prim, ?_, List.mem_append_left _ z5, pre, post, e, fun c' hc => ⟨keep z hz c' (z6 c' hc).2 (z6 c' hc).1, List.mem_append_left _ (z6 c' hc).2⟩⟩
      refine av_clr_pos (by rw [z1]; exact order_lt (by rw [e]; exact List.mem_append_right _ (List.mem_cons_self ..))) ?_
      rw [q4 _ z5, Int.mul_zero, Int.sub_zero]
      exact Int.mul_pos hp z4
    · rw [List.mem_singleton.mp hy]
      exact ⟨q1, q2.up (by omega), q3, hp, List.mem_append_right _ (List.mem_singleton.mpr rfl), done, rest', ho, fun c' hc => ⟨q4 c' hc, List.mem_append_left _ hc⟩⟩
  · rw [List.pairwise_append]
    refine ⟨?_, List.pairwise_singleton .., fun y hy z hz => ?_⟩
    · rw [List.pairwise_map]
      exact x.P.imp_of_mem fun {y z} hy hz h => ⟨keep y hy _ (x.R z hz).2.2.2.2.1 h.1, keep z hz _ (x.R y hy).2.2.2.2.1 h.2⟩
    · obtain ⟨u, hu, rfl⟩ := List.mem_map.mp hy
      rw [List.mem_singleton.mp hz]
      exact ⟨atc u.1, q4 _ (x.R u hu).2.2.2.2.1⟩
  · rw [List.map_append, List.map_map]
    exact List.Sublist.append x.S (List.Sublist.refl _)
structure SI (n : Nat) (rows left found : List Vc) : Prop where
  A : ∀ v ∈ rows, v.length = n → Span n (found ++ left) v
  B : ∀ u ∈ found ++ left, Span n rows u
theorem sc_neg_neg {v : Vc} : sc (-1) (sc (-1) v) = v := ext_v (by rw [sc_length, sc_length]) fun i _ => by
  rw [av_sc, av_sc]
  omega
theorem si_step {n c : Nat} {rows left found rest : List Vc} (x : SI n rows left found) (hl : ∀ v ∈ left, v.length = n) (hf : ∀ v ∈ found, v.length = n) {r0 r : Vc} (h0 : r0 ∈ left) (hrest : ∀ v ∈ rest, v ∈ left) (hcov : ∀ v ∈ left, v = r0 ∨ v ∈ rest) (hr : r = r0 ∨ r = sc (-1) r0) (hp : 0 < av r c) :
    SI n rows (rest.map (clr c r)) (found.map (clr c r) ++ [r]) := by
  have lr : r.length = n := by
    rcases hr with rfl | rfl
    · exact hl _ h0
    · rw [sc_length]
      exact hl _ h0
  have sr : Span n rows r := by
    have := x.B r0 (List.mem_append_right _ h0)
    rcases hr with rfl | rfl
    · exact this
    · exact this.sc _
  have mr : Span n (found.map (clr c r) ++ [r] ++ rest.map (clr c r)) r := .mem (List.mem_append_left _ (List.mem_append_right _ (List.mem_singleton.mpr rfl))) lr
  refine ⟨fun v hv hn => (x.A v hv hn).trans fun u hu hun => ?_, fun u hu => ?_⟩
  · rcases List.mem_append.mp hu with hu | hu
    · exact Span.unclr hun (by omega) mr (.mem (List.mem_append_left _ (List.mem_append_left _ (List.mem_map.mpr ⟨u, hu, rfl⟩))) (clr_length.trans hun))
    · rcases hcov u hu with rfl | hu
      · rcases hr with rfl | e
        · exact mr
        · have := mr.sc (-1)
          rwa [e, sc_neg_neg, ← e] at this
      · exact Span.unclr hun (by omega) mr (.mem (List.mem_append_right _ (List.mem_map.mpr ⟨u, hu, rfl⟩)) (clr_length.trans hun))
  · rcases List.mem_append.mp hu with hu | hu
    · rcases List.mem_append.mp hu with hu | hu
      · obtain ⟨w, hw, rfl⟩ := List.mem_map.mp hu
        exact Span.clr sr (x.B w (List.mem_append_left _ hw))
      · rw [List.mem_singleton.mp hu]
        exact sr
    · obtain ⟨w, hw, rfl⟩ := List.mem_map.mp hu
      exact Span.clr sr (x.B w (List.mem_append_right _ (hrest w hw)))
theorem si_start {n : Nat} {rows : List Vc} (h : ∀ v ∈ rows, v.length = n) : SI n rows (rows.map prim) [] := ⟨fun v hv hn => (Span.prim_iff hn).mp (.mem (List.mem_append_right _ (List.mem_map.mpr ⟨v, hv, rfl⟩)) (by rw [prim_length, hn])), fun u hu => by
  rcases List.mem_append.mp hu with hu | hu
  · cases hu
  · obtain ⟨w, hw, rfl⟩ := List.mem_map.mp hu
    exact (Span.prim_iff (h w hw)).mpr (.mem hw (h w hw))⟩
theorem before_of {l : List Nat} (nd : l.Nodup) {pre post done rest : List Nat} {p c : Nat} (h1 : l = pre ++ p :: post) (h2 : l = done ++ c :: rest) (hp : p ∈ rest) : c ∈ pre := by
  rw [h1] at h2 nd
  have np : p ∉ post := (List.nodup_cons.mp (List.nodup_append.mp nd).2.1).1
  rcases List.append_eq_append_iff.mp h2 with ⟨a, e1, e2⟩ | ⟨a, e1, e2⟩
  · cases a with
    | nil =>
      obtain ⟨_, e3⟩ := List.cons.inj e2
      exact absurd (by rw [e3]; exact hp) np
    | cons b a =>
      obtain ⟨_, e3⟩ := List.cons.inj e2
      exact absurd (by rw [e3]; exact List.mem_append_right _ (List.mem_cons_of_mem _ hp)) np
  · cases a with
    | nil =>
      obtain ⟨_, e3⟩ := List.cons.inj e2
      exact absurd (by rw [← e3]; exact hp) np
    | cons b a =>
      obtain ⟨e3, _⟩ := List.cons.inj e2
      rw [e1, e3]
      exact List.mem_append_right _ (List.mem_cons_self ..)
theorem LInv.ech {n b : Nat} {left : List Vc} {rs : RP} (x : LInv n b (order n) left rs) : Ech n rs := ⟨fun y hy => by
  obtain ⟨h1, h2, h3, h4, h5, pre, post, e, h6⟩ := x.R y hy
  exact ⟨h1, h3, h4, order_lt h5, fun done c rest ho hp => (h6 c (before_of (order_nodup' n) e ho hp)).1⟩, x.P, x.S⟩
/-- the end: what is left is zeros -/
theorem si_end {n b : Nat} {rows left : List Vc} {rs : RP} (x : LInv n b (order n) left rs) (s : SI n rows left (rowsOf rs)) : (∀ v ∈ rows, v.length = n → Span n (rs.map (·.1)) v) ∧ ∀ y ∈ rs, Span n rows y.1 := by
  refine ⟨fun v hv hn => (s.A v hv hn).trans fun u hu hun => ?_, fun y hy => s.B y.1 (List.mem_append_left _ (List.mem_map.mpr ⟨y, hy, rfl⟩))⟩
  rcases List.mem_append.mp hu with hu | hu
  · exact .mem hu hun
  · have hz := (x.L u hu).2.2.2
    have : u = zeros n := eq_zeros hun fun i => by
      by_cases hi : i < n
      · exact hz i (mem_order hi)
      · exact av_out (by omega)
    rw [this]
    exact .zero
theorem le_loop {n : Nat} {rows : List Vc} (hn : n ≤ 900) (x0 x4 x5 x8 x9 : Option PyData) : ∀ (rest done : List Nat) (left : List Vc) (rs : RP) (b : Nat) (x3 x6 x7 : Option PyData), order n = done ++ rest → LInv n b done left rs → SI n rows left (rowsOf rs) → left.length ≤ 1000 → done.length + rest.length ≤ 900 → (b + 1) * 2 ^ rest.length ≤ 4100 →
    ∃ (left' : List Vc) (rs' : RP) (y3 y6 y7 : Option PyData), loopF (gN 6) leBody (natsD rest) [x0, some (matD (rowsOf rs)), some (matD left), x3, x4, x5, x6, x7, x8, x9] = some (.nx [x0, some (matD (rowsOf rs')), some (matD left'), y3, x4, x5, y6, y7, x8, x9]) ∧ LInv n ((b + 1) * 2 ^ rest.length) (done ++ rest) left' rs' ∧ left'.length + rs'.length ≤ left.length + rs.length ∧ SI n rows left' (rowsOf rs')
  | [], done, left, rs, b, x3, x6, x7, ho, x, si, ll, ld, hb => ⟨left, rs, x3, x6, x7, rfl, by
      rw [List.append_nil, List.length_nil, Nat.pow_zero, Nat.mul_one]
      exact ⟨fun v hv => let ⟨h1, h2, h3⟩ := x.L v hv; ⟨h1, h2.up (by omega), h3⟩, fun y hy => let ⟨h1, h2, h3⟩ := x.R y hy; ⟨h1, h2.up (by omega), h3⟩, x.P, x.S⟩, Nat.le_refl _, si⟩
  | c :: rest, done, left, rs, b, x3, x6, x7, ho, x, si, ll, ld, hb => by
    have hpos : 1 ≤ 2 ^ rest.length := Nat.one_le_two_pow
    have e2 : (b + 1) * 2 ^ (c :: rest).length = (2 * b + 1 + 1) * 2 ^ rest.length := by
      rw [List.length_cons, Nat.pow_succ, Nat.mul_comm (2 ^ rest.length) 2, ← Nat.mul_assoc]
      congr 1
      omega
    rw [e2] at hb
    have hb2 : 2 * b + 1 + 1 ≤ 4100 := Nat.le_trans (Nat.le_mul_of_pos_right _ hpos) hb
    have hc : c < n := order_lt (by rw [ho]; exact List.mem_append_right _ (List.mem_cons_self ..))
    have lrs : (rowsOf rs).length ≤ 1000 := by
      have := x.S.length_le
      rw [List.length_map] at this
      rw [rowsOf, List.length_map]
      rw [List.length_cons] at ld
      omega
    obtain ⟨left', found', y3, y7, e, h⟩ := le_step (n := n) (by omega) (left := left) (found := rowsOf rs) (c := c) hc (fun v hv => ⟨(x.L v hv).1, (x.L v hv).2.1.up (by omega)⟩) (fun v hv => by
      obtain ⟨y, hy, rfl⟩ := List.mem_map.mp hv
      exact ⟨(x.R y hy).1, (x.R y hy).2.1.up (by omega)⟩) ll lrs x0 x3 x4 x5 x7 x8 x9
    obtain ⟨rs', hf', x', ll', lc, si'⟩ : ∃ rs' : RP, found' = rowsOf rs' ∧ LInv n (2 * b + 1) (done ++ [c]) left' rs' ∧ left'.length ≤ 1000 ∧ left'.length + rs'.length ≤ left.length + rs.length ∧ SI n rows left' (rowsOf rs') := by
      rcases h with ⟨rfl, rfl, hz⟩ | ⟨r0, r, rs0, m1, m2, m2c, m3, m4, m5, rfl, rfl⟩
      · exact ⟨rs, rfl, linv_same x hz, ll, Nat.le_refl _, si⟩
      · refine ⟨rs.map (fun y => (clr c r y.1, y.2)) ++ [(r, c)], ?_, linv_step x ho m1 m2 m4 m5, by rw [List.length_map]; omega, by rw [List.length_map, List.length_append, List.length_map, List.length_singleton]; omega, ?_⟩
        · unfold rowsOf
          rw [List.map_append, List.map_map, List.map_map] <;> rfl
        · have q := si_step si (fun v hv => (x.L v hv).1) (fun v hv => by obtain ⟨y, hy, rfl⟩ := List.mem_map.mp hv; exact (x.R y hy).1) m1 m2 m2c m4 m5
          unfold rowsOf at q ⊢
          rw [List.map_append, List.map_map]
          rw [List.map_map] at q
          exact q
    subst hf'
    obtain ⟨left2, rs2, z3, z6, z7, e', x2, lc2, si2⟩ := le_loop hn x0 x4 x5 x8 x9 rest (done ++ [c]) left' rs' (2 * b + 1) y3 (some (.int (c : Int))) y7 (by rw [ho, List.append_assoc]; rfl) x' si' ll' (by rw [List.length_append, List.length_singleton]; rw [List.length_cons] at ld; omega) hb
    rw [e2]
    rw [List.append_assoc] at x2
    refine ⟨left2, rs2, z3, z6, z7, ?_, x2, by omega, si2⟩
    show Option.bind (some [x0, some (matD (rowsOf rs)), some (matD left), x3, x4, x5, some (.int (c : Int)), x7, x8, x9]) _ = _
    rw [Option.bind_some, e, Option.bind_some]
    exact e'
theorem R_lech {n b : Nat} (hn : n ≤ 900) (hn0 : 0 < n) {rows : List Vc} (h : ∀ v ∈ rows, v.length = n ∧ Small b v) (hb0 : 0 < b) (hl : rows.length ≤ 900) (hb : (b + 1) * 2 ^ n ≤ 4100) : ∃ (left : List Vc) (rs : RP), R_law_echelon [matD rows] = some (matD (rowsOf rs)) ∧ LInv n ((b + 1) * 2 ^ n) (order n) left rs ∧ rs.length ≤ rows.length ∧ SI n rows left (rowsOf rs) := by
  have hpos : 1 ≤ 2 ^ n := Nat.one_le_two_pow
  have hb1 : b + 1 ≤ 4100 := Nat.le_trans (Nat.le_mul_of_pos_right _ hpos) hb
  have t2 : fLc (iSeq (fVar 0)) (gN 3) tYesF (fFn R_law_primitive (fConsA (fVar 3) fNilA)) [3] [some (matD rows), some (.list []), none, none, none, none, none, none, none, none] = some (matD (rows.map prim)) :=
    mat_map rfl (by omega) fun v hv => fn1 rfl (R_lprim (n := b) (by omega) hb0 (h v hv).2 (by rw [(h v hv).1]; omega))
  have lo : (order n).length = n := by
    cases n with
    | zero => omega
    | succ n =>
      unfold order
      rw [List.length_append, List.length_map, List.length_range, List.length_singleton]
  unfold R_law_echelon B_law_echelon
  cases rows with
  | nil =>
    refine ⟨[], [], runF_rt (seq_nx (asg_nx (d := .list []) rfl) (seq_nx (asg_nx t2) (seq_nx (asg_nx (d := .list []) rfl) (seq_nx (ρ' := [some (matD []), some (.list []), some (matD []), none, some (.list []), none, none, none, none, none]) ((if_f (tV_b ((fBin_eq (fn1 (x := matD []) rfl rfl) rfl).trans rfl))).trans rfl) (seq_nx (ρ' := [some (matD []), some (.list []), some (matD []), none, some (.list []), none, none, none, none, none]) rfl (ret_rt rfl)))))), ?_⟩
    exact ⟨⟨(fun _ hv => nomatch hv), (fun _ hv => nomatch hv), List.Pairwise.nil, List.nil_sublist _⟩, Nat.zero_le _, (fun _ hv => nomatch hv), (fun _ hv => nomatch hv)⟩
  | cons v0 vs =>
    have hv0 : v0.length = n := (h v0 (List.mem_cons_self ..)).1
    obtain ⟨m, hm⟩ : ∃ m, n = m + 1 := ⟨n - 1, by omega⟩
    have x0 : LInv n b [] ((v0 :: vs).map prim) [] := ⟨fun v hv => by
      obtain ⟨u, hu, rfl⟩ := List.mem_map.mp hv
      exact ⟨by rw [prim_length, (h u hu).1], prim_small (h u hu).2, prim_prim _, (fun _ hc => nomatch hc)⟩, (fun _ hv => nomatch hv), List.Pairwise.nil, List.nil_sublist _⟩
    have tc : (fBin dCat (fLc (iR2 (fC (.int 1)) (fFn (g1 dLen) (fConsA (fBin dIx (fVar 0) (fC (.int 0))) fNilA))) (gN 5) tYesF (fVar 5) [5]) (fFn dList (fConsA (fC (.int 0)) fNilA))) [some (matD (v0 :: vs)), some (.list []), some (matD ((v0 :: vs).map prim)), none, some (.list []), none, none, none, none, none] = some (.list (natsD (order n))) := by
      have q : fLc (iR2 (fC (.int 1)) (fFn (g1 dLen) (fConsA (fBin dIx (fVar 0) (fC (.int 0))) fNilA))) (gN 5) tYesF (fVar 5) [5] [some (matD (v0 :: vs)), some (.list []), some (matD ((v0 :: vs).map prim)), none, some (.list []), none, none, none, none, none] = some (.list (natsD ((List.range m).map (1 + ·)))) := by
        unfold natsD
        rw [List.map_map]
        refine fLc_map (α := Nat) (h := fun (i : Nat) => PyData.int (1 + (i : Int))) (xs := List.range m) ?_ (by rw [List.length_range]; omega) fun i _ => ⟨_, rfl, rfl, ?_⟩
        · rw [iR2_ok (i := 1) (j := (n : Int)) rfl (fn1 (x := vecD v0) ((fBin_eq (x := matD (v0 :: vs)) (y := .int ((0 : Nat) : Int)) rfl rfl).trans (matD_ix rfl)) (by rw [← hv0]; exact dLen_v v0)) (by decide) (rgC_ok (by omega) (by omega)), hm, show (((m + 1 : Nat) : Int) - 1).toNat = m by omega]
          rfl
        · rfl
      rw [fBin_eq (y := .list [.int 0]) q rfl]
      show (if catC (natsD ((List.range m).map (1 + ·))).length 1 = true then some (PyData.list (natsD ((List.range m).map (1 + ·)) ++ [.int 0])) else none) = _
      rw [if_pos (catC_le (by unfold natsD; rw [List.length_map, List.length_map, List.length_range]; omega)), hm]
      unfold natsD order
      rw [List.map_append] <;> rfl
    obtain ⟨left', rs', y3, y6, y7, e, x', lc, si'⟩ := le_loop (n := n) (rows := v0 :: vs) hn (some (matD (v0 :: vs))) (some (.list (natsD (order n)))) none none none (order n) [] ((v0 :: vs).map prim) [] b none none none rfl x0 (si_start fun v hv => (h v hv).1) (by rw [List.length_map]; omega) (by rw [lo, List.length_nil]; omega) (by rw [lo]; exact hb)
    rw [lo] at x'
    refine ⟨left', rs', runF_rt (seq_nx (asg_nx (d := .list []) rfl) (seq_nx (asg_nx t2) (seq_nx (asg_nx (d := .list []) rfl) (seq_nx ((if_t (tV_b ((fBin_eq (fn1 (x := matD (v0 :: vs)) rfl (matD_len _)) (y := .int 0) rfl).trans ((dGt_i ..).trans (by rw [decide_eq_true (by rw [List.length_cons]; omega)]))))).trans (seq_nx (asg_nx tc) rfl)) (seq_nx ((for_eq (ds := natsD (order n)) rfl).trans e) (ret_rt rfl)))))), x', by rw [List.length_map, List.length_nil] at lc; omega, si'⟩
end Law
set_option Elab.async false
set_option linter.all false
set_option maxRecDepth 100000
set_option maxHeartbeats 2000000
set_option exponentiation.threshold 9000
namespace Law
open PySem PySem.Spec L2 DL
open PyProof.Rows hiding St
theorem ef_of {n : Nat} : ∀ {rs : RP}, (∀ x ∈ rs, x.1.length = n ∧ x.2 < n ∧ 0 < av x.1 x.2) → (rs.Pairwise fun x y => av x.1 y.2 = 0 ∧ av y.1 x.2 = 0) → Ef n rs
  | [], _, _ => .nil
  | (r, p) :: rs, h, P => by
    obtain ⟨h1, h2, h3⟩ : r.length = n ∧ p < n ∧ 0 < av r p := h _ (List.mem_cons_self ..)
    rw [List.pairwise_cons] at P
    exact .cons h1 h2 h3 (fun x hx => ⟨(P.1 x hx).2, (P.1 x hx).1⟩) (ef_of (fun x hx => h x (List.mem_cons_of_mem _ hx)) P.2)
theorem clr_zeros {n c : Nat} {r : Vc} : clr c r (zeros n) = zeros n := eq_zeros (clr_length.trans zeros_length) fun i => av_clr_zero (by rw [av_zeros, av_zeros, Int.mul_zero, Int.zero_mul]; rfl)
theorem clr_self {n c : Nat} {r : Vc} (h : r.length = n) : clr c r r = zeros n := eq_zeros (clr_length.trans h) fun i => av_clr_zero (Int.sub_self _)
theorem clr_other {c : Nat} {r v : Vc} (h : av v c = 0) (hp : prim v = v) (hr : 0 < av r c) : clr c r v = v := by
  have hs : stp c r v = sc (av r c) v := ext_v (by rw [stp_length, sc_length]) fun i hi => by
    rw [stp_length] at hi
    rw [av_stp hi, av_sc, h, Int.zero_mul, Int.sub_zero]
  unfold clr
  rw [hs, prim_sc (by omega), hp]
def eBody : FS := (sSeq (sAsg 6 (fLc (iSeq (fVar 2)) (gN 7) (tV (fBin dNe (fBin dIx (fVar 7) (fVar 5)) (fC (.int 0)))) (fVar 7) [7])) (sSeq (sIf (tTr (fVar 6)) (sSeq (sAsg 3 (fBin dIx (fVar 6) (fC (.int 0)))) (sSeq (sIf (tV (fBin dLt (fBin dIx (fVar 3) (fVar 5)) (fC (.int 0)))) (sSeq (sAsg 3 (fLc (iSeq (fVar 3)) (gN 8) tYesF (fUn dNeg (fVar 8)) [8])) sNil) sNil) (sSeq (sAsg 2 (fLc (iSeq (fVar 2)) (gN 7) tYesF (fFn R_cleared (fConsA (fVar 7) (fConsA (fVar 3) (fConsA (fVar 5) fNilA)))) [7])) (sSeq (sAsg 4 (fBin dCat (fLc (iSeq (fVar 4)) (gN 7) tYesF (fFn R_cleared (fConsA (fVar 7) (fConsA (fVar 3) (fConsA (fVar 5) fNilA)))) [7]) (fFn dList (fConsA (fVar 3) fNilA)))) sNil)))) sNil) sNil))
/-- rows in echelon form, with what is before the pivots -/
structure Row (n B : Nat) (x : Vc × Nat) : Prop where
  l : x.1.length = n
  s : Small B x.1
  p : prim x.1 = x.1
  pos : 0 < av x.1 x.2
  bf : ∀ done c rest, order n = done ++ c :: rest → x.2 ∈ rest → av x.1 c = 0
theorem e_loop {n B : Nat} (hn : n ≤ 900) (hB : B ≤ 4100) (x0 x1 : Option PyData) : ∀ (rest done : List Nat) (A Bs : RP) (x3 x5 x6 x7 x8 : Option PyData), order n = done ++ rest → (∀ x ∈ A, Row n B x) → (∀ x ∈ Bs, Row n B x) → ((A ++ Bs).Pairwise fun x y => av x.1 y.2 = 0 ∧ av y.1 x.2 = 0) → (Bs.map (·.2)).Sublist rest → A.length + Bs.length ≤ 900 →
    ∃ (left : List Vc) (y3 y5 y6 y7 y8 : Option PyData), loopF (gN 5) eBody (natsD rest) [x0, x1, some (matD (A.map (fun _ => zeros n) ++ rowsOf Bs)), x3, some (matD (rowsOf A)), x5, x6, x7, x8] = some (.nx [x0, x1, some (matD left), y3, some (matD (rowsOf (A ++ Bs))), y5, y6, y7, y8])
  | [], done, A, Bs, x3, x5, x6, x7, x8, ho, hA, hBs, P, S, hl => by
    have : Bs = [] := by
      have := List.sublist_nil.mp S
      simpa using this
    subst this
    exact ⟨_, x3, x5, x6, x7, x8, by rw [List.append_nil]; rfl⟩
  | c :: rest, done, A, Bs, x3, x5, x6, x7, x8, ho, hA, hBs, P, S, hl => by
    have hc : c < n := order_lt (by rw [ho]; exact List.mem_append_right _ (List.mem_cons_self ..))
    have hleft : ∀ v ∈ A.map (fun _ => zeros n) ++ rowsOf Bs, v.length = n ∧ Small 4100 v := fun v hv => by
      rcases List.mem_append.mp hv with hv | hv
      · obtain ⟨_, _, rfl⟩ := List.mem_map.mp hv
        exact ⟨zeros_length, zeros_small⟩
      · obtain ⟨x, hx, rfl⟩ := List.mem_map.mp hv
        exact ⟨(hBs x hx).l, (hBs x hx).s.up hB⟩
    have ll : (A.map (fun _ => zeros n) ++ rowsOf Bs).length ≤ 900 := by
      unfold rowsOf
      rw [List.length_append, List.length_map, List.length_map]
      exact hl
    -- the candidates
    have hch : ∀ (left : List Vc), (∀ v ∈ left, v.length = n ∧ Small 4100 v) → left.length ≤ 900 → (fLc (iSeq (fVar 2)) (gN 7) (tV (fBin dNe (fBin dIx (fVar 7) (fVar 5)) (fC (.int 0)))) (fVar 7) [7]) [x0, x1, some (matD left), x3, some (matD (rowsOf A)), some (.int (c : Int)), x6, x7, x8] = some (matD (left.filter fun v => !(av v c == 0))) := fun left hL hl => by
      refine fLc_filter (α := Vc) (h := vecD) (g := vecD) (xs := left) rfl (by omega) fun v hv => ⟨_, rfl, t_nz (ix_v (v := v) rfl rfl (by rw [(hL v hv).1]; exact hc)), fun _ => rfl⟩
    have hzA : (A.map (fun _ => zeros n)).filter (fun v => !(av v c == 0)) = [] := by
      rw [List.filter_eq_nil_iff]
      intro v hv
      obtain ⟨_, _, rfl⟩ := List.mem_map.mp hv
      rw [av_zeros]
      decide
    have hzB : ∀ R : RP, (∀ x ∈ R, av x.1 c = 0) → (rowsOf R).filter (fun v => !(av v c == 0)) = [] := fun R hR => by
      rw [List.filter_eq_nil_iff]
      intro v hv
      obtain ⟨x, hx, rfl⟩ := List.mem_map.mp hv
      rw [hR x hx]
      decide
    have hcand := hch _ hleft ll
    rw [List.filter_append, hzA, List.nil_append] at hcand
    generalize hps : Bs.map (·.2) = ps at S
    cases S with
    | cons _ S =>
      subst hps
      -- no row has its pivot here
      have hz : ∀ x ∈ Bs, av x.1 c = 0 := fun x hx => (hBs x hx).bf done c rest ho (S.subset (List.mem_map.mpr ⟨x, hx, rfl⟩))
      rw [hzB Bs hz] at hcand
      have hb : eBody [x0, x1, some (matD (A.map (fun _ => zeros n) ++ rowsOf Bs)), x3, some (matD (rowsOf A)), some (.int (c : Int)), x6, x7, x8] = some (.nx [x0, x1, some (matD (A.map (fun _ => zeros n) ++ rowsOf Bs)), x3, some (matD (rowsOf A)), some (.int (c : Int)), some (matD []), x7, x8]) := seq_nx (asg_nx hcand) (seq_nx ((if_f rfl).trans rfl) rfl)
      obtain ⟨left, y3, y5, y6, y7, y8, e⟩ := e_loop hn hB x0 x1 rest (done ++ [c]) A Bs x3 (some (.int (c : Int))) (some (matD [])) x7 x8 (by rw [ho, List.append_assoc]; rfl) hA hBs P S hl
      refine ⟨left, y3, y5, y6, y7, y8, ?_⟩
      show Option.bind (some [x0, x1, some (matD (A.map (fun _ => zeros n) ++ rowsOf Bs)), x3, some (matD (rowsOf A)), some (.int (c : Int)), x6, x7, x8]) _ = _
      rw [Option.bind_some, hb, Option.bind_some]
      exact e
    | cons_cons _ S =>
      rename_i ps
      obtain ⟨r, Bs, rfl, rfl⟩ : ∃ (r : Vc) (Bs' : RP), Bs = (r, c) :: Bs' ∧ ps = Bs'.map (·.2) := by
        cases Bs with
        | nil => cases hps
        | cons x Bs =>
          rw [List.map_cons] at hps
          obtain ⟨h1, h2⟩ := List.cons.inj hps
          exact ⟨x.1, Bs, by rw [← h1], h2.symm⟩
      have hr : Row n B (r, c) := hBs _ (List.mem_cons_self ..)
      have rl : r.length = n := hr.l
      have rs : Small 4100 r := hr.s.up hB
      have rp : 0 < av r c := hr.pos
      rw [List.pairwise_append] at P
      obtain ⟨PA, PB, PAB⟩ := P
      have PB' := List.pairwise_cons.mp PB
      have hz : ∀ x ∈ Bs, av x.1 c = 0 := fun x hx => (PB'.1 x hx).2
      have hzA2 : ∀ x ∈ A, av x.1 c = 0 := fun x hx => (PAB x hx (r, c) (List.mem_cons_self ..)).1
      have hc2 : (rowsOf ((r, c) :: Bs)).filter (fun v => !(av v c == 0)) = [r] := by
        show (r :: rowsOf Bs).filter _ = [r]
        rw [List.filter_cons_of_pos (by simp; omega), hzB Bs hz]
      rw [hc2] at hcand
      have m1 : (A.map (fun _ => zeros n) ++ rowsOf ((r, c) :: Bs)).map (clr c r) = (A ++ [(r, c)]).map (fun _ => zeros n) ++ rowsOf Bs := by
        show (A.map (fun _ => zeros n) ++ r :: rowsOf Bs).map (clr c r) = _
        rw [List.map_append, List.map_cons, clr_self rl, List.map_map, List.map_append, List.append_assoc]
        congr 1
        · exact List.map_congr_left fun x _ => clr_zeros
        · show zeros n :: (rowsOf Bs).map (clr c r) = zeros n :: rowsOf Bs
          congr 1
          unfold rowsOf
          rw [List.map_map]
          exact List.map_congr_left fun x hx => clr_other (hz x hx) (hBs x (List.mem_cons_of_mem _ hx)).p rp
      have m2 : (rowsOf A).map (clr c r) ++ [r] = rowsOf (A ++ [(r, c)]) := by
        unfold rowsOf
        rw [List.map_append, List.map_map]
        congr 1
        exact List.map_congr_left fun x hx => clr_other (hzA2 x hx) (hA x hx).p rp
      have hA2 : ∀ v ∈ rowsOf A, v.length = n ∧ Small 4100 v := fun v hv => by
        obtain ⟨x, hx, rfl⟩ := List.mem_map.mp hv
        exact ⟨(hA x hx).l, (hA x hx).s.up hB⟩
      have la : (rowsOf A).length ≤ 900 := by
        unfold rowsOf
        rw [List.length_map]
        omega
      generalize hLeft : A.map (fun _ => zeros n) ++ rowsOf ((r, c) :: Bs) = left at hleft ll hcand m1
      have t1 : (fLc (iSeq (fVar 2)) (gN 7) tYesF (fFn R_cleared (fConsA (fVar 7) (fConsA (fVar 3) (fConsA (fVar 5) fNilA)))) [7]) [x0, x1, some (matD left), some (vecD r), some (matD (rowsOf A)), some (.int (c : Int)), some (matD [r]), x7, x8] = some (matD ((A ++ [(r, c)]).map (fun _ => zeros n) ++ rowsOf Bs)) := by
        rw [← m1]
        exact mat_map rfl (by omega) fun v hv => fnn3 rfl rfl rfl (R_clear (hleft v hv).2 rs ((hleft v hv).1.trans rl.symm) (by rw [(hleft v hv).1]; omega) (by rw [(hleft v hv).1]; exact hc))
      have t2 : (fBin dCat (fLc (iSeq (fVar 4)) (gN 7) tYesF (fFn R_cleared (fConsA (fVar 7) (fConsA (fVar 3) (fConsA (fVar 5) fNilA)))) [7]) (fFn dList (fConsA (fVar 3) fNilA))) [x0, x1, some (matD ((A ++ [(r, c)]).map (fun _ => zeros n) ++ rowsOf Bs)), some (vecD r), some (matD (rowsOf A)), some (.int (c : Int)), some (matD [r]), x7, x8] = some (matD (rowsOf (A ++ [(r, c)]))) := by
        rw [← m2]
        exact (fBin_eq (x := matD ((rowsOf A).map (clr c r))) (y := matD [r]) (mat_map rfl (by omega) fun v hv => fnn3 rfl rfl rfl (R_clear (hA2 v hv).2 rs ((hA2 v hv).1.trans rl.symm) (by rw [(hA2 v hv).1]; omega) (by rw [(hA2 v hv).1]; exact hc))) rfl).trans (matD_cat (by rw [List.length_map, List.length_singleton]; omega))
      have hb : eBody [x0, x1, some (matD left), x3, some (matD (rowsOf A)), some (.int (c : Int)), x6, x7, x8] = some (.nx [x0, x1, some (matD ((A ++ [(r, c)]).map (fun _ => zeros n) ++ rowsOf Bs)), some (vecD r), some (matD (rowsOf (A ++ [(r, c)]))), some (.int (c : Int)), some (matD [r]), x7, x8]) := by
        refine seq_nx (asg_nx hcand) (seq_nx ((if_t rfl).trans ?_) rfl)
        refine seq_nx (ρ' := [x0, x1, some (matD left), some (vecD r), some (matD (rowsOf A)), some (.int (c : Int)), some (matD [r]), x7, x8]) (asg_nx ((fBin_eq (x := matD [r]) (y := .int ((0 : Nat) : Int)) rfl rfl).trans (matD_ix rfl))) ?_
        refine seq_nx (ρ' := [x0, x1, some (matD left), some (vecD r), some (matD (rowsOf A)), some (.int (c : Int)), some (matD [r]), x7, x8]) ((if_f (tV_b ((fBin_eq (ix_v (v := r) rfl rfl (by omega)) rfl).trans ((dLt_i ..).trans (by rw [decide_eq_false (by omega)]))))).trans rfl) ?_
        refine seq_nx (ρ' := [x0, x1, some (matD ((A ++ [(r, c)]).map (fun _ => zeros n) ++ rowsOf Bs)), some (vecD r), some (matD (rowsOf A)), some (.int (c : Int)), some (matD [r]), x7, x8]) (asg_nx t1) ?_
        exact seq_nx (asg_nx t2) rfl
      obtain ⟨left', y3, y5, y6, y7, y8, e⟩ := e_loop hn hB x0 x1 rest (done ++ [c]) (A ++ [(r, c)]) Bs (some (vecD r)) (some (.int (c : Int))) (some (matD [r])) x7 x8 (by rw [ho, List.append_assoc]; rfl) (fun x hx => by
        rcases List.mem_append.mp hx with hx | hx
        · exact hA x hx
        · rw [List.mem_singleton.mp hx]
          exact hr) (fun x hx => hBs x (List.mem_cons_of_mem _ hx)) (by
        rw [List.append_assoc]
        exact List.pairwise_append.mpr ⟨PA, PB, PAB⟩) S (by
        rw [List.length_append, List.length_singleton]
        rw [List.length_cons] at hl
        omega)
      rw [List.append_assoc] at e
      refine ⟨left', y3, y5, y6, y7, y8, ?_⟩
      show Option.bind (some [x0, x1, some (matD left), x3, some (matD (rowsOf A)), some (.int (c : Int)), x6, x7, x8]) _ = _
      rw [Option.bind_some, hb, Option.bind_some]
      exact e
end Law
set_option Elab.async false
set_option linter.all false
set_option maxRecDepth 100000
set_option maxHeartbeats 2000000
set_option exponentiation.threshold 9000
namespace Law
open PySem PySem.Spec L2 DL
open PyProof.Rows hiding St
theorem order_nodup (n : Nat) : (order n).Nodup := by
  cases n with
  | zero => exact List.nodup_nil
  | succ n =>
    unfold order
    rw [List.nodup_append]
    refine ⟨?_, by simp, fun a ha b hb => ?_⟩
    · refine List.Pairwise.map _ (fun a b h => ?_) (List.nodup_range (n := n))
      show 1 + a ≠ 1 + b
      omega
    · obtain ⟨i, _, rfl⟩ := List.mem_map.mp ha
      rw [List.mem_singleton.mp hb]
      omega
theorem order_length (n : Nat) : (order n).length = n := by
  cases n with
  | zero => rfl
  | succ n =>
    unfold order
    rw [List.length_append, List.length_map, List.length_range, List.length_singleton]
theorem LInv.row {n b : Nat} {left : List Vc} {rs : RP} (x : LInv n b (order n) left rs) : ∀ y ∈ rs, Row n b y := fun y hy => by
  obtain ⟨h1, h2, h3, h4, h5, pre, post, e, h6⟩ := x.R y hy
  exact ⟨h1, h2, h3, h4, fun done c rest ho hp => (h6 c (before_of (order_nodup n) e ho hp)).1⟩
theorem LInv.good {n b : Nat} {left : List Vc} {rs : RP} (x : LInv n b (order n) left rs) : Good n b rs := fun y hy => by
  obtain ⟨h1, h2, h3, h4, h5, pre, post, e, h6⟩ := x.R y hy
  exact ⟨h1, h2, by omega, pre, post, by rw [h1]; exact e, fun c hc => (h6 c hc).1⟩
theorem LInv.ef {n b : Nat} {left : List Vc} {rs : RP} (x : LInv n b (order n) left rs) : Ef n rs := ef_of (fun y hy => by
  obtain ⟨h1, h2, h3, h4, h5, _⟩ := x.R y hy
  exact ⟨h1, order_lt h5, h4⟩) x.P
theorem cut_nx {i : Nat} {f : F} {G : FS} {ρ ρ' : Rho} {d : PyData} {o : Option Out} (h : f ρ = some d) (h2 : (cutR ρ).set i (some d) = ρ') (h3 : G ρ' = o) : sCut i f G ρ = o := by
  unfold sCut
  rw [h, Option.bind_some, h2]
  exact h3
theorem R_ech {n B : Nat} (hn : n ≤ 900) (hB : B ≤ 4100) (hB0 : 0 < B) {rs : RP} (hr : ∀ x ∈ rs, Row n B x) (P : rs.Pairwise fun x y => av x.1 y.2 = 0 ∧ av y.1 x.2 = 0) (S : (rs.map (·.2)).Sublist (order n)) : R_echelon [matD (rowsOf rs)] = some (matD (rowsOf rs)) := by
  have ls : rs.length ≤ n := by
    have := S.length_le
    rw [List.length_map, order_length] at this
    exact this
  have lr : (rowsOf rs).length ≤ 900 := by
    unfold rowsOf
    rw [List.length_map]
    omega
  have tl : ∀ x1 : Option PyData, F2_echelon [some (matD (rowsOf rs)), x1, none, none, none, none, none, none, none] = some (matD (rowsOf rs)) := fun x1 => by
    have e : (rowsOf rs).map prim = rowsOf rs := by
      unfold rowsOf
      rw [List.map_map]
      exact List.map_congr_left fun x hx => (hr x hx).p
    conv => rhs; rw [← e]
    unfold F2_echelon
    refine mat_map rfl (by omega) fun v hv => ?_
    obtain ⟨x, hx, rfl⟩ := List.mem_map.mp hv
    exact scalL_v (fn1 rfl (R_prim (n := B) (by omega) hB0 (hr x hx).s (by rw [(hr x hx).l]; omega)))
  unfold R_echelon B1_echelon B3_echelon
  cases rs with
  | nil =>
    refine runF_rt (seq_nx (asg_nx (d := .int ((0 : Nat) : Int)) rfl) (cut_nx (tl _) (ρ' := [none, some (.int ((0 : Nat) : Int)), some (matD []), none, none, none, none, none, none]) rfl (seq_nx (asg_nx (d := .list []) rfl) (seq_nx ((for_eq (ds := natsD (order 0)) ?_).trans rfl) (ret_rt rfl)))))
    unfold iSeq
    rw [fn1 (x := .int ((0 : Nat) : Int)) rfl (R_order (n := 0) (by omega))] <;> rfl
  | cons x rs =>
    have hx : x.1.length = n := (hr x (List.mem_cons_self ..)).l
    have ts : fIf (tTr (fVar 0)) (fFn (g1 dLen) (fConsA (fBin dIx (fVar 0) (fC (.int 0))) fNilA)) (fC (.int 0)) [some (matD (rowsOf (x :: rs))), none, none, none, none, none, none, none, none] = some (.int (n : Int)) := by
      unfold fIf
      rw [show tTr (fVar 0) [some (matD (rowsOf (x :: rs))), none, none, none, none, none, none, none, none] = some true from rfl, Option.bind_some, if_pos rfl]
      rw [fn1 (x := vecD x.1) ((fBin_eq (x := matD (rowsOf (x :: rs))) (y := .int ((0 : Nat) : Int)) rfl rfl).trans (matD_ix rfl)) (dLen_v x.1), hx]
    obtain ⟨left, y3, y5, y6, y7, y8, e⟩ := e_loop hn hB none (some (.int (n : Int))) (order n) [] [] (x :: rs) none none none none none rfl (fun _ h => absurd h (List.not_mem_nil)) hr P S (by rw [List.length_nil]; omega)
    refine runF_rt (seq_nx (asg_nx ts) (cut_nx (tl _) (ρ' := [none, some (.int (n : Int)), some (matD (rowsOf (x :: rs))), none, none, none, none, none, none]) rfl (seq_nx (asg_nx (d := .list []) rfl) (seq_nx ((for_eq (ds := natsD (order n)) ?_).trans e) (ret_rt rfl)))))
    unfold iSeq
    rw [fn1 (x := .int (n : Int)) rfl (R_order (n := n) (by omega))] <;> rfl
/-! ### texts and comparisons of lists of vectors -/
theorem plain_mat {k : Nat} {m : List Vc} (h : ∀ v ∈ m, ∀ x ∈ v, x.natAbs < 10 ^ k) : plainAll k (m.map vecD) = true := by
  induction m with
  | nil => rfl
  | cons v m ih =>
    rw [List.map_cons]
    unfold plainAll
    rw [ih fun u hu => h u (List.mem_cons_of_mem _ hu)]
    unfold vecD plainB
    rw [plain_ints (h v (List.mem_cons_self ..))] <;> rfl
theorem nodes_mat {n : Nat} {m : List Vc} (h : ∀ v ∈ m, v.length = n) : nodesAll (m.map vecD) = m.length * (1 + n) := by
  induction m with
  | nil => simp [nodesAll]
  | cons v m ih =>
    rw [List.map_cons, List.length_cons, Nat.add_mul, Nat.one_mul]
    unfold nodesAll
    rw [ih fun u hu => h u (List.mem_cons_of_mem _ hu)]
    unfold vecD nodesD
    rw [nodes_ints, h v (List.mem_cons_self ..)]
    omega
theorem depth_mat (m : List Vc) : PyData.depthAll (m.map vecD) ≤ 2 := by
  induction m with
  | nil => simp [PyData.depthAll]
  | cons v m ih =>
    have := depth_ints_all v
    simp only [List.map_cons, PyData.depthAll, vecD, PyData.depth] at *
    omega
theorem eqv_mat (m : List Vc) : PyData.eqvAll (m.map vecD) (m.map vecD) = true := by
  induction m with
  | nil => simp [PyData.eqvAll]
  | cons v m ih =>
    rw [List.map_cons]
    simp only [PyData.eqvAll, ih, eqv_ints, decide_true, Bool.and_self]
theorem ne_m {f g : F} {ρ : Rho} {m : List Vc} {k : Nat} (hm : ∀ v ∈ m, ∀ x ∈ v, x.natAbs < 10 ^ k) (h : f ρ = some (matD m)) (h2 : g ρ = some (matD m)) : fBin dNe f g ρ = some (.bool false) := by
  have hp : plainB k (matD m) = true := by
    unfold matD plainB
    exact plain_mat hm
  have hd : (matD m).depth ≤ 60 := by
    have := depth_mat m
    simp only [matD, PyData.depth]
    omega
  rw [fBin_eq h h2, dNe_p hp hd hp hd]
  have : PyData.eqv (matD m) (matD m) = true := by
    simp only [matD, PyData.eqv]
    exact eqv_mat m
  rw [this] <;> rfl
theorem reprM {m : List Vc} {v : Vc} {n : Nat} (hm : ∀ u ∈ m, u.length = n ∧ Small 704 u) (hv : Small 704 v) (hl : v.length = n) (hn : n ≤ 5) (lm : m.length ≤ 900) : ∃ s, dRepr (.list [matD m, vecD v]) = some (.str s) ∧ PyData.strOk s = true := by
  have hk : 2 ^ 704 ≤ 10 ^ 240 := by decide
  refine repr_plain (k := 240) (by omega) (by omega) ?_ ?_ ?_
  · have p1 : plainB 240 (matD m) = true := by
      unfold matD plainB
      exact plain_mat fun u hu x hx => Nat.lt_of_lt_of_le ((hm u hu).2 x hx) hk
    have p2 : plainB 240 (vecD v) = true := by
      unfold vecD plainB
      exact plain_ints fun x hx => Nat.lt_of_lt_of_le (hv x hx) hk
    unfold plainB plainAll plainAll plainAll
    rw [p1, p2] <;> rfl
  · have h1 := depth_mat m
    have h2 := depth_ints_all v
    simp only [PyData.depth, PyData.depthAll, matD, vecD] at *
    omega
  · have p1 : nodesD (matD m) = 1 + m.length * (1 + n) := by
      unfold matD nodesD
      rw [nodes_mat (n := n) (fun u hu => (hm u hu).1)]
    have p2 : nodesD (vecD v) = 1 + n := by
      unfold vecD nodesD
      rw [nodes_ints, hl]
    unfold nodesD nodesAll nodesAll nodesAll
    rw [p1, p2]
    have : m.length * (1 + n) ≤ 900 * 6 := Nat.mul_le_mul lm (by omega)
    omega
end Law
set_option Elab.async false
set_option linter.all false
set_option maxRecDepth 100000
set_option maxHeartbeats 2000000
set_option exponentiation.threshold 9000
namespace Law
open PySem PySem.Spec L2 DL
open PyProof.Rows hiding St
/-! ### the program's echelon on any rows -/
theorem p_step {n : Nat} (hn : n ≤ 1000) {left found : List Vc} {c : Nat} (hc : c < n) (hL : ∀ v ∈ left, v.length = n ∧ Small 4100 v) (hF : ∀ v ∈ found, v.length = n ∧ Small 4100 v) (ll : left.length ≤ 1000) (lf : found.length ≤ 1000) (x0 x1 x3 x6 x7 x8 : Option PyData) :
    ∃ (left' found' : List Vc) (y3 y6 : Option PyData), eBody [x0, x1, some (matD left), x3, some (matD found), some (.int (c : Int)), x6, x7, x8] = some (.nx [x0, x1, some (matD left'), y3, some (matD found'), some (.int (c : Int)), y6, x7, x8]) ∧
      ((left' = left ∧ found' = found ∧ ∀ v ∈ left, av v c = 0) ∨ ∃ (r0 r : Vc), r0 ∈ left ∧ (r = r0 ∨ r = sc (-1) r0) ∧ 0 < av r c ∧ left' = left.map (clr c r) ∧ found' = found.map (clr c r) ++ [r]) := by
  have hcand : (fLc (iSeq (fVar 2)) (gN 7) (tV (fBin dNe (fBin dIx (fVar 7) (fVar 5)) (fC (.int 0)))) (fVar 7) [7]) [x0, x1, some (matD left), x3, some (matD found), some (.int (c : Int)), x6, x7, x8] = some (matD (left.filter fun v => !(av v c == 0))) :=
    fLc_filter (α := Vc) (h := vecD) (g := vecD) (xs := left) rfl (by omega) fun v hv => ⟨_, rfl, t_nz (ix_v (v := v) rfl rfl (by rw [(hL v hv).1]; exact hc)), fun _ => rfl⟩
  cases hcs : left.filter fun v => !(av v c == 0) with
  | nil =>
    rw [hcs] at hcand
    refine ⟨left, found, x3, some (matD []), seq_nx (asg_nx hcand) (seq_nx ((if_f rfl).trans rfl) rfl), .inl ⟨rfl, rfl, fun v hv => ?_⟩⟩
    have := (List.filter_eq_nil_iff.mp hcs) v hv
    simpa using this
  | cons r0 ks =>
    have hm : r0 ∈ left.filter fun v => !(av v c == 0) := by
      rw [hcs]
      exact List.mem_cons_self ..
    obtain ⟨hr0, hnz⟩ := List.mem_filter.mp hm
    have hnz : av r0 c ≠ 0 := by simpa using hnz
    rw [hcs] at hcand
    clear hcs hm
    obtain ⟨l0, s0⟩ := hL r0 hr0
    obtain ⟨r, hr, hp, lr, sr, t1⟩ : ∃ r : Vc, (r = r0 ∨ r = sc (-1) r0) ∧ 0 < av r c ∧ r.length = n ∧ Small 4100 r ∧ (sIf (tV (fBin dLt (fBin dIx (fVar 3) (fVar 5)) (fC (.int 0)))) (sSeq (sAsg 3 (fLc (iSeq (fVar 3)) (gN 8) tYesF (fUn dNeg (fVar 8)) [8])) sNil) sNil) [x0, x1, some (matD left), some (vecD r0), some (matD found), some (.int (c : Int)), some (matD (r0 :: ks)), x7, x8] = some (.nx [x0, x1, some (matD left), some (vecD r), some (matD found), some (.int (c : Int)), some (matD (r0 :: ks)), x7, x8]) := by
      have q : tV (fBin dLt (fBin dIx (fVar 3) (fVar 5)) (fC (.int 0))) [x0, x1, some (matD left), some (vecD r0), some (matD found), some (.int (c : Int)), some (matD (r0 :: ks)), x7, x8] = some (decide (av r0 c < 0)) := tV_b ((fBin_eq (ix_v (v := r0) rfl rfl (by omega)) rfl).trans (dLt_i ..))
      by_cases h : av r0 c < 0
      · refine ⟨sc (-1) r0, .inr rfl, by rw [av_sc]; omega, by rw [sc_length]; exact l0, fun x hx => ?_, (if_t (q.trans (by rw [decide_eq_true h]))).trans (seq_nx (asg_nx (d := vecD (sc (-1) r0)) ?_) rfl)⟩
        · obtain ⟨y, hy, rfl⟩ := List.mem_map.mp hx
          rw [Int.neg_one_mul, Int.natAbs_neg]
          exact s0 y hy
        · unfold vecD sc
          rw [List.map_map]
          refine fLc_map (α := Int) (h := .int) (xs := r0) rfl (by omega) fun x hx => ⟨[x0, x1, some (matD left), some (vecD r0), some (matD found), some (.int (c : Int)), some (matD (r0 :: ks)), x7, some (.int x)], rfl, rfl, ?_⟩
          rw [neg_ok (a := x) rfl]
          show some (PyData.int (-x)) = some (PyData.int (-1 * x))
          rw [Int.neg_one_mul]
      · exact ⟨r0, .inl rfl, by omega, l0, s0, (if_f (q.trans (by rw [decide_eq_false h]))).trans rfl⟩
    have t2 : (fLc (iSeq (fVar 2)) (gN 7) tYesF (fFn R_cleared (fConsA (fVar 7) (fConsA (fVar 3) (fConsA (fVar 5) fNilA)))) [7]) [x0, x1, some (matD left), some (vecD r), some (matD found), some (.int (c : Int)), some (matD (r0 :: ks)), x7, x8] = some (matD (left.map (clr c r))) :=
      mat_map rfl (by omega) fun v hv => fnn3 rfl rfl rfl (R_clear (hL v hv).2 sr ((hL v hv).1.trans lr.symm) (by rw [(hL v hv).1]; omega) (by rw [(hL v hv).1]; exact hc))
    have t3 : (fBin dCat (fLc (iSeq (fVar 4)) (gN 7) tYesF (fFn R_cleared (fConsA (fVar 7) (fConsA (fVar 3) (fConsA (fVar 5) fNilA)))) [7]) (fFn dList (fConsA (fVar 3) fNilA))) [x0, x1, some (matD (left.map (clr c r))), some (vecD r), some (matD found), some (.int (c : Int)), some (matD (r0 :: ks)), x7, x8] = some (matD (found.map (clr c r) ++ [r])) :=
      (fBin_eq (x := matD (found.map (clr c r))) (y := matD [r]) (mat_map rfl (by omega) fun v hv => fnn3 rfl rfl rfl (R_clear (hF v hv).2 sr ((hF v hv).1.trans lr.symm) (by rw [(hF v hv).1]; omega) (by rw [(hF v hv).1]; exact hc))) rfl).trans (matD_cat (by rw [List.length_map, List.length_singleton]; omega))
    refine ⟨left.map (clr c r), found.map (clr c r) ++ [r], some (vecD r), some (matD (r0 :: ks)), ?_, .inr ⟨r0, r, hr0, hr, hp, rfl, rfl⟩⟩
    refine seq_nx (asg_nx hcand) (seq_nx ((if_t rfl).trans ?_) rfl)
    refine seq_nx (ρ' := [x0, x1, some (matD left), some (vecD r0), some (matD found), some (.int (c : Int)), some (matD (r0 :: ks)), x7, x8]) (asg_nx ((fBin_eq (x := matD (r0 :: ks)) (y := .int ((0 : Nat) : Int)) rfl rfl).trans (matD_ix rfl))) ?_
    refine seq_nx t1 ?_
    refine seq_nx (ρ' := [x0, x1, some (matD (left.map (clr c r))), some (vecD r), some (matD found), some (.int (c : Int)), some (matD (r0 :: ks)), x7, x8]) (asg_nx t2) ?_
    exact seq_nx (asg_nx t3) rfl
theorem p_loop {n : Nat} {rows : List Vc} (hn : n ≤ 900) (x0 x1 x7 x8 : Option PyData) : ∀ (rest done : List Nat) (left : List Vc) (rs : RP) (b : Nat) (x3 x5 x6 : Option PyData), order n = done ++ rest → LInv n b done left rs → SI n rows left (rowsOf rs) → left.length ≤ 1000 → done.length + rest.length ≤ 900 → (b + 1) * 2 ^ rest.length ≤ 4100 →
    ∃ (left' : List Vc) (rs' : RP) (y3 y5 y6 : Option PyData), loopF (gN 5) eBody (natsD rest) [x0, x1, some (matD left), x3, some (matD (rowsOf rs)), x5, x6, x7, x8] = some (.nx [x0, x1, some (matD left'), y3, some (matD (rowsOf rs')), y5, y6, x7, x8]) ∧ LInv n ((b + 1) * 2 ^ rest.length) (done ++ rest) left' rs' ∧ SI n rows left' (rowsOf rs')
  | [], done, left, rs, b, x3, x5, x6, ho, x, si, ll, ld, hb => ⟨left, rs, x3, x5, x6, rfl, by
      rw [List.append_nil, List.length_nil, Nat.pow_zero, Nat.mul_one]
      exact ⟨fun v hv => let ⟨h1, h2, h3⟩ := x.L v hv; ⟨h1, h2.up (by omega), h3⟩, fun y hy => let ⟨h1, h2, h3⟩ := x.R y hy; ⟨h1, h2.up (by omega), h3⟩, x.P, x.S⟩, si⟩
  | c :: rest, done, left, rs, b, x3, x5, x6, ho, x, si, ll, ld, hb => by
    have hpos : 1 ≤ 2 ^ rest.length := Nat.one_le_two_pow
    have e2 : (b + 1) * 2 ^ (c :: rest).length = (2 * b + 1 + 1) * 2 ^ rest.length := by
      rw [List.length_cons, Nat.pow_succ, Nat.mul_comm (2 ^ rest.length) 2, ← Nat.mul_assoc]
      congr 1
      omega
    rw [e2] at hb
    have hb2 : 2 * b + 1 + 1 ≤ 4100 := Nat.le_trans (Nat.le_mul_of_pos_right _ hpos) hb
    have hc : c < n := order_lt (by rw [ho]; exact List.mem_append_right _ (List.mem_cons_self ..))
    have lrs : (rowsOf rs).length ≤ 1000 := by
      have := x.S.length_le
      rw [List.length_map] at this
      rw [rowsOf, List.length_map]
      rw [List.length_cons] at ld
      omega
    have hLf : ∀ v ∈ rowsOf rs, v.length = n := fun v hv => by
      obtain ⟨y, hy, rfl⟩ := List.mem_map.mp hv
      exact (x.R y hy).1
    obtain ⟨left', found', y3, y6, e, h⟩ := p_step (n := n) (by omega) (left := left) (found := rowsOf rs) (c := c) hc (fun v hv => ⟨(x.L v hv).1, (x.L v hv).2.1.up (by omega)⟩) (fun v hv => by
      obtain ⟨y, hy, rfl⟩ := List.mem_map.mp hv
      exact ⟨(x.R y hy).1, (x.R y hy).2.1.up (by omega)⟩) ll lrs x0 x1 x3 x6 x7 x8
    obtain ⟨rs', hf', x', ll', si'⟩ : ∃ rs' : RP, found' = rowsOf rs' ∧ LInv n (2 * b + 1) (done ++ [c]) left' rs' ∧ left'.length ≤ 1000 ∧ SI n rows left' (rowsOf rs') := by
      rcases h with ⟨rfl, rfl, hz⟩ | ⟨r0, r, m1, m4, m5, rfl, rfl⟩
      · exact ⟨rs, rfl, linv_same x hz, ll, si⟩
      · refine ⟨rs.map (fun y => (clr c r y.1, y.2)) ++ [(r, c)], ?_, linv_step x ho m1 (fun _ h => h) m4 m5, by rw [List.length_map]; omega, ?_⟩
        · unfold rowsOf
          rw [List.map_append, List.map_map, List.map_map] <;> rfl
        · have q := si_step si (fun v hv => (x.L v hv).1) hLf m1 (fun _ h => h) (fun _ h => .inr h) m4 m5
          unfold rowsOf at q ⊢
          rw [List.map_append, List.map_map]
          rw [List.map_map] at q
          exact q
    subst hf'
    obtain ⟨left2, rs2, z3, z5, z6, e', x2, si2⟩ := p_loop hn x0 x1 x7 x8 rest (done ++ [c]) left' rs' (2 * b + 1) y3 (some (.int (c : Int))) y6 (by rw [ho, List.append_assoc]; rfl) x' si' ll' (by rw [List.length_append, List.length_singleton]; rw [List.length_cons] at ld; omega) hb
    rw [e2]
    rw [List.append_assoc] at x2
    refine ⟨left2, rs2, z3, z5, z6, ?_, x2, si2⟩
    show Option.bind (some [x0, x1, some (matD left), x3, some (matD (rowsOf rs)), some (.int (c : Int)), x6, x7, x8]) _ = _
    rw [Option.bind_some, e, Option.bind_some]
    exact e'
theorem R_pech {n b : Nat} (hn : n ≤ 900) (hn0 : 0 < n) {rows : List Vc} (h : ∀ v ∈ rows, v.length = n ∧ Small b v) (hb0 : 0 < b) (hl : rows.length ≤ 900) (hb : (b + 1) * 2 ^ n ≤ 4100) : ∃ (left : List Vc) (rs : RP), R_echelon [matD rows] = some (matD (rowsOf rs)) ∧ LInv n ((b + 1) * 2 ^ n) (order n) left rs ∧ SI n rows left (rowsOf rs) := by
  have hpos : 1 ≤ 2 ^ n := Nat.one_le_two_pow
  have hb1 : b + 1 ≤ 4100 := Nat.le_trans (Nat.le_mul_of_pos_right _ hpos) hb
  have lo : (order n).length = n := order_length n
  have tl : ∀ x1 : Option PyData, F2_echelon [some (matD rows), x1, none, none, none, none, none, none, none] = some (matD (rows.map prim)) := fun x1 => by
    unfold F2_echelon
    exact mat_map rfl (by omega) fun v hv => scalL_v (fn1 rfl (R_prim (n := b) (by omega) hb0 (h v hv).2 (by rw [(h v hv).1]; omega)))
  unfold R_echelon B1_echelon B3_echelon
  cases rows with
  | nil =>
    refine ⟨[], [], runF_rt (seq_nx (asg_nx (d := .int ((0 : Nat) : Int)) rfl) (cut_nx (tl _) (ρ' := [none, some (.int ((0 : Nat) : Int)), some (matD []), none, none, none, none, none, none]) rfl (seq_nx (asg_nx (d := .list []) rfl) (seq_nx ((for_eq (ds := natsD (order 0)) ?_).trans rfl) (ret_rt rfl))))), ⟨(fun _ hv => nomatch hv), (fun _ hv => nomatch hv), List.Pairwise.nil, List.nil_sublist _⟩, (fun _ hv => nomatch hv), (fun _ hv => nomatch hv)⟩
    unfold iSeq
    rw [fn1 (x := .int ((0 : Nat) : Int)) rfl (R_order (n := 0) (by omega))] <;> rfl
  | cons v0 vs =>
    have hv0 : v0.length = n := (h v0 (List.mem_cons_self ..)).1
    have ts : fIf (tTr (fVar 0)) (fFn (g1 dLen) (fConsA (fBin dIx (fVar 0) (fC (.int 0))) fNilA)) (fC (.int 0)) [some (matD (v0 :: vs)), none, none, none, none, none, none, none, none] = some (.int (n : Int)) := by
      unfold fIf
      rw [show tTr (fVar 0) [some (matD (v0 :: vs)), none, none, none, none, none, none, none, none] = some true from rfl, Option.bind_some, if_pos rfl]
      rw [fn1 (x := vecD v0) ((fBin_eq (x := matD (v0 :: vs)) (y := .int ((0 : Nat) : Int)) rfl rfl).trans (matD_ix rfl)) (dLen_v v0), hv0]
    have x0 : LInv n b [] ((v0 :: vs).map prim) [] := ⟨fun v hv => by
      obtain ⟨u, hu, rfl⟩ := List.mem_map.mp hv
      exact ⟨by rw [prim_length, (h u hu).1], prim_small (h u hu).2, prim_prim _, (fun _ hc => nomatch hc)⟩, (fun _ hv => nomatch hv), List.Pairwise.nil, List.nil_sublist _⟩
    obtain ⟨left', rs', y3, y5, y6, e, x', si'⟩ := p_loop (n := n) (rows := v0 :: vs) hn none (some (.int (n : Int))) none none (order n) [] ((v0 :: vs).map prim) [] b none none none rfl x0 (si_start fun v hv => (h v hv).1) (by rw [List.length_map]; omega) (by rw [lo, List.length_nil]; omega) (by rw [lo]; exact hb)
    rw [lo] at x'
    refine ⟨left', rs', runF_rt (seq_nx (asg_nx ts) (cut_nx (tl _) (ρ' := [none, some (.int (n : Int)), some (matD ((v0 :: vs).map prim)), none, none, none, none, none, none]) rfl (seq_nx (asg_nx (d := .list []) rfl) (seq_nx ((for_eq (ds := natsD (order n)) ?_).trans e) (ret_rt rfl))))), x', si'⟩
    unfold iSeq
    rw [fn1 (x := .int (n : Int)) rfl (R_order (n := n) (by omega))] <;> rfl
end Law
set_option Elab.async false
set_option linter.all false
set_option maxRecDepth 100000
set_option maxHeartbeats 2000000
set_option exponentiation.threshold 9000
namespace Law
open PySem PySem.Spec L2 DL
open PyProof.Rows hiding St
/-! ### the law's look at an echelon form -/
def rk (n p : Nat) : Nat := if p = 0 then n else p
theorem order_rk (n : Nat) : (order n).Pairwise fun p q => rk n p < rk n q := by
  cases n with
  | zero => exact List.Pairwise.nil
  | succ n =>
    unfold order
    rw [List.pairwise_append]
    refine ⟨?_, List.pairwise_singleton .., fun a ha b hb => ?_⟩
    · rw [List.pairwise_map]
      refine (List.pairwise_lt_range (n := n)).imp fun {a b} h => ?_
      unfold rk
      rw [if_neg (by omega), if_neg (by omega)]
      omega
    · obtain ⟨i, hi, rfl⟩ := List.mem_map.mp ha
      have := List.mem_range.mp hi
      rw [List.mem_singleton.mp hb]
      unfold rk
      rw [if_neg (by omega), if_pos rfl]
      omega
theorem tO_f {a b : FT} {ρ : Rho} {x : Bool} (h : a ρ = some x) (hx : x = false) (h2 : b ρ = some false) : tO a b ρ = some false := tO_ff (by rw [h, hx]) h2
def ieBody : FS := (sSeq (sIf (tO (tN (tV (fUn (isTy "list") (fVar 4)))) (tO (tV (fBin dNe (fFn (g1 dLen) (fConsA (fVar 4) fNilA)) (fVar 1))) (tO (tV (fBin dNe (fVar 4) (fFn R_law_primitive (fConsA (fVar 4) fNilA)))) (tV (fBin dIs (fFn R_law_pivot (fConsA (fVar 4) fNilA)) (fC .none)))))) (sRet (fC (.bool false))) sNil) (sSeq (sAsg 5 (fFn R_law_pivot (fConsA (fVar 4) fNilA))) (sSeq (sAsg 6 (fVar 5)) (sSeq (sIf (tV (fBin dEq (fVar 5) (fC (.int 0)))) (sSeq (sAsg 6 (fVar 1)) sNil) sNil) (sSeq (sIf (tO (tV (fBin dLe (fBin dIx (fVar 4) (fVar 5)) (fC (.int 0)))) (tV (fBin dLe (fVar 6) (fVar 2)))) (sRet (fC (.bool false))) sNil) (sSeq (sAsg 2 (fVar 6)) (sSeq (sApp 3 (fVar 5)) sNil)))))))
theorem app_d {i : Nat} {f : F} {ρ : Rho} {x : PyData} {xs : List PyData} (h : f ρ = some x) (h2 : ρ[i]? = some (some (.list xs))) (hl : xs.length ≤ 90000) : sApp i f ρ = some (.nx (ρ.set i (some (.list (xs ++ [x]))))) := by
  unfold sApp
  rw [h, Option.bind_some, h2]
  exact if_pos (catC_le (by omega))
theorem ie_loop {n B : Nat} (hn : n ≤ 900) (hB : B ≤ 4100) (hB0 : 0 < B) (x0 x7 x8 : Option PyData) : ∀ (rs : RP) (acc : List Nat) (L : Nat) (x4 x5 x6 : Option PyData), (∀ x ∈ rs, x.1.length = n ∧ Small B x.1 ∧ prim x.1 = x.1 ∧ 0 < av x.1 x.2 ∧ IsPiv x.1 x.2) → (rs.Pairwise fun x y => rk n x.2 < rk n y.2) → (∀ x ∈ rs, L < rk n x.2) → acc.length + rs.length ≤ 9000 →
    ∃ (L' : Nat) (y4 y5 y6 : Option PyData), loopF (gN 4) ieBody ((rowsOf rs).map vecD) [x0, some (.int (n : Int)), some (.int (L : Int)), some (.list (natsD acc)), x4, x5, x6, x7, x8] = some (.nx [x0, some (.int (n : Int)), some (.int (L' : Int)), some (.list (natsD (acc ++ rs.map (·.2)))), y4, y5, y6, x7, x8])
  | [], acc, L, x4, x5, x6, _, _, _, _ => ⟨L, x4, x5, x6, by rw [List.map_nil, List.append_nil]; rfl⟩
  | (r, p) :: rs, acc, L, x4, x5, x6, h, P, hL, hl => by
    obtain ⟨h1, h2, h3, h4, h5⟩ : r.length = n ∧ Small B r ∧ prim r = r ∧ 0 < av r p ∧ IsPiv r p := h (r, p) (List.mem_cons_self ..)
    rw [List.pairwise_cons] at P
    have hLp : L < rk n p := hL (r, p) (List.mem_cons_self ..)
    have hp : p < n := by rw [← h1]; exact h5.lt
    have hpv := R_lpiv (v := r) (by omega) h5
    have hpr := R_lprim (n := B) (by omega) hB0 h2 (by omega)
    rw [h3] at hpr
    rw [List.length_cons] at hl
    obtain ⟨L', y4, y5, y6, e⟩ := ie_loop hn hB hB0 x0 x7 x8 rs (acc ++ [p]) (rk n p) (some (vecD r)) (some (.int (p : Int))) (some (.int ((rk n p : Nat) : Int))) (fun x hx => h x (List.mem_cons_of_mem _ hx)) P.2 (fun x hx => P.1 x hx) (by rw [List.length_append, List.length_singleton]; omega)
    refine ⟨L', y4, y5, y6, ?_⟩
    have c1 : (tO (tN (tV (fUn (isTy "list") (fVar 4)))) (tO (tV (fBin dNe (fFn (g1 dLen) (fConsA (fVar 4) fNilA)) (fVar 1))) (tO (tV (fBin dNe (fVar 4) (fFn R_law_primitive (fConsA (fVar 4) fNilA)))) (tV (fBin dIs (fFn R_law_pivot (fConsA (fVar 4) fNilA)) (fC .none)))))) [x0, some (.int (n : Int)), some (.int (L : Int)), some (.list (natsD acc)), some (vecD r), x5, x6, x7, x8] = some false := by
      refine tO_ff rfl (tO_ff (tV_b ?_) (tO_ff (tV_b (ne_v rfl (fn1 rfl hpr))) (tV_b ((fBin_eq (fn1 (x := vecD r) rfl hpv) rfl).trans rfl))))
      exact ne_i (v := (n : Int)) (fn1 (x := vecD r) rfl (by rw [← h1]; exact dLen_v r)) rfl
    have c2 : (tO (tV (fBin dLe (fBin dIx (fVar 4) (fVar 5)) (fC (.int 0)))) (tV (fBin dLe (fVar 6) (fVar 2)))) [x0, some (.int (n : Int)), some (.int (L : Int)), some (.list (natsD acc)), some (vecD r), some (.int (p : Int)), some (.int ((rk n p : Nat) : Int)), x7, x8] = some false := by
      refine tO_ff (tV_b ((fBin_eq (ix_v (v := r) rfl rfl (by omega)) rfl).trans ((dLe_i ..).trans (by rw [decide_eq_false (by omega)])))) (tV_b ((fBin_eq (x := .int ((rk n p : Nat) : Int)) (y := .int (L : Int)) rfl rfl).trans ((dLe_i ..).trans (by rw [decide_eq_false (by omega)]))))
    have hb : ieBody [x0, some (.int (n : Int)), some (.int (L : Int)), some (.list (natsD acc)), some (vecD r), x5, x6, x7, x8] = some (.nx [x0, some (.int (n : Int)), some (.int ((rk n p : Nat) : Int)), some (.list (natsD (acc ++ [p]))), some (vecD r), some (.int (p : Int)), some (.int ((rk n p : Nat) : Int)), x7, x8]) := by
      refine seq_nx ((if_f c1).trans rfl) (seq_nx (ρ' := [x0, some (.int (n : Int)), some (.int (L : Int)), some (.list (natsD acc)), some (vecD r), some (.int (p : Int)), x6, x7, x8]) (asg_nx (fn1 (x := vecD r) rfl hpv)) (seq_nx (ρ' := [x0, some (.int (n : Int)), some (.int (L : Int)), some (.list (natsD acc)), some (vecD r), some (.int (p : Int)), some (.int (p : Int)), x7, x8]) rfl (seq_nx (ρ' := [x0, some (.int (n : Int)), some (.int (L : Int)), some (.list (natsD acc)), some (vecD r), some (.int (p : Int)), some (.int ((rk n p : Nat) : Int)), x7, x8]) ?_ (seq_nx ((if_f c2).trans rfl) (seq_nx (ρ' := [x0, some (.int (n : Int)), some (.int ((rk n p : Nat) : Int)), some (.list (natsD acc)), some (vecD r), some (.int (p : Int)), some (.int ((rk n p : Nat) : Int)), x7, x8]) rfl (seq_nx (app_d (x := .int (p : Int)) (xs := natsD acc) rfl rfl (by unfold natsD; rw [List.length_map]; omega)) ?_))))))
      · have q : tV (fBin dEq (fVar 5) (fC (.int 0))) [x0, some (.int (n : Int)), some (.int (L : Int)), some (.list (natsD acc)), some (vecD r), some (.int (p : Int)), some (.int (p : Int)), x7, x8] = some ((p : Int) == 0) := rfl
        unfold rk
        by_cases hp0 : p = 0
        · rw [if_pos hp0]
          subst hp0
          exact (if_t (q.trans rfl)).trans rfl
        · rw [if_neg hp0]
          exact (if_f (q.trans (by rw [show ((p : Int) == 0) = false by simpa using hp0]))).trans rfl
      · unfold natsD
        rw [List.map_append] <;> rfl
    show Option.bind (some [x0, some (.int (n : Int)), some (.int (L : Int)), some (.list (natsD acc)), some (vecD r), x5, x6, x7, x8]) _ = _
    rw [Option.bind_some, hb, Option.bind_some, List.map_cons]
    rw [List.append_assoc] at e
    exact e
theorem natsD_get {l : List Nat} {j p : Nat} (h : l[j]? = some p) : (natsD l)[j]? = some (.int (p : Int)) := by
  unfold natsD
  rw [List.getElem?_map, h] <;> rfl
theorem R_isech {n B : Nat} (hn : n ≤ 900) (hB : B ≤ 4100) (hB0 : 0 < B) {left : List Vc} {rs : RP} (x : LInv n B (order n) left rs) : R_law_is_echelon [matD (rowsOf rs), .int (n : Int)] = some (.bool true) := by
  have ec := x.ech
  have ls : rs.length ≤ n := by
    have := x.S.length_le
    rw [List.length_map, order_length] at this
    exact this
  have hpk : rs.Pairwise fun a b => rk n a.2 < rk n b.2 := by
    have := (order_rk n).sublist x.S
    rw [List.pairwise_map] at this
    exact this
  obtain ⟨L', y4, y5, y6, e1⟩ := ie_loop hn hB hB0 (some (matD (rowsOf rs))) none none rs [] 0 none none none (fun y hy => ⟨(x.R y hy).1, (x.R y hy).2.1, (x.R y hy).2.2.1, (x.R y hy).2.2.2.1, (x.good y hy).2.2⟩) hpk (fun y hy => by
    have h1 := (ec.R y hy).2.2.2.1
    unfold rk
    split <;> omega) (by rw [List.length_nil]; omega)
  have ln : ∀ (a b c d e f g h : Option PyData), fFn (g1 dLen) (fConsA (fVar 0) fNilA) [some (matD (rowsOf rs)), a, b, c, d, e, f, g, h] = some (.int (rs.length : Int)) := fun a b c d e f g h => fn1 (x := matD (rowsOf rs)) rfl ((matD_len _).trans (by unfold rowsOf; rw [List.length_map]))
  have rg : ∀ (a b c d e f g h : Option PyData), iR1 (fFn (g1 dLen) (fConsA (fVar 0) fNilA)) [some (matD (rowsOf rs)), a, b, c, d, e, f, g, h] = some (rangeD 0 rs.length) := fun a b c d e f g h => by
    rw [iR1_ok (ln a b c d e f g h) (rgC_ok (by omega) (by omega)), Int.toNat_natCast]
  unfold R_law_is_echelon B_law_is_echelon
  have e1' : loopF (gN 4) ieBody ((rowsOf rs).map vecD) [some (matD (rowsOf rs)), some (.int (n : Int)), some (.int 0), some (.list []), none, none, none, none, none] = some (.nx [some (matD (rowsOf rs)), some (.int (n : Int)), some (.int (L' : Int)), some (.list (natsD (rs.map (·.2)))), y4, y5, y6, none, none]) := by
    have := e1
    rw [List.nil_append] at this
    exact this
  have inner : ∀ (k : Nat) (hk : k < rs.length) (z8 : Option PyData), ∃ z8' : Option PyData, sFor (iR1 (fFn (g1 dLen) (fConsA (fVar 0) fNilA))) (gN 8) (sSeq (sIf (tA (tV (fBin dNe (fVar 8) (fVar 7))) (tV (fBin dNe (fBin dIx (fBin dIx (fVar 0) (fVar 7)) (fBin dIx (fVar 3) (fVar 8))) (fC (.int 0))))) (sRet (fC (.bool false))) sNil) sNil)
      [some (matD (rowsOf rs)), some (.int (n : Int)), some (.int (L' : Int)), some (.list (natsD (rs.map (·.2)))), y4, y5, y6, some (.int (k : Int)), z8] = some (.nx [some (matD (rowsOf rs)), some (.int (n : Int)), some (.int (L' : Int)), some (.list (natsD (rs.map (·.2)))), y4, y5, y6, some (.int (k : Int)), z8']) := fun k hk z8 => by
    obtain ⟨ρ', e2, z8', rfl⟩ := loop_go (k := gN 8) (B := (sSeq (sIf (tA (tV (fBin dNe (fVar 8) (fVar 7))) (tV (fBin dNe (fBin dIx (fBin dIx (fVar 0) (fVar 7)) (fBin dIx (fVar 3) (fVar 8))) (fC (.int 0))))) (sRet (fC (.bool false))) sNil) sNil)) (fun _ ρ => ∃ z8, ρ = [some (matD (rowsOf rs)), some (.int (n : Int)), some (.int (L' : Int)), some (.list (natsD (rs.map (·.2)))), y4, y5, y6, some (.int (k : Int)), z8]) (ds := rangeD 0 rs.length) 0 ⟨z8, rfl⟩ fun j d ρ hd ⟨z, hρ⟩ => by
      subst hρ
      have hj : j < rs.length := by
        have := (List.getElem?_eq_some_iff.mp hd).1
        rw [rangeD_length] at this
        exact this
      rw [rangeD_get hj, Int.zero_add] at hd
      obtain rfl := Option.some.inj hd
      refine ⟨_, _, rfl, .inl (seq_nx ((if_f ?_).trans rfl) rfl), some (.int (j : Int)), rfl⟩
      have gk : (rowsOf rs)[k]? = some rs[k].1 := by
        unfold rowsOf
        rw [List.getElem?_map, List.getElem?_eq_getElem hk] <;> rfl
      have gj : (rs.map (·.2))[j]? = some rs[j].2 := by rw [List.getElem?_map, List.getElem?_eq_getElem hj] <;> rfl
      have mk : rs[k] ∈ rs := List.getElem_mem hk
      have mj : rs[j] ∈ rs := List.getElem_mem hj
      have t1 : tV (fBin dNe (fVar 8) (fVar 7)) [some (matD (rowsOf rs)), some (.int (n : Int)), some (.int (L' : Int)), some (.list (natsD (rs.map (·.2)))), y4, y5, y6, some (.int (k : Int)), some (.int (j : Int))] = some (!((j : Int) == (k : Int))) := rfl
      have t2 : tV (fBin dNe (fBin dIx (fBin dIx (fVar 0) (fVar 7)) (fBin dIx (fVar 3) (fVar 8))) (fC (.int 0))) [some (matD (rowsOf rs)), some (.int (n : Int)), some (.int (L' : Int)), some (.list (natsD (rs.map (·.2)))), y4, y5, y6, some (.int (k : Int)), some (.int (j : Int))] = some (!(av rs[k].1 rs[j].2 == 0)) := by
        refine t_nz (ix_v (v := rs[k].1) ((fBin_eq (x := matD (rowsOf rs)) (y := .int (k : Int)) rfl rfl).trans (matD_ix gk)) ((fBin_eq (x := .list (natsD (rs.map (·.2)))) (y := .int (j : Int)) rfl rfl).trans ?_) ?_)
        · show atI (natsD (rs.map (·.2))) (j : Int) = _
          exact atI_nat (natsD_get gj)
        · rw [(ec.R _ mk).1]
          exact (ec.R _ mj).2.2.2.1
      refine tA_f t1 t2 ?_
      by_cases hjk : j = k
      · subst hjk
        simp
      · have hne : rs[k].2 ≠ rs[j].2 := fun z => by
          have ne := List.pairwise_iff_getElem.mp ec.ne
          rcases Nat.lt_trichotomy j k with h | h | h
          · exact ne j k hj hk h z.symm
          · exact hjk h
          · exact ne k j hk hj h z
        rw [ec.pw _ mk _ mj hne]
        simp
    exact ⟨z8', (for_eq (rg ..)).trans e2⟩
  obtain ⟨ρ', e3, z7, z8, rfl⟩ := loop_go (k := gN 7) (B := (sSeq (sFor (iR1 (fFn (g1 dLen) (fConsA (fVar 0) fNilA))) (gN 8) (sSeq (sIf (tA (tV (fBin dNe (fVar 8) (fVar 7))) (tV (fBin dNe (fBin dIx (fBin dIx (fVar 0) (fVar 7)) (fBin dIx (fVar 3) (fVar 8))) (fC (.int 0))))) (sRet (fC (.bool false))) sNil) sNil)) sNil)) (fun _ ρ => ∃ z7 z8, ρ = [some (matD (rowsOf rs)), some (.int (n : Int)), some (.int (L' : Int)), some (.list (natsD (rs.map (·.2)))), y4, y5, y6, z7, z8]) (ds := rangeD 0 rs.length) 0 ⟨none, none, rfl⟩ fun k d ρ hd ⟨z7, z8, hρ⟩ => by
    subst hρ
    have hk : k < rs.length := by
      have := (List.getElem?_eq_some_iff.mp hd).1
      rw [rangeD_length] at this
      exact this
    rw [rangeD_get hk, Int.zero_add] at hd
    obtain rfl := Option.some.inj hd
    obtain ⟨z8', e4⟩ := inner k hk z8
    exact ⟨_, _, rfl, .inl (seq_nx e4 rfl), some (.int (k : Int)), z8', rfl⟩
  exact runF_rt (seq_nx (asg_nx (d := .int 0) rfl) (seq_nx (asg_nx (d := .list []) rfl) (seq_nx ((for_eq (ds := (rowsOf rs).map vecD) rfl).trans e1') (seq_nx ((for_eq (rg ..)).trans e3) (ret_rt rfl)))))
end Law
set_option Elab.async false
set_option linter.all false
set_option maxRecDepth 100000
set_option maxHeartbeats 2000000
set_option exponentiation.threshold 9000
namespace Law
open PySem PySem.Spec L2 DL
open PyProof.Rows hiding St
/-! ### parts of the law's turn -/
theorem span_red {n : Nat} {B : List Vc} : ∀ {rs : RP} {v : Vc}, (∀ x ∈ rs, Span n B x.1) → Span n B v → Span n B (red rs v)
  | [], v, _, h => h
  | (r, p) :: rs, v, hr, h => by
    rw [red]
    exact span_red (fun x hx => hr x (List.mem_cons_of_mem _ hx)) (.comb _ _ h (hr (r, p) (List.mem_cons_self ..)))
/-- a vector of the span is reduced to zeros -/
theorem any_red {n : Nat} {rs : RP} {v : Vc} (e : Ech n rs) (f : Ef n rs) (hv : v.length = n) (h : Span n (rs.map (·.1)) v) : ((prim (red rs v)).any fun z => z != 0) = false := by
  have hz := e.zero (span_red (fun x hx => .mem (List.mem_map.mpr ⟨x, hx, rfl⟩) (e.R x hx).1) h) fun x hx => red_zero f hv x hx
  rw [List.any_eq_false]
  intro x hx
  obtain ⟨i, hi, rfl⟩ := List.mem_iff_getElem.mp hx
  have h0 : av (prim (red rs v)) i = 0 := av_prim_zero.mpr (hz i)
  unfold av at h0
  rw [List.getD_eq_getElem?_getD, List.getElem?_eq_getElem hi, Option.getD_some] at h0
  rw [h0]
  decide
def rdBody : FS := (sSeq (sIf (tV (fFn (g1 dAnyI) (fConsA (fFn R_reduced (fConsA (fVar 8) (fConsA (fVar 7) fNilA))) fNilA))) (sRet (fC (.bool false))) sNil) sNil)
theorem rd_loop {n B : Nat} (hn : n ≤ 5) {rs : RP} (e : Ech n rs) (f : Ef n rs) (g : Good n B rs) (hB : 24 + rs.length * (B + 1) ≤ 4100) (x0 x1 x2 x3 x4 x5 x6 x9 x10 : Option PyData) : ∀ (m : List Vc) (x8 : Option PyData), (∀ v ∈ m, v.length = n ∧ Small 24 v ∧ Span n (rs.map (·.1)) v) →
    ∃ y8, loopF (gN 8) rdBody (m.map vecD) [x0, x1, x2, x3, x4, x5, x6, some (matD (rowsOf rs)), x8, x9, x10] = some (.nx [x0, x1, x2, x3, x4, x5, x6, some (matD (rowsOf rs)), y8, x9, x10])
  | [], x8, _ => ⟨x8, rfl⟩
  | v :: m, x8, h => by
    obtain ⟨h1, h2, h3⟩ := h v (List.mem_cons_self ..)
    obtain ⟨y8, e2⟩ := rd_loop hn e f g hB x0 x1 x2 x3 x4 x5 x6 x9 x10 m (some (vecD v)) fun u hu => h u (List.mem_cons_of_mem _ hu)
    refine ⟨y8, ?_⟩
    by_cases hB1 : B ≤ 4100
    · have hr := R_red (n := n) (B := B) (m := 24) (by omega) hB1 g h1 h2 (by omega) hB
      have hb : rdBody [x0, x1, x2, x3, x4, x5, x6, some (matD (rowsOf rs)), some (vecD v), x9, x10] = some (.nx [x0, x1, x2, x3, x4, x5, x6, some (matD (rowsOf rs)), some (vecD v), x9, x10]) :=
        seq_nx ((if_f (tV_b (fn1 (fnn2 (x := vecD v) (y := matD (rowsOf rs)) rfl rfl hr) ((dAnyI_v _).trans (by rw [any_red e f h1 h3]))))).trans rfl) rfl
      show Option.bind (some [x0, x1, x2, x3, x4, x5, x6, some (matD (rowsOf rs)), some (vecD v), x9, x10]) _ = _
      rw [Option.bind_some, hb, Option.bind_some]
      exact e2
    · have : rs.length = 0 := by
        refine Classical.byContradiction fun z => ?_
        have : 1 * (B + 1) ≤ rs.length * (B + 1) := Nat.mul_le_mul_right _ (by omega)
        omega
      have e0 : rs = [] := List.length_eq_zero_iff.mp this
      subst e0
      have hr := R_red (n := n) (B := 1) (m := 24) (rs := []) (by omega) (by omega) (fun _ h => nomatch h) h1 h2 (by omega) (by rw [List.length_nil]; omega)
      have hb : rdBody [x0, x1, x2, x3, x4, x5, x6, some (matD (rowsOf [])), some (vecD v), x9, x10] = some (.nx [x0, x1, x2, x3, x4, x5, x6, some (matD (rowsOf [])), some (vecD v), x9, x10]) :=
        seq_nx ((if_f (tV_b (fn1 (fnn2 (x := vecD v) (y := matD (rowsOf [])) rfl rfl hr) ((dAnyI_v _).trans (by rw [any_red e f h1 h3]))))).trans rfl) rfl
      show Option.bind (some [x0, x1, x2, x3, x4, x5, x6, some (matD (rowsOf [])), some (vecD v), x9, x10]) _ = _
      rw [Option.bind_some, hb, Option.bind_some]
      exact e2
/-- two lists with the same span have the same echelon form -/
theorem same_ech {n b b' : Nat} {M M' left left' : List Vc} {rs rs' : RP} (x : LInv n b (order n) left rs) (s : SI n M left (rowsOf rs)) (x' : LInv n b' (order n) left' rs') (s' : SI n M' left' (rowsOf rs'))
    (h : ∀ v ∈ M, v.length = n ∧ Span n M' v) (h' : ∀ v ∈ M', v.length = n ∧ Span n M v) : rs = rs' := by
  obtain ⟨a1, a2⟩ := si_end x s
  obtain ⟨b1, b2⟩ := si_end x' s'
  refine x.ech.uniq x'.ech (fun y hy => ?_) fun y hy => ?_
  · exact ((a2 y hy).trans fun v hv hn => (h v hv).2).trans fun v hv hn => b1 v hv hn
  · exact ((b2 y hy).trans fun v hv hn => (h' v hv).2).trans fun v hv hn => a1 v hv hn
/-! texts -/
theorem reprR {m : List Vc} {n : Nat} (hm : ∀ u ∈ m, u.length = n ∧ Small 60 u) (hn : n ≤ 100) (lm : m.length ≤ 900) : ∃ s, dRepr (matD m) = some (.str s) ∧ PyData.strOk s = true := by
  refine repr_plain (k := 20) (by omega) (by omega) ?_ ?_ ?_
  · unfold plainB
    exact plain_mat fun u hu x hx => Nat.lt_of_lt_of_le ((hm u hu).2 x hx) (by decide)
  · have h1 := depth_mat m
    simp only [PyData.depth] at *
    omega
  · unfold nodesD
    rw [nodes_mat (n := n) (fun u hu => (hm u hu).1)]
    have : m.length * (1 + n) ≤ 900 * 101 := Nat.mul_le_mul lm (by omega)
    omega
/-! other rows with the same span -/
theorem other_lc {g : Int} {n : Nat} (hg : g.natAbs < 2 ^ 3) {m : List Vc} (hm : ∀ v ∈ m, v.length = n ∧ Small 24 v) (hn : n ≤ 5) (lm : m.length ≤ 100) {e0 e1 e2 e3 e4 e5 : Int} (he : e3 - 5 = g) (x0 x1 x3 x5 x6 x7 x8 x9 x10 : Option PyData) :
    (fLc (iRv (fVar 4)) (gN 8) tYesF (fLc (iSeq (fVar 8)) (gN 10) tYesF (fBin dMul (fBin dSub (fBin dIx (fVar 2) (fC (.int 3))) (fC (.int 5))) (fVar 10)) [10]) [8]) [x0, x1, some (vecD [e0, e1, e2, e3, e4, e5]), x3, some (matD m), x5, x6, x7, x8, x9, x10] = some (matD (m.reverse.map (sc g))) := by
  unfold matD
  rw [List.map_map]
  refine fLc_map (α := Vc) (h := vecD) (xs := m.reverse) ?_ (by rw [List.length_reverse]; omega) fun v hv => ⟨_, rfl, rfl, ?_⟩
  · show some ((m.map vecD).reverse) = _
    rw [List.map_reverse]
  · obtain ⟨h1, h2⟩ := hm v (List.mem_reverse.mp hv)
    show _ = some (vecD (sc g v))
    unfold sc
    have e : vecD (v.map (g * ·)) = .list (v.map fun z => PyData.int (g * z)) := by
      unfold vecD
      rw [List.map_map] <;> rfl
    rw [e]
    refine fLc_map (α := Int) (h := .int) (xs := v) rfl (by omega) fun z hz => ⟨_, rfl, rfl, ?_⟩
    exact mul_ok' ((fBin_eq ((fBin_eq (x := vecD [e0, e1, e2, e3, e4, e5]) (y := .int ((3 : Nat) : Int)) rfl rfl).trans (dIx_v (j := 3) rfl rfl)) rfl).trans ((dSub_i ..).trans (by rw [he]))) rfl hg (h2 z hz) (by omega)
where
  mul_ok' {f g : F} {ρ : Rho} {a b : Int} {n m : Nat} (h : f ρ = some (.int a)) (h2 : g ρ = some (.int b)) (ha : a.natAbs < 2 ^ n) (hb : b.natAbs < 2 ^ m) (hn : n + m ≤ 134217728) : fBin dMul f g ρ = some (.int (a * b)) := (fBin_eq h h2).trans (dMul_b ha hb hn)
theorem mul_lt {a b n m : Nat} (ha : a < 2 ^ n) (hb : b < 2 ^ m) : a * b < 2 ^ (n + m) := by
  rw [Nat.pow_add]
  exact Nat.mul_lt_mul_of_lt_of_lt ha hb
/-! the end -/
def apV : Nat → List Vc → List Vc
  | _, [] => []
  | k, v :: m => (v ++ [(k : Int)]) :: apV (k + 1) m
theorem appD_mat : ∀ (m : List Vc) (k : Nat), appD k (m.map vecD) = (apV k m).map vecD
  | [], _ => rfl
  | v :: m, k => by
    show PyData.list (v.map PyData.int ++ [.int (k : Int)]) :: appD (k + 1) (m.map vecD) = vecD (v ++ [(k : Int)]) :: (apV (k + 1) m).map vecD
    rw [appD_mat m (k + 1)]
    congr 1
    unfold vecD
    rw [List.map_append] <;> rfl
theorem apV_length : ∀ (m : List Vc) (k : Nat), (apV k m).length = m.length
  | [], _ => rfl
  | v :: m, k => by
    rw [apV, List.length_cons, List.length_cons, apV_length]
theorem apV_lc {el : F} {p : Nat} {ρ : Rho} {f : F} {m : List Vc} (hf : f ρ = some (matD (apV 0 m))) (hm : m.length ≤ 900) (he : ∀ (v : Vc) (k : Nat), el ((wipeR ρ [p]).set p (some (vecD (v ++ [(k : Int)])))) = some (.int (k : Int))) :
    fLc (iSeq f) (gN p) tYesF el [p] ρ = some (vecD ((List.range m.length).map fun (k : Nat) => (k : Int))) := by
  have key : ∀ (m : List Vc) (k : Nat), lcF (gN p) tYesF el (wipeR ρ [p]) ((apV k m).map vecD) = some (((List.range m.length).map fun (i : Nat) => ((k + i : Nat) : Int)).map PyData.int) := by
    intro m
    induction m with
    | nil => exact fun k => rfl
    | cons v m ih =>
      intro k
      show Option.bind (some ((wipeR ρ [p]).set p (some (vecD (v ++ [(k : Int)]))))) _ = _
      rw [Option.bind_some]
      show Option.bind (some true) _ = _
      rw [Option.bind_some, if_pos rfl, he v k, Option.bind_some, ih (k + 1), Option.map_some, List.length_cons, List.range_succ_eq_map, List.map_cons, List.map_cons, List.map_map]
      congr 2
      rw [List.map_map, List.map_map]
      refine List.map_congr_left fun i _ => ?_
      refine congrArg PyData.int ?_
      show ((k + 1 + i : Nat) : Int) = ((k + (i + 1) : Nat) : Int)
      congr 1
      omega
  unfold fLc iSeq
  rw [hf, Option.bind_some]
  show Option.bind (some ((apV 0 m).map vecD)) _ = _
  rw [Option.bind_some, if_pos (catC_le (by rw [List.length_map, apV_length]; omega)), key m 0, Option.map_some]
  unfold vecD
  congr 3
  refine List.map_congr_left fun i _ => ?_
  rw [Nat.zero_add]
theorem fin_ok {rs : RP} {n : Nat} (hl : ∀ x ∈ rs, x.1.length = n) (hn : n ≤ 5) (ls : rs.length ≤ 5) (hne : rs.Pairwise fun a b => a.1 ≠ b.1) {R : List Vc} {s : Str} (hs : dRepr (matD R) = some (.str s)) (hso : PyData.strOk s = true) (x0 x1 x2 x3 x5 x8 x9 x10 : Option PyData) :
    sFin 7 5 [8, 9, 9] (sSeq (sIf (tO (tV (fBin dNe (fFn (g1 dRepr) (fConsA (fVar 4) fNilA)) (fVar 6))) (tV (fBin dNe (fLc (iSeq (fVar 7)) (gN 8) tYesF (fBin dIx (fVar 8) (fUn dNeg (fC (.int 1)))) [8]) (fLc (iR1 (fFn (g1 dLen) (fConsA (fVar 7) fNilA))) (gN 5) tYesF (fVar 5) [5])))) (sRet (fC (.bool false))) sNil) sNil)
      [x0, x1, x2, x3, some (matD R), x5, some (.str s), some (matD (rowsOf rs)), x8, x9, x10] = some (.nx [x0, x1, x2, x3, some (matD R), none, some (.str s), some (matD (apV 0 (rowsOf rs))), none, none, x10]) := by
  have hok : appOk ((rowsOf rs).map vecD) := by
    refine ⟨?_, ?_, ?_⟩
    · rw [List.all_eq_true]
      intro d hd
      obtain ⟨v, hv, rfl⟩ := List.mem_map.mp hd
      obtain ⟨x, hx, rfl⟩ := List.mem_map.mp hv
      show ((x.1.map PyData.int).all scalD && decide ((x.1.map PyData.int).length ≤ 1000)) = true
      rw [Bool.and_eq_true]
      refine ⟨?_, decide_eq_true (by rw [List.length_map, hl x hx]; omega)⟩
      rw [List.all_eq_true]
      intro y hy
      obtain ⟨z, _, rfl⟩ := List.mem_map.mp hy
      rfl
    · unfold rowsOf
      rw [List.map_map]
      refine List.Pairwise.map _ (fun a b h z => h ?_) hne
      have z' : PyData.list (a.1.map PyData.int) = PyData.list (b.1.map PyData.int) := z
      have z2 := PyData.list.inj z'
      exact List.map_inj_right (fun p q h => PyData.int.inj h) |>.mp z2
    · unfold rowsOf
      rw [List.length_map, List.length_map]
      omega
  have e1 : sFin 7 5 [8, 9, 9] (sSeq (sIf (tO (tV (fBin dNe (fFn (g1 dRepr) (fConsA (fVar 4) fNilA)) (fVar 6))) (tV (fBin dNe (fLc (iSeq (fVar 7)) (gN 8) tYesF (fBin dIx (fVar 8) (fUn dNeg (fC (.int 1)))) [8]) (fLc (iR1 (fFn (g1 dLen) (fConsA (fVar 7) fNilA))) (gN 5) tYesF (fVar 5) [5])))) (sRet (fC (.bool false))) sNil) sNil)
      [x0, x1, x2, x3, some (matD R), x5, some (.str s), some (matD (rowsOf rs)), x8, x9, x10] = (sSeq (sIf (tO (tV (fBin dNe (fFn (g1 dRepr) (fConsA (fVar 4) fNilA)) (fVar 6))) (tV (fBin dNe (fLc (iSeq (fVar 7)) (gN 8) tYesF (fBin dIx (fVar 8) (fUn dNeg (fC (.int 1)))) [8]) (fLc (iR1 (fFn (g1 dLen) (fConsA (fVar 7) fNilA))) (gN 5) tYesF (fVar 5) [5])))) (sRet (fC (.bool false))) sNil) sNil) [x0, x1, x2, x3, some (matD R), none, some (.str s), some (.list (appD 0 ((rowsOf rs).map vecD))), none, none, x10] := if_pos ⟨hok, show 5 < 11 by decide⟩
  rw [e1, appD_mat]
  have em : PyData.list ((apV 0 (rowsOf rs)).map vecD) = matD (apV 0 (rowsOf rs)) := rfl
  rw [em]
  have lr : (rowsOf rs).length = rs.length := by
    unfold rowsOf
    rw [List.length_map]
  have t1 : (fLc (iSeq (fVar 7)) (gN 8) tYesF (fBin dIx (fVar 8) (fUn dNeg (fC (.int 1)))) [8]) [x0, x1, x2, x3, some (matD R), none, some (.str s), some (matD (apV 0 (rowsOf rs))), none, none, x10] = some (vecD ((List.range (rowsOf rs).length).map fun (k : Nat) => (k : Int))) := by
    refine apV_lc rfl (by omega) fun v k => ?_
    refine (fBin_eq (x := vecD (v ++ [(k : Int)])) (y := .int (-1)) rfl rfl).trans ?_
    show atI ((v ++ [(k : Int)]).map PyData.int) (-1) = _
    rw [List.map_append]
    exact atI_last _ _
  have t2 : (fLc (iR1 (fFn (g1 dLen) (fConsA (fVar 7) fNilA))) (gN 5) tYesF (fVar 5) [5]) [x0, x1, x2, x3, some (matD R), none, some (.str s), some (matD (apV 0 (rowsOf rs))), none, none, x10] = some (vecD ((List.range (rowsOf rs).length).map fun (k : Nat) => (k : Int))) := by
    refine rng_lc (n := (rowsOf rs).length) (fn1 (x := matD (apV 0 (rowsOf rs))) rfl ((matD_len _).trans (by rw [apV_length]))) (by omega) fun i hi => rfl
  exact seq_nx ((if_f (tO_ff (tV_b ((fBin_eq (fn1 (x := matD R) rfl hs) rfl).trans (dNe_s hso))) (tV_b (ne_v t1 t2)))).trans rfl) rfl
end Law
set_option Elab.async false
set_option linter.all false
set_option maxRecDepth 100000
set_option maxHeartbeats 2000000
set_option exponentiation.threshold 9000
noncomputable section
namespace Law
open PySem PySem.Spec L2 DL
open PyProof.Rows hiding St
def st3 : FS := (sIf (tA (tV (fBin dGt (fFn (g1 dLen) (fConsA (fVar 4) fNilA)) (fC (.int 1)))) (tV (fBin dEq (fBin dIx (fVar 2) (fC (.int 2))) (fC (.int 0))))) (sSeq (sApp 4 (fFn R_law_sum (fConsA (fBin dSub (fBin dIx (fVar 2) (fC (.int 4))) (fC (.int 3))) (fConsA (fBin dIx (fVar 4) (fC (.int 0))) (fConsA (fBin dSub (fBin dIx (fVar 2) (fC (.int 5))) (fC (.int 3))) (fConsA (fBin dIx (fVar 4) (fC (.int 1))) fNilA)))))) sNil) sNil)
def st9 : FS := (sIf (tV (fBin dGt (fFn (g1 dLen) (fConsA (fVar 4) fNilA)) (fC (.int 1)))) (sSeq (sApp 9 (fFn R_law_sum (fConsA (fC (.int 3)) (fConsA (fBin dIx (fVar 4) (fC (.int 0))) (fConsA (fUn dNeg (fC (.int 2))) (fConsA (fBin dIx (fVar 4) (fUn dNeg (fC (.int 1)))) fNilA)))))) sNil) sNil)
def lBody : FS := (sSeq (sAsg 2 (fFn R_law_draws (fConsA (fFn R_law_cell (fConsA (fVar 0) (fConsA (fVar 1) fNilA))) (fConsA (fFn dList (fConsA (fC (.int 6)) (fConsA (fC (.int 5)) (fConsA (fC (.int 5)) (fConsA (fC (.int 5)) (fConsA (fC (.int 7)) (fConsA (fC (.int 7)) fNilA))))))) fNilA)))) (sSeq (sAsg 3 (fBin dAdd (fC (.int 1)) (fBin dIx (fVar 2) (fC (.int 1))))) (sSeq (sAsg 4 (fLc (iR1 (fBin dIx (fVar 2) (fC (.int 0)))) (gN 5) tYesF (fFn R_law_vector (fConsA (fFn R_law_cell (fConsA (fVar 0) (fConsA (fBin dAdd (fBin dAdd (fVar 1) (fC (.int 1))) (fVar 5)) fNilA))) (fConsA (fVar 3) fNilA))) [5])) (sSeq (sIf (tA (tV (fBin dGt (fFn (g1 dLen) (fConsA (fVar 4) fNilA)) (fC (.int 1)))) (tV (fBin dEq (fBin dIx (fVar 2) (fC (.int 2))) (fC (.int 0))))) (sSeq (sApp 4 (fFn R_law_sum (fConsA (fBin dSub (fBin dIx (fVar 2) (fC (.int 4))) (fC (.int 3))) (fConsA (fBin dIx (fVar 4) (fC (.int 0))) (fConsA (fBin dSub (fBin dIx (fVar 2) (fC (.int 5))) (fC (.int 3))) (fConsA (fBin dIx (fVar 4) (fC (.int 1))) fNilA)))))) sNil) sNil) (sSeq (sAsg 6 (fFn (g1 dRepr) (fConsA (fVar 4) fNilA))) (sSeq (sAsg 7 (fFn R_echelon (fConsA (fVar 4) fNilA))) (sSeq (sIf (tO (tN (tV (fUn (isTy "list") (fVar 7)))) (tO (tN (tV (fFn R_law_is_echelon (fConsA (fVar 7) (fConsA (fVar 3) fNilA))))) (tO (tV (fBin dNe (fVar 7) (fFn R_law_echelon (fConsA (fVar 4) fNilA)))) (tV (fBin dNe (fFn (g1 dRepr) (fConsA (fVar 4) fNilA)) (fVar 6)))))) (sRet (fC (.bool false))) sNil) (sSeq (sFor (iSeq (fVar 4)) (gN 8) (sSeq (sIf (tV (fFn (g1 dAnyI) (fConsA (fFn R_reduced (fConsA (fVar 8) (fConsA (fVar 7) fNilA))) fNilA))) (sRet (fC (.bool false))) sNil) sNil)) (sSeq (sAsg 9 (fLc (iRv (fVar 4)) (gN 8) tYesF (fLc (iSeq (fVar 8)) (gN 10) tYesF (fBin dMul (fBin dSub (fBin dIx (fVar 2) (fC (.int 3))) (fC (.int 5))) (fVar 10)) [10]) [8])) (sSeq (sIf (tV (fBin dGt (fFn (g1 dLen) (fConsA (fVar 4) fNilA)) (fC (.int 1)))) (sSeq (sApp 9 (fFn R_law_sum (fConsA (fC (.int 3)) (fConsA (fBin dIx (fVar 4) (fC (.int 0))) (fConsA (fUn dNeg (fC (.int 2))) (fConsA (fBin dIx (fVar 4) (fUn dNeg (fC (.int 1)))) fNilA)))))) sNil) sNil) (sSeq (sIf (tO (tV (fBin dNe (fFn R_echelon (fConsA (fVar 9) fNilA)) (fVar 7))) (tV (fBin dNe (fFn R_echelon (fConsA (fVar 7) fNilA)) (fVar 7)))) (sRet (fC (.bool false))) sNil) (sFin 7 5 [8, 9, 9] (sSeq (sIf (tO (tV (fBin dNe (fFn (g1 dRepr) (fConsA (fVar 4) fNilA)) (fVar 6))) (tV (fBin dNe (fLc (iSeq (fVar 7)) (gN 8) tYesF (fBin dIx (fVar 8) (fUn dNeg (fC (.int 1)))) [8]) (fLc (iR1 (fFn (g1 dLen) (fConsA (fVar 7) fNilA))) (gN 5) tYesF (fVar 5) [5])))) (sRet (fC (.bool false))) sNil) sNil)))))))))))))
theorem comb_small {f g : Int} {a b : Vc} {n m : Nat} (hf : f.natAbs ≤ 3) (hg : g.natAbs ≤ 3) (ha : Small n a) (hb : Small n b) : Small (n + 3) (comb f a g b) := small_of_av fun i hi => by
  rw [comb_length] at hi
  rw [av_comb hi]
  have h1 := av_small ha i
  have h2 := av_small hb i
  have e1 : (f * av a i).natAbs ≤ 3 * (av a i).natAbs := by rw [Int.natAbs_mul]; exact Nat.mul_le_mul_right _ hf
  have e2 : (g * av b i).natAbs ≤ 3 * (av b i).natAbs := by rw [Int.natAbs_mul]; exact Nat.mul_le_mul_right _ hg
  rw [Nat.pow_add]
  omega
theorem mat_app {i : Nat} {f : F} {ρ : Rho} {w : Vc} {m : List Vc} (h : f ρ = some (vecD w)) (h2 : ρ[i]? = some (some (matD m))) (hl : m.length ≤ 90000) : sApp i f ρ = some (.nx (ρ.set i (some (matD (m ++ [w]))))) := by
  rw [app_d (xs := m.map vecD) h h2 (by rw [List.length_map]; exact hl)]
  unfold matD
  rw [List.map_append] <;> rfl
/-- rows, with a sum at the end or without it -/
theorem st3_ok {n : Nat} (hn : n ≤ 5) {M : List Vc} (hM : ∀ v ∈ M, v.length = n ∧ Small 21 v) (lM : M.length ≤ 5) {e0 e1 e2 e3 e4 e5 : Int} (p4 : 0 ≤ e4) (q4 : e4 < 7) (p5 : 0 ≤ e5) (q5 : e5 < 7) (x0 x1 x3 x5 x6 x7 x8 x9 x10 : Option PyData) :
    ∃ R : List Vc, st3 [x0, x1, some (vecD [e0, e1, e2, e3, e4, e5]), x3, some (matD M), x5, x6, x7, x8, x9, x10] = some (.nx [x0, x1, some (vecD [e0, e1, e2, e3, e4, e5]), x3, some (matD R), x5, x6, x7, x8, x9, x10]) ∧ (∀ v ∈ R, v.length = n ∧ Small 24 v) ∧ R.length ≤ 6 := by
  have dix : ∀ (i : Nat) (e : Int), [e0, e1, e2, e3, e4, e5][i]? = some e → fBin dIx (fVar 2) (fC (.int (i : Int))) [x0, x1, some (vecD [e0, e1, e2, e3, e4, e5]), x3, some (matD M), x5, x6, x7, x8, x9, x10] = some (.int e) := fun i e h => (fBin_eq (x := vecD [e0, e1, e2, e3, e4, e5]) (y := .int (i : Int)) rfl rfl).trans (dIx_v rfl h)
  have c1 : tV (fBin dGt (fFn (g1 dLen) (fConsA (fVar 4) fNilA)) (fC (.int 1))) [x0, x1, some (vecD [e0, e1, e2, e3, e4, e5]), x3, some (matD M), x5, x6, x7, x8, x9, x10] = some (decide ((1 : Int) < M.length)) := tV_b ((fBin_eq (fn1 (x := matD M) rfl (matD_len M)) rfl).trans (dGt_i ..))
  have c2 : tV (fBin dEq (fBin dIx (fVar 2) (fC (.int 2))) (fC (.int 0))) [x0, x1, some (vecD [e0, e1, e2, e3, e4, e5]), x3, some (matD M), x5, x6, x7, x8, x9, x10] = some (e2 == 0) := tV_b ((fBin_eq (dix 2 e2 rfl) rfl).trans (dEq_i ..))
  have hM24 : ∀ v ∈ M, v.length = n ∧ Small 24 v := fun v hv => ⟨(hM v hv).1, (hM v hv).2.up (by omega)⟩
  have cond : (tA (tV (fBin dGt (fFn (g1 dLen) (fConsA (fVar 4) fNilA)) (fC (.int 1)))) (tV (fBin dEq (fBin dIx (fVar 2) (fC (.int 2))) (fC (.int 0))))) [x0, x1, some (vecD [e0, e1, e2, e3, e4, e5]), x3, some (matD M), x5, x6, x7, x8, x9, x10] = some (decide ((1 : Int) < M.length) && (e2 == 0)) := by
    unfold tA
    rw [c1, Option.bind_some]
    cases decide ((1 : Int) < M.length) with
    | true => rw [if_pos rfl, c2, Bool.true_and]
    | false => rw [if_neg Bool.false_ne_true, Bool.false_and]
  unfold st3
  by_cases hc : (decide ((1 : Int) < M.length) && (e2 == 0)) = true
  · rw [Bool.and_eq_true] at hc
    have h1 : (1 : Int) < M.length := of_decide_eq_true hc.1
    obtain ⟨u, w, M', rfl⟩ : ∃ u w M', M = u :: w :: M' := by
      match M, h1 with
      | [], h => simp at h
      | [_], h => simp at h
      | u :: w :: M', _ => exact ⟨u, w, M', rfl⟩
    obtain ⟨u1, u2⟩ := hM u (List.mem_cons_self ..)
    obtain ⟨w1, w2⟩ := hM w (List.mem_cons_of_mem _ (List.mem_cons_self ..))
    have hs := R_lsum (n := 21) (m := 3) (f := e4 - 3) (g := e5 - 3) (a := u) (b := w) (by omega) (by omega) u2 w2 (by omega) (u1.trans w1.symm) (by omega)
    refine ⟨u :: w :: M' ++ [comb (e4 - 3) u (e5 - 3) w], ?_, fun v hv => ?_, by rw [List.length_append, List.length_singleton]; omega⟩
    · refine (if_t (cond.trans (by rw [hc.1, hc.2] <;> rfl))).trans (seq_nx (mat_app (m := u :: w :: M') (fnn4 ((fBin_eq (dix 4 e4 rfl) rfl).trans (dSub_i ..)) ((fBin_eq (x := matD (u :: w :: M')) (y := .int ((0 : Nat) : Int)) rfl rfl).trans (matD_ix rfl)) ((fBin_eq (dix 5 e5 rfl) rfl).trans (dSub_i ..)) ((fBin_eq (x := matD (u :: w :: M')) (y := .int ((1 : Nat) : Int)) rfl rfl).trans (matD_ix rfl)) hs) rfl (by omega)) rfl)
    · rcases List.mem_append.mp hv with hv | hv
      · exact hM24 v hv
      · rw [List.mem_singleton.mp hv]
        exact ⟨(comb_length ..).trans u1, comb_small (m := 0) (by omega) (by omega) u2 w2⟩
  · exact ⟨M, (if_f (cond.trans (by rw [Bool.eq_false_iff.mpr hc]))).trans rfl, hM24, by omega⟩
/-- the other rows -/
theorem st9_ok {n : Nat} (hn : n ≤ 5) {R : List Vc} (hR : ∀ v ∈ R, v.length = n ∧ Small 24 v) (lR : R.length ≤ 6) {g : Int} (hg0 : g ≠ 0) (hg : g.natAbs ≤ 5) (x0 x1 x2 x3 x5 x6 x7 x8 x10 : Option PyData) :
    ∃ O : List Vc, st9 [x0, x1, x2, x3, some (matD R), x5, x6, x7, x8, some (matD (R.reverse.map (sc g))), x10] = some (.nx [x0, x1, x2, x3, some (matD R), x5, x6, x7, x8, some (matD O), x10]) ∧ (∀ v ∈ O, v.length = n ∧ Small 27 v) ∧ O.length ≤ 7 ∧ (∀ v ∈ O, Span n R v) ∧ ∀ v ∈ R, Span n O v := by
  have c1 : tV (fBin dGt (fFn (g1 dLen) (fConsA (fVar 4) fNilA)) (fC (.int 1))) [x0, x1, x2, x3, some (matD R), x5, x6, x7, x8, some (matD (R.reverse.map (sc g))), x10] = some (decide ((1 : Int) < R.length)) := tV_b ((fBin_eq (fn1 (x := matD R) rfl (matD_len R)) rfl).trans (dGt_i ..))
  have hO : ∀ v ∈ R.reverse.map (sc g), v.length = n ∧ Small 27 v := fun v hv => by
    obtain ⟨u, hu, rfl⟩ := List.mem_map.mp hv
    obtain ⟨h1, h2⟩ := hR u (List.mem_reverse.mp hu)
    refine ⟨(sc_length ..).trans h1, fun x hx => ?_⟩
    obtain ⟨y, hy, rfl⟩ := List.mem_map.mp hx
    rw [Int.natAbs_mul]
    exact Nat.lt_of_lt_of_le (mul_lt (show g.natAbs < 2 ^ 3 by omega) (h2 y hy)) (Nat.pow_le_pow_right (by decide) (by omega))
  have sO : ∀ v ∈ R.reverse.map (sc g), Span n R v := fun v hv => by
    obtain ⟨u, hu, rfl⟩ := List.mem_map.mp hv
    have hu := List.mem_reverse.mp hu
    exact (Span.mem hu (hR u hu).1).sc g
  have lO : (R.reverse.map (sc g)).length ≤ 6 := by
    rw [List.length_map, List.length_reverse]
    exact lR
  have back : ∀ (O : List Vc), (∀ v ∈ R.reverse.map (sc g), v ∈ O) → ∀ v ∈ R, Span n O v := fun O h v hv => .div hg0 (hR v hv).1 (.mem (h _ (List.mem_map.mpr ⟨v, List.mem_reverse.mpr hv, rfl⟩)) ((sc_length ..).trans (hR v hv).1))
  unfold st9
  by_cases hc : (1 : Int) < R.length
  · obtain ⟨u, M', rfl⟩ : ∃ u M', R = u :: M' := by
      cases R with
      | nil => simp at hc
      | cons u M' => exact ⟨u, M', rfl⟩
    obtain ⟨M2, w, e2⟩ : ∃ M2 w, u :: M' = M2 ++ [w] := by
      refine ⟨(u :: M').dropLast, (u :: M').getLast (by simp), ?_⟩
      rw [List.dropLast_concat_getLast]
    have mw : w ∈ u :: M' := by rw [e2]; exact List.mem_append_right _ (List.mem_singleton.mpr rfl)
    obtain ⟨u1, u2⟩ := hR u (List.mem_cons_self ..)
    obtain ⟨w1, w2⟩ := hR w mw
    have hs := R_lsum (n := 24) (m := 3) (f := 3) (g := -2) (a := u) (b := w) (by decide) (by decide) u2 w2 (by omega) (u1.trans w1.symm) (by omega)
    refine ⟨(u :: M').reverse.map (sc g) ++ [comb 3 u (-2) w], ?_, fun v hv => ?_, by rw [List.length_append, List.length_singleton]; omega, fun v hv => ?_, back _ fun v hv => List.mem_append_left _ hv⟩
    · have last : fBin dIx (fVar 4) (fUn dNeg (fC (.int 1))) [x0, x1, x2, x3, some (matD (u :: M')), x5, x6, x7, x8, some (matD ((u :: M').reverse.map (sc g))), x10] = some (vecD w) := by
        refine (fBin_eq (x := matD (u :: M')) (y := .int (-1)) rfl rfl).trans ?_
        show atI ((u :: M').map vecD) (-1) = _
        rw [e2, List.map_append]
        exact atI_last _ _
      have two : fUn dNeg (fC (.int 2)) [x0, x1, x2, x3, some (matD (u :: M')), x5, x6, x7, x8, some (matD ((u :: M').reverse.map (sc g))), x10] = some (.int (-2)) := rfl
      exact (if_t (c1.trans (by rw [decide_eq_true hc]))).trans (seq_nx (mat_app (m := (u :: M').reverse.map (sc g)) (fnn4 rfl ((fBin_eq (x := matD (u :: M')) (y := .int ((0 : Nat) : Int)) rfl rfl).trans (matD_ix rfl)) two last hs) rfl (by omega)) rfl)
    · rcases List.mem_append.mp hv with hv | hv
      · exact hO v hv
      · rw [List.mem_singleton.mp hv]
        exact ⟨(comb_length ..).trans u1, comb_small (m := 0) (by decide) (by decide) u2 w2⟩
    · rcases List.mem_append.mp hv with hv | hv
      · exact sO v hv
      · rw [List.mem_singleton.mp hv]
        exact .comb _ _ (.mem (List.mem_cons_self ..) u1) (.mem mw w1)
  · exact ⟨R.reverse.map (sc g), (if_f (c1.trans (by rw [decide_eq_false hc]))).trans rfl, hO, by omega, sO, back _ fun _ h => h⟩
theorem body_ok (ns : List Int) {k : Int} (hk0 : 0 ≤ k) (x2 x3 x4 x5 x6 x7 x8 x9 x10 : Option PyData) :
    ∃ y2 y3 y4 y5 y6 y7 y8 y9 y10, lBody [some (vecD ns), some (.int k), x2, x3, x4, x5, x6, x7, x8, x9, x10] = some (.nx [some (vecD ns), some (.int k), y2, y3, y4, y5, y6, y7, y8, y9, y10]) := by
  have c0 := R_cell ns hk0
  generalize cellV ns k = z0 at c0
  obtain ⟨ds, r0, dr⟩ := R_draws (c := z0) (ls := [6, 5, 5, 5, 7, 7]) (by decide) (by decide)
  obtain ⟨e0, e1, e2, e3, e4, e5, rfl, p0, q0, p1, q1, p3, q3, p4, q4, p5, q5⟩ : ∃ e0 e1 e2 e3 e4 e5, ds = [e0, e1, e2, e3, e4, e5] ∧ 0 ≤ e0 ∧ e0 < 6 ∧ 0 ≤ e1 ∧ e1 < 5 ∧ 0 ≤ e3 ∧ e3 < 5 ∧ 0 ≤ e4 ∧ e4 < 7 ∧ 0 ≤ e5 ∧ e5 < 7 := by
    cases dr with
    | cons h1 h2 dr =>
      cases dr with
      | cons h3 h4 dr =>
        cases dr with
        | cons h5 h6 dr =>
          cases dr with
          | cons h7 h8 dr =>
            cases dr with
            | cons h9 h10 dr =>
              cases dr with
              | cons h11 h12 dr =>
                cases dr
                exact ⟨_, _, _, _, _, _, rfl, h1, h2, h3, h4, h7, h8, h9, h10, h11, h12⟩
  obtain ⟨n, hn, hn1, hn5⟩ : ∃ n : Nat, 1 + e1 = (n : Int) ∧ 1 ≤ n ∧ n ≤ 5 := ⟨(1 + e1).toNat, by omega, by omega, by omega⟩
  obtain ⟨j, hj, hj5⟩ : ∃ j : Nat, e0 = (j : Int) ∧ j < 6 := ⟨e0.toNat, by omega, by omega⟩
  -- the rows
  have hrow : ∀ i : Nat, ∃ w, (i < j → R_law_vector [.int (cellV ns (k + 1 + (i : Int))), .int (n : Int)] = some (vecD w)) ∧ w.length = n ∧ Small 21 w := fun i => by
    obtain ⟨w, h1, h2, h3⟩ := R_vector (c := cellV ns (k + 1 + (i : Int))) (n := n) (by omega)
    exact ⟨w, fun _ => h1, h2, h3⟩
  obtain ⟨W, hW⟩ : ∃ W : Nat → Vc, ∀ i, (i < j → R_law_vector [.int (cellV ns (k + 1 + (i : Int))), .int (n : Int)] = some (vecD (W i))) ∧ (W i).length = n ∧ Small 21 (W i) := ⟨fun i => (hrow i).choose, fun i => (hrow i).choose_spec⟩
  have dix : ∀ (i : Nat) (e : Int), [e0, e1, e2, e3, e4, e5][i]? = some e → dIx (vecD [e0, e1, e2, e3, e4, e5]) (.int (i : Int)) = some (.int e) := fun i e h => dIx_v rfl h
  have t2 : (fLc (iR1 (fBin dIx (fVar 2) (fC (.int 0)))) (gN 5) tYesF (fFn R_law_vector (fConsA (fFn R_law_cell (fConsA (fVar 0) (fConsA (fBin dAdd (fBin dAdd (fVar 1) (fC (.int 1))) (fVar 5)) fNilA))) (fConsA (fVar 3) fNilA))) [5]) [some (vecD ns), some (.int k), some (vecD [e0, e1, e2, e3, e4, e5]), some (.int (n : Int)), x4, x5, x6, x7, x8, x9, x10] = some (matD ((List.range j).map W)) := by
    unfold matD
    rw [List.map_map]
    refine fLc_map (α := Nat) (h := fun (i : Nat) => PyData.int (0 + (i : Int))) (xs := List.range j) ?_ (by rw [List.length_range]; omega) fun i hi => ⟨_, rfl, rfl, ?_⟩
    · rw [iR1_ok (j := e0) ((fBin_eq (x := vecD [e0, e1, e2, e3, e4, e5]) (y := .int ((0 : Nat) : Int)) rfl rfl).trans (dix 0 e0 rfl)) (rgC_ok (by omega) (by omega)), hj]
      unfold rangeD
      rw [Int.toNat_natCast]
    · rw [Int.zero_add]
      exact fnn2 (fnn2 (x := vecD ns) (y := .int (k + 1 + (i : Int))) rfl rfl (R_cell ns (by omega))) (y := .int (n : Int)) rfl ((hW i).1 (List.mem_range.mp hi))
  obtain ⟨R, t3, hR, lR⟩ := st3_ok (n := n) hn5 (M := (List.range j).map W) (fun v hv => by
    obtain ⟨i, _, rfl⟩ := List.mem_map.mp hv
    exact (hW i).2) (by rw [List.length_map, List.length_range]; omega) (e0 := e0) (e1 := e1) (e2 := e2) (e3 := e3) p4 q4 p5 q5 (some (vecD ns)) (some (.int k)) (some (.int (n : Int))) x5 x6 x7 x8 x9 x10
  obtain ⟨s, hs, hso⟩ := reprR (n := n) (m := R) (fun u hu => ⟨(hR u hu).1, (hR u hu).2.up (by omega)⟩) (by omega) (by omega)
  have h25 : (24 + 1) * 2 ^ n ≤ 800 := Nat.le_trans (Nat.mul_le_mul_left 25 (Nat.pow_le_pow_right (by decide) hn5)) (by decide)
  have h28 : (27 + 1) * 2 ^ n ≤ 896 := Nat.le_trans (Nat.mul_le_mul_left 28 (Nat.pow_le_pow_right (by decide) hn5)) (by decide)
  obtain ⟨left, rs, t5, X, S⟩ := R_pech (n := n) (b := 24) (by omega) (by omega) (rows := R) hR (by omega) (by omega) (by omega)
  obtain ⟨left2, rs2, t5l, X2, _, S2⟩ := R_lech (n := n) (b := 24) (by omega) (by omega) (rows := R) hR (by omega) (by omega) (by omega)
  have selfR : ∀ v ∈ R, v.length = n ∧ Span n R v := fun v hv => ⟨(hR v hv).1, .mem hv (hR v hv).1⟩
  have e12 : rs2 = rs := same_ech X2 S2 X S selfR selfR
  subst e12
  have hB0 : 0 < (24 + 1) * 2 ^ n := Nat.mul_pos (by decide) (Nat.two_pow_pos n)
  have r6 := R_isech (n := n) (by omega) (by omega) hB0 X
  have good : Good n 800 rs2 := fun y hy => let ⟨h1, h2, h3⟩ := X.good y hy; ⟨h1, h2.up h25, h3⟩
  have lrs : rs2.length ≤ n := by
    have := X.S.length_le
    rw [List.length_map, order_length] at this
    exact this
  have hk260 : 2 ^ 800 ≤ 10 ^ 260 := by decide
  have hmd : ∀ u ∈ rowsOf rs2, ∀ x ∈ u, x.natAbs < 10 ^ 260 := fun u hu x hx => by
    obtain ⟨y, hy, rfl⟩ := List.mem_map.mp hu
    exact Nat.lt_of_lt_of_le ((good y hy).2.1 x hx) hk260
  have l800 : rs2.length * (800 + 1) ≤ 5 * 801 := Nat.mul_le_mul (by omega) (Nat.le_refl _)
  obtain ⟨sp1, sp2⟩ := si_end X S
  obtain ⟨y8, t7⟩ := rd_loop (n := n) (B := 800) hn5 X.ech X.ef good (by omega) (some (vecD ns)) (some (.int k)) (some (vecD [e0, e1, e2, e3, e4, e5])) (some (.int (n : Int))) (some (matD R)) x5 (some (.str s)) x9 x10 R x8 fun v hv => ⟨(hR v hv).1, (hR v hv).2, sp1 v hv (hR v hv).1⟩
  have t8 := other_lc (g := e3 - 5) (n := n) (by omega) hR hn5 (by omega) (e0 := e0) (e1 := e1) (e2 := e2) (e3 := e3) (e4 := e4) (e5 := e5) rfl (some (vecD ns)) (some (.int k)) (some (.int (n : Int))) x5 (some (.str s)) (some (matD (rowsOf rs2))) y8 x9 x10
  obtain ⟨O, t9, hO, lO, so1, so2⟩ := st9_ok (n := n) hn5 hR lR (g := e3 - 5) (by omega) (by omega) (some (vecD ns)) (some (.int k)) (some (vecD [e0, e1, e2, e3, e4, e5])) (some (.int (n : Int))) x5 (some (.str s)) (some (matD (rowsOf rs2))) y8 x10
  obtain ⟨left3, rs3, t10, X3, S3⟩ := R_pech (n := n) (b := 27) (by omega) (by omega) (rows := O) hO (by omega) (by omega) (by omega)
  have e13 : rs3 = rs2 := same_ech X3 S3 X S (fun v hv => ⟨(hO v hv).1, so1 v hv⟩) fun v hv => ⟨(hR v hv).1, so2 v hv⟩
  rw [e13] at t10
  have t10b := R_ech (n := n) (by omega) (by omega) hB0 X.row X.P X.S
  have t11 := fin_ok (rs := rs2) (n := n) (fun x hx => (good x hx).1) hn5 (by omega) (X.ech.P.imp_of_mem fun {a b} ha hb h z => by
    have h1 := (X.ech.R a ha).2.2.1
    have h2 := h.2
    rw [← z] at h2
    omega) (R := R) hs hso (some (vecD ns)) (some (.int k)) (some (vecD [e0, e1, e2, e3, e4, e5])) (some (.int (n : Int))) x5 y8 (some (matD O)) x10
  refine ⟨some (vecD [e0, e1, e2, e3, e4, e5]), some (.int (n : Int)), some (matD R), none, some (.str s), some (matD (apV 0 (rowsOf rs2))), none, none, x10, ?_⟩
  clear sp1 sp2 so1 so2 X X2 X3 S S2 S3
  refine seq_nx (ρ' := [some (vecD ns), some (.int k), some (vecD [e0, e1, e2, e3, e4, e5]), x3, x4, x5, x6, x7, x8, x9, x10]) (asg_nx (fnn2 (fn2 rfl rfl c0) (y := vecD [6, 5, 5, 5, 7, 7]) rfl r0)) ?_
  refine seq_nx (ρ' := [some (vecD ns), some (.int k), some (vecD [e0, e1, e2, e3, e4, e5]), some (.int (n : Int)), x4, x5, x6, x7, x8, x9, x10]) (asg_nx ((fBin_eq (x := .int 1) rfl ((fBin_eq (x := vecD [e0, e1, e2, e3, e4, e5]) (y := .int ((1 : Nat) : Int)) rfl rfl).trans (dix 1 e1 rfl))).trans ((dAdd_i ..).trans (by rw [hn])))) ?_
  refine seq_nx (ρ' := [some (vecD ns), some (.int k), some (vecD [e0, e1, e2, e3, e4, e5]), some (.int (n : Int)), some (matD ((List.range j).map W)), x5, x6, x7, x8, x9, x10]) (asg_nx t2) ?_
  refine seq_nx t3 ?_
  refine seq_nx (ρ' := [some (vecD ns), some (.int k), some (vecD [e0, e1, e2, e3, e4, e5]), some (.int (n : Int)), some (matD R), x5, some (.str s), x7, x8, x9, x10]) (asg_nx (fn1 (x := matD R) rfl hs)) ?_
  refine seq_nx (ρ' := [some (vecD ns), some (.int k), some (vecD [e0, e1, e2, e3, e4, e5]), some (.int (n : Int)), some (matD R), x5, some (.str s), some (matD (rowsOf rs2)), x8, x9, x10]) (asg_nx (fn1 (x := matD R) rfl t5)) ?_
  refine seq_nx ((if_f (tO_ff (tN_b (tV_b (b := true) rfl)) (tO_ff (tN_b (tV_b (b := true) (fnn2 (x := matD (rowsOf rs2)) (y := .int (n : Int)) rfl rfl r6))) (tO_ff (tV_b (ne_m hmd (f := fVar 7) rfl (fn1 (x := matD R) rfl t5l))) (tV_b ((fBin_eq (fn1 (x := matD R) rfl hs) rfl).trans (dNe_s hso))))))).trans rfl) ?_
  refine seq_nx ((for_eq (ds := R.map vecD) rfl).trans t7) ?_
  refine seq_nx (ρ' := [some (vecD ns), some (.int k), some (vecD [e0, e1, e2, e3, e4, e5]), some (.int (n : Int)), some (matD R), x5, some (.str s), some (matD (rowsOf rs2)), y8, some (matD (R.reverse.map (sc (e3 - 5)))), x10]) (asg_nx t8) ?_
  refine seq_nx t9 ?_
  refine seq_nx ((if_f (tO_ff (tV_b (ne_m hmd (fn1 (x := matD O) rfl t10) rfl)) (tV_b (ne_m hmd (fn1 (x := matD (rowsOf rs2)) rfl t10b) rfl)))).trans rfl) ?_
  exact t11
theorem law_true (ns : List Int) (h : ns.length ≤ 63) (hb : ∀ z ∈ ns, Builtin.Int.intBits z ≤ 1048576) : R_law [.list (ns.map .int)] = some (.bool true) := by
  obtain ⟨ρ', e, _⟩ := loop_go (k := gN 1) (B := lBody) (ds := rangeC 0 8 (Builtin.Range.rangeSize 0 (ns.length + 8) 8).toNat) (fun _ ρ => ∃ x1 x2 x3 x4 x5 x6 x7 x8 x9 x10, ρ = [some (vecD ns), x1, x2, x3, x4, x5, x6, x7, x8, x9, x10]) 0 (ρ := [some (vecD ns), none, none, none, none, none, none, none, none, none, none])
    ⟨none, none, none, none, none, none, none, none, none, none, rfl⟩ (fun j d ρ hd hI => by
      obtain ⟨x1, x2, x3, x4, x5, x6, x7, x8, x9, x10, rfl⟩ := hI
      have hj := (List.getElem?_eq_some_iff.mp hd).1
      rw [rangeC_length] at hj
      rw [rangeC_get hj] at hd
      obtain rfl := Option.some.inj hd
      obtain ⟨y2, y3, y4, y5, y6, y7, y8, y9, y10, e⟩ := body_ok ns (k := 0 + (j : Int) * 8) (by omega) x2 x3 x4 x5 x6 x7 x8 x9 x10
      exact ⟨_, _, rfl, .inl e, _, y2, y3, y4, y5, y6, y7, y8, y9, y10, rfl⟩)
  unfold R_law B_law
  refine runF_rt (seq_nx ((for_eq (iR3_ok (i := 0) (j := ns.length + 8) (c := 8) rfl ((fBin_eq (fn1 (x := vecD ns) rfl (dLen_v ns)) rfl).trans (dAdd_i ..)) rfl ?_)).trans e) (ret_rt rfl))
  unfold rg3C Builtin.Range.small
  have hr : Builtin.Range.rangeSize 0 (ns.length + 8) 8 ≤ 17 ∧ 0 ≤ Builtin.Range.rangeSize 0 (ns.length + 8) 8 := by
    unfold Builtin.Range.rangeSize
    rw [if_pos (by omega), if_pos (by omega)]
    omega
  simp [Builtin.Range.rangeFitsLong]
  omega
end Law
end
set_option Elab.async false
set_option linter.all false
set_option maxRecDepth 100000
namespace Law
open PySem PySem.Spec L2 DL
open PyProof.Rows hiding St
def mk_txt {K : PySem.W.Frag} {h : Heap} {mg : Str → Option Value} (X : K.In h) (G : h.Ns mainGlobals mg)  {f0 : Addr} {od0 an0 : Option Addr} {sl0 : Array (Option Value)} {oc0 kV0 dc0 pm0 cd0 ct0 : Value} {f1 : Addr} {od1 an1 : Option Addr} {sl1 : Array (Option Value)} {oc1 kV1 dc1 pm1 cd1 ct1 : Value} {f2 : Addr} {od2 an2 : Option Addr} {sl2 : Array (Option Value)} {oc2 kV2 dc2 pm2 cd2 ct2 : Value} {f3 : Addr} {od3 an3 : Option Addr} {sl3 : Array (Option Value)} {oc3 kV3 dc3 pm3 cd3 ct3 : Value} {f4 : Addr} {od4 an4 : Option Addr} {sl4 : Array (Option Value)} {oc4 kV4 dc4 pm4 cd4 ct4 : Value} {f5 : Addr} {od5 an5 : Option Addr} {sl5 : Array (Option Value)} {oc5 kV5 dc5 pm5 cd5 ct5 : Value} {f6 : Addr} {od6 an6 : Option Addr} {sl6 : Array (Option Value)} {oc6 kV6 dc6 pm6 cd6 ct6 : Value} {f7 : Addr} {od7 an7 : Option Addr} {sl7 : Array (Option Value)} {oc7 kV7 dc7 pm7 cd7 ct7 : Value} {f8 : Addr} {od8 an8 : Option Addr} {sl8 : Array (Option Value)} {oc8 kV8 dc8 pm8 cd8 ct8 : Value} {f9 : Addr} {od9 an9 : Option Addr} {sl9 : Array (Option Value)} {oc9 kV9 dc9 pm9 cd9 ct9 : Value} {f10 : Addr} {od10 an10 : Option Addr} {sl10 : Array (Option Value)} {oc10 kV10 dc10 pm10 cd10 ct10 : Value} {f11 : Addr} {od11 an11 : Option Addr} {sl11 : Array (Option Value)} {oc11 kV11 dc11 pm11 cd11 ct11 : Value} {f12 : Addr} {od12 an12 : Option Addr} {sl12 : Array (Option Value)} {oc12 kV12 dc12 pm12 cd12 ct12 : Value} {f13 : Addr} {od13 an13 : Option Addr} {sl13 : Array (Option Value)} {oc13 kV13 dc13 pm13 cd13 ct13 : Value} {f14 : Addr} {od14 an14 : Option Addr} {sl14 : Array (Option Value)} {oc14 kV14 dc14 pm14 cd14 ct14 : Value} {f15 : Addr} {od15 an15 : Option Addr} {sl15 : Array (Option Value)} {oc15 kV15 dc15 pm15 cd15 ct15 : Value} {f16 : Addr} {od16 an16 : Option Addr} {sl16 : Array (Option Value)} {oc16 kV16 dc16 pm16 cd16 ct16 : Value}
    (a0 : PySem.W.nsIn K mainGlobals "primitive" = some (some (.ref f0))) (l0 : K.lookup f0 = some ⟨oc0, od0, .func (PySem.W.fnOf "primitive" "primitive" (defArgs s_primitive) (defBody s_primitive) (defScope s_primitive) .none kV0 dc0 pm0 an0 cd0 ct0), sl0⟩) (c0 : PySem.W.codeIn K cd0 "primitive" = true) (k0 : PySem.W.keepIn K (.ref f0) = true)
    (a1 : PySem.W.nsIn K mainGlobals "combined" = some (some (.ref f1))) (l1 : K.lookup f1 = some ⟨oc1, od1, .func (PySem.W.fnOf "combined" "combined" (defArgs s_combined) (defBody s_combined) (defScope s_combined) .none kV1 dc1 pm1 an1 cd1 ct1), sl1⟩) (c1 : PySem.W.codeIn K cd1 "combined" = true) (k1 : PySem.W.keepIn K (.ref f1) = true)
    (a2 : PySem.W.nsIn K mainGlobals "column_order" = some (some (.ref f2))) (l2 : K.lookup f2 = some ⟨oc2, od2, .func (PySem.W.fnOf "column_order" "column_order" (defArgs s_column_order) (defBody s_column_order) (defScope s_column_order) .none kV2 dc2 pm2 an2 cd2 ct2), sl2⟩) (c2 : PySem.W.codeIn K cd2 "column_order" = true) (k2 : PySem.W.keepIn K (.ref f2) = true)
    (a3 : PySem.W.nsIn K mainGlobals "pivot" = some (some (.ref f3))) (l3 : K.lookup f3 = some ⟨oc3, od3, .func (PySem.W.fnOf "pivot" "pivot" (defArgs s_pivot) (defBody s_pivot) (defScope s_pivot) .none kV3 dc3 pm3 an3 cd3 ct3), sl3⟩) (c3 : PySem.W.codeIn K cd3 "pivot" = true) (k3 : PySem.W.keepIn K (.ref f3) = true)
    (a4 : PySem.W.nsIn K mainGlobals "cleared" = some (some (.ref f4))) (l4 : K.lookup f4 = some ⟨oc4, od4, .func (PySem.W.fnOf "cleared" "cleared" (defArgs s_cleared) (defBody s_cleared) (defScope s_cleared) .none kV4 dc4 pm4 an4 cd4 ct4), sl4⟩) (c4 : PySem.W.codeIn K cd4 "cleared" = true) (k4 : PySem.W.keepIn K (.ref f4) = true)
    (a5 : PySem.W.nsIn K mainGlobals "echelon" = some (some (.ref f5))) (l5 : K.lookup f5 = some ⟨oc5, od5, .func (PySem.W.fnOf "echelon" "echelon" (defArgs s_echelon) (defBody s_echelon) (defScope s_echelon) .none kV5 dc5 pm5 an5 cd5 ct5), sl5⟩) (c5 : PySem.W.codeIn K cd5 "echelon" = true) (k5 : PySem.W.keepIn K (.ref f5) = true)
    (a6 : PySem.W.nsIn K mainGlobals "reduced" = some (some (.ref f6))) (l6 : K.lookup f6 = some ⟨oc6, od6, .func (PySem.W.fnOf "reduced" "reduced" (defArgs s_reduced) (defBody s_reduced) (defScope s_reduced) .none kV6 dc6 pm6 an6 cd6 ct6), sl6⟩) (c6 : PySem.W.codeIn K cd6 "reduced" = true) (k6 : PySem.W.keepIn K (.ref f6) = true)
    (a7 : PySem.W.nsIn K mainGlobals "_law_cell" = some (some (.ref f7))) (l7 : K.lookup f7 = some ⟨oc7, od7, .func (PySem.W.fnOf "_law_cell" "_law_cell" (defArgs s_law_cell) (defBody s_law_cell) (defScope s_law_cell) .none kV7 dc7 pm7 an7 cd7 ct7), sl7⟩) (c7 : PySem.W.codeIn K cd7 "_law_cell" = true) (k7 : PySem.W.keepIn K (.ref f7) = true)
    (a8 : PySem.W.nsIn K mainGlobals "_law_draws" = some (some (.ref f8))) (l8 : K.lookup f8 = some ⟨oc8, od8, .func (PySem.W.fnOf "_law_draws" "_law_draws" (defArgs s_law_draws) (defBody s_law_draws) (defScope s_law_draws) .none kV8 dc8 pm8 an8 cd8 ct8), sl8⟩) (c8 : PySem.W.codeIn K cd8 "_law_draws" = true) (k8 : PySem.W.keepIn K (.ref f8) = true)
    (a9 : PySem.W.nsIn K mainGlobals "_law_gcd" = some (some (.ref f9))) (l9 : K.lookup f9 = some ⟨oc9, od9, .func (PySem.W.fnOf "_law_gcd" "_law_gcd" (defArgs s_law_gcd) (defBody s_law_gcd) (defScope s_law_gcd) .none kV9 dc9 pm9 an9 cd9 ct9), sl9⟩) (c9 : PySem.W.codeIn K cd9 "_law_gcd" = true) (k9 : PySem.W.keepIn K (.ref f9) = true)
    (a10 : PySem.W.nsIn K mainGlobals "_law_primitive" = some (some (.ref f10))) (l10 : K.lookup f10 = some ⟨oc10, od10, .func (PySem.W.fnOf "_law_primitive" "_law_primitive" (defArgs s_law_primitive) (defBody s_law_primitive) (defScope s_law_primitive) .none kV10 dc10 pm10 an10 cd10 ct10), sl10⟩) (c10 : PySem.W.codeIn K cd10 "_law_primitive" = true) (k10 : PySem.W.keepIn K (.ref f10) = true)
    (a11 : PySem.W.nsIn K mainGlobals "_law_sum" = some (some (.ref f11))) (l11 : K.lookup f11 = some ⟨oc11, od11, .func (PySem.W.fnOf "_law_sum" "_law_sum" (defArgs s_law_sum) (defBody s_law_sum) (defScope s_law_sum) .none kV11 dc11 pm11 an11 cd11 ct11), sl11⟩) (c11 : PySem.W.codeIn K cd11 "_law_sum" = true) (k11 : PySem.W.keepIn K (.ref f11) = true)
    (a12 : PySem.W.nsIn K mainGlobals "_law_pivot" = some (some (.ref f12))) (l12 : K.lookup f12 = some ⟨oc12, od12, .func (PySem.W.fnOf "_law_pivot" "_law_pivot" (defArgs s_law_pivot) (defBody s_law_pivot) (defScope s_law_pivot) .none kV12 dc12 pm12 an12 cd12 ct12), sl12⟩) (c12 : PySem.W.codeIn K cd12 "_law_pivot" = true) (k12 : PySem.W.keepIn K (.ref f12) = true)
    (a13 : PySem.W.nsIn K mainGlobals "_law_echelon" = some (some (.ref f13))) (l13 : K.lookup f13 = some ⟨oc13, od13, .func (PySem.W.fnOf "_law_echelon" "_law_echelon" (defArgs s_law_echelon) (defBody s_law_echelon) (defScope s_law_echelon) .none kV13 dc13 pm13 an13 cd13 ct13), sl13⟩) (c13 : PySem.W.codeIn K cd13 "_law_echelon" = true) (k13 : PySem.W.keepIn K (.ref f13) = true)
    (a14 : PySem.W.nsIn K mainGlobals "_law_vector" = some (some (.ref f14))) (l14 : K.lookup f14 = some ⟨oc14, od14, .func (PySem.W.fnOf "_law_vector" "_law_vector" (defArgs s_law_vector) (defBody s_law_vector) (defScope s_law_vector) .none kV14 dc14 pm14 an14 cd14 ct14), sl14⟩) (c14 : PySem.W.codeIn K cd14 "_law_vector" = true) (k14 : PySem.W.keepIn K (.ref f14) = true)
    (a15 : PySem.W.nsIn K mainGlobals "_law_is_echelon" = some (some (.ref f15))) (l15 : K.lookup f15 = some ⟨oc15, od15, .func (PySem.W.fnOf "_law_is_echelon" "_law_is_echelon" (defArgs s_law_is_echelon) (defBody s_law_is_echelon) (defScope s_law_is_echelon) .none kV15 dc15 pm15 an15 cd15 ct15), sl15⟩) (c15 : PySem.W.codeIn K cd15 "_law_is_echelon" = true) (k15 : PySem.W.keepIn K (.ref f15) = true)
    (a16 : PySem.W.nsIn K mainGlobals "law" = some (some (.ref f16))) (l16 : K.lookup f16 = some ⟨oc16, od16, .func (PySem.W.fnOf "law" "law" (defArgs s_law) (defBody s_law) (defScope s_law) .none kV16 dc16 pm16 an16 cd16 ct16), sl16⟩) (c16 : PySem.W.codeIn K cd16 "law" = true) (k16 : PySem.W.keepIn K (.ref f16) = true)
    (z_abs : PySem.W.nsIn K mainGlobals "abs" = some none)
    (z_any : PySem.W.nsIn K mainGlobals "any" = some none)
    (z_int : PySem.W.nsIn K mainGlobals "int" = some none)
    (z_isinstance : PySem.W.nsIn K mainGlobals "isinstance" = some none)
    (z_len : PySem.W.nsIn K mainGlobals "len" = some none)
    (z_list : PySem.W.nsIn K mainGlobals "list" = some none)
    (z_range : PySem.W.nsIn K mainGlobals "range" = some none)
    (z_repr : PySem.W.nsIn K mainGlobals "repr" = some none)
    (z_reversed : PySem.W.nsIn K mainGlobals "reversed" = some none)
    (z_zip : PySem.W.nsIn K mainGlobals "zip" = some none)
    (m_gcd : PySem.W.nsIn K mainGlobals "gcd" = some (some (.builtin "math.gcd"))) : Txt K mg :=
  ⟨f0, _, fun_mk l0 c0 k0, PySem.W.mg_of X G a0, (fun_mk (st := s_primitive) l0 c0 k0).binds (ps := ["vector"]) fun _ _ _ _ _ _ us hl => match us, hl with | [_], _ => rfl,
   f1, _, fun_mk l1 c1 k1, PySem.W.mg_of X G a1, (fun_mk (st := s_combined) l1 c1 k1).binds (ps := ["first", "vector", "second", "other"]) fun _ _ _ _ _ _ us hl => match us, hl with | [_, _, _, _], _ => rfl,
   f2, _, fun_mk l2 c2 k2, PySem.W.mg_of X G a2, (fun_mk (st := s_column_order) l2 c2 k2).binds (ps := ["size"]) fun _ _ _ _ _ _ us hl => match us, hl with | [_], _ => rfl,
   f3, _, fun_mk l3 c3 k3, PySem.W.mg_of X G a3, (fun_mk (st := s_pivot) l3 c3 k3).binds (ps := ["vector"]) fun _ _ _ _ _ _ us hl => match us, hl with | [_], _ => rfl,
   f4, _, fun_mk l4 c4 k4, PySem.W.mg_of X G a4, (fun_mk (st := s_cleared) l4 c4 k4).binds (ps := ["vector", "row", "column"]) fun _ _ _ _ _ _ us hl => match us, hl with | [_, _, _], _ => rfl,
   f5, _, fun_mk l5 c5 k5, PySem.W.mg_of X G a5, (fun_mk (st := s_echelon) l5 c5 k5).binds (ps := ["rows"]) fun _ _ _ _ _ _ us hl => match us, hl with | [_], _ => rfl,
   f6, _, fun_mk l6 c6 k6, PySem.W.mg_of X G a6, (fun_mk (st := s_reduced) l6 c6 k6).binds (ps := ["vector", "rows"]) fun _ _ _ _ _ _ us hl => match us, hl with | [_, _], _ => rfl,
   f7, _, fun_mk l7 c7 k7, PySem.W.mg_of X G a7, (fun_mk (st := s_law_cell) l7 c7 k7).binds (ps := ["script", "k"]) fun _ _ _ _ _ _ us hl => match us, hl with | [_, _], _ => rfl,
   f8, _, fun_mk l8 c8 k8, PySem.W.mg_of X G a8, (fun_mk (st := s_law_draws) l8 c8 k8).binds (ps := ["cell", "limits"]) fun _ _ _ _ _ _ us hl => match us, hl with | [_, _], _ => rfl,
   f9, _, fun_mk l9 c9 k9, PySem.W.mg_of X G a9, (fun_mk (st := s_law_gcd) l9 c9 k9).binds (ps := ["a", "b"]) fun _ _ _ _ _ _ us hl => match us, hl with | [_, _], _ => rfl,
   f10, _, fun_mk l10 c10 k10, PySem.W.mg_of X G a10, (fun_mk (st := s_law_primitive) l10 c10 k10).binds (ps := ["vector"]) fun _ _ _ _ _ _ us hl => match us, hl with | [_], _ => rfl,
   f11, _, fun_mk l11 c11 k11, PySem.W.mg_of X G a11, (fun_mk (st := s_law_sum) l11 c11 k11).binds (ps := ["first", "vector", "second", "other"]) fun _ _ _ _ _ _ us hl => match us, hl with | [_, _, _, _], _ => rfl,
   f12, _, fun_mk l12 c12 k12, PySem.W.mg_of X G a12, (fun_mk (st := s_law_pivot) l12 c12 k12).binds (ps := ["vector"]) fun _ _ _ _ _ _ us hl => match us, hl with | [_], _ => rfl,
   f13, _, fun_mk l13 c13 k13, PySem.W.mg_of X G a13, (fun_mk (st := s_law_echelon) l13 c13 k13).binds (ps := ["rows"]) fun _ _ _ _ _ _ us hl => match us, hl with | [_], _ => rfl,
   f14, _, fun_mk l14 c14 k14, PySem.W.mg_of X G a14, (fun_mk (st := s_law_vector) l14 c14 k14).binds (ps := ["cell", "size"]) fun _ _ _ _ _ _ us hl => match us, hl with | [_, _], _ => rfl,
   f15, _, fun_mk l15 c15 k15, PySem.W.mg_of X G a15, (fun_mk (st := s_law_is_echelon) l15 c15 k15).binds (ps := ["rows", "size"]) fun _ _ _ _ _ _ us hl => match us, hl with | [_, _], _ => rfl,
   f16, _, fun_mk l16 c16 k16, PySem.W.mg_of X G a16, (fun_mk (st := s_law) l16 c16 k16).binds (ps := ["script"]) fun _ _ _ _ _ _ us hl => match us, hl with | [_], _ => rfl,
   PySem.W.mg_none_of X G z_abs,
   PySem.W.mg_none_of X G z_any,
   PySem.W.mg_none_of X G z_int,
   PySem.W.mg_none_of X G z_isinstance,
   PySem.W.mg_none_of X G z_len,
   PySem.W.mg_none_of X G z_list,
   PySem.W.mg_none_of X G z_range,
   PySem.W.mg_none_of X G z_repr,
   PySem.W.mg_none_of X G z_reversed,
   PySem.W.mg_none_of X G z_zip,
   PySem.W.mg_of X G m_gcd⟩
theorem cx_none {P : Program} {w : World} (H : Hp) (s : Shared) (e : Value) (s' : Shared) (h : L2.CX P w [] H s (fun _ _ _ => False) e s') : False := cx_dead h
theorem all_of {P : Program} {w : World} {K : PySem.W.Frag} {mg : Str → Option Value} {fa : Addr} (T : Txt K mg) (hfa : mg "law" = some (.ref fa)) :
    ∃ fd : FuncData, (∀ (s : Shared) (u : Value), BindsTo s fd ⟨[u], []⟩ [("script", u)]) ∧ ∀ base : Heap, K.In base → base.Ns mainGlobals mg → base.NoSeer → FnG P w K mg base (L2.CX P w) 4 fa fd ["script"] (@spF ⟨K, true⟩ 1 .cl R_law) := by
  letI : KF := ⟨K, true⟩
  have e := hfa.symm.trans T.g_law
  cases e
  refine ⟨T.d_law, fun s u => ?_, fun base _ _ hs => ok_law T⟩
  obtain ⟨oc, od, kV, doc, pm, an, cdv, ct, osl, e, _, _⟩ := T.F_law.ex
  rw [e]
  exact .of_eq rfl
end Law
open PySem PySem.W PyProof.Rows
set_option maxHeartbeats 0 in
theorem PySem.Challenge.cw_floodmark_k03_rows_in_echelon_form_holds : PySem.Challenge.rw_floodmark_k03_rows_in_echelon_form.Holds := by
  w_on; o_law; k_head; (case hw => w_witness2)
  k_fill
  refine DL.walk_D (l := PySem.Challenge.rw_floodmark_k03_rows_in_echelon_form) (n := 63) (k := 4) (x := "script") (CX := fun w => L2.CX PySem.Challenge.rw_floodmark_k03_rows_in_echelon_form.prog w) (Fn := Law.R_law) rfl (by decide) rfl ⟨⟨rfl, by decide, by decide⟩, rfl, by decide⟩ (by decide +kernel) (fun w h Y => PySem.W.kIn_of Y) ?F Law.law_true (fun w H s e s' h => Law.cx_none (P := PySem.Challenge.rw_floodmark_k03_rows_in_echelon_form.prog) H s e s' h)
  case F =>
    intro w mg fa h KX G hmg
    refine' Law.all_of (Law.mk_txt KX G ?a0 ?l0 ?c0 ?k0 ?a1 ?l1 ?c1 ?k1 ?a2 ?l2 ?c2 ?k2 ?a3 ?l3 ?c3 ?k3 ?a4 ?l4 ?c4 ?k4 ?a5 ?l5 ?c5 ?k5 ?a6 ?l6 ?c6 ?k6 ?a7 ?l7 ?c7 ?k7 ?a8 ?l8 ?c8 ?k8 ?a9 ?l9 ?c9 ?k9 ?a10 ?l10 ?c10 ?k10 ?a11 ?l11 ?c11 ?k11 ?a12 ?l12 ?c12 ?k12 ?a13 ?l13 ?c13 ?k13 ?a14 ?l14 ?c14 ?k14 ?a15 ?l15 ?c15 ?k15 ?a16 ?l16 ?c16 ?k16 ?z_abs ?z_any ?z_int ?z_isinstance ?z_len ?z_list ?z_range ?z_repr ?z_reversed ?z_zip ?m_gcd    ) hmg
    (case a0 => k_is)
    (case l0 => k_is)
    (case c0 => k_is)
    (case k0 => k_is)
    (case a1 => k_is)
    (case l1 => k_is)
    (case c1 => k_is)
    (case k1 => k_is)
    (case a2 => k_is)
    (case l2 => k_is)
    (case c2 => k_is)
    (case k2 => k_is)
    (case a3 => k_is)
    (case l3 => k_is)
    (case c3 => k_is)
    (case k3 => k_is)
    (case a4 => k_is)
    (case l4 => k_is)
    (case c4 => k_is)
    (case k4 => k_is)
    (case a5 => k_is)
    (case l5 => k_is)
    (case c5 => k_is)
    (case k5 => k_is)
    (case a6 => k_is)
    (case l6 => k_is)
    (case c6 => k_is)
    (case k6 => k_is)
    (case a7 => k_is)
    (case l7 => k_is)
    (case c7 => k_is)
    (case k7 => k_is)
    (case a8 => k_is)
    (case l8 => k_is)
    (case c8 => k_is)
    (case k8 => k_is)
    (case a9 => k_is)
    (case l9 => k_is)
    (case c9 => k_is)
    (case k9 => k_is)
    (case a10 => k_is)
    (case l10 => k_is)
    (case c10 => k_is)
    (case k10 => k_is)
    (case a11 => k_is)
    (case l11 => k_is)
    (case c11 => k_is)
    (case k11 => k_is)
    (case a12 => k_is)
    (case l12 => k_is)
    (case c12 => k_is)
    (case k12 => k_is)
    (case a13 => k_is)
    (case l13 => k_is)
    (case c13 => k_is)
    (case k13 => k_is)
    (case a14 => k_is)
    (case l14 => k_is)
    (case c14 => k_is)
    (case k14 => k_is)
    (case a15 => k_is)
    (case l15 => k_is)
    (case c15 => k_is)
    (case k15 => k_is)
    (case a16 => k_is)
    (case l16 => k_is)
    (case c16 => k_is)
    (case k16 => k_is)
    (case z_abs => k_is)
    (case z_any => k_is)
    (case z_int => k_is)
    (case z_isinstance => k_is)
    (case z_len => k_is)
    (case z_list => k_is)
    (case z_range => k_is)
    (case z_repr => k_is)
    (case z_reversed => k_is)
    (case z_zip => k_is)
    (case m_gcd => k_is)
