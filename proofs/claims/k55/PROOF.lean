import PyProof.Rows.All
import HandS.ForMost
import HandS.Gcd
import HandS.Wide
import HandS.WideBits
import HandS.Deep
import HandS.IsInst
import PyProof.ReprRoads
import HandS.EndBits
import HandS.WordsExc
import PyProof.FitsInt
import HandS.ExcIs
import HandS.Conv
import KE.KxField
import KE.SortData
import HandS.Text
import PyProof.StrLawsOcc
import HandS.FStr
import HandS.Style
import HandS.TryOnly
import HandS.Rev
import HandS.Iter
import HandS.Dict
import KE.KDictWalk
import HandS.Defaults
import PyProof.CallFns
import PyProof.P3Eq
import HandS.TupAny
import HandS.RaiseMore
import HandS.Sort
import HandS.Call
import HandS.CallLocal
import PySem.Challenge.RW_floodmark_k55_books_refused
set_option Elab.async false
set_option linter.all false
set_option maxRecDepth 100000
namespace DL
open PySem PySem.Spec L2
open PyProof.Rows hiding St
abbrev Rho := List (Option PyData)
class KF where
  K : PySem.W.Frag
  m : Bool
variable [KF]
def LsK (H : Hp) (a : Addr) (vs : List V) : Prop := H a = some (.lst vs) ∨ (KF.m = true ∧ ((∃ o, H a = some (.frz o (.lst vs))) ∨ (∃ (its : Array Value) (n : Nat), KF.K.lookup a = some { cls := .type "list", data := .seq its n } ∧ its.size ≤ sizeLine ∧ Vals vs its.toList)))
theorem ls_of {H : Hp} {a : Addr} {vs : List V} (h : H a = some (.lst vs)) : LsK H a vs := .inl h
theorem LsK.old {H : Hp} {a : Addr} {vs : List V} (h : LsK H a vs) : Rd H a (.lst vs) ∨ ∃ (its : Array Value) (n : Nat), KF.K.lookup a = some { cls := .type "list", data := .seq its n } ∧ its.size ≤ sizeLine ∧ Vals vs its.toList := by
  rcases h with h | ⟨_, ⟨o, h⟩ | h⟩
  · exact .inl (.inl h)
  · exact .inl (.inr ⟨o, h⟩)
  · exact .inr h
theorem LsK.sq {H : Hp} {a : Addr} {vs : List V} (h : LsK H a vs) : SqL KF.K H a vs := by
  rcases h with h | ⟨_, ⟨o, h⟩ | ⟨its, n, h1, h2, h3⟩⟩
  · exact .inl (.inl h)
  · exact .inl (.inr ⟨o, h⟩)
  · exact .inr ⟨_, its, n, h1, rfl, rfl, rfl, h2, h3⟩
def TuK (H : Hp) (a : Addr) (vs : List V) : Prop := Rd H a (.tup vs) ∨ (vs = [] ∧ ∃ (o : Obj) (n : Nat), KF.K.lookup a = some o ∧ o.cls = .type "tuple" ∧ o.data = .seq #[] n)
theorem TuK.sq {H : Hp} {a : Addr} {vs : List V} (h : TuK H a vs) : SqT KF.K H a vs := by
  rcases h with h | ⟨rfl, o, n, h1, h2, h3⟩
  · exact .inl h
  · exact .inr ⟨o, #[], n, h1, h2, h3, Nat.zero_le _, .nil⟩
def dicV (kvs : List (List Int × Int)) : List (List Key × V) := kvs.map fun p => (p.1.map Sum.inl, .int p.2)
def dicD (kvs : List (List Int × Int)) : List (PyData × PyData) := kvs.map fun p => (.tuple (p.1.map PyData.int), .int p.2)
mutual
inductive R (H : Hp) : V → PyData → Prop
  | non : R H .non .none
  | bl (b : Bool) : R H (.bl b) (.bool b)
  | int (i : Int) : R H (.int i) (.int i)
  | str (x : Str) : R H (.str x) (.str x)
  | lst {a : Addr} {vs : List V} {ds : List PyData} : LsK H a vs → RA H vs ds → R H (.ref a) (.list ds)
  | tup {a : Addr} {vs : List V} {ds : List PyData} : TuK H a vs → RA H vs ds → R H (.ref a) (.tuple ds)
  | dic {a : Addr} {o : Obj} {es : Array DictEntry} {ep : Nat} {kvs : List (List Int × Int)} : H a = some (.frz o (.dT (dicV kvs))) → o.data = .dict es ep →
      (∀ (i : Nat) (p : List Int × Int), kvs[i]? = some p → ∃ (en : DictEntry) (q : Addr), es[i]? = some en ∧ en.key = .ref q ∧ H q = some (.tup (p.1.map V.int))) → R H (.ref a) (.dict (dicD kvs))
inductive RA (H : Hp) : List V → List PyData → Prop
  | nil : RA H [] []
  | cons {v : V} {vs : List V} {d : PyData} {ds : List PyData} : R H v d → RA H vs ds → RA H (v :: vs) (d :: ds)
end
theorem rd_mono {H H' : Hp} {a : Addr} {u : HO} (e : Same H H') (h : Rd H a u) : Rd H' a u := by
  rcases h with h | ⟨o, h⟩
  · exact .inl (e _ _ h)
  · exact .inr ⟨o, e _ _ h⟩
theorem ls_mono {H H' : Hp} {a : Addr} {vs : List V} (e : Same H H') (h : LsK H a vs) : LsK H' a vs := by
  rcases h with h | ⟨m, ⟨o, h⟩ | h⟩
  · exact .inl (e _ _ h)
  · exact .inr ⟨m, .inl ⟨o, e _ _ h⟩⟩
  · exact .inr ⟨m, .inr h⟩
theorem tu_mono {H H' : Hp} {a : Addr} {vs : List V} (e : Same H H') (h : TuK H a vs) : TuK H' a vs := h.imp (rd_mono e) id
mutual
theorem R.mono {H H' : Hp} (e : Same H H') : ∀ {v : V} {d : PyData}, R H v d → R H' v d
  | _, _, .non => .non
  | _, _, .bl b => .bl b
  | _, _, .int i => .int i
  | _, _, .str x => .str x
  | _, _, .lst h r => .lst (ls_mono e h) (RA.mono e r)
  | _, _, .tup h r => .tup (tu_mono e h) (RA.mono e r)
  | _, _, .dic h o t => .dic (e _ _ h) o fun i p z => let ⟨en, q, z1, z2, z3⟩ := t i p z; ⟨en, q, z1, z2, e _ _ z3⟩
theorem RA.mono {H H' : Hp} (e : Same H H') : ∀ {vs : List V} {ds : List PyData}, RA H vs ds → RA H' vs ds
  | _, _, .nil => .nil
  | _, _, .cons h r => .cons (R.mono e h) (RA.mono e r)
end
mutual
theorem R.dp {H : Hp} : ∀ {v : V} {d : PyData}, R H v d → d.hasDict = false → Dp KF.K H v d
  | _, _, .non, _ => .non
  | _, _, .bl b, _ => .bl b
  | _, _, .int i, _ => .int i
  | _, _, .str x, _ => .str x
  | _, _, .lst h r, z => .lst h.sq (RA.dp r (by simpa only [PyData.hasDict] using z))
  | _, _, .tup h r, z => .tup h.sq (RA.dp r (by simpa only [PyData.hasDict] using z))
  | _, _, .dic _ _ _, z => by simp [PyData.hasDict] at z
theorem RA.dp {H : Hp} : ∀ {vs : List V} {ds : List PyData}, RA H vs ds → PyData.hasDictAll ds = false → DpAll KF.K H vs ds
  | _, _, .nil, _ => .nil
  | _, _, .cons h r, z => by
    simp only [PyData.hasDictAll, Bool.or_eq_false_iff] at z
    exact .cons (R.dp h z.1) (RA.dp r z.2)
end
theorem RA.length {H : Hp} : ∀ {vs : List V} {ds : List PyData}, RA H vs ds → vs.length = ds.length
  | _, _, .nil => rfl
  | _, _, .cons _ r => by rw [List.length_cons, List.length_cons, RA.length r]
theorem RA.get {H : Hp} : ∀ {vs : List V} {ds : List PyData} {i : Nat} {d : PyData}, RA H vs ds → ds[i]? = some d → ∃ v, vs[i]? = some v ∧ R H v d
  | _, _, _, _, .nil, h => by simp at h
  | _, _, 0, _, .cons h _, e => by
    have e' := Option.some.inj (by simpa using e)
    subst e'
    exact ⟨_, by simp, h⟩
  | _, _, i + 1, d, .cons _ r, e => by
    obtain ⟨v, h1, h2⟩ := RA.get (i := i) (d := d) r (by simpa using e)
    exact ⟨v, by simpa using h1, h2⟩
theorem RA.append {H : Hp} : ∀ {vs ws : List V} {ds es : List PyData}, RA H vs ds → RA H ws es → RA H (vs ++ ws) (ds ++ es)
  | _, _, _, _, .nil, s => s
  | _, _, _, _, .cons h r, s => .cons h (RA.append r s)
theorem RA.take {H : Hp} : ∀ {vs : List V} {ds : List PyData} (n : Nat), RA H vs ds → RA H (vs.take n) (ds.take n)
  | _, _, 0, _ => .nil
  | _, _, _ + 1, .nil => .nil
  | _, _, n + 1, .cons h r => .cons h (RA.take n r)
theorem RA.drop {H : Hp} : ∀ {vs : List V} {ds : List PyData} (n : Nat), RA H vs ds → RA H (vs.drop n) (ds.drop n)
  | _, _, 0, r => r
  | _, _, _ + 1, .nil => .nil
  | _, _, n + 1, .cons _ r => RA.drop n r
theorem RA.set {H : Hp} {v : V} {d : PyData} (h : R H v d) : ∀ {vs : List V} {ds : List PyData} (n : Nat), RA H vs ds → RA H (vs.set n v) (ds.set n d)
  | _, _, _, .nil => .nil
  | _, _, 0, .cons _ r => .cons h r
  | _, _, n + 1, .cons q r => .cons q (RA.set h n r)
theorem RA.ints {H : Hp} : ∀ (ns : List Int), RA H (ns.map V.int) (ns.map PyData.int)
  | [] => .nil
  | n :: r => .cons (.int n) (RA.ints r)
structure Gr (Hs H Hs' H' : Hp) : Prop where
  s : Same Hs Hs'
  h : Same H H'
  sub : Same Hs' H'
  non : ∀ a, Hs a = none → H a ≠ none → Hs' a = none
theorem Gr.refl {Hs H : Hp} (e : Same Hs H) : Gr Hs H Hs H := ⟨.refl _, .refl _, e, fun _ h _ => h⟩
theorem Gr.trans {A a B b C c : Hp} (x : Gr A a B b) (y : Gr B b C c) : Gr A a C c :=
  ⟨x.s.trans y.s, x.h.trans y.h, y.sub, fun p h1 h2 => y.non p (x.non p h1 h2) fun z => by
    cases q : a p with
    | none => exact h2 q
    | some o =>
      rw [x.h p o q] at z
      cases z⟩
theorem same_new {H : Hp} {p : Addr} {o : HO} (h : H p = none) : Same H (upd H p o) := fun b u e => by
  rw [upd_ne (ne_of_none e h)]
  exact e
theorem Gr.new {Hs H : Hp} {p : Addr} {o : HO} (e : Same Hs H) (h : H p = none) : Gr Hs H (upd Hs p o) (upd H p o) :=
  ⟨same_new (Same.free e h), same_new h, fun b u q => by
    by_cases hb : b = p
    · subst hb
      rw [upd_same] at q ⊢
      exact q
    · rw [upd_ne hb] at q ⊢
      exact e _ _ q, fun b h1 h2 => by
    rw [upd_ne (show b ≠ p from fun z => h2 (by rw [z]; exact h))]
    exact h1⟩
theorem Gr.own {Hs H : Hp} {p : Addr} {o : HO} (e : Same Hs H) (h : H p = none) : Gr Hs H Hs (upd H p o) :=
  ⟨.refl _, same_new h, e.trans (same_new h), fun _ h1 _ => h1⟩
def Own (Hs H : Hp) (v : V) (d : PyData) : Prop := ∃ a vs ds, v = .ref a ∧ d = .list ds ∧ Hs a = none ∧ H a = some (.lst vs) ∧ RA Hs vs ds
theorem Own.mono {Hs H Hs' H' : Hp} {v : V} {d : PyData} (g : Gr Hs H Hs' H') (x : Own Hs H v d) : Own Hs' H' v d := by
  obtain ⟨a, vs, ds, rfl, rfl, h1, h2, h3⟩ := x
  exact ⟨a, vs, ds, rfl, rfl, g.non a h1 (by rw [h2]; simp), g.h _ _ h2, h3.mono g.s⟩
structure Slots (O : List Nat) (ρ : Rho) (σ : St) (Hs H : Hp) : Prop where
  sub : Same Hs H
  len : σ.length = ρ.length
  val : ∀ (i : Nat) (d : PyData), ρ[i]? = some (some d) → ∃ v, σ[i]? = some (some v) ∧ (O.contains i = true → Own Hs H v d) ∧ (O.contains i = false → R Hs v d)
  dis : ∀ (i j : Nat) (di dj : PyData) (v : V), i ≠ j → O.contains i = true → O.contains j = true → ρ[i]? = some (some di) → ρ[j]? = some (some dj) → σ[i]? = some (some v) → σ[j]? ≠ some (some v)
theorem Slots.mono {O : List Nat} {ρ : Rho} {σ : St} {Hs H Hs' H' : Hp} (g : Gr Hs H Hs' H') (x : Slots O ρ σ Hs H) : Slots O ρ σ Hs' H' :=
  ⟨g.sub, x.len, fun i d h => by
    obtain ⟨v, h1, h2, h3⟩ := x.val i d h
    exact ⟨v, h1, fun o => (h2 o).mono g, fun o => (h3 o).mono g.s⟩, x.dis⟩
inductive Md where
  | cl | rd | ow
  deriving DecidableEq
def Res (m : Md) (H0 Hs H : Hp) (v : V) (d : PyData) : Prop := match m with
  | .cl => R Hs v d
  | .rd => R Hs v d ∨ Own Hs H v d
  | .ow => Own Hs H v d ∧ ∃ a, v = .ref a ∧ H0 a = none
def Ev (te : TE) (σ : St) (Hs H : Hp) (m : Md) (d : PyData) : Prop := ∀ Q : VK, (∀ v Hs' H', Gr Hs H Hs' H' → Res m H Hs' H' v d → Q v H') → te σ H Q
def EvT (tt : TT) (σ : St) (Hs H : Hp) (b : Bool) : Prop := ∀ Q : Bool → Hp → Prop, (∀ Hs' H', Gr Hs H Hs' H' → Q b H') → tt σ H Q
structure DE (X : Cx) (O : List Nat) (m : Md) (e : Expr) (te : TE) (f : Rho → Option PyData) : Prop where
  pe : PE X e te
  ev : ∀ (ρ : Rho) (σ : St) (Hs H : Hp) (d : PyData), Slots O ρ σ Hs H → f ρ = some d → Ev te σ Hs H m d
structure DT (X : Cx) (O : List Nat) (e : Expr) (tt : TT) (f : Rho → Option Bool) : Prop where
  pt : PT X e tt
  ev : ∀ (ρ : Rho) (σ : St) (Hs H : Hp) (b : Bool), Slots O ρ σ Hs H → f ρ = some b → EvT tt σ Hs H b
theorem Ev.cl_of {te : TE} {σ : St} {Hs H : Hp} {d : PyData} (h : Ev te σ Hs H .ow d) : Ev te σ Hs H .cl d := fun Q q => h Q fun v Hs' H' g r => by
  obtain ⟨x, a, hv, hn⟩ := r
  obtain ⟨a', vs, ds, rfl, rfl, h1, h2, h3⟩ := x
  have e : a' = a := V.ref.inj hv
  subst e
  refine q _ (upd Hs' a' (.lst vs)) H' ⟨g.s.trans (same_new h1), g.h, fun b u z => ?_, fun b z1 z2 => ?_⟩ (show R _ _ _ from .lst (ls_of upd_same) (h3.mono (same_new h1)))
  · by_cases hb : b = a'
    · subst hb
      rw [upd_same] at z
      rw [h2]
      exact z
    · rw [upd_ne hb] at z
      exact g.sub _ _ z
  · rw [upd_ne (show b ≠ a' from fun z => z2 (by rw [z]; exact hn))]
    exact g.non b z1 z2
theorem Ev.rd_of {te : TE} {σ : St} {Hs H : Hp} {d : PyData} (h : Ev te σ Hs H .cl d) : Ev te σ Hs H .rd d := fun Q q => h Q fun v Hs' H' g r => q v Hs' H' g (.inl r)
section
variable {X : Cx} {O : List Nat} {e : Expr} {te : TE} {f : Rho → Option PyData}
theorem DE.cl_ (h : DE X O .ow e te f) : DE X O .cl e te f := ⟨h.pe, fun ρ σ Hs H d s q => (h.ev ρ σ Hs H d s q).cl_of⟩
theorem DE.rd_ (h : DE X O .cl e te f) : DE X O .rd e te f := ⟨h.pe, fun ρ σ Hs H d s q => (h.ev ρ σ Hs H d s q).rd_of⟩
theorem DE.or_ (h : DE X O .ow e te f) : DE X O .rd e te f := h.cl_.rd_
end
theorem rd_list {H0 Hs H : Hp} {v : V} {ds : List PyData} (e : Same Hs H) (h : Res .rd H0 Hs H v (.list ds)) : ∃ a vs, v = .ref a ∧ LsK H a vs ∧ RA Hs vs ds := by
  rcases h with h | ⟨a, vs, ds', rfl, q, _, h2, h3⟩
  · cases h with
    | lst h1 h2 => exact ⟨_, _, rfl, ls_mono e h1, h2⟩
  · cases q
    exact ⟨a, vs, rfl, ls_of h2, h3⟩
theorem rd_tup {H0 Hs H : Hp} {v : V} {ds : List PyData} (e : Same Hs H) (h : Res .rd H0 Hs H v (.tuple ds)) : ∃ a vs, v = .ref a ∧ TuK H a vs ∧ RA Hs vs ds := by
  rcases h with h | ⟨a, vs, ds', rfl, q, _, h2, h3⟩
  · cases h with
    | tup h1 h2 => exact ⟨_, _, rfl, tu_mono e h1, h2⟩
  · cases q
theorem rd_R {H0 Hs H : Hp} {v : V} {d : PyData} (e : Same Hs H) (h : Res .rd H0 Hs H v d) : R H v d := by
  rcases h with h | ⟨a, vs, ds', rfl, rfl, _, h2, h3⟩
  · exact h.mono e
  · exact .lst (ls_of h2) (h3.mono e)
theorem rd_int {H0 Hs H : Hp} {v : V} {i : Int} (h : Res .rd H0 Hs H v (.int i)) : v = .int i := by
  rcases h with h | ⟨_, _, _, _, q, _⟩
  · cases h; rfl
  · cases q
theorem rd_bool {H0 Hs H : Hp} {v : V} {i : Bool} (h : Res .rd H0 Hs H v (.bool i)) : v = .bl i := by
  rcases h with h | ⟨_, _, _, _, q, _⟩
  · cases h; rfl
  · cases q
end DL
namespace DL
open PySem PySem.Spec L2
open PyProof.Rows hiding St
variable [KF]
abbrev F := Rho → Option PyData
abbrev FT := Rho → Option Bool
abbrev FA := Rho → Option (List PyData)
def fVar (i : Nat) : F := fun ρ => (ρ[i]?).getD none
def fC (d : PyData) : F := fun _ => some d
def fBin (g : PyData → PyData → Option PyData) (a b : F) : F := fun ρ => (a ρ).bind fun x => (b ρ).bind fun y => g x y
def fUn (g : PyData → Option PyData) (a : F) : F := fun ρ => (a ρ).bind g
def fNilA : FA := fun _ => some []
def fConsA (a : F) (r : FA) : FA := fun ρ => (a ρ).bind fun x => (r ρ).bind fun xs => some (x :: xs)
def fFn (g : List PyData → Option PyData) (a : FA) : F := fun ρ => (a ρ).bind g
def fIf (c : FT) (a b : F) : F := fun ρ => (c ρ).bind fun k => if k = true then a ρ else b ρ
def fAnd (a b : F) : F := fun ρ => (a ρ).bind fun x => match x with
  | .bool true => b ρ
  | .bool false => some (.bool false)
  | _ => none
def fOr (a b : F) : F := fun ρ => (a ρ).bind fun x => match x with
  | .bool true => some (.bool true)
  | .bool false => b ρ
  | _ => none
def gNot : PyData → Option PyData
  | .bool b => some (.bool (!b))
  | _ => none
def tV (a : F) : FT := fun ρ => (a ρ).bind fun x => match x with
  | .bool b => some b
  | _ => none
def tTr (a : F) : FT := fun ρ => (a ρ).bind fun x => match x with
  | .none => some false
  | .bool b => some b
  | .int i => some (i != 0)
  | .list xs => some (!xs.isEmpty)
  | .tuple xs => some (!xs.isEmpty)
  | _ => none
def tA (a b : FT) : FT := fun ρ => (a ρ).bind fun k => if k = true then b ρ else some false
def tO (a b : FT) : FT := fun ρ => (a ρ).bind fun k => if k = true then some true else b ρ
def tN (a : FT) : FT := fun ρ => (a ρ).bind fun k => some (!k)
omit [KF] in
theorem bind_some {α β : Type} {a : Option α} {f : α → Option β} {b : β} (h : a.bind f = some b) : ∃ x, a = some x ∧ f x = some b := by
  cases a with
  | none => cases h
  | some x => exact ⟨x, rfl, h⟩
theorem Res.rd_mono {H0 Hs H H1 Hs' H' : Hp} {v : V} {d : PyData} (g : Gr Hs H Hs' H') (x : Res .rd H0 Hs H v d) : Res .rd H1 Hs' H' v d := by
  rcases x with x | x
  · exact .inl (x.mono g.s)
  · exact .inr (x.mono g)
theorem Res.back {m : Md} {H0 H1 Hs H : Hp} {v : V} {d : PyData} (e : Same H0 H1) (x : Res m H1 Hs H v d) : Res m H0 Hs H v d := by
  cases m with
  | cl => exact x
  | rd => exact x
  | ow =>
    obtain ⟨x, a, h, n⟩ := x
    exact ⟨x, a, h, Same.free e n⟩
theorem Ev.back {te : TE} {σ : St} {Hs H : Hp} {m : Md} {d : PyData} (h : Ev te σ Hs H m d) {Q : VK} (q : ∀ v Hs' H', Gr Hs H Hs' H' → Res m H Hs' H' v d → Q v H') : te σ H Q := h Q q
abbrev CDivL (_ j : Int) : Prop := j ≠ 0 ∧ j.natAbs.log2 < 9000
theorem op_fdivL {X : Cx} : OpR X (binaryOp .FloorDiv) (rI CDivL fun i j => .int (i.fdiv j)) := opI fun _ _ _ _ _ _ _ hc q => PyProof.Rows.floordiv_int hc.1 q (.inl (PyProof.noPylong_of_log2 hc.2))
abbrev rAddI : R2 := rI0 fun i j => .int (i + j)
abbrev rSubI : R2 := rI0 fun i j => .int (i - j)
abbrev rMulI : R2 := rI CMulX fun i j => .int (i * j)
abbrev rModI : R2 := rI (fun _ j => j ≠ 0) fun i j => .int (i.fmod j)
abbrev rDivI : R2 := rI CDivL fun i j => .int (i.fdiv j)
abbrev rPowI : R2 := rI CPow fun i j => .int (i ^ j.toNat)
abbrev rLtI : R2 := rI0 fun i j => .bl (decide (i < j))
abbrev rGtI : R2 := rI0 fun i j => .bl (decide (j < i))
abbrev rGeI : R2 := rI0 fun i j => .bl (decide (j ≤ i))
abbrev rIsD : R2 := fun x y H Q => y = .non ∧ Q (.bl (decide (x = .non))) H
abbrev rIsNotD : R2 := fun x y H Q => y = .non ∧ Q (.bl (!decide (x = .non))) H
def OpD (r : R2) (m : Md) (g : PyData → PyData → Option PyData) : Prop := ∀ (Hs H : Hp) (v w : V) (x y z : PyData), Same Hs H → Res .rd H Hs H v x → Res .rd H Hs H w y → g x y = some z →
  ∀ Q : VK, (∀ u Hs' H', Gr Hs H Hs' H' → Res m H Hs' H' u z → Q u H') → r v w H Q
def UnD (r : V → Hp → VK → Prop) (m : Md) (g : PyData → Option PyData) : Prop := ∀ (Hs H : Hp) (v : V) (x z : PyData), Same Hs H → Res .rd H Hs H v x → g x = some z →
  ∀ Q : VK, (∀ u Hs' H', Gr Hs H Hs' H' → Res m H Hs' H' u z → Q u H') → r v H Q
inductive RdA (Hs H : Hp) : List V → List PyData → Prop
  | nil : RdA Hs H [] []
  | cons {v : V} {vs : List V} {d : PyData} {ds : List PyData} : Res .rd H Hs H v d → RdA Hs H vs ds → RdA Hs H (v :: vs) (d :: ds)
theorem RdA.mono {Hs H Hs' H' : Hp} (g : Gr Hs H Hs' H') : ∀ {vs : List V} {ds : List PyData}, RdA Hs H vs ds → RdA Hs' H' vs ds
  | _, _, .nil => .nil
  | _, _, .cons h r => .cons (h.rd_mono g) (RdA.mono g r)
def CallD (r : List V → Hp → VK → Prop) (m : Md) (g : List PyData → Option PyData) : Prop := ∀ (Hs H : Hp) (vs : List V) (xs : List PyData) (z : PyData), Same Hs H → RdA Hs H vs xs → g xs = some z →
  ∀ Q : VK, (∀ u Hs' H', Gr Hs H Hs' H' → Res m H Hs' H' u z → Q u H') → r vs H Q
structure DA (X : Cx) (O : List Nat) (es : List Expr) (ta : TA) (f : FA) : Prop where
  pa : PA X es ta
  ev : ∀ (ρ : Rho) (σ : St) (Hs H : Hp) (ds : List PyData), Slots O ρ σ Hs H → f ρ = some ds → ∀ Q : List V → Hp → Prop, (∀ vs Hs' H', Gr Hs H Hs' H' → RdA Hs' H' vs ds → Q vs H') → ta σ H Q
structure DAc (X : Cx) (O : List Nat) (es : List Expr) (ta : TA) (f : FA) : Prop where
  pa : PA X es ta
  ev : ∀ (ρ : Rho) (σ : St) (Hs H : Hp) (ds : List PyData), Slots O ρ σ Hs H → f ρ = some ds → ∀ Q : List V → Hp → Prop, (∀ vs Hs' H', Gr Hs H Hs' H' → RA Hs' vs ds → Q vs H') → ta σ H Q
section
variable {X : Cx} {O : List Nat} {e a b c : Expr} {es : List Expr} {te ta tb tc : TE} {tA' tB' : TT} {f fa fb fc : F} {ft fu : FT} {m : Md} {pos : Pos}
theorem de_var (i : Nat) {x : Str} {p : Pos} (ho : O.contains i = false) (hN : X.N[i]? = some x := by rfl) (hv : Vis X.env.scope x := by first | exact Or.inl rfl | exact Or.inr (Or.inl rfl) | exact Or.inr (Or.inr rfl)) (hd : (x == ("__debug__" : Str)) = false := by decide)
    (hcd : (x == ("__classdict__" : Str)) = false := by decide) : DE X O .cl (.Name x p) (tVar i) (fVar i) :=
  ⟨pe_var hN hv hd hcd, fun ρ σ Hs H d s h Q q => by
    unfold fVar at h
    cases hr : ρ[i]? with
    | none => rw [hr] at h; cases h
    | some o =>
      rw [hr] at h
      obtain ⟨v, h1, _, h3⟩ := s.val i d (by rw [hr]; exact congrArg some h)
      exact ⟨v, h1, q v Hs H (.refl s.sub) (h3 ho)⟩⟩
theorem de_varR (i : Nat) {x : Str} {p : Pos} (hN : X.N[i]? = some x := by rfl) (hv : Vis X.env.scope x := by first | exact Or.inl rfl | exact Or.inr (Or.inl rfl) | exact Or.inr (Or.inr rfl)) (hd : (x == ("__debug__" : Str)) = false := by decide)
    (hcd : (x == ("__classdict__" : Str)) = false := by decide) : DE X O .rd (.Name x p) (tVar i) (fVar i) :=
  ⟨pe_var hN hv hd hcd, fun ρ σ Hs H d s h Q q => by
    unfold fVar at h
    cases hr : ρ[i]? with
    | none => rw [hr] at h; cases h
    | some o =>
      rw [hr] at h
      obtain ⟨v, h1, h2, h3⟩ := s.val i d (by rw [hr]; exact congrArg some h)
      refine ⟨v, h1, q v Hs H (.refl s.sub) ?_⟩
      cases hc : O.contains i with
      | true => exact .inr (h2 hc)
      | false => exact .inl (h3 hc)⟩
theorem de_c {v : V} {d : PyData} (h : PE X e (tC v)) (r : ∀ H, R H v d) : DE X O .cl e (tC v) (fC d) :=
  ⟨h, fun ρ σ Hs H z s hf Q q => by
    cases hf
    exact q v Hs H (.refl s.sub) (r Hs)⟩
theorem de_int {i : Int} {j : Nat} : DE X O .cl (.Constant (.int i) j pos) (tC (.int i)) (fC (.int i)) := de_c pe_int fun _ => .int i
theorem de_bl {i : Bool} {j : Nat} : DE X O .cl (.Constant (.bool i) j pos) (tC (.bl i)) (fC (.bool i)) := de_c pe_bl fun _ => .bl i
theorem de_non {j : Nat} : DE X O .cl (.Constant .none j pos) (tC .non) (fC .none) := de_c pe_non fun _ => .non
theorem de_str {x : Str} {j : Nat} : DE X O .cl (.Constant (.str x) j pos) (tC (.str x)) (fC (.str x)) := de_c pe_str fun _ => .str x
theorem ev_op2 {r : R2} {g : PyData → PyData → Option PyData} (hg : OpD r m g) {ρ : Rho} {σ : St} {Hs H : Hp} {d : PyData} (ha : DE X O .rd a ta fa) (hb : DE X O .rd b tb fb) (s : Slots O ρ σ Hs H) (h : fBin g fa fb ρ = some d) : Ev (tOp r ta tb) σ Hs H m d := fun Q q => by
  obtain ⟨x, hx, h⟩ := bind_some h
  obtain ⟨y, hy, h⟩ := bind_some h
  refine ha.ev ρ σ Hs H x s hx _ fun v Hs1 H1 g1 r1 => ?_
  refine hb.ev ρ σ Hs1 H1 y (s.mono g1) hy _ fun w Hs2 H2 g2 r2 => ?_
  exact hg Hs2 H2 v w x y d g2.sub (r1.rd_mono g2) (r2.rd_mono (.refl g2.sub)) h Q fun u Hs3 H3 g3 r3 => q u Hs3 H3 ((g1.trans g2).trans g3) (r3.back (g1.h.trans g2.h))
theorem de_op {op : Operator} {r : R2} {g : PyData → PyData → Option PyData} (ho : OpR X (binaryOp op) r) (hg : OpD r m g) (ha : DE X O .rd a ta fa) (hb : DE X O .rd b tb fb) : DE X O m (.BinOp a op b pos) (tOp r ta tb) (fBin g fa fb) :=
  ⟨pe_op ho ha.pe hb.pe, fun _ _ _ _ _ s h => ev_op2 hg ha hb s h⟩
theorem de_cmp {op : CmpOp} {r : R2} {g : PyData → PyData → Option PyData} (ho : OpR X (compareOp op) r) (hg : OpD r m g) (ha : DE X O .rd a ta fa) (hb : DE X O .rd b tb fb) (hm : behindInMarks op b = false := by rfl) : DE X O m (.Compare a [op] [b] pos) (tOp r ta tb) (fBin g fa fb) :=
  ⟨pe_cmpR ho ha.pe hb.pe hm, fun _ _ _ _ _ s h => ev_op2 hg ha hb s h⟩
theorem de_ixR {r : R2} {g : PyData → PyData → Option PyData} (ho : IxR X r) (hg : OpD r m g) (ha : DE X O .rd a ta fa) (hb : DE X O .rd b tb fb) (hs : PlainIx b := by intro _ _; rfl) : DE X O m (.Subscript a b pos) (tOp r ta tb) (fBin g fa fb) :=
  ⟨pe_ix ho ha.pe hb.pe hs, fun _ _ _ _ _ s h => ev_op2 hg ha hb s h⟩
theorem ev_un1 {r : V → Hp → VK → Prop} {g : PyData → Option PyData} (hg : UnD r m g) {ρ : Rho} {σ : St} {Hs H : Hp} {d : PyData} (ha : DE X O .rd a ta fa) (s : Slots O ρ σ Hs H) (h : fUn g fa ρ = some d) : Ev (tUn r ta) σ Hs H m d := fun Q q => by
  obtain ⟨x, hx, h⟩ := bind_some h
  refine ha.ev ρ σ Hs H x s hx _ fun v Hs1 H1 g1 r1 => ?_
  exact hg Hs1 H1 v x d g1.sub (r1.rd_mono (.refl g1.sub)) h Q fun u Hs3 H3 g3 r3 => q u Hs3 H3 (g1.trans g3) (r3.back g1.h)
theorem de_un {op : UnaryOp} {r : V → Hp → VK → Prop} {g : PyData → Option PyData} (ho : UnR X (unaryOp op) r) (hg : UnD r m g) (ha : DE X O .rd a ta fa) : DE X O m (.UnaryOp op a pos) (tUn r ta) (fUn g fa) :=
  ⟨pe_un ho ha.pe, fun _ _ _ _ _ s h => ev_un1 hg ha s h⟩
theorem res_int {H0 Hs H : Hp} {i : Int} : Res .cl H0 Hs H (.int i) (.int i) := .int i
theorem res_bl {H0 Hs H : Hp} {i : Bool} : Res .cl H0 Hs H (.bl i) (.bool i) := .bl i
def gI (C : Int → Int → Bool) (k : Int → Int → PyData) : PyData → PyData → Option PyData
  | .int i, .int j => if C i j = true then some (k i j) else none
  | _, _ => none
omit [KF] in
theorem gI_some {C : Int → Int → Bool} {k : Int → Int → PyData} {x y z : PyData} (h : gI C k x y = some z) : ∃ i j, x = .int i ∧ y = .int j ∧ C i j = true ∧ k i j = z := by
  cases x <;> cases y <;> try (cases h; done)
  rename_i i j
  refine ⟨i, j, rfl, rfl, ?_⟩
  have h : (if C i j = true then some (k i j) else none) = some z := h
  by_cases hc : C i j = true
  · rw [if_pos hc] at h
    exact ⟨hc, Option.some.inj h⟩
  · rw [if_neg hc] at h
    cases h
theorem opd_I0 {g : Int → Int → Int} : OpD (rI0 fun i j => .int (g i j)) .cl (gI (fun _ _ => true) fun i j => .int (g i j)) := by
  intro Hs H v w x y z e h1 h2 hz Q q
  obtain ⟨i, j, rfl, rfl, _, rfl⟩ := gI_some hz
  exact ⟨i, j, rd_int h1, rd_int h2, q _ Hs H (.refl e) res_int⟩
theorem opd_B0 {g : Int → Int → Bool} : OpD (rI0 fun i j => .bl (g i j)) .cl (gI (fun _ _ => true) fun i j => .bool (g i j)) := by
  intro Hs H v w x y z e h1 h2 hz Q q
  obtain ⟨i, j, rfl, rfl, _, rfl⟩ := gI_some hz
  exact ⟨i, j, rd_int h1, rd_int h2, q _ Hs H (.refl e) res_bl⟩
theorem opd_I {C : Int → Int → Prop} {D : Int → Int → Bool} {g : Int → Int → Int} (hC : ∀ i j, D i j = true → C i j) : OpD (rI C fun i j => .int (g i j)) .cl (gI D fun i j => .int (g i j)) := by
  intro Hs H v w x y z e h1 h2 hz Q q
  obtain ⟨i, j, rfl, rfl, c, rfl⟩ := gI_some hz
  exact ⟨i, j, rd_int h1, rd_int h2, hC i j c, q _ Hs H (.refl e) res_int⟩
def dAdd := gI (fun _ _ => true) fun i j => .int (i + j)
def dSub := gI (fun _ _ => true) fun i j => .int (i - j)
def mulC (i j : Int) : Bool := decide ((Builtin.Int.intBits i : Int) + (Builtin.Int.intBits j : Int) ≤ 134217728)
def dMul := gI mulC fun i j => .int (i * j)
def dMod := gI (fun _ j => decide (j ≠ 0)) fun i j => .int (i.fmod j)
def divC (_ j : Int) : Bool := decide (j ≠ 0 ∧ j.natAbs.log2 < 9000)
def dDiv := gI divC fun i j => .int (i.fdiv j)
def powC (i j : Int) : Bool := decide (0 ≤ j ∧ j ≤ 1000000 ∧ i.natAbs < 2 ^ 64)
def dPow := gI powC fun i j => .int (i ^ j.toNat)
omit [KF] in
theorem mulC_of {i j : Int} (h : mulC i j = true) : CMulX i j := of_decide_eq_true (p := (Builtin.Int.intBits i : Int) + (Builtin.Int.intBits j : Int) ≤ 134217728) h
omit [KF] in
theorem divC_of {i j : Int} (h : divC i j = true) : CDivL i j := of_decide_eq_true (p := j ≠ 0 ∧ j.natAbs.log2 < 9000) h
omit [KF] in
theorem powC_of {i j : Int} (h : powC i j = true) : CPow i j := of_decide_eq_true (p := 0 ≤ j ∧ j ≤ 1000000 ∧ i.natAbs < 2 ^ 64) h
def dLt := gI (fun _ _ => true) fun i j => .bool (decide (i < j))
def dLe := gI (fun _ _ => true) fun i j => .bool (decide (i ≤ j))
def dGt := gI (fun _ _ => true) fun i j => .bool (decide (j < i))
def dGe := gI (fun _ _ => true) fun i j => .bool (decide (j ≤ i))
theorem de_addI (ha : DE X O .rd a ta fa) (hb : DE X O .rd b tb fb) : DE X O .cl (.BinOp a .Add b pos) (tOp rAddI ta tb) (fBin dAdd fa fb) := de_op op_add opd_I0 ha hb
theorem de_sub (ha : DE X O .rd a ta fa) (hb : DE X O .rd b tb fb) : DE X O .cl (.BinOp a .Sub b pos) (tOp rSubI ta tb) (fBin dSub fa fb) := de_op op_sub opd_I0 ha hb
theorem de_mulI (ha : DE X O .rd a ta fa) (hb : DE X O .rd b tb fb) : DE X O .cl (.BinOp a .Mult b pos) (tOp rMulI ta tb) (fBin dMul fa fb) := de_op op_mulX (opd_I fun i j h => mulC_of h) ha hb
theorem de_mod (ha : DE X O .rd a ta fa) (hb : DE X O .rd b tb fb) : DE X O .cl (.BinOp a .Mod b pos) (tOp rModI ta tb) (fBin dMod fa fb) := de_op op_modN (opd_I fun i j h => (show _ from of_decide_eq_true h)) ha hb
theorem de_div (ha : DE X O .rd a ta fa) (hb : DE X O .rd b tb fb) : DE X O .cl (.BinOp a .FloorDiv b pos) (tOp rDivI ta tb) (fBin dDiv fa fb) := de_op op_fdivL (opd_I fun i j h => divC_of h) ha hb
theorem de_pow (ha : DE X O .rd a ta fa) (hb : DE X O .rd b tb fb) : DE X O .cl (.BinOp a .Pow b pos) (tOp rPowI ta tb) (fBin dPow fa fb) := de_op op_pow (opd_I fun i j h => powC_of h) ha hb
theorem de_ge (ha : DE X O .rd a ta fa) (hb : DE X O .rd b tb fb) : DE X O .cl (.Compare a [.GtE] [b] pos) (tOp rGeI ta tb) (fBin dGe fa fb) := de_cmp op_ge opd_B0 ha hb (nomark _)
def dNeg : PyData → Option PyData
  | .int i => some (.int (-i))
  | _ => none
theorem und_neg : UnD (rU fun i => .int (-i)) .cl dNeg := by
  intro Hs H v x z e h1 hz Q q
  cases x <;> try (cases hz; done)
  cases hz
  exact ⟨_, rd_int h1, q _ Hs H (.refl e) res_int⟩
theorem de_neg (ha : DE X O .rd a ta fa) : DE X O .cl (.UnaryOp .USub a pos) (tUn (rU fun i => .int (-i)) ta) (fUn dNeg fa) := de_un un_neg und_neg ha
def dEq : PyData → PyData → Option PyData := fun x y => if (SeqAt.shaped x && SeqAt.shaped y) = true then some (.bool (PyData.eqv x y)) else none
def dNe : PyData → PyData → Option PyData := fun x y => if (SeqAt.shaped x && SeqAt.shaped y) = true then some (.bool (!PyData.eqv x y)) else none
theorem opd_eq : OpD (rEqD KF.K) .cl dEq := by
  intro Hs H v w x y z e h1 h2 hz Q q
  unfold dEq at hz
  by_cases hc : (SeqAt.shaped x && SeqAt.shaped y) = true
  · rw [if_pos hc] at hz
    cases hz
    rw [Bool.and_eq_true] at hc
    exact ⟨x, y, (rd_R e h1).dp (PyData.hasDict_of_canLay _ (SeqAt.canLay_of_shaped hc.1)), (rd_R e h2).dp (PyData.hasDict_of_canLay _ (SeqAt.canLay_of_shaped hc.2)), hc.1, hc.2, q _ Hs H (.refl e) res_bl⟩
  · rw [if_neg hc] at hz
    cases hz
theorem opd_ne : OpD (rNeD KF.K) .cl dNe := by
  intro Hs H v w x y z e h1 h2 hz Q q
  unfold dNe at hz
  by_cases hc : (SeqAt.shaped x && SeqAt.shaped y) = true
  · rw [if_pos hc] at hz
    cases hz
    rw [Bool.and_eq_true] at hc
    exact ⟨x, y, (rd_R e h1).dp (PyData.hasDict_of_canLay _ (SeqAt.canLay_of_shaped hc.1)), (rd_R e h2).dp (PyData.hasDict_of_canLay _ (SeqAt.canLay_of_shaped hc.2)), hc.1, hc.2, q _ Hs H (.refl e) res_bl⟩
  · rw [if_neg hc] at hz
    cases hz
theorem de_eq (hu : X.A.units + 64 < cLine) (hK : X.K = KF.K) (ha : DE X O .rd a ta fa) (hb : DE X O .rd b tb fb) : DE X O .cl (.Compare a [.Eq] [b] pos) (tOp (rEqD X.K) ta tb) (fBin dEq fa fb) := de_cmp (op_eqD hu) (by rw [hK]; exact opd_eq) ha hb (nomark _)
def isN : PyData → Bool
  | .none => true
  | _ => false
theorem isN_of {H0 Hs H : Hp} {v : V} {x : PyData} (h : Res .rd H0 Hs H v x) : decide (v = .non) = isN x := by
  rcases h with h | ⟨a, vs, ds, rfl, rfl, _⟩
  · cases h <;> rfl
  · rfl
def dIs : PyData → PyData → Option PyData := fun x y => match y with
  | .none => some (.bool (isN x))
  | _ => none
def dIsNot : PyData → PyData → Option PyData := fun x y => match y with
  | .none => some (.bool (!isN x))
  | _ => none
theorem opd_is : OpD (fun x y H Q => y = .non ∧ Q (.bl (decide (x = .non))) H) .cl dIs := by
  intro Hs H v w x y z e h1 h2 hz Q q
  cases y <;> try (cases hz; done)
  cases hz
  refine ⟨?_, ?_⟩
  · rcases h2 with h2 | ⟨_, _, _, _, q, _⟩
    · cases h2; rfl
    · cases q
  · show Q (.bl (decide (v = .non))) H
    rw [isN_of h1]
    exact q _ Hs H (.refl e) res_bl
theorem opd_isnot : OpD (fun x y H Q => y = .non ∧ Q (.bl (!decide (x = .non))) H) .cl dIsNot := by
  intro Hs H v w x y z e h1 h2 hz Q q
  cases y <;> try (cases hz; done)
  cases hz
  refine ⟨?_, ?_⟩
  · rcases h2 with h2 | ⟨_, _, _, _, q, _⟩
    · cases h2; rfl
    · cases q
  · show Q (.bl (!decide (v = .non))) H
    rw [isN_of h1]
    exact q _ Hs H (.refl e) res_bl
theorem dt_val (ha : DE X O .rd a ta fa) (he : ∀ whole, isTrue a X.env whole = (do let v ← whole; standAt a.pos; holding [v] (truthy v)) := by intro _; rfl) : DT X O a (tB ta) (tV fa) :=
  ⟨pt_val ha.pe he, fun ρ σ Hs H b s h Q q => by
    obtain ⟨x, hx, h⟩ := bind_some h
    refine ha.ev ρ σ Hs H x s hx _ fun v Hs1 H1 g1 r1 => ?_
    cases x <;> try (cases h; done)
    cases h
    exact ⟨_, rd_bool r1, q Hs1 H1 g1⟩⟩
theorem dt_tru (hK : X.K = KF.K) (ha : DE X O .rd a ta fa) (he : ∀ whole, isTrue a X.env whole = (do let v ← whole; standAt a.pos; holding [v] (truthy v)) := by intro _; rfl) : DT X O a (fun σ H Q => ta σ H fun x H' => ∃ k, TruV X.K x H' k ∧ Q k H') (tTr fa) :=
  ⟨pt_truth ha.pe he, fun ρ σ Hs H b s h Q q => by
    obtain ⟨x, hx, h⟩ := bind_some h
    refine ha.ev ρ σ Hs H x s hx _ fun v Hs1 H1 g1 r1 => ?_
    refine ⟨b, ?_, q Hs1 H1 g1⟩
    cases x <;> try (cases h; done)
    · cases h
      rcases r1 with r1 | ⟨_, _, _, _, q, _⟩
      · cases r1; rfl
      · cases q
    · cases h
      rw [rd_bool r1] <;> rfl
    · cases h
      rw [rd_int r1] <;> rfl
    · cases h
      obtain ⟨p, vs, rfl, h1, h2⟩ := rd_list g1.sub r1
      refine .inl ⟨vs, by rw [hK]; exact h1.sq, ?_⟩
      cases h2 <;> rfl
    · cases h
      obtain ⟨p, vs, rfl, h1, h2⟩ := rd_tup g1.sub r1
      refine .inr (.inl ⟨vs, by rw [hK]; exact h1.sq, ?_⟩)
      cases h2 <;> rfl⟩
theorem dt_not (ha : DT X O a tA' ft) : DT X O (.UnaryOp .Not a pos) (tNot tA') (tN ft) :=
  ⟨pt_not ha.pt, fun ρ σ Hs H b s h Q q => by
    obtain ⟨x, hx, h⟩ := bind_some h
    cases h
    exact ha.ev ρ σ Hs H x s hx _ fun Hs1 H1 g1 => q Hs1 H1 g1⟩
structure DW (X : Cx) (O : List Nat) (e : Expr) (tt : TT) (f : FT) : Prop where
  pw : PW X e tt
  ev : ∀ (ρ : Rho) (σ : St) (Hs H : Hp) (b : Bool), Slots O ρ σ Hs H → f ρ = some b → EvT tt σ Hs H b
theorem DW.dt (h : DW X O a tA' ft) : DT X O a tA' ft := ⟨h.pw.pt, h.ev⟩
theorem dw_and1 (ha : DT X O a tA' ft) : DW X O (.BoolOp .And [a] pos) tA' ft := ⟨pw_and1 ha.pt, ha.ev⟩
theorem dw_or1 (ha : DT X O a tA' ft) : DW X O (.BoolOp .Or [a] pos) tA' ft := ⟨pw_or1 ha.pt, ha.ev⟩
theorem dw_and {rest : List Expr} (ha : DT X O a tA' ft) (hb : DW X O (.BoolOp .And (b :: rest) pos) tB' fu) : DW X O (.BoolOp .And (a :: b :: rest) pos) (tAnd tA' tB') (tA ft fu) :=
  ⟨pw_and ha.pt hb.pw, fun ρ σ Hs H k s h Q q => by
    obtain ⟨x, hx, h⟩ := bind_some h
    refine ha.ev ρ σ Hs H x s hx _ fun Hs1 H1 g1 => ?_
    cases x with
    | true => exact iteT (hb.ev ρ σ Hs1 H1 k (s.mono g1) h Q fun Hs2 H2 g2 => q Hs2 H2 (g1.trans g2))
    | false =>
      cases h
      exact iteF (q Hs1 H1 g1)⟩
theorem dw_or {rest : List Expr} (ha : DT X O a tA' ft) (hb : DW X O (.BoolOp .Or (b :: rest) pos) tB' fu) : DW X O (.BoolOp .Or (a :: b :: rest) pos) (tOr tA' tB') (tO ft fu) :=
  ⟨pw_or ha.pt hb.pw, fun ρ σ Hs H k s h Q q => by
    obtain ⟨x, hx, h⟩ := bind_some h
    refine ha.ev ρ σ Hs H x s hx _ fun Hs1 H1 g1 => ?_
    cases x with
    | true =>
      cases h
      exact iteT (q Hs1 H1 g1)
    | false => exact iteF (hb.ev ρ σ Hs1 H1 k (s.mono g1) h Q fun Hs2 H2 g2 => q Hs2 H2 (g1.trans g2))⟩
theorem de_one {op : BoolOp} (ha : DE X O m a ta fa) : DE X O m (.BoolOp op [a] pos) ta fa := ⟨pe_one ha.pe, ha.ev⟩
theorem de_and {rest : List Expr} (ha : DE X O .rd a ta fa) (hb : DE X O .cl (.BoolOp .And (b :: rest) pos) tb fb) : DE X O .cl (.BoolOp .And (a :: b :: rest) pos) (tAndV ta tb) (fAnd fa fb) :=
  ⟨pe_and ha.pe hb.pe, fun ρ σ Hs H d s h Q q => by
    obtain ⟨x, hx, h⟩ := bind_some h
    refine ha.ev ρ σ Hs H x s hx _ fun v Hs1 H1 g1 r1 => ?_
    cases x <;> try (cases h; done)
    rename_i k
    refine ⟨k, rd_bool r1, ?_⟩
    cases k with
    | true => exact iteT (hb.ev ρ σ Hs1 H1 d (s.mono g1) h Q fun u Hs2 H2 g2 r2 => q u Hs2 H2 (g1.trans g2) r2)
    | false =>
      cases h
      exact iteF (q _ Hs1 H1 g1 res_bl)⟩
theorem de_not (ha : DE X O .rd a ta fa) : DE X O .cl (.UnaryOp .Not a pos) (tNotV ta) (fUn gNot fa) :=
  ⟨pe_not ha.pe, fun ρ σ Hs H d s h Q q => by
    obtain ⟨x, hx, h⟩ := bind_some h
    refine ha.ev ρ σ Hs H x s hx _ fun v Hs1 H1 g1 r1 => ?_
    cases x <;> try (cases h; done)
    cases h
    exact ⟨_, rd_bool r1, q _ Hs1 H1 g1 res_bl⟩⟩
theorem de_if (hc : DT X O c tA' ft) (ha : DE X O m a ta fa) (hb : DE X O m b tb fb) : DE X O m (.IfExp c a b pos) (tIf tA' ta tb) (fIf ft fa fb) :=
  ⟨pe_ifExp hc.pt ha.pe hb.pe, fun ρ σ Hs H d s h Q q => by
    obtain ⟨x, hx, h⟩ := bind_some h
    refine hc.ev ρ σ Hs H x s hx _ fun Hs1 H1 g1 => ?_
    cases x with
    | true => exact iteT (ha.ev ρ σ Hs1 H1 d (s.mono g1) h Q fun u Hs2 H2 g2 r2 => q u Hs2 H2 (g1.trans g2) (r2.back g1.h))
    | false => exact iteF (hb.ev ρ σ Hs1 H1 d (s.mono g1) h Q fun u Hs2 H2 g2 r2 => q u Hs2 H2 (g1.trans g2) (r2.back g1.h))⟩
theorem da_nil : DA X O [] tNil fNilA := ⟨pa_nil, fun ρ σ Hs H ds s h Q q => by
  cases h
  exact q [] Hs H (.refl s.sub) .nil⟩
theorem da_cons {ta' : TA} {fr : FA} (ha : DE X O .rd e te f) (hr : DA X O es ta' fr) (hs : starEach (e :: es) X.env = (false, eval e X.env) :: starEach es X.env := by rfl) : DA X O (e :: es) (tCons te ta') (fConsA f fr) :=
  ⟨pa_cons ha.pe hr.pa hs, fun ρ σ Hs H ds s h Q q => by
    obtain ⟨x, hx, h⟩ := bind_some h
    obtain ⟨xs, hxs, h⟩ := bind_some h
    cases h
    refine ha.ev ρ σ Hs H x s hx _ fun v Hs1 H1 g1 r1 => ?_
    refine hr.ev ρ σ Hs1 H1 xs (s.mono g1) hxs _ fun vs Hs2 H2 g2 r2 => ?_
    exact q _ Hs2 H2 (g1.trans g2) (.cons (r1.rd_mono g2) r2)⟩
theorem dac_nil : DAc X O [] tNil fNilA := ⟨pa_nil, fun ρ σ Hs H ds s h Q q => by
  cases h
  exact q [] Hs H (.refl s.sub) .nil⟩
theorem dac_cons {ta' : TA} {fr : FA} (ha : DE X O .cl e te f) (hr : DAc X O es ta' fr) (hs : starEach (e :: es) X.env = (false, eval e X.env) :: starEach es X.env := by rfl) : DAc X O (e :: es) (tCons te ta') (fConsA f fr) :=
  ⟨pa_cons ha.pe hr.pa hs, fun ρ σ Hs H ds s h Q q => by
    obtain ⟨x, hx, h⟩ := bind_some h
    obtain ⟨xs, hxs, h⟩ := bind_some h
    cases h
    refine ha.ev ρ σ Hs H x s hx _ fun v Hs1 H1 g1 r1 => ?_
    refine hr.ev ρ σ Hs1 H1 xs (s.mono g1) hxs _ fun vs Hs2 H2 g2 r2 => ?_
    exact q _ Hs2 H2 (g1.trans g2) (.cons (R.mono g2.s r1) r2)⟩
end
end DL
namespace DL
open PySem PySem.Spec L2
open PyProof.Rows hiding St
variable [KF]
section
variable {X : Cx} {pins : List (Addr × Obj)} {σ : St} {H : Hp} {s : Shared} {l : Addr} {xs : List V}
theorem lstR (hK : X.K = KF.K) (I : Inv X pins σ H s) (hH : LsK H l xs) : xs.length ≤ sizeLine ∧ ∃ (its : List Value) (n : Nat), Vals xs its ∧ xs.length = its.length ∧ s.heap.get? l = some { cls := .type "list", data := .seq its.toArray n } := by
  rcases hH.old with hH | ⟨its, n, h1, h2, h3⟩
  · have q := hH.ok I.hok
    obtain ⟨z, its, n, r, e⟩ := q
    exact ⟨z, its, n, r, Vals.length r, e⟩
  · exact ⟨by rw [Vals.length h3, Array.length_toList]; exact h2, its.toList, n, h3, Vals.length h3, I.kIn l _ (by rw [hK]; exact h1)⟩
end
def rCatR : R2 := fun x y H Q => ∃ l b xs zs, x = .ref l ∧ y = .ref b ∧ LsK H l xs ∧ LsK H b zs ∧ xs.length + zs.length ≤ sizeLine ∧ ∀ p, H p = none → Q (.ref p) (upd H p (.lst (xs ++ zs)))
section
variable {X : Cx}
theorem op_catR (hK : X.K = KF.K) : OpR X (binaryOp .Add) rCatR := by
  intro pins s σ H x y v u Q I rx ry h
  obtain ⟨l, b, xs, zs, rfl, rfl, h1, h2, hz, q⟩ := h
  cases rx
  cases ry
  obtain ⟨z1, is1, n1, r1, hl1, e1⟩ := lstR hK I h1
  obtain ⟨z2, is2, n2, r2, hl2, e2⟩ := lstR hK I h2
  have big : is1.toArray.size + is2.toArray.size ≤ sizeLine := by
    rw [List.size_toArray, List.size_toArray]
    omega
  refine PySem.P.add_list e1 e2 ?_ big
  have both : is1.toArray ++ is2.toArray = (is1 ++ is2).toArray := by simp
  rw [both]
  exact ⟨.ref _, _, I.lnew (t' := s.toks) (r1.append r2) (by rw [List.length_append]; omega), rfl, q _ I.fresh⟩
end
def catC (n m : Nat) : Bool := decide (n + m ≤ 16000000)
omit [KF] in
theorem catC_of {n m : Nat} (h : catC n m = true) : n + m ≤ sizeLine := Nat.le_trans (of_decide_eq_true (p := n + m ≤ 16000000) h) (by decide)
def dCat : PyData → PyData → Option PyData
  | .list xs, .list ys => if catC xs.length ys.length = true then some (.list (xs ++ ys)) else none
  | _, _ => none
theorem res_new {Hs H : Hp} {vs : List V} {ds : List PyData} {p : Addr} (e : Same Hs H) (hp : H p = none) (r : RA Hs vs ds) : Res .ow H Hs (upd H p (.lst vs)) (.ref p) (.list ds) :=
  ⟨⟨p, vs, ds, rfl, rfl, Same.free e hp, upd_same, r⟩, p, rfl, hp⟩
omit [KF] in
theorem if_some {c : Bool} {α : Type} {a b : α} (h : (if c = true then some a else none) = some b) : c = true ∧ a = b := by
  cases c with
  | true => exact ⟨rfl, Option.some.inj h⟩
  | false => cases h
theorem opd_cat : OpD rCatR .ow dCat := by
  intro Hs H v w x y z e h1 h2 hz Q q
  cases x <;> try (cases hz; done)
  cases y <;> try (cases hz; done)
  rename_i xs ys
  obtain ⟨c, rfl⟩ := if_some (show (if catC xs.length ys.length = true then some (.list (xs ++ ys)) else none) = some z from hz)
  obtain ⟨a, vs, rfl, p1, r1⟩ := rd_list e h1
  obtain ⟨b, ws, rfl, p2, r2⟩ := rd_list e h2
  refine ⟨a, b, vs, ws, rfl, rfl, p1, p2, by rw [r1.length, r2.length]; exact catC_of c, fun p hp => ?_⟩
  exact q _ Hs _ (Gr.own e hp) (res_new e hp (r1.append r2))
section
variable {X : Cx} {O : List Nat} {e a b c : Expr} {es : List Expr} {te ta tb tc : TE} {t : TA} {f fa fb fc : F} {fs : FA} {m : Md} {pos : Pos}
theorem de_cat (hK : X.K = KF.K) (ha : DE X O .rd a ta fa) (hb : DE X O .rd b tb fb) : DE X O .ow (.BinOp a .Add b pos) (tOp rCatR ta tb) (fBin dCat fa fb) := de_op (op_catR hK) opd_cat ha hb
def repC (n : Nat) (k : Int) : Bool := decide (-(2 ^ 63) ≤ k ∧ k < 2 ^ 63 ∧ n * k.toNat ≤ 100000)
def dRep : PyData → PyData → Option PyData
  | .list xs, .int k => if repC xs.length k = true then some (.list (List.replicate k.toNat xs).flatten) else none
  | _, _ => none
theorem RA.rep {H : Hp} {vs : List V} {ds : List PyData} (r : RA H vs ds) : ∀ n : Nat, RA H (List.replicate n vs).flatten (List.replicate n ds).flatten
  | 0 => .nil
  | n + 1 => by
    rw [List.replicate_succ, List.replicate_succ, List.flatten_cons, List.flatten_cons]
    exact r.append (RA.rep r n)
theorem de_rep (ha : DE X O .ow a ta fa) (hb : DE X O .rd b tb fb) : DE X O .ow (.BinOp a .Mult b pos) (tOp rRep ta tb) (fBin dRep fa fb) :=
  ⟨pe_op op_rep ha.pe hb.pe, fun ρ σ Hs H d s h Q q => by
    obtain ⟨x, hx, h⟩ := bind_some h
    obtain ⟨y, hy, h⟩ := bind_some h
    refine ha.ev ρ σ Hs H x s hx _ fun v Hs1 H1 g1 r1 => ?_
    refine hb.ev ρ σ Hs1 H1 y (s.mono g1) hy _ fun w Hs2 H2 g2 r2 => ?_
    cases x <;> try (cases h; done)
    cases y <;> try (cases h; done)
    rename_i k
    rename_i xs _
    obtain ⟨c, rfl⟩ := if_some (show (if repC xs.length k = true then some (PyData.list (List.replicate k.toNat xs).flatten) else none) = some d from h)
    have c := of_decide_eq_true (p := -(2 ^ 63) ≤ k ∧ k < 2 ^ 63 ∧ xs.length * k.toNat ≤ 100000) c
    obtain ⟨⟨p, vs, ds, rfl, ed, n1, n2, n3⟩, _⟩ := r1
    cases ed
    refine ⟨p, k, vs, rfl, rd_int r2, g2.h _ _ n2, c.1, c.2.1, ?_, fun l hl => ?_⟩
    · rw [n3.length]
      exact Nat.le_trans c.2.2 (by decide)
    · exact q _ Hs2 _ ((g1.trans g2).trans (Gr.own g2.sub hl)) (Res.back (g1.h.trans g2.h) (res_new g2.sub hl ((n3.mono g2.s).rep _)))⟩
def dList : List PyData → Option PyData := fun xs => if catC xs.length 0 = true then some (.list xs) else none
def dTup : List PyData → Option PyData := fun xs => if catC xs.length 0 = true then some (.tuple xs) else none
theorem de_list (h : DAc X O es t fs) : DE X O .ow (.List es pos) (tLst t) (fFn dList fs) :=
  ⟨pe_lst h.pa, fun ρ σ Hs H d s hf Q q => by
    obtain ⟨x, hx, hf⟩ := bind_some hf
    obtain ⟨c, rfl⟩ := if_some (show (if catC x.length 0 = true then some (PyData.list x) else none) = some d from hf)
    refine h.ev ρ σ Hs H x s hx _ fun vs Hs1 H1 g1 r1 => ⟨by rw [r1.length]; exact catC_of c, fun p hp => ?_⟩
    exact q _ Hs1 _ (g1.trans (Gr.own g1.sub hp)) (Res.back g1.h (res_new g1.sub hp r1))⟩
theorem de_tup {k : Nat} (h : DAc X O es t fs) : DE X O .cl (.Tuple es k pos) (tTup t) (fFn dTup fs) :=
  ⟨pe_tup h.pa, fun ρ σ Hs H d s hf Q q => by
    obtain ⟨x, hx, hf⟩ := bind_some hf
    obtain ⟨c, rfl⟩ := if_some (show (if catC x.length 0 = true then some (PyData.tuple x) else none) = some d from hf)
    refine h.ev ρ σ Hs H x s hx _ fun vs Hs1 H1 g1 r1 => ⟨by rw [r1.length]; exact catC_of c, fun p hp => ?_⟩
    exact q _ _ _ (g1.trans (Gr.new g1.sub hp)) (show R _ _ _ from .tup (.inl (.inl upd_same)) (r1.mono (same_new (Same.free g1.sub hp))))⟩
def dIx : PyData → PyData → Option PyData
  | .list xs, .int i => atI xs i
  | .tuple xs, .int i => atI xs i
  | _, _ => none
theorem atI_R {H : Hp} {vs : List V} {ds : List PyData} {i : Int} {d : PyData} (r : RA H vs ds) (h : atI ds i = some d) : ∃ v, atI vs i = some v ∧ R H v d := by
  unfold atI at h ⊢
  rw [r.length]
  obtain ⟨j, hj, h⟩ := bind_some h
  obtain ⟨v, h1, h2⟩ := r.get h
  exact ⟨v, by rw [hj]; exact h1, h2⟩
theorem opd_ix : OpD (rIx KF.K) .cl dIx := by
  intro Hs H v w x y z e h1 h2 hz Q q
  cases x <;> try (cases hz; done)
  · cases y <;> try (cases hz; done)
    rename_i xs i
    obtain ⟨a, vs, rfl, p1, r1⟩ := rd_list e h1
    obtain ⟨u, hu, ru⟩ := atI_R r1 (show atI xs i = some z from hz)
    exact .inl ⟨a, vs, i, u, rfl, rd_int h2, p1.sq, hu, q u Hs H (.refl e) ru⟩
  · cases y <;> try (cases hz; done)
    rename_i xs i
    obtain ⟨a, vs, rfl, p1, r1⟩ := rd_tup e h1
    obtain ⟨u, hu, ru⟩ := atI_R r1 (show atI xs i = some z from hz)
    exact .inr (.inl ⟨a, vs, i, u, rfl, rd_int h2, p1.sq, hu, q u Hs H (.refl e) ru⟩)
theorem de_ix (hK : X.K = KF.K) (ha : DE X O .rd a ta fa) (hb : DE X O .rd b tb fb) (hs : PlainIx b := by intro _ _; rfl) : DE X O .cl (.Subscript a b pos) (tOp (rIx X.K) ta tb) (fBin dIx fa fb) := de_ixR ix_seq (by rw [hK]; exact opd_ix) ha hb hs
structure DO (X : Cx) (O : List Nat) (e : Option Expr) (to : TO) (f : Rho → Option (Option Int)) : Prop where
  po : PO X e to
  ev : ∀ (ρ : Rho) (σ : St) (Hs H : Hp) (o : Option Int), Slots O ρ σ Hs H → f ρ = some o → ∀ Q : Option Int → Hp → Prop, (∀ Hs' H', Gr Hs H Hs' H' → Q o H') → to σ H Q
def oNone : Rho → Option (Option Int) := fun _ => some none
def oSome (f : F) : Rho → Option (Option Int) := fun ρ => (f ρ).bind fun x => match x with
  | .int i => some (some i)
  | _ => none
theorem do_none : DO X O none tNoPart oNone := ⟨po_none, fun ρ σ Hs H o s h Q q => by
  cases h
  exact q Hs H (.refl s.sub)⟩
theorem do_some (h : DE X O .rd e te f) : DO X O (some e) (tPart te) (oSome f) := ⟨po_some h.pe, fun ρ σ Hs H o s hf Q q => by
  obtain ⟨x, hx, hf⟩ := bind_some hf
  refine h.ev ρ σ Hs H x s hx _ fun v Hs1 H1 g1 r1 => ?_
  cases x <;> try (cases hf; done)
  cases hf
  exact ⟨_, rd_int r1, q Hs1 H1 g1⟩⟩
def cutD (xs : List PyData) (lo hi : Option Int) : List PyData := (xs.drop (HT.sIx xs.length 0 lo)).take (HT.sIx xs.length xs.length hi - HT.sIx xs.length 0 lo)
def fSl (fa : F) (l h : Rho → Option (Option Int)) : F := fun ρ => (fa ρ).bind fun x => (l ρ).bind fun lo => (h ρ).bind fun hi => match x with
  | .list xs => some (.list (cutD xs lo hi))
  | _ => none
theorem de_slice (hK : X.K = KF.K) {lo hi : Option Expr} {tl th : TO} {fl fh : Rho → Option (Option Int)} {p2 : Pos} (ha : DE X O .rd a ta fa) (hl : DO X O lo tl fl) (hh : DO X O hi th fh) : DE X O .ow (.Subscript a (.Slice lo hi none p2) pos) (tSl (rSlL X.K) ta tl th) (fSl fa fl fh) :=
  ⟨pe_slice sl_list ha.pe hl.po hh.po, fun ρ σ Hs H d s h Q q => by
    obtain ⟨x, hx, h⟩ := bind_some h
    obtain ⟨l, h1, h⟩ := bind_some h
    obtain ⟨u, h2, h⟩ := bind_some h
    refine ha.ev ρ σ Hs H x s hx _ fun v Hs1 H1 g1 r1 => ?_
    refine hl.ev ρ σ Hs1 H1 l (s.mono g1) h1 _ fun Hs2 H2 g2 => ?_
    refine hh.ev ρ σ Hs2 H2 u ((s.mono g1).mono g2) h2 _ fun Hs3 H3 g3 => ?_
    cases x <;> try (cases h; done)
    cases h
    obtain ⟨p, vs, rfl, p1, p2⟩ := rd_list g1.sub r1
    have g23 := g2.trans g3
    refine ⟨p, vs, rfl, by rw [hK]; exact (ls_mono g23.h p1).sq, fun n hn => ?_⟩
    have rr := p2.mono g23.s
    have er : cutV vs l u = (vs.drop (HT.sIx vs.length 0 l)).take (HT.sIx vs.length vs.length u - HT.sIx vs.length 0 l) := rfl
    rw [er, rr.length]
    exact q _ Hs3 _ ((g1.trans g23).trans (Gr.own g3.sub hn)) (Res.back (g1.trans g23).h (res_new g3.sub hn ((rr.drop _).take _)))⟩
theorem de_b {x : Str} {p : Pos} {id : String} {r : List V → Hp → VK → Prop} {g : List PyData → Option PyData} (hc : CallR X (.builtin id) r) (hg : CallD r m g) (gl : Gl X x) (hm : X.mg x = none) (hv : bootBuiltins x = some (.builtin id)) (ha : DA X O (e :: es) t fs)
    (hn : x ≠ "__name__" := by decide) (hdb : (x == ("__debug__" : Str)) = false := by decide) (he : starEach (e :: es) X.env = (false, eval e X.env) :: starEach es X.env := by rfl) (hpl : (backTo pos (starEach es X.env)).any (·.1) = false := by rfl) :
    DE X O m (.Call (.Name x p) (e :: es) [] pos) (tCB r t) (fFn g fs) :=
  ⟨pe_callB hc gl hm hv ha.pa hn hdb he hpl, fun ρ σ Hs H d s h Q q => by
    obtain ⟨xs, hx, h⟩ := bind_some h
    refine ha.ev ρ σ Hs H xs s hx _ fun vs Hs1 H1 g1 r1 => ?_
    exact hg Hs1 H1 vs xs d g1.sub r1 h Q fun u Hs2 H2 g2 r2 => q u Hs2 H2 (g1.trans g2) (r2.back g1.h)⟩
theorem de_t {x : Str} {p : Pos} {T : String} {r : List V → Hp → VK → Prop} {g : List PyData → Option PyData} (hc : CallR X (.type T) r) (hg : CallD r m g) (gl : Gl X x) (hm : X.mg x = none) (hv : bootBuiltins x = some (.type T)) (ha : DA X O (e :: es) t fs)
    (hn : x ≠ "__name__" := by decide) (hdb : (x == ("__debug__" : Str)) = false := by decide) (he : starEach (e :: es) X.env = (false, eval e X.env) :: starEach es X.env := by rfl) (hpl : (backTo pos (starEach es X.env)).any (·.1) = false := by rfl) :
    DE X O m (.Call (.Name x p) (e :: es) [] pos) (tCB r t) (fFn g fs) :=
  ⟨pe_callTy hc gl hm hv ha.pa hn hdb he hpl, fun ρ σ Hs H d s h Q q => by
    obtain ⟨xs, hx, h⟩ := bind_some h
    refine ha.ev ρ σ Hs H xs s hx _ fun vs Hs1 H1 g1 r1 => ?_
    exact hg Hs1 H1 vs xs d g1.sub r1 h Q fun u Hs2 H2 g2 r2 => q u Hs2 H2 (g1.trans g2) (r2.back g1.h)⟩
theorem rdA1 {Hs H : Hp} {vs : List V} {x : PyData} (h : RdA Hs H vs [x]) : ∃ v, vs = [v] ∧ Res .rd H Hs H v x := by
  cases h with
  | cons a b => cases b; exact ⟨_, rfl, a⟩
theorem rdA2 {Hs H : Hp} {vs : List V} {x y : PyData} (h : RdA Hs H vs [x, y]) : ∃ v w, vs = [v, w] ∧ Res .rd H Hs H v x ∧ Res .rd H Hs H w y := by
  cases h with
  | cons a b => cases b with
    | cons c d => cases d; exact ⟨_, _, rfl, a, c⟩
def g1 (g : PyData → Option PyData) : List PyData → Option PyData
  | [x] => g x
  | _ => none
def g2 (g : PyData → PyData → Option PyData) : List PyData → Option PyData
  | [x, y] => g x y
  | _ => none
omit [KF] in
theorem g1_some {g : PyData → Option PyData} {xs : List PyData} {z : PyData} (h : g1 g xs = some z) : ∃ x, xs = [x] ∧ g x = some z := by
  match xs, h with
  | [x], h => exact ⟨x, rfl, h⟩
  | [], h => cases h
  | _ :: _ :: _, h => cases h
omit [KF] in
theorem g2_some {g : PyData → PyData → Option PyData} {xs : List PyData} {z : PyData} (h : g2 g xs = some z) : ∃ x y, xs = [x, y] ∧ g x y = some z := by
  match xs, h with
  | [x, y], h => exact ⟨x, y, rfl, h⟩
  | [], h => cases h
  | [_], h => cases h
  | _ :: _ :: _ :: _, h => cases h
def dLen : PyData → Option PyData
  | .list xs => some (.int xs.length)
  | .tuple xs => some (.int xs.length)
  | _ => none
abbrev rLenD (K : PySem.W.Frag) : List V → Hp → VK → Prop := fun xs H Q => ∃ p ys, xs = [.ref p] ∧ (SqL K H p ys ∨ SqT K H p ys) ∧ Q (.int ys.length) H
theorem cd_len : CallD (rLenD KF.K) .cl (g1 dLen) := by
  intro Hs H vs xs z e hv hz Q q
  obtain ⟨x, rfl, hz⟩ := g1_some hz
  obtain ⟨v, rfl, hr⟩ := rdA1 hv
  cases x <;> try (cases hz; done)
  · cases hz
    obtain ⟨p, ws, rfl, a, b⟩ := rd_list e hr
    refine ⟨p, ws, rfl, .inl a.sq, ?_⟩
    rw [b.length]
    exact q _ Hs H (.refl e) res_int
  · cases hz
    obtain ⟨p, ws, rfl, a, b⟩ := rd_tup e hr
    refine ⟨p, ws, rfl, .inr a.sq, ?_⟩
    rw [b.length]
    exact q _ Hs H (.refl e) res_int
theorem de_len {p : Pos} (hK : X.K = KF.K) (gl : Gl X "len") (hm : X.mg "len" = none) (ha : DE X O .rd e te f) (hs : starEach [e] X.env = [(false, eval e X.env)] := by rfl) : DE X O .cl (.Call (.Name "len" p) [e] [] pos) (tCB (rLenD X.K) (tCons te tNil)) (fFn (g1 dLen) (fConsA f fNilA)) :=
  de_b call_len_seq (by rw [hK]; exact cd_len) gl hm PySem.boot_len (da_cons ha da_nil hs) (he := hs)
def dInt : PyData → Option PyData
  | .int i => some (.int i)
  | .bool b => some (.int (if b then 1 else 0))
  | _ => none
abbrev rIntD : List V → Hp → VK → Prop := fun xs H Q => (∃ i, xs = [.int i] ∧ Q (.int i) H) ∨ ∃ k, xs = [.bl k] ∧ Q (.int (if k then 1 else 0)) H
theorem cd_int : CallD rIntD .cl (g1 dInt) := by
  intro Hs H vs xs z e hv hz Q q
  obtain ⟨x, rfl, hz⟩ := g1_some hz
  obtain ⟨v, rfl, hr⟩ := rdA1 hv
  cases x <;> try (cases hz; done)
  · cases hz
    rw [rd_bool hr]
    exact .inr ⟨_, rfl, q _ Hs H (.refl e) res_int⟩
  · cases hz
    rw [rd_int hr]
    exact .inl ⟨_, rfl, q _ Hs H (.refl e) res_int⟩
theorem de_intc {p : Pos} (gl : Gl X "int") (hm : X.mg "int" = none) (ha : DE X O .rd e te f) (hs : starEach [e] X.env = [(false, eval e X.env)] := by rfl) : DE X O .cl (.Call (.Name "int" p) [e] [] pos) (tCB rIntD (tCons te tNil)) (fFn (g1 dInt) (fConsA f fNilA)) :=
  de_t call_int1 cd_int gl hm (by decide +kernel) (da_cons ha da_nil hs) (he := hs)
def dAbs : PyData → Option PyData
  | .int i => some (.int (if i < 0 then -i else i))
  | _ => none
abbrev rAbsD : List V → Hp → VK → Prop := fun xs H Q => ∃ i, xs = [.int i] ∧ Q (.int (if i < 0 then -i else i)) H
theorem cd_abs : CallD rAbsD .cl (g1 dAbs) := by
  intro Hs H vs xs z e hv hz Q q
  obtain ⟨x, rfl, hz⟩ := g1_some hz
  obtain ⟨v, rfl, hr⟩ := rdA1 hv
  cases x <;> try (cases hz; done)
  cases hz
  rw [rd_int hr]
  exact ⟨_, rfl, q _ Hs H (.refl e) res_int⟩
theorem de_abs {p : Pos} (gl : Gl X "abs") (hm : X.mg "abs" = none) (ha : DE X O .rd e te f) (hs : starEach [e] X.env = [(false, eval e X.env)] := by rfl) : DE X O .cl (.Call (.Name "abs" p) [e] [] pos) (tCB rAbsD (tCons te tNil)) (fFn (g1 dAbs) (fConsA f fNilA)) :=
  de_b call_abs cd_abs gl hm (by decide +kernel) (da_cons ha da_nil hs) (he := hs)
def dGcd : PyData → PyData → Option PyData
  | .int i, .int j => some (.int ((Nat.gcd i.natAbs j.natAbs : Nat) : Int))
  | _, _ => none
def dListOf : PyData → Option PyData
  | .list xs => some (.list xs)
  | .tuple xs => some (.list xs)
  | _ => none
abbrev rListD (K : PySem.W.Frag) : List V → Hp → VK → Prop := fun xs H Q => ∃ p ys, xs = [.ref p] ∧ (SqL K H p ys ∨ SqT K H p ys) ∧ ∀ l, H l = none → Q (.ref l) (upd H l (.lst ys))
theorem cd_list : CallD (rListD KF.K) .ow (g1 dListOf) := by
  intro Hs H vs xs z e hv hz Q q
  obtain ⟨x, rfl, hz⟩ := g1_some hz
  obtain ⟨v, rfl, hr⟩ := rdA1 hv
  cases x <;> try (cases hz; done)
  · cases hz
    obtain ⟨p, ws, rfl, a, b⟩ := rd_list e hr
    exact ⟨p, ws, rfl, .inl a.sq, fun l hl => q _ Hs _ (Gr.own e hl) (res_new e hl b)⟩
  · cases hz
    obtain ⟨p, ws, rfl, a, b⟩ := rd_tup e hr
    exact ⟨p, ws, rfl, .inr a.sq, fun l hl => q _ Hs _ (Gr.own e hl) (res_new e hl b)⟩
theorem de_listc {p : Pos} (hK : X.K = KF.K) (gl : Gl X "list") (hm : X.mg "list" = none) (ha : DE X O .rd e te f) (hs : starEach [e] X.env = [(false, eval e X.env)] := by rfl) : DE X O .ow (.Call (.Name "list" p) [e] [] pos) (tCB (rListD X.K) (tCons te tNil)) (fFn (g1 dListOf) (fConsA f fNilA)) :=
  de_t call_list_of (by rw [hK]; exact cd_list) gl hm (by decide +kernel) (da_cons ha da_nil hs) (he := hs)
def intsOf : List PyData → Option (List Int)
  | [] => some []
  | .int i :: r => (intsOf r).map (i :: ·)
  | _ :: _ => none
def dSum : PyData → Option PyData
  | .list xs => (intsOf xs).map fun ns => .int ns.sum
  | _ => none
end
def dAnyI : PyData → Option PyData
  | .list xs => (intsOf xs).map fun ns => .bool (ns.any fun n => n != 0)
  | _ => none
section
variable {X : Cx} {O : List Nat} {e : Expr} {te : TE} {f : F} {pos : Pos}
def tyOf : PyData → String
  | .none => "NoneType"
  | .bool _ => "bool"
  | .int _ => "int"
  | .str _ => "str"
  | .list _ => "list"
  | .tuple _ => "tuple"
  | .dict _ => "dict"
def dicB : PyData → Bool
  | .dict _ => true
  | _ => false
def isTy (T : String) : PyData → Option PyData := fun d => match dicB d, kitB (tyOf d) T with
  | false, some b => some (.bool b)
  | _, _ => none
theorem tyX_of {H0 Hs H : Hp} {v : V} {x : PyData} (e : Same Hs H) (h : Res .rd H0 Hs H v x) (nd : dicB x = false) : TyX KF.K H v (.type (tyOf x)) := by
  have q := rd_R e h
  cases q with
  | dic _ _ _ => cases nd
  | non => exact .base .non
  | bl b => exact .base (.bl b)
  | int i => exact .base (.int i)
  | str y => exact .base (.str y)
  | lst k _ =>
    rcases k.old with (k | ⟨o, k⟩) | ⟨its, n, k, _, _⟩
    · exact .base (.lst k)
    · exact .base (.frz k)
    · exact .kList k rfl
  | tup k _ =>
    rcases k with (k | ⟨o, k⟩) | ⟨_, o, _, k, c, _⟩
    · exact .base (.tup k)
    · exact .fTuple k
    · exact .kTuple k c
theorem de_isi (hK : X.K = KF.K) {T : String} {c : Expr} {p : Pos} (gl : Gl X "isinstance") (hm : X.mg "isinstance" = none) (ha : DE X O .rd e te f) (hc : PE X c (tC (.ty T)))
    (he : starEach [e, c] X.env = (false, eval e X.env) :: starEach [c] X.env := by rfl) (he2 : starEach [c] X.env = (false, eval c X.env) :: starEach [] X.env := by rfl) (hpl : (backTo pos (starEach [c] X.env)).any (·.1) = false := by rfl) :
    DE X O .cl (.Call (.Name "isinstance" p) [e, c] [] pos) (tCB (rIsi X.K) (tCons te (tCons (tC (.ty T)) tNil))) (fUn (isTy T) f) :=
  ⟨pe_callB call_isi gl hm (by decide +kernel) (pa_cons ha.pe (pa_cons hc pa_nil he2) he) (he := he) (hpl := hpl), fun ρ σ Hs H d s h Q q => by
    obtain ⟨x, hx, h⟩ := bind_some h
    refine ha.ev ρ σ Hs H x s hx _ fun v Hs1 H1 g1 r1 => ?_
    unfold isTy at h
    cases hn : dicB x with
    | true => rw [hn] at h; cases h
    | false =>
    cases hk : kitB (tyOf x) T with
    | none => rw [hn, hk] at h; cases h
    | some b =>
      rw [hn, hk] at h
      cases h
      exact ⟨v, .ty T, _, _, b, rfl, .ty T, by rw [hK]; exact tyX_of g1.sub r1 hn, kit_ty hk, q _ Hs1 H1 g1 res_bl⟩⟩
end
end DL
namespace DL
open PySem PySem.Spec L2
open PyProof.Rows hiding St
variable [KF]
structure Gives (J : It) (ds : List PyData) (Hs : Hp) : Prop where
  go : ∀ (i : Nat) (Ks K : Hp), Same Hs Ks → Same Ks K → i < ds.length → J.go i K
  yld : ∀ (i : Nat) (Ks K : Hp) (x : V) (K' : Hp), Same Hs Ks → Same Ks K → J.yld i K x K' → ∀ d, ds[i]? = some d → ∃ Ks', Gr Ks K Ks' K' ∧ R Ks' x d
  stop : ∀ (Ks K : Hp), Same Hs Ks → Same Ks K → J.stop ds.length K
structure DI (X : Cx) (O : List Nat) (tg iter : Expr) (wi : TI) (f : FA) : Prop where
  pi : PI X tg iter wi
  ev : ∀ (ρ : Rho) (σ : St) (Hs H : Hp) (ds : List PyData), Slots O ρ σ Hs H → f ρ = some ds → ∀ Q : It → Hp → Prop, (∀ J Hs' H', Gr Hs H Hs' H' → Gives J ds Hs' → Q J H') → wi σ H Q
section
variable {X : Cx} {O : List Nat} {e a b c tg : Expr} {te ta tb tc : TE} {f fa fb fc : F} {pos p : Pos}
def iSeq (f : F) : FA := fun ρ => (f ρ).bind fun x => match x with
  | .list xs => some xs
  | .tuple xs => some xs
  | _ => none
theorem gives_list {Hs : Hp} {a : Addr} {vs : List V} {ds : List PyData} (h : LsK Hs a vs) (r : RA Hs vs ds) : Gives (Itl KF.K a) ds Hs :=
  ⟨fun i Ks H e1 e2 hi => ⟨vs, vs[i]'(by rw [r.length]; exact hi), (ls_mono (e1.trans e2) h).sq, List.getElem?_eq_getElem _⟩,
   fun i Ks H x H' e1 e2 hy d hd => by
    obtain ⟨rfl, hx⟩ := hy
    obtain ⟨v, h1, h2⟩ := r.get hd
    have q := hx vs ((ls_mono (e1.trans e2) h).sq)
    rw [h1] at q
    obtain rfl := Option.some.inj q
    exact ⟨Ks, .refl e2, h2.mono e1⟩,
   fun Ks H e1 e2 => ⟨vs, (ls_mono (e1.trans e2) h).sq, by rw [r.length]; exact Nat.le_refl _⟩⟩
theorem gives_tup {Hs : Hp} {a : Addr} {vs : List V} {ds : List PyData} (h : TuK Hs a vs) (r : RA Hs vs ds) : Gives (Itt KF.K a) ds Hs :=
  ⟨fun i Ks H e1 e2 hi => ⟨vs, vs[i]'(by rw [r.length]; exact hi), (tu_mono (e1.trans e2) h).sq, List.getElem?_eq_getElem _⟩,
   fun i Ks H x H' e1 e2 hy d hd => by
    obtain ⟨rfl, hx⟩ := hy
    obtain ⟨v, h1, h2⟩ := r.get hd
    have q := hx vs (tu_mono (e1.trans e2) h).sq
    rw [h1] at q
    obtain rfl := Option.some.inj q
    exact ⟨Ks, .refl e2, h2.mono e1⟩,
   fun Ks H e1 e2 => ⟨vs, (tu_mono (e1.trans e2) h).sq, by rw [r.length]; exact Nat.le_refl _⟩⟩
theorem PI.or {wi wi' : TI} (h : PI X tg e wi) (h' : PI X tg e wi') : PI X tg e (fun σ H R => wi σ H R ∨ wi' σ H R) := by
  refine ⟨fun pins s σ H R I q => ?_⟩
  rcases q with q | q
  · exact h.run pins s σ H R I q
  · exact h'.run pins s σ H R I q
theorem di_seq (hK : X.K = KF.K) (h : DE X O .cl e te f) : DI X O tg e (fun σ H R => iList X.K te σ H R ∨ iTup X.K te σ H R) (iSeq f) :=
  ⟨PI.or (pi_list h.pe) (pi_tup h.pe), fun ρ σ Hs H ds s hf Q q => by
    obtain ⟨x, hx, hf⟩ := bind_some hf
    cases x <;> try (cases hf; done)
    · cases hf
      refine .inl (h.ev ρ σ Hs H _ s hx _ fun v Hs1 H1 g1 r1 => ?_)
      cases r1 with
      | lst p r => exact ⟨_, rfl, ⟨_, by rw [hK]; exact (ls_mono g1.sub p).sq⟩, q _ Hs1 H1 g1 (by rw [hK]; exact gives_list p r)⟩
    · cases hf
      refine .inr (h.ev ρ σ Hs H _ s hx _ fun v Hs1 H1 g1 r1 => ?_)
      cases r1 with
      | tup p r => exact ⟨_, rfl, ⟨_, by rw [hK]; exact (tu_mono g1.sub p).sq⟩, q _ Hs1 H1 g1 (by rw [hK]; exact gives_tup p r)⟩⟩
def rangeD (lo : Int) (n : Nat) : List PyData := (List.range n).map fun (i : Nat) => PyData.int (lo + (i : Int))
omit [KF] in
theorem rangeD_length (lo : Int) (n : Nat) : (rangeD lo n).length = n := by
  unfold rangeD
  rw [List.length_map, List.length_range]
omit [KF] in
theorem rangeD_get {lo : Int} {n i : Nat} (h : i < n) : (rangeD lo n)[i]? = some (.int (lo + (i : Int))) := by
  unfold rangeD
  rw [List.getElem?_map, List.getElem?_range h] <;> rfl
theorem gives_range {lo : Int} {n : Nat} {Hs : Hp} : Gives (Itr lo n) (rangeD lo n) Hs :=
  ⟨fun i Ks H e1 e2 hi => by
    rw [rangeD_length] at hi
    exact hi,
   fun i Ks H x H' e1 e2 hy d hd => by
    obtain ⟨rfl, rfl⟩ := hy
    have hi : i < n := by
      have := (List.getElem?_eq_some_iff.mp hd).1
      rw [rangeD_length] at this
      exact this
    rw [rangeD_get hi] at hd
    obtain rfl := Option.some.inj hd
    exact ⟨Ks, .refl e2, .int _⟩,
   fun Ks H e1 e2 => by
    rw [rangeD_length]
    exact Nat.le_refl n⟩
def rgC (i : Int) : Bool := decide (-(2 ^ 62) ≤ i ∧ i < 2 ^ 62)
omit [KF] in
theorem rgC_of {i : Int} (h : rgC i = true) : -(2 ^ 62) ≤ i ∧ i < 2 ^ 62 := of_decide_eq_true (p := -(2 ^ 62) ≤ i ∧ i < 2 ^ 62) h
def iR1 (f : F) : FA := fun ρ => (f ρ).bind fun x => match x with
  | .int j => if rgC j = true then some (rangeD 0 j.toNat) else none
  | _ => none
def iR2 (f g : F) : FA := fun ρ => (f ρ).bind fun x => (g ρ).bind fun y => match x, y with
  | .int i, .int j => if (rgC i && rgC j) = true then some (rangeD i (j - i).toNat) else none
  | _, _ => none
theorem di_r1 (gl : Gl X "range") (hm : X.mg "range" = none) (h : DE X O .rd e te f) (hs : starEach [e] X.env = [(false, eval e X.env)] := by rfl) :
    DI X O tg (.Call (.Name "range" p) [e] [] pos) (iRng1 (tCons te tNil)) (iR1 f) :=
  ⟨pi_range1 gl hm (pa_cons h.pe pa_nil hs) hs, fun ρ σ Hs H ds s hf Q q => by
    obtain ⟨x, hx, hf⟩ := bind_some hf
    cases x <;> try (cases hf; done)
    rename_i j
    obtain ⟨c, rfl⟩ := if_some (show (if rgC j = true then some (rangeD 0 j.toNat) else none) = some ds from hf)
    refine h.ev ρ σ Hs H _ s hx _ fun v Hs1 H1 g1 r1 => ?_
    exact ⟨j, by rw [rd_int r1], (rgC_of c).1, (rgC_of c).2, q _ Hs1 H1 g1 gives_range⟩⟩
def zipD : List PyData → List PyData → List PyData
  | x :: xs, y :: ys => .tuple [x, y] :: zipD xs ys
  | _, _ => []
def iZ (f g : F) : FA := fun ρ => (f ρ).bind fun x => (g ρ).bind fun y => match x, y with
  | .list xs, .list ys => some (zipD xs ys)
  | _, _ => none
end
abbrev FG := PyData → Rho → Option Rho
def gN (i : Nat) : FG := fun d ρ => some (ρ.set i (some d))
def gsR : List FG → List PyData → Rho → Option Rho
  | [], [], ρ => some ρ
  | g :: r, d :: ds, ρ => (g d ρ).bind fun ρ' => gsR r ds ρ'
  | _, _, _ => none
def gT (gs : List FG) : FG := fun d ρ => match d with
  | .tuple ds => gsR gs ds ρ
  | _ => none
structure DG (X : Cx) (O : List Nat) (tg : Expr) (g : TG) (k : FG) (js : List Nat) : Prop where
  pg : PG X tg g
  ho : ∀ j ∈ js, O.contains j = false
  ev : ∀ (d : PyData) (x : V) (ρ ρ' : Rho) (σ : St) (Hs H : Hp), Slots O ρ σ Hs H → R Hs x d → k d ρ = some ρ' → ∀ Q : St → Hp → Prop, (∀ σ', Slots O ρ' σ' Hs H → σ'.length = σ.length → (∀ j, j ∉ js → σ'[j]? = σ[j]? ∧ ρ'[j]? = ρ[j]?) → Q σ' H) → g x σ H Q
theorem Slots.set {O : List Nat} {ρ : Rho} {σ : St} {Hs H : Hp} {i : Nat} {d : PyData} {x : V} (s : Slots O ρ σ Hs H) (ho : O.contains i = false) (r : R Hs x d) : Slots O (ρ.set i (some d)) (σ.set i (some x)) Hs H := by
  refine ⟨s.sub, by rw [List.length_set, List.length_set]; exact s.len, fun j e h => ?_, fun j k dj dk v hn h1 h2 h3 h4 h5 h6 => ?_⟩
  · by_cases hj : i = j
    · subst hj
      have hl : i < ρ.length := by
        have := (List.getElem?_eq_some_iff.mp h).1
        rwa [List.length_set] at this
      rw [List.getElem?_set_self hl] at h
      have e1 : d = e := Option.some.inj (Option.some.inj h)
      subst e1
      exact ⟨x, List.getElem?_set_self (by rw [s.len]; exact hl), fun z => (by rw [ho] at z; cases z), fun _ => r⟩
    · rw [List.getElem?_set_ne hj] at h
      obtain ⟨v, h1, h2, h3⟩ := s.val j e h
      exact ⟨v, by rw [List.getElem?_set_ne hj]; exact h1, h2, h3⟩
  · have hj : i ≠ j := fun z => by rw [← z, ho] at h1; cases h1
    have hk : i ≠ k := fun z => by rw [← z, ho] at h2; cases h2
    rw [List.getElem?_set_ne hj] at h3 h5
    rw [List.getElem?_set_ne hk] at h4 h6
    exact s.dis j k dj dk v hn h1 h2 h3 h4 h5 h6
theorem mem_contains {O : List Nat} {i : Nat} (h : i ∈ O) : O.contains i = true := by simpa using h
section
variable {X : Cx} {O : List Nat}
theorem dg_name (i : Nat) {x : Str} {p : Pos} (ho : O.contains i = false) (h : PG X (.Name x p) (gName i)) : DG X O (.Name x p) (gName i) (gN i) [i] :=
  ⟨h, fun j hj => by
    rw [List.mem_singleton.mp hj]
    exact ho, fun d x ρ ρ' σ Hs H s r hk Q q => by
    cases hk
    exact q _ (s.set ho r) (List.length_set ..) fun j hj => ⟨List.getElem?_set_ne fun z => hj (by rw [z]; exact List.mem_singleton.mpr rfl), List.getElem?_set_ne fun z => hj (by rw [z]; exact List.mem_singleton.mpr rfl)⟩⟩
structure DGs (X : Cx) (O : List Nat) (ts : List Expr) (g : TGs) (k : List FG) (js : List Nat) : Prop where
  pg : PGs X ts g
  len : ts.length = k.length
  ho : ∀ j ∈ js, O.contains j = false
  ev : ∀ (ds : List PyData) (xs : List V) (ρ ρ' : Rho) (σ : St) (Hs H : Hp), Slots O ρ σ Hs H → RA Hs xs ds → gsR k ds ρ = some ρ' → ∀ Q : St → Hp → Prop, (∀ σ', Slots O ρ' σ' Hs H → σ'.length = σ.length → (∀ j, j ∉ js → σ'[j]? = σ[j]? ∧ ρ'[j]? = ρ[j]?) → Q σ' H) → g xs σ H Q
theorem dgs_nil : DGs X O [] gNil [] [] := ⟨pgs_nil, rfl, fun _ h => (nomatch h), fun ds xs ρ ρ' σ Hs H s r hk Q q => by
  cases r with
  | nil =>
    cases hk
    exact ⟨rfl, q σ s rfl fun i _ => ⟨rfl, rfl⟩⟩
  | cons _ _ => cases hk⟩
theorem dgs_cons {t : Expr} {ts : List Expr} {g : TG} {gs : TGs} {k : FG} {ks : List FG} {js is : List Nat} (h : DG X O t g k js) (hr : DGs X O ts gs ks is) (hs : (assignEach (t :: ts) X.env).map (·.2) = assign t X.env :: (assignEach ts X.env).map (·.2) := by rfl) : DGs X O (t :: ts) (gCons g gs) (k :: ks) (js ++ is) :=
  ⟨pgs_cons h.pg hr.pg hs, by rw [List.length_cons, List.length_cons, hr.len], fun j hj => (List.mem_append.mp hj).elim (h.ho j) (hr.ho j), fun ds xs ρ ρ' σ Hs H s r hk Q q => by
    cases r with
    | nil => cases hk
    | cons a b =>
      obtain ⟨ρ1, h1, h2⟩ := bind_some hk
      refine ⟨_, _, rfl, h.ev _ _ ρ ρ1 σ Hs H s a h1 _ fun σ1 s1 l1 e1 => ?_⟩
      exact hr.ev _ _ ρ1 ρ' σ1 Hs H s1 b h2 Q fun σ2 s2 l2 e2 => q σ2 s2 (l2.trans l1) fun i hi =>
        have n1 : i ∉ js := fun z => hi (List.mem_append_left _ z)
        have n2 : i ∉ is := fun z => hi (List.mem_append_right _ z)
        ⟨(e2 i n2).1.trans (e1 i n1).1, (e2 i n2).2.trans (e1 i n1).2⟩⟩
theorem gsR_len : ∀ {ks : List FG} {ds : List PyData} {ρ ρ' : Rho}, gsR ks ds ρ = some ρ' → ds.length = ks.length
  | [], [], _, _, _ => rfl
  | [], _ :: _, _, _, h => by cases h
  | _ :: _, [], _, _, h => by cases h
  | k :: ks, d :: ds, ρ, ρ', h => by
    obtain ⟨ρ1, _, h2⟩ := bind_some h
    rw [List.length_cons, List.length_cons, gsR_len h2]
theorem dg_tup {ts : List Expr} {n k : Nat} {p : Pos} {gs : TGs} {ks : List FG} {js : List Nat} (hK : X.K = KF.K) (hc : X.calm = true) (h : DGs X O ts gs ks js) (hn : ts.length = n := by rfl) (hn2 : (assignEach ts X.env).length = n := by rfl) (hst : (assignEach ts X.env).findIdx? (·.1) = none := by rfl) : DG X O (.Tuple ts k p) (gTup X.K n gs) (gT ks) js :=
  ⟨pg_tup hc h.pg hn2 hst, h.ho, fun d x ρ ρ' σ Hs H s r hk Q q => by
    cases d <;> try (cases hk; done)
    cases r with
    | tup p1 r1 =>
      refine ⟨_, _, rfl, by rw [hK]; exact (tu_mono s.sub p1).sq, ?_, h.ev _ _ ρ ρ' σ Hs H s r1 hk Q q⟩
      rw [r1.length, gsR_len (show gsR ks _ ρ = some ρ' from hk), ← h.len, hn]⟩
end
end DL
namespace DL
open PySem PySem.Spec L2
open PyProof.Rows hiding St
variable [KF]
def wipeR (ρ : Rho) : List Nat → Rho
  | [] => ρ
  | v :: vs => (wipeR ρ vs).set v none
theorem wipe_get (σ : St) : ∀ (vs : List Nat) (j : Nat), (wipe σ vs)[j]? = if j ∈ vs then (if j < σ.length then some none else none) else σ[j]?
  | [], j => by simp [wipe]
  | v :: vs, j => by
    show ((wipe σ vs).set v none)[j]? = _
    rw [List.getElem?_set, wipe_get σ vs j, wipe_length]
    by_cases h : v = j
    · subst h
      simp
    · have h' : ¬ j = v := fun z => h z.symm
      rw [if_neg h]
      simp [h']
omit [KF] in
theorem wipeR_get (ρ : Rho) : ∀ (vs : List Nat) (j : Nat), (wipeR ρ vs)[j]? = if j ∈ vs then (if j < ρ.length then some none else none) else ρ[j]?
  | [], j => by simp [wipeR]
  | v :: vs, j => by
    have hl : ∀ vs : List Nat, (wipeR ρ vs).length = ρ.length := fun vs => by
      induction vs with
      | nil => rfl
      | cons a r ih => exact (List.length_set ..).trans ih
    show ((wipeR ρ vs).set v none)[j]? = _
    rw [List.getElem?_set, wipeR_get ρ vs j, hl]
    by_cases h : v = j
    · subst h
      simp
    · have h' : ¬ j = v := fun z => h z.symm
      rw [if_neg h]
      simp [h']
omit [KF] in
theorem wipeR_length (ρ : Rho) : ∀ vs : List Nat, (wipeR ρ vs).length = ρ.length
  | [] => rfl
  | v :: vs => (List.length_set ..).trans (wipeR_length ρ vs)
theorem wipe_same {σ σ' : St} {vs js : List Nat} (hl : σ'.length = (wipe σ vs).length) (hj : ∀ j ∈ js, j ∈ vs) (h : ∀ j, j ∉ js → σ'[j]? = (wipe σ vs)[j]?) : wipe σ' vs = wipe σ vs := by
  rw [wipe_length] at hl
  refine List.ext_getElem? fun j => ?_
  rw [wipe_get, wipe_get, hl]
  by_cases hv : j ∈ vs
  · rw [if_pos hv, if_pos hv]
  · rw [if_neg hv, if_neg hv, h j fun z => hv (hj j z), wipe_get, if_neg hv]
theorem Slots.wiped {O : List Nat} {ρ : Rho} {σ : St} {Hs H : Hp} (s : Slots O ρ σ Hs H) (vs : List Nat) : Slots O (wipeR ρ vs) (wipe σ vs) Hs H := by
  refine ⟨s.sub, by rw [wipe_length, wipeR_length]; exact s.len, fun i d h => ?_, fun i j di dj v hn h1 h2 h3 h4 h5 h6 => ?_⟩
  · rw [wipeR_get] at h
    by_cases hv : i ∈ vs
    · rw [if_pos hv] at h
      split at h <;> cases h
    · rw [if_neg hv] at h
      rw [wipe_get, if_neg hv]
      exact s.val i d h
  · rw [wipeR_get] at h3 h4
    rw [wipe_get] at h5 h6
    by_cases hi : i ∈ vs
    · rw [if_pos hi] at h3
      split at h3 <;> cases h3
    · by_cases hj : j ∈ vs
      · rw [if_pos hj] at h4
        split at h4 <;> cases h4
      · rw [if_neg hi] at h3 h5
        rw [if_neg hj] at h4 h6
        exact s.dis i j di dj v hn h1 h2 h3 h4 h5 h6
def lcF (k : FG) (t : FT) (el : F) (ρ : Rho) : List PyData → Option (List PyData)
  | [] => some []
  | d :: ds => (k d ρ).bind fun ρ1 => (t ρ1).bind fun b => if b = true then (el ρ1).bind fun x => (lcF k t el ρ ds).map (x :: ·) else lcF k t el ρ ds
def fLc (src : FA) (k : FG) (t : FT) (el : F) (vs : List Nat) : F := fun ρ => (src ρ).bind fun ds => if catC ds.length 1 = true then (lcF k t el (wipeR ρ vs) ds).map fun xs => .list xs else none
structure DTs (X : Cx) (O : List Nat) (ifs : List Expr) (tt : TT) (f : FT) : Prop where
  pt : PTs X ifs tt
  ev : ∀ (ρ : Rho) (σ : St) (Hs H : Hp) (b : Bool), Slots O ρ σ Hs H → f ρ = some b → EvT tt σ Hs H b
def tYesF : FT := fun _ => some true
theorem dts_nil {X : Cx} {O : List Nat} : DTs X O [] tYes tYesF := ⟨pts_nil, fun ρ σ Hs H b s h Q q => by
  cases h
  exact q Hs H (.refl s.sub)⟩
theorem dts_one {X : Cx} {O : List Nat} {c : Expr} {tt : TT} {f : FT} (h : DT X O c tt f) : DTs X O [c] tt f := ⟨pts_one h.pt, h.ev⟩
theorem RA.snoc {H : Hp} {vs : List V} {ds : List PyData} {v : V} {d : PyData} (r : RA H vs ds) (h : R H v d) : RA H (vs ++ [v]) (ds ++ [d]) := r.append (.cons h .nil)
theorem ev_lc {wi : TI} {g : TG} {tt : TT} {te : TE} {vs js : List Nat} {k : FG} {t : FT} {el : F} {src : FA} {O : List Nat}
    (hi : ∀ (ρ : Rho) (σ : St) (Hs H : Hp) (ds : List PyData), Slots O ρ σ Hs H → src ρ = some ds → ∀ Q : It → Hp → Prop, (∀ J Hs' H', Gr Hs H Hs' H' → Gives J ds Hs' → Q J H') → wi σ H Q)
    (hg : ∀ (d : PyData) (x : V) (ρ ρ' : Rho) (σ : St) (Hs H : Hp), Slots O ρ σ Hs H → R Hs x d → k d ρ = some ρ' → ∀ Q : St → Hp → Prop, (∀ σ', Slots O ρ' σ' Hs H → σ'.length = σ.length → (∀ j, j ∉ js → σ'[j]? = σ[j]? ∧ ρ'[j]? = ρ[j]?) → Q σ' H) → g x σ H Q)
    (ht : ∀ (ρ : Rho) (σ : St) (Hs H : Hp) (b : Bool), Slots O ρ σ Hs H → t ρ = some b → EvT tt σ Hs H b)
    (he : ∀ (ρ : Rho) (σ : St) (Hs H : Hp) (d : PyData), Slots O ρ σ Hs H → el ρ = some d → Ev te σ Hs H .cl d) (hj : ∀ j ∈ js, j ∈ vs)
    {ρ : Rho} {σ : St} {Hs H : Hp} {d : PyData} (s : Slots O ρ σ Hs H) (h : fLc src k t el vs ρ = some d) : Ev (tLc wi g tt te vs) σ Hs H .ow d := fun Q q => by
  obtain ⟨ds, hds, h⟩ := bind_some h
  obtain ⟨c, h⟩ : catC ds.length 1 = true ∧ (lcF k t el (wipeR ρ vs) ds).map (fun xs => PyData.list xs) = some d := by
    by_cases c : catC ds.length 1 = true
    · rw [if_pos c] at h
      exact ⟨c, h⟩
    · rw [if_neg c] at h
      cases h
  obtain ⟨xs, hxs, rfl⟩ := Option.map_eq_some_iff.mp h
  refine hi ρ σ Hs H ds s hds _ fun J Hs1 H1 gr1 giv D hD => ?_
  have s1 := s.mono gr1
  refine ⟨fun i m K => m = ds.length - i ∧ i ≤ ds.length ∧ ∃ (Ks : Hp) (acc : List V) (done rest : List PyData), Gr Hs1 H1 Ks K ∧ Ks D = none ∧ K D = some (.lst acc) ∧ RA Ks acc done ∧ done.length ≤ i ∧
    lcF k t el (wipeR ρ vs) (ds.drop i) = some rest ∧ done ++ rest = xs, ⟨ds.length, by simp, Nat.zero_le _, Hs1, [], [], xs, Gr.own gr1.sub hD, Same.free gr1.sub hD, upd_same, .nil, Nat.le_refl _, hxs, rfl⟩, ?_⟩
  rintro i m K ⟨rfl, hle, Ks, acc, done, rest, gr2, nD, eD, ra, dl, hrest, hall⟩
  by_cases hlt : i < ds.length
  · have hdrop : ds.drop i = ds[i] :: ds.drop (i + 1) := List.drop_eq_getElem_cons hlt
    rw [hdrop] at hrest
    obtain ⟨ρ1, hk1, hrest⟩ := bind_some hrest
    obtain ⟨b, hb, hrest⟩ := bind_some hrest
    refine .inr ⟨giv.go i Ks K gr2.s gr2.sub hlt, fun K' => ∃ (Ks : Hp) (acc : List V) (done rest : List PyData), Gr Hs1 H1 Ks K' ∧ Ks D = none ∧ K' D = some (.lst acc) ∧ RA Ks acc done ∧ done.length ≤ i + 1 ∧
      lcF k t el (wipeR ρ vs) (ds.drop (i + 1)) = some rest ∧ done ++ rest = xs, fun K' hN => ⟨ds.length - (i + 1), by omega, rfl, by omega, hN⟩, fun x K' hy => ?_⟩
    obtain ⟨Ks', gr3, rx⟩ := giv.yld i Ks K x K' gr2.s gr2.sub hy ds[i] (List.getElem?_eq_getElem hlt)
    have nD3 : Ks' D = none := gr3.non D nD (by rw [eD]; simp)
    have eD3 : K' D = some (.lst acc) := gr3.h _ _ eD
    have sw : Slots O (wipeR ρ vs) (wipe σ vs) Ks' K' := ((s1.mono gr2).mono gr3).wiped vs
    refine hg _ x (wipeR ρ vs) ρ1 (wipe σ vs) Ks' K' sw rx hk1 _ fun σ2 sl2 len2 out2 => ?_
    refine ⟨wipe_same len2 hj fun j hjn => (out2 j hjn).1, ht ρ1 σ2 Ks' K' b sl2 hb _ fun Ks4 K4 gr4 => ?_⟩
    have nD4 : Ks4 D = none := gr4.non D nD3 (by rw [eD3]; simp)
    have eD4 : K4 D = some (.lst acc) := gr4.h _ _ eD3
    cases b with
    | true =>
      rw [if_pos rfl] at hrest ⊢
      obtain ⟨y, hy1, hrest⟩ := bind_some hrest
      obtain ⟨rest', hr1, rfl⟩ := Option.map_eq_some_iff.mp hrest
      refine he ρ1 σ2 Ks4 K4 y (sl2.mono gr4) hy1 _ fun v Ks5 K5 gr5 r5 => ?_
      have nD5 : Ks5 D = none := gr5.non D nD4 (by rw [eD4]; simp)
      have eD5 : K5 D = some (.lst acc) := gr5.h _ _ eD4
      have gra : Gr Hs1 H1 Ks5 K5 := ((gr2.trans gr3).trans gr4).trans gr5
      have ra5 : RA Ks5 acc done := ra.mono ((gr3.s.trans gr4.s).trans gr5.s)
      refine ⟨acc, eD5, ?_, Ks5, acc ++ [v], done ++ [y], rest', ⟨gra.s, fun a o z => ?_, fun a o z => ?_, gra.non⟩, nD5, upd_same, ra5.snoc r5, ?_, hr1, ?_⟩
      · rw [ra5.length]
        have := of_decide_eq_true (p := ds.length + 1 ≤ 16000000) c
        exact Nat.lt_of_le_of_lt (show done.length ≤ 16000000 by omega) (by decide)
      · rw [upd_ne (ne_of_none z hD)]
        exact gra.h a o z
      · rw [upd_ne (ne_of_none z nD5)]
        exact gra.sub a o z
      · rw [List.length_append, List.length_singleton]
        omega
      · rw [List.append_assoc]
        exact hall
    | false =>
      rw [if_neg Bool.false_ne_true] at hrest ⊢
      exact ⟨Ks4, acc, done, rest, (gr2.trans gr3).trans gr4, nD4, eD4, ra.mono (gr3.s.trans gr4.s), by omega, hrest, hall⟩
  · have ei : i = ds.length := by omega
    subst ei
    rw [List.drop_length] at hrest
    cases hrest
    rw [List.append_nil] at hall
    subst hall
    refine .inl ⟨giv.stop Ks K gr2.s gr2.sub, q _ Ks K (gr1.trans gr2) ⟨⟨D, acc, done, rfl, rfl, nD, eD, ra⟩, D, rfl, Same.free gr1.h hD⟩⟩
section
variable {X : Cx} {O : List Nat} {elt tg iter : Expr} {ifs : List Expr} {scope : Scope} {own : List (Str × Nat)} {pos : Pos} {wi : TI} {g : TG} {tt : TT} {te : TE} {k : FG} {t : FT} {el : F} {src : FA} {js : List Nat}
structure DLc (X : Cx) (O : List Nat) (elt tg iter : Expr) (ifs : List Expr) (scope : Scope) (own : List (Str × Nat)) (wi : TI) (g : TG) (tt : TT) (te : TE) (src : FA) (k : FG) (t : FT) (el : F) (js : List Nat) : Prop where
  hi : DI X O tg iter wi src
  ok : BlkOk X.N X.env.scope scope own
  hg : ∀ (s : Shared) (H : Hp) (C : Addr) (cl : List (Str × Addr)) (fp : List Addr), DG (X.blk s H scope (compEnvC scope cl C X.env) fp) O tg g k js
  ht : ∀ (s : Shared) (H : Hp) (C : Addr) (cl : List (Str × Addr)) (fp : List Addr), DTs (X.blk s H scope (compEnvC scope cl C X.env) fp) O ifs tt t
  he : ∀ (s : Shared) (H : Hp) (C : Addr) (cl : List (Str × Addr)) (fp : List Addr), DE (X.blk s H scope (compEnvC scope cl C X.env) fp) O .cl elt te el
  hj : js.all (own.map (·.2)).contains = true
theorem lc_js (h : js.all (own.map (·.2)).contains = true) : ∀ j ∈ js, j ∈ own.map (·.2) := fun j hj => by
  have := List.all_eq_true.mp h j hj
  simpa using this
theorem de_lc (hc : X.calm = true) (hN : X.N.Nodup) (h : DLc X O elt tg iter ifs scope own wi g tt te src k t el js) (hs : ∀ x, foldedSetIterable iter X.env x = pure x := by intro _; rfl) :
    DE X O .ow (.ListComp elt [⟨tg, iter, ifs, 0⟩] scope pos) (tLc wi g tt te (own.map (·.2))) (fLc src k t el (own.map (·.2))) :=
  ⟨pe_lc hc hN h.hi.pi h.ok (fun s H C cl fp => (h.hg s H C cl fp).pg) (fun s H C cl fp => (h.ht s H C cl fp).pt) (fun s H C cl fp => (h.he s H C cl fp).pe) hs, fun ρ σ Hs H d s hf =>
    ev_lc h.hi.ev (h.hg ({} : Shared) (fun _ => none) 0 [] []).ev (h.ht ({} : Shared) (fun _ => none) 0 [] []).ev (h.he ({} : Shared) (fun _ => none) 0 [] []).ev (lc_js h.hj) s hf⟩
end
end DL
namespace DL
open PySem PySem.Spec L2
open PyProof.Rows hiding St
variable [KF]
inductive Out where
  | nx (ρ : Rho) | rt (d : PyData) | bk (ρ : Rho) | ct (ρ : Rho)
abbrev FS := Rho → Option Out
structure StOK (O : List Nat) (ρ : Rho) (σ : St) (Hs0 H0 Hs H : Hp) : Prop where
  sl : Slots O ρ σ Hs H
  gr : Gr Hs0 H0 Hs H
  new : ∀ i ∈ O, ∀ d, ρ[i]? = some (some d) → ∃ a, σ[i]? = some (some (.ref a)) ∧ H0 a = none
def Fx (W : List Nat) (σ σ' : St) (ρ ρ' : Rho) : Prop := ∀ j, j ∉ W → σ'[j]? = σ[j]? ∧ ρ'[j]? = ρ[j]?
theorem Fx.refl (W : List Nat) (σ : St) (ρ : Rho) : Fx W σ σ ρ ρ := fun _ _ => ⟨rfl, rfl⟩
theorem Fx.app {W W' : List Nat} {σ σ1 σ2 : St} {ρ ρ1 ρ2 : Rho} (a : Fx W σ σ1 ρ ρ1) (b : Fx W' σ1 σ2 ρ1 ρ2) : Fx (W ++ W') σ σ2 ρ ρ2 := fun j h =>
  have h1 := a j fun z => h (List.mem_append_left _ z)
  have h2 := b j fun z => h (List.mem_append_right _ z)
  ⟨h2.1.trans h1.1, h2.2.trans h1.2⟩
theorem Fx.mono {W W' : List Nat} {σ σ' : St} {ρ ρ' : Rho} (a : Fx W σ σ' ρ ρ') (h : ∀ j ∈ W, j ∈ W') : Fx W' σ σ' ρ ρ' := fun j hj => a j fun z => hj (h j z)
theorem Fx.set {i : Nat} {σ : St} {ρ : Rho} {x : Option V} {y : Option PyData} : Fx [i] σ (σ.set i x) ρ (ρ.set i y) := fun j h =>
  have n : i ≠ j := fun z => h (by rw [z]; exact List.mem_singleton.mpr rfl)
  ⟨List.getElem?_set_ne n, List.getElem?_set_ne n⟩
theorem Fx.setR {i : Nat} {σ : St} {ρ : Rho} {y : Option PyData} : Fx [i] σ σ ρ (ρ.set i y) := fun j h => ⟨rfl, List.getElem?_set_ne fun z => h (by rw [z]; exact List.mem_singleton.mpr rfl)⟩
def Post (m : Md) (OB O' W : List Nat) (σ0 : St) (ρ0 : Rho) (Hs0 H0 : Hp) (D : Ends) : Out → Prop
  | .nx ρ => ∀ σ Hs H, StOK O' ρ σ Hs0 H0 Hs H → Fx W σ0 σ ρ0 ρ → D.nx σ H
  | .rt d => ∀ v Hs H, Gr Hs0 H0 Hs H → Res m H0 Hs H v d → D.rt v H
  | .bk ρ => ∀ σ Hs H, StOK OB ρ σ Hs0 H0 Hs H → Fx W σ0 σ ρ0 ρ → D.bk σ H
  | .ct ρ => ∀ σ Hs H, StOK OB ρ σ Hs0 H0 Hs H → Fx W σ0 σ ρ0 ρ → D.ct σ H
def SemS (m : Md) (OB O O' W : List Nat) (ts : TS) (G : FS) : Prop := ∀ (ρ : Rho) (σ : St) (Hs0 H0 Hs H : Hp) (D : Ends) (o : Out), StOK O ρ σ Hs0 H0 Hs H → G ρ = some o → Post m OB O' W σ ρ Hs0 H0 D o → ts D σ H
structure DS (X : Cx) (m : Md) (OB O O' W : List Nat) (st : Stmt) (ts : TS) (G : FS) : Prop where
  ps : PS X st ts
  ev : SemS m OB O O' W ts G
structure DSs (X : Cx) (m : Md) (OB O O' W : List Nat) (st : List Stmt) (ts : TS) (G : FS) : Prop where
  ps : PSs X st ts
  ev : SemS m OB O O' W ts G
theorem Post.mono {m : Md} {OB O' W W' : List Nat} {σ0 : St} {ρ0 : Rho} {Hs0 H0 : Hp} {D : Ends} {o : Out} (h : ∀ j ∈ W, j ∈ W') (q : Post m OB O' W' σ0 ρ0 Hs0 H0 D o) : Post m OB O' W σ0 ρ0 Hs0 H0 D o := by
  cases o with
  | nx ρ => exact fun σ Hs H x f => q σ Hs H x (f.mono h)
  | rt d => exact q
  | bk ρ => exact fun σ Hs H x f => q σ Hs H x (f.mono h)
  | ct ρ => exact fun σ Hs H x f => q σ Hs H x (f.mono h)
def del (i : Nat) (O : List Nat) : List Nat := O.filter (· != i)
omit [KF] in
theorem del_contains {i j : Nat} {O : List Nat} : (del i O).contains j = (O.contains j && (j != i)) := by
  unfold del
  rw [Bool.eq_iff_iff]
  simp
omit [KF] in
theorem mem_del {i j : Nat} {O : List Nat} : j ∈ del i O ↔ j ∈ O ∧ j ≠ i := by
  unfold del
  simp
theorem StOK.mono {O : List Nat} {ρ : Rho} {σ : St} {Hs0 H0 Hs H Hs' H' : Hp} (x : StOK O ρ σ Hs0 H0 Hs H) (g : Gr Hs H Hs' H') : StOK O ρ σ Hs0 H0 Hs' H' := ⟨x.sl.mono g, x.gr.trans g, x.new⟩
theorem StOK.freezeS {O : List Nat} {ρ : Rho} {σ : St} {Hs0 H0 Hs H : Hp} (i : Nat) (x : StOK O ρ σ Hs0 H0 Hs H) : ∃ Hs', StOK (del i O) ρ σ Hs0 H0 Hs' H ∧ Same Hs Hs' ∧ ∀ (a : Addr) (d : PyData), i ∈ O → ρ[i]? = some (some d) → σ[i]? = some (some (.ref a)) → Hs' a = H a := by
  by_cases hi : i ∈ O
  · cases hr : ρ[i]? with
    | none =>
      refine ⟨Hs, ⟨⟨x.sl.sub, x.sl.len, fun j d h => ?_, fun j k dj dk v hn h1 h2 => ?_⟩, x.gr, fun j hj => x.new j (mem_del.mp hj).1⟩, .refl _, fun _ _ _ z => nomatch z⟩
      · obtain ⟨v, h1, h2, h3⟩ := x.sl.val j d h
        have hji : j ≠ i := fun z => by rw [z, hr] at h; cases h
        refine ⟨v, h1, fun z => h2 ?_, fun z => h3 ?_⟩
        · rw [del_contains] at z
          exact (Bool.and_eq_true _ _ ▸ z).1
        · rw [del_contains] at z
          simpa [hji] using z
      · rw [del_contains, Bool.and_eq_true] at h1 h2
        exact x.sl.dis j k dj dk v hn h1.1 h2.1
    | some o =>
      cases o with
      | none =>
        refine ⟨Hs, ⟨⟨x.sl.sub, x.sl.len, fun j d h => ?_, fun j k dj dk v hn h1 h2 => ?_⟩, x.gr, fun j hj => x.new j (mem_del.mp hj).1⟩, .refl _, fun _ _ _ z => nomatch z⟩
        · obtain ⟨v, h1, h2, h3⟩ := x.sl.val j d h
          have hji : j ≠ i := fun z => by rw [z, hr] at h; cases h
          refine ⟨v, h1, fun z => h2 ?_, fun z => h3 ?_⟩
          · rw [del_contains] at z
            exact (Bool.and_eq_true _ _ ▸ z).1
          · rw [del_contains] at z
            simpa [hji] using z
        · rw [del_contains, Bool.and_eq_true] at h1 h2
          exact x.sl.dis j k dj dk v hn h1.1 h2.1
      | some di =>
        obtain ⟨v, hv, ho, _⟩ := x.sl.val i di hr
        obtain ⟨a, vs, ds, rfl, rfl, n1, n2, n3⟩ := ho (mem_contains hi)
        obtain ⟨a', ha', hn0⟩ := x.new i hi _ hr
        rw [hv] at ha'
        obtain rfl : a = a' := V.ref.inj (Option.some.inj (Option.some.inj ha'))
        have st : Same Hs (upd Hs a (.lst vs)) := same_new n1
        refine ⟨upd Hs a (.lst vs), ⟨⟨fun b u z => ?_, x.sl.len, fun j d h => ?_, fun j k dj dk v hn h1 h2 => ?_⟩, ⟨x.gr.s.trans st, x.gr.h, fun b u z => ?_, fun b z1 z2 => ?_⟩, fun j hj => x.new j (mem_del.mp hj).1⟩, st, fun b e _ _ z => by
          rw [hv] at z
          obtain rfl := V.ref.inj (Option.some.inj (Option.some.inj z))
          rw [upd_same, n2]⟩
        · by_cases hb : b = a
          · subst hb
            rw [upd_same] at z
            rw [n2]
            exact z
          · rw [upd_ne hb] at z
            exact x.sl.sub _ _ z
        · obtain ⟨w, h1, h2, h3⟩ := x.sl.val j d h
          refine ⟨w, h1, fun z => ?_, fun z => ?_⟩
          · rw [del_contains, Bool.and_eq_true] at z
            obtain ⟨b, ws, es, rfl, rfl, m1, m2, m3⟩ := h2 z.1
            have hji : j ≠ i := by simpa using z.2
            have hba : b ≠ a := fun e => x.sl.dis j i _ _ (.ref b) hji z.1 (mem_contains hi) h hr h1 (by rw [e]; exact hv)
            exact ⟨b, ws, es, rfl, rfl, by rw [upd_ne hba]; exact m1, m2, m3.mono st⟩
          · rw [del_contains] at z
            by_cases hji : j = i
            · subst hji
              rw [hv] at h1
              obtain rfl := Option.some.inj (Option.some.inj h1)
              rw [hr] at h
              obtain rfl := Option.some.inj (Option.some.inj h)
              exact .lst (ls_of upd_same) (n3.mono st)
            · exact (h3 (by simpa [hji] using z)).mono st
        · rw [del_contains, Bool.and_eq_true] at h1 h2
          exact x.sl.dis j k dj dk v hn h1.1 h2.1
        · by_cases hb : b = a
          · subst hb
            rw [upd_same] at z
            rw [n2]
            exact z
          · rw [upd_ne hb] at z
            exact x.sl.sub _ _ z
        · rw [upd_ne (show b ≠ a from fun e => z2 (by rw [e]; exact hn0))]
          exact x.gr.non b z1 z2
  · have e : del i O = O := by
      unfold del
      rw [List.filter_eq_self]
      intro j hj
      have : j ≠ i := fun z => hi (z ▸ hj)
      simpa using this
    exact ⟨Hs, by rw [e]; exact x, .refl _, fun _ _ z => absurd z hi⟩
theorem StOK.freeze {O : List Nat} {ρ : Rho} {σ : St} {Hs0 H0 Hs H : Hp} (i : Nat) (x : StOK O ρ σ Hs0 H0 Hs H) : ∃ Hs', StOK (del i O) ρ σ Hs0 H0 Hs' H := let ⟨Hs', h, _, _⟩ := x.freezeS i; ⟨Hs', h⟩
section
variable {X : Cx} {m : Md} {OB O O' O'' W W' : List Nat} {st : Stmt} {rest ss s1 s2 : List Stmt} {t u : TS} {G G' : FS} {e c : Expr} {te : TE} {f : F} {ft : FT} {tc : TT} {pos : Pos}
theorem DSs.frz (i : Nat) (h : DSs X m OB (del i O) O' W ss t G) : DSs X m OB O O' W ss t G := ⟨h.ps, fun ρ σ Hs0 H0 Hs H D o x hg q => by
  obtain ⟨Hs', x'⟩ := x.freeze i
  exact h.ev ρ σ Hs0 H0 Hs' H D o x' hg q⟩
theorem DSs.weak (i : Nat) (h : DSs X m OB O O' W ss t G) : DSs X m OB O (del i O') W ss t G := ⟨h.ps, fun ρ σ Hs0 H0 Hs H D o x hg q => h.ev ρ σ Hs0 H0 Hs H D o x hg (by
  cases o with
  | nx ρ' => exact fun σ' Hs' H' x' fx => let ⟨Hs2, x2⟩ := x'.freeze i; q σ' Hs2 H' x2 fx
  | rt d => exact q
  | bk ρ' => exact q
  | ct ρ' => exact q)⟩
theorem DS.frz (i : Nat) (h : DS X m OB (del i O) O' W st t G) : DS X m OB O O' W st t G := ⟨h.ps, fun ρ σ Hs0 H0 Hs H D o x hg q => by
  obtain ⟨Hs', x'⟩ := x.freeze i
  exact h.ev ρ σ Hs0 H0 Hs' H D o x' hg q⟩
def sNil : FS := fun ρ => some (.nx ρ)
def sSeq (a b : FS) : FS := fun ρ => (a ρ).bind fun o => match o with
  | .nx ρ' => b ρ'
  | .rt d => some (.rt d)
  | .bk ρ' => some (.bk ρ')
  | .ct ρ' => some (.ct ρ')
theorem dss_nil : DSs X m OB O O [] [] tNext sNil := ⟨pss_nil, fun ρ σ Hs0 H0 Hs H D o x hg q => by
  cases hg
  exact q σ Hs H x (.refl _ _ _)⟩
theorem dss_one (h : DS X m OB O O' W st t G) : DSs X m OB O O' W [st] t G := ⟨pss_one h.ps, h.ev⟩
theorem dss_cons (h : DS X m OB O O' W st t G) (hr : DSs X m OB O' O'' W' rest u G') : DSs X m OB O O'' (W ++ W') (st :: rest) (tSeq t u) (sSeq G G') := ⟨pss_cons h.ps hr.ps, fun ρ σ Hs0 H0 Hs H D o x hg q => by
  obtain ⟨o1, h1, h2⟩ := bind_some hg
  refine h.ev ρ σ Hs0 H0 Hs H { D with nx := u D } o1 x h1 ?_
  cases o1 with
  | nx ρ' =>
    refine fun σ' Hs' H' x' fx => hr.ev ρ' σ' Hs0 H0 Hs' H' D o x' h2 ?_
    cases o with
    | nx ρ2 => exact fun σ2 Hs2 H2 x2 f2 => q σ2 Hs2 H2 x2 (fx.app f2)
    | rt d => exact q
    | bk ρ2 => exact fun σ2 Hs2 H2 x2 f2 => q σ2 Hs2 H2 x2 (fx.app f2)
    | ct ρ2 => exact fun σ2 Hs2 H2 x2 f2 => q σ2 Hs2 H2 x2 (fx.app f2)
  | rt d =>
    cases h2
    exact q
  | bk ρ' =>
    cases h2
    exact fun σ2 Hs2 H2 x2 f2 => q σ2 Hs2 H2 x2 (f2.mono fun _ z => List.mem_append_left _ z)
  | ct ρ' =>
    cases h2
    exact fun σ2 Hs2 H2 x2 f2 => q σ2 Hs2 H2 x2 (f2.mono fun _ z => List.mem_append_left _ z)⟩
def sIf (c : FT) (a b : FS) : FS := fun ρ => (c ρ).bind fun k => if k = true then a ρ else b ρ
theorem ds_if (hc : DT X O c tc ft) (ha : DSs X m OB O O' W s1 t G) (hb : DSs X m OB O O' W' s2 u G') : DS X m OB O O' (W ++ W') (.If c s1 s2 pos) (tIfS tc t u) (sIf ft G G') := ⟨ps_if hc.pt ha.ps hb.ps, fun ρ σ Hs0 H0 Hs H D o x hg q => by
  obtain ⟨k, h1, h2⟩ := bind_some hg
  refine hc.ev ρ σ Hs H k x.sl h1 _ fun Hs1 H1 g1 => ?_
  cases k with
  | true => exact iteT (ha.ev ρ σ Hs0 H0 Hs1 H1 D o (x.mono g1) h2 (q.mono fun _ z => List.mem_append_left _ z))
  | false => exact iteF (hb.ev ρ σ Hs0 H0 Hs1 H1 D o (x.mono g1) h2 (q.mono fun _ z => List.mem_append_right _ z))⟩
def sRet (f : F) : FS := fun ρ => (f ρ).map .rt
theorem ds_ret (h : DE X O m e te f) : DS X m OB O O' [] (.Return (some e) pos) (tRet te) (sRet f) := ⟨ps_ret h.pe, fun ρ σ Hs0 H0 Hs H D o x hg q => by
  obtain ⟨d, h1, rfl⟩ := Option.map_eq_some_iff.mp hg
  exact h.ev ρ σ Hs H d x.sl h1 _ fun v Hs1 H1 g1 r1 => q v Hs1 H1 (x.gr.trans g1) (r1.back x.gr.h)⟩
theorem ds_retOwn (i : Nat) {x : Str} {p : Pos} (ho : O.contains i = true) (h : PE X (.Name x p) (tVar i)) : DS X .ow OB O O' [] (.Return (some (.Name x p)) pos) (tRet (tVar i)) (sRet (fVar i)) := ⟨ps_ret h, fun ρ σ Hs0 H0 Hs H D o x hg q => by
  obtain ⟨d, h1, rfl⟩ := Option.map_eq_some_iff.mp hg
  unfold fVar at h1
  cases hr : ρ[i]? with
  | none => rw [hr] at h1; cases h1
  | some y =>
    rw [hr] at h1
    have h1 : y = some d := h1
    subst h1
    obtain ⟨v, k1, k2, _⟩ := x.sl.val i d hr
    obtain ⟨a, k3, k4⟩ := x.new i (by simpa using ho) d hr
    rw [k1] at k3
    exact ⟨v, k1, q v Hs H x.gr ⟨k2 ho, a, Option.some.inj (Option.some.inj k3), k4⟩⟩⟩
theorem Slots.del {O : List Nat} {ρ : Rho} {σ : St} {Hs H : Hp} {i : Nat} {x : V} {d : PyData} (s : Slots O ρ σ Hs H) (r : R Hs x d) : Slots (del i O) (ρ.set i (some d)) (σ.set i (some x)) Hs H := by
  refine ⟨s.sub, by rw [List.length_set, List.length_set]; exact s.len, fun j e h => ?_, fun j k dj dk v hn h1 h2 h3 h4 h5 h6 => ?_⟩
  · by_cases hj : i = j
    · subst hj
      have hl : i < ρ.length := by
        have := (List.getElem?_eq_some_iff.mp h).1
        rwa [List.length_set] at this
      rw [List.getElem?_set_self hl] at h
      obtain rfl := Option.some.inj (Option.some.inj h)
      exact ⟨x, List.getElem?_set_self (by rw [s.len]; exact hl), fun z => (by rw [del_contains] at z; simp at z), fun _ => r⟩
    · rw [List.getElem?_set_ne hj] at h
      obtain ⟨v, h1, h2, h3⟩ := s.val j e h
      refine ⟨v, by rw [List.getElem?_set_ne hj]; exact h1, fun z => h2 ?_, fun z => h3 ?_⟩
      · rw [del_contains, Bool.and_eq_true] at z
        exact z.1
      · have hj' : j ≠ i := fun z => hj z.symm
        rw [del_contains] at z
        simpa [hj'] using z
  · rw [del_contains, Bool.and_eq_true] at h1 h2
    have hj : i ≠ j := fun z => by rw [z] at h1; simp at h1
    have hk : i ≠ k := fun z => by rw [z] at h2; simp at h2
    rw [List.getElem?_set_ne hj] at h3 h5
    rw [List.getElem?_set_ne hk] at h4 h6
    exact s.dis j k dj dk v hn h1.1 h2.1 h3 h4 h5 h6
theorem StOK.del {O : List Nat} {ρ : Rho} {σ : St} {Hs0 H0 Hs H : Hp} {i : Nat} {x : V} {d : PyData} (s : StOK O ρ σ Hs0 H0 Hs H) (r : R Hs x d) : StOK (DL.del i O) (ρ.set i (some d)) (σ.set i (some x)) Hs0 H0 Hs H :=
  ⟨s.sl.del r, s.gr, fun j hj e h => by
    obtain ⟨h1, h2⟩ := mem_del.mp hj
    have hn : i ≠ j := fun z => h2 z.symm
    rw [List.getElem?_set_ne hn] at h ⊢
    exact s.new j h1 e h⟩
def sAsg (i : Nat) (f : F) : FS := fun ρ => (f ρ).map fun d => .nx (ρ.set i (some d))
theorem ds_asg (i : Nat) {x : Str} {p : Pos} (h : DE X O .cl e te f) (hp : PS X (.Assign [.Name x p] e pos) (tAsg te (gName i))) : DS X m OB O (del i O) [i] (.Assign [.Name x p] e pos) (tAsg te (gName i)) (sAsg i f) := ⟨hp, fun ρ σ Hs0 H0 Hs H D o x hg q => by
  obtain ⟨d, h1, rfl⟩ := Option.map_eq_some_iff.mp hg
  exact h.ev ρ σ Hs H d x.sl h1 _ fun v Hs1 H1 g1 r1 => q _ Hs1 H1 ((x.mono g1).del r1) .set⟩
theorem StOK.ow {O : List Nat} {ρ : Rho} {σ : St} {Hs0 H0 Hs H Hs1 H1 : Hp} {i : Nat} {v : V} {d : PyData} (x : StOK O ρ σ Hs0 H0 Hs H) (g1 : Gr Hs H Hs1 H1) (r1 : Res .ow H Hs1 H1 v d) : StOK (i :: DL.del i O) (ρ.set i (some d)) (σ.set i (some v)) Hs0 H0 Hs1 H1 := by
  obtain ⟨⟨a, vs, ds, rfl, rfl, n1, n2, n3⟩, a', ea, n4⟩ := r1
  obtain rfl := V.ref.inj ea
  have x1 := x.mono g1
  refine ⟨⟨g1.sub, by rw [List.length_set, List.length_set]; exact x1.sl.len, fun j e h => ?_, fun j k dj dk v hn h1 h2 h3 h4 h5 h6 => ?_⟩, x1.gr, fun j hj e h => ?_⟩
  · by_cases hj : i = j
    · subst hj
      have hl : i < ρ.length := by
        have := (List.getElem?_eq_some_iff.mp h).1
        rwa [List.length_set] at this
      rw [List.getElem?_set_self hl] at h
      obtain rfl := Option.some.inj (Option.some.inj h)
      exact ⟨_, List.getElem?_set_self (by rw [x1.sl.len]; exact hl), fun _ => ⟨a, vs, ds, rfl, rfl, n1, n2, n3⟩, fun z => by simp at z⟩
    · rw [List.getElem?_set_ne hj] at h
      obtain ⟨w, h1, h2, h3⟩ := x1.sl.val j e h
      have hj' : j ≠ i := fun z => hj z.symm
      refine ⟨w, by rw [List.getElem?_set_ne hj]; exact h1, fun z => h2 ?_, fun z => h3 ?_⟩
      · rw [List.contains_cons, del_contains] at z
        simpa [hj'] using z
      · rw [List.contains_cons, del_contains] at z
        simpa [hj'] using z
  · have key : ∀ j, i ≠ j → (i :: DL.del i O).contains j = true → ∀ dj, ρ[j]? = some (some dj) → σ[j]? ≠ some (some (.ref a)) := fun j hj h1 dj h3 h5 => by
      have hj' : j ≠ i := fun z => hj z.symm
      rw [List.contains_cons, del_contains] at h1
      have h1' : O.contains j = true := by simpa [hj'] using h1
      obtain ⟨w, k1, k2, _⟩ := x.sl.val j dj h3
      obtain ⟨b, ws, es, rfl, _, _, k4, _⟩ := k2 h1'
      rw [k1] at h5
      obtain rfl := V.ref.inj (Option.some.inj (Option.some.inj h5))
      rw [n4] at k4
      cases k4
    by_cases hj : i = j
    · subst hj
      have hk : i ≠ k := hn
      have hl : i < σ.length := by
        have := (List.getElem?_eq_some_iff.mp h5).1
        rwa [List.length_set] at this
      rw [List.getElem?_set_self hl] at h5
      obtain rfl := Option.some.inj (Option.some.inj h5)
      rw [List.getElem?_set_ne hk] at h4 h6
      exact key k hk h2 dk h4 h6
    · by_cases hk : i = k
      · subst hk
        have hl : i < σ.length := by
          have := (List.getElem?_eq_some_iff.mp h6).1
          rwa [List.length_set] at this
        rw [List.getElem?_set_self hl] at h6
        obtain rfl := Option.some.inj (Option.some.inj h6)
        rw [List.getElem?_set_ne hj] at h3 h5
        exact key j hj h1 dj h3 h5
      · have hj' : j ≠ i := fun z => hj z.symm
        have hk' : k ≠ i := fun z => hk z.symm
        rw [List.getElem?_set_ne hj] at h3 h5
        rw [List.getElem?_set_ne hk] at h4 h6
        rw [List.contains_cons, del_contains] at h1 h2
        exact x1.sl.dis j k dj dk v hn (by simpa [hj'] using h1) (by simpa [hk'] using h2) h3 h4 h5 h6
  · by_cases hji : i = j
    · subst hji
      have hl : i < σ.length := by
        have := (List.getElem?_eq_some_iff.mp h).1
        rw [List.length_set, ← x1.sl.len] at this
        exact this
      exact ⟨a, List.getElem?_set_self hl, Same.free x.gr.h n4⟩
    · rw [List.getElem?_set_ne hji] at h ⊢
      have hj' : j ≠ i := fun z => hji z.symm
      rcases List.mem_cons.mp hj with e1 | hj
      · exact absurd e1 hj'
      · exact x.new j (mem_del.mp hj).1 e h
theorem ds_asgOw (i : Nat) {x : Str} {p : Pos} (h : DE X O .ow e te f) (hp : PS X (.Assign [.Name x p] e pos) (tAsg te (gName i))) : DS X m OB O (i :: del i O) [i] (.Assign [.Name x p] e pos) (tAsg te (gName i)) (sAsg i f) := ⟨hp, fun ρ σ Hs0 H0 Hs H D o x hg q => by
  obtain ⟨d, h1, rfl⟩ := Option.map_eq_some_iff.mp hg
  exact h.ev ρ σ Hs H d x.sl h1 _ fun v Hs1 H1 g1 r1 => q _ Hs1 H1 (x.ow g1 r1) .set⟩
theorem StOK.tgt {O : List Nat} {ρ ρ' : Rho} {σ σ' : St} {Hs0 H0 Hs H : Hp} {js : List Nat} (x : StOK O ρ σ Hs0 H0 Hs H) (ho : ∀ j ∈ js, O.contains j = false) (s : Slots O ρ' σ' Hs H) (h : ∀ j, j ∉ js → σ'[j]? = σ[j]? ∧ ρ'[j]? = ρ[j]?) : StOK O ρ' σ' Hs0 H0 Hs H :=
  ⟨s, x.gr, fun i hi d hd => by
    have hn : i ∉ js := fun z => by
      have := ho i z
      rw [mem_contains hi] at this
      cases this
    rw [(h i hn).1]
    rw [(h i hn).2] at hd
    exact x.new i hi d hd⟩
def sAsgG (k : FG) (f : F) : FS := fun ρ => (f ρ).bind fun d => (k d ρ).map .nx
theorem ds_asgG {tg : Expr} {g : TG} {k : FG} {js : List Nat} (h : DE X O .cl e te f) (hg : DG X O tg g k js) (hs : swapsWithSole [tg] e pos.line X.env = pure false := by rfl) (hw : swappedStores [tg] e X.env = pure none := by rfl)
    (h1 : (assignEach [tg] X.env).map (·.2) = [assign tg X.env] := by rfl) : DS X m OB O O js (.Assign [tg] e pos) (tAsg te g) (sAsgG k f) := ⟨ps_asg h.pe hg.pg hs hw h1, fun ρ σ Hs0 H0 Hs H D o x hx q => by
  obtain ⟨d, h1, h2⟩ := bind_some hx
  obtain ⟨ρ', h3, rfl⟩ := Option.map_eq_some_iff.mp h2
  refine h.ev ρ σ Hs H d x.sl h1 _ fun v Hs1 H1 g1 r1 => ?_
  exact hg.ev d v ρ ρ' σ Hs1 H1 (x.sl.mono g1) r1 h3 _ fun σ' s' l' o' => q σ' Hs1 H1 ((x.mono g1).tgt hg.ho s' o') o'⟩
theorem StOK.upd {O : List Nat} {ρ : Rho} {σ : St} {Hs0 H0 Hs H : Hp} {i : Nat} {a : Addr} {vs : List V} {ds ds0 : List PyData} (x : StOK O ρ σ Hs0 H0 Hs H) (hi : O.contains i = true) (hs : σ[i]? = some (some (.ref a))) (hr : ρ[i]? = some (some (.list ds0))) (r : RA Hs vs ds) :
    StOK O (ρ.set i (some (.list ds))) σ Hs0 H0 Hs (upd H a (.lst vs)) := by
  obtain ⟨v, k1, k2, _⟩ := x.sl.val i _ hr
  obtain ⟨a', vs0, ds1, rfl, _, n1, n2, _⟩ := k2 hi
  rw [hs] at k1
  obtain rfl := V.ref.inj (Option.some.inj (Option.some.inj k1))
  obtain ⟨a2, k3, k4⟩ := x.new i (by simpa using hi) _ hr
  rw [hs] at k3
  obtain rfl := V.ref.inj (Option.some.inj (Option.some.inj k3))
  have sub : Same Hs (L2.upd H a (.lst vs)) := fun b u z => by
    rw [upd_ne (ne_of_none z n1)]
    exact x.sl.sub _ _ z
  refine ⟨⟨sub, by rw [List.length_set]; exact x.sl.len, fun j e h => ?_, fun j k dj dk v hn h1 h2 h3 h4 h5 h6 => ?_⟩, ⟨x.gr.s, fun b u z => ?_, sub, x.gr.non⟩, fun j hj e h => ?_⟩
  · by_cases hj : i = j
    · subst hj
      have hl : i < ρ.length := (List.getElem?_eq_some_iff.mp hr).1
      rw [List.getElem?_set_self hl] at h
      obtain rfl := Option.some.inj (Option.some.inj h)
      exact ⟨_, hs, fun _ => ⟨a, vs, ds, rfl, rfl, n1, upd_same, r⟩, fun z => by rw [hi] at z; cases z⟩
    · rw [List.getElem?_set_ne hj] at h
      obtain ⟨w, h1, h2, h3⟩ := x.sl.val j e h
      refine ⟨w, h1, fun z => ?_, h3⟩
      obtain ⟨b, ws, es, rfl, rfl, m1, m2, m3⟩ := h2 z
      have hba : b ≠ a := fun e => x.sl.dis i j _ _ (.ref a) hj hi z hr h hs (by rw [← e]; exact h1)
      exact ⟨b, ws, es, rfl, rfl, m1, by rw [upd_ne hba]; exact m2, m3⟩
  · have pick : ∀ j dj, (ρ.set i (some (PyData.list ds)))[j]? = some (some dj) → ∃ d', ρ[j]? = some (some d') := fun j dj h => by
      by_cases hj : i = j
      · subst hj
        exact ⟨_, hr⟩
      · rw [List.getElem?_set_ne hj] at h
        exact ⟨_, h⟩
    obtain ⟨dj', h3'⟩ := pick j dj h3
    obtain ⟨dk', h4'⟩ := pick k dk h4
    exact x.sl.dis j k dj' dk' v hn h1 h2 h3' h4' h5 h6
  · rw [upd_ne (ne_of_none z k4)]
    exact x.gr.h _ _ z
  · by_cases hji : i = j
    · subst hji
      exact ⟨a, hs, k4⟩
    · rw [List.getElem?_set_ne hji] at h
      exact x.new j hj e h
def sApp (i : Nat) (f : F) : FS := fun ρ => (f ρ).bind fun x => match ρ[i]? with
  | some (some (.list ds)) => if catC ds.length 1 = true then some (.nx (ρ.set i (some (.list (ds ++ [x]))))) else none
  | _ => none
theorem StOK.own_at {O : List Nat} {ρ : Rho} {σ : St} {Hs0 H0 Hs H : Hp} {i : Nat} {d : PyData} (x : StOK O ρ σ Hs0 H0 Hs H) (hi : O.contains i = true) (hr : ρ[i]? = some (some d)) : ∃ a vs ds, d = .list ds ∧ σ[i]? = some (some (.ref a)) ∧ Hs a = none ∧ H a = some (.lst vs) ∧ RA Hs vs ds := by
  obtain ⟨v, k1, k2, _⟩ := x.sl.val i _ hr
  obtain ⟨a, vs, ds, rfl, rfl, n1, n2, n3⟩ := k2 hi
  exact ⟨a, vs, ds, rfl, k1, n1, n2, n3⟩
theorem ds_append (i : Nat) {x : Str} {p p2 p3 : Pos} (ho : O.contains i = true) (h : DE X O .cl e te f) (hv : PE X (.Name x p) (tVar i))
    (hp : PS X (.Expr (.Call (.Attribute (.Name x p) "append" p2) [e] [] p3) pos) (tDrop (tBM X.K "list" rAppend (tVar i) (tCons te tNil)))) :
    DS X m OB O O [i] (.Expr (.Call (.Attribute (.Name x p) "append" p2) [e] [] p3) pos) (tDrop (tBM X.K "list" rAppend (tVar i) (tCons te tNil))) (sApp i f) := ⟨hp, fun ρ σ Hs0 H0 Hs H D o x hg q => by
  obtain ⟨y, h1, h2⟩ := bind_some hg
  cases hr : ρ[i]? with
  | none => rw [hr] at h2; cases h2
  | some w =>
    rw [hr] at h2
    cases w with
    | none => cases h2
    | some d =>
      cases d <;> try (cases h2; done)
      rename_i ds
      obtain ⟨c, rfl⟩ := if_some (show (if catC ds.length 1 = true then some (Out.nx (ρ.set i (some (.list (ds ++ [y]))))) else none) = some o from h2)
      obtain ⟨a, vs, ds', e1, k1, n1, n2, n3⟩ := x.own_at ho hr
      cases e1
      refine ⟨.ref a, k1, .inl ⟨rfl, _, .inl (.inl n2)⟩, ?_⟩
      refine h.ev ρ σ Hs H y x.sl h1 _ fun v Hs1 H1 g1 r1 => ?_
      refine ⟨a, vs, v, rfl, rfl, g1.h _ _ n2, ?_, ?_⟩
      · rw [n3.length]
        have := of_decide_eq_true (p := ds.length + 1 ≤ 16000000) c
        exact Nat.lt_of_lt_of_le (show ds.length < 16000000 by omega) (by decide)
      · exact q σ Hs1 _ ((x.mono g1).upd ho k1 hr ((n3.mono g1.s).snoc r1)) .setR⟩
def loopF (k : FG) (B : FS) : List PyData → FS
  | [], ρ => some (.nx ρ)
  | d :: ds, ρ => (k d ρ).bind fun ρ1 => (B ρ1).bind fun o => match o with
    | .nx ρ2 => loopF k B ds ρ2
    | .ct ρ2 => loopF k B ds ρ2
    | .bk ρ2 => some (.nx ρ2)
    | .rt v => some (.rt v)
def sFor (src : FA) (k : FG) (B : FS) : FS := fun ρ => (src ρ).bind fun ds => loopF k B ds ρ
def joinH (H0 Hs1 : Hp) : Hp := fun a => match H0 a with
  | some o => some o
  | none => Hs1 a
theorem joinH_none {H0 Hs1 : Hp} {a : Addr} (h : joinH H0 Hs1 a = none) : H0 a = none ∧ Hs1 a = none := by
  unfold joinH at h
  cases q : H0 a with
  | none =>
    rw [q] at h
    exact ⟨rfl, h⟩
  | some o =>
    rw [q] at h
    cases h
theorem joinH_of {H0 Hs1 : Hp} {a : Addr} (h1 : H0 a = none) (h2 : Hs1 a = none) : joinH H0 Hs1 a = none := by
  unfold joinH
  rw [h1]
  exact h2
theorem joinH_l {H0 Hs1 : Hp} : Same H0 (joinH H0 Hs1) := fun a o h => by
  unfold joinH
  rw [h]
theorem gr_join {Hs0 H0 Hs1 H1 : Hp} (g : Gr Hs0 H0 Hs1 H1) : Gr Hs0 H0 Hs1 (joinH H0 Hs1) := ⟨g.s, joinH_l, fun a o h => by
  unfold joinH
  cases q : H0 a with
  | none => exact h
  | some o' =>
    have e1 := g.h a o' q
    have e2 := g.sub a o h
    rw [e1] at e2
    exact e2, g.non⟩
theorem StOK.rebase {O : List Nat} {ρ : Rho} {σ : St} {Hs0 H0 Hs1 H1 Ks K : Hp} (x : StOK O ρ σ Hs0 H0 Ks K) (g : Gr Hs0 H0 Hs1 H1) (e : Same Hs1 Ks) : StOK O ρ σ Hs1 (joinH H0 Hs1) Ks K :=
  ⟨x.sl, ⟨e, fun a o h => by
    unfold joinH at h
    cases q : H0 a with
    | none =>
      rw [q] at h
      exact x.sl.sub _ _ (e _ _ h)
    | some o' =>
      rw [q] at h
      cases h
      exact x.gr.h _ _ q, x.sl.sub, fun a h1 h2 => by
    refine x.gr.non a (Same.free g.s h1) fun z => h2 (joinH_of z h1)⟩, fun i hi d hd => by
    obtain ⟨a, ka, kb⟩ := x.new i hi d hd
    obtain ⟨w, k1, k2, _⟩ := x.sl.val i d hd
    obtain ⟨b, _, _, rfl, _, m1, _⟩ := k2 (by simpa using hi)
    rw [ka] at k1
    obtain rfl := V.ref.inj (Option.some.inj (Option.some.inj k1))
    exact ⟨a, ka, joinH_of kb (Same.free e m1)⟩⟩
theorem StOK.unbase {O : List Nat} {ρ : Rho} {σ : St} {Hs0 H0 Hs1 H1 Ks K : Hp} (g : Gr Hs0 H0 Hs1 H1) (x : StOK O ρ σ Hs1 (joinH H0 Hs1) Ks K) : StOK O ρ σ Hs0 H0 Ks K :=
  ⟨x.sl, (gr_join g).trans x.gr, fun i hi d hd => by
    obtain ⟨a, ka, kb⟩ := x.new i hi d hd
    exact ⟨a, ka, (joinH_none kb).1⟩⟩
theorem ds_for {tg iter : Expr} {body : List Stmt} {wi : TI} {g : TG} {tb : TS} {src : FA} {k : FG} {B : FS} {js : List Nat} (hp : PassesOwn (model X.prog X.w) X.A X.env X.xe) (hc : X.calm = true) (hi : DI X O tg iter wi src) (hg : DG X O tg g k js) (hb : DSs X m O O O W body tb B)
    (hs : ∀ x, foldedSetIterable iter X.env x = pure x := by intro _; rfl) : DS X m OB O O (js ++ W) (.For tg iter body [] pos) (tFor wi g tb) (sFor src k B) := ⟨ps_for hp hc hi.pi hg.pg hb.ps hs, fun ρ σ Hs0 H0 Hs H D o x hx q => by
  obtain ⟨ds, hds, hl⟩ := bind_some hx
  refine hi.ev ρ σ Hs H ds x.sl hds _ fun J Hs1 H1 g1 giv => ?_
  refine ⟨fun i n σ' K => n = ds.length - i ∧ i ≤ ds.length ∧ ∃ (Ks : Hp) (ρ' : Rho), StOK O ρ' σ' Hs0 H0 Ks K ∧ Same Hs1 Ks ∧ Fx (js ++ W) σ σ' ρ ρ' ∧ loopF k B (ds.drop i) ρ' = some o, ⟨ds.length, by simp, Nat.zero_le _, Hs1, ρ, x.mono g1, .refl _, .refl _ _ _, hl⟩, ?_⟩
  rintro i n σ' K ⟨rfl, hle, Ks, ρ', x', e1, fx, hl'⟩
  by_cases hlt : i < ds.length
  · have hdrop : ds.drop i = ds[i] :: ds.drop (i + 1) := List.drop_eq_getElem_cons hlt
    rw [hdrop] at hl'
    obtain ⟨ρ1, hk, hl'⟩ := bind_some hl'
    obtain ⟨o1, hB, hl'⟩ := bind_some hl'
    refine .inr ⟨giv.go i Ks K e1 x'.sl.sub hlt, fun σ2 K2 => ∃ (Ks : Hp) (ρ' : Rho), StOK O ρ' σ2 Hs0 H0 Ks K2 ∧ Same Hs1 Ks ∧ Fx (js ++ W) σ σ2 ρ ρ' ∧ loopF k B (ds.drop (i + 1)) ρ' = some o, fun σ2 K2 hN => ⟨ds.length - (i + 1), by omega, rfl, by omega, hN⟩, fun v K' hy => ?_⟩
    obtain ⟨Ks', g2, rx⟩ := giv.yld i Ks K v K' e1 x'.sl.sub hy ds[i] (List.getElem?_eq_getElem hlt)
    refine hg.ev _ v ρ' ρ1 σ' Ks' K' (x'.sl.mono g2) rx hk _ fun σ2 s2 l2 out2 => ?_
    have x2 := (x'.mono g2).tgt hg.ho s2 out2
    have gb : Gr Hs0 H0 Hs1 H1 := x.gr.trans g1
    have e2 : Same Hs1 Ks' := e1.trans g2.s
    have f2 : Fx js σ' σ2 ρ' ρ1 := out2
    have f3 : ∀ {σ3 : St} {ρ3 : Rho}, Fx W σ2 σ3 ρ1 ρ3 → Fx (js ++ W) σ σ3 ρ ρ3 := fun f => (fx.app (f2.app f)).mono fun j z => by
      rcases List.mem_append.mp z with z | z <;> exact z
    refine hb.ev ρ1 σ2 Hs1 (joinH H0 Hs1) Ks' K' _ o1 (x2.rebase gb e2) hB ?_
    have next : ∀ ρ2, loopF k B (ds.drop (i + 1)) ρ2 = some o → ∀ σ3 Hs H, StOK O ρ2 σ3 Hs1 (joinH H0 Hs1) Hs H → Fx W σ2 σ3 ρ1 ρ2 → ∃ (Ks : Hp) (ρ' : Rho), StOK O ρ' σ3 Hs0 H0 Ks H ∧ Same Hs1 Ks ∧ Fx (js ++ W) σ σ3 ρ ρ' ∧ loopF k B (ds.drop (i + 1)) ρ' = some o :=
      fun ρ2 h σ3 Hs H y f => ⟨Hs, ρ2, StOK.unbase gb y, y.gr.s, f3 f, h⟩
    cases o1 with
    | nx ρ2 => exact next ρ2 hl'
    | ct ρ2 => exact next ρ2 hl'
    | bk ρ2 =>
      cases hl'
      exact fun σ3 Hs H y f => q σ3 Hs H (StOK.unbase gb y) (f3 f)
    | rt d =>
      cases hl'
      exact fun v Hs H gr r => q v Hs H ((gr_join gb).trans gr) (r.back joinH_l)
  · have ei : i = ds.length := by omega
    subst ei
    rw [List.drop_length] at hl'
    cases hl'
    exact .inl ⟨giv.stop Ks K e1 x'.sl.sub, q σ' Ks K x' fx⟩⟩
end
end DL
namespace DL
open PySem PySem.Spec L2
open PyProof.Rows hiding St
variable [KF]
structure GA (k : Nat) (A : Around) : Prop where
  rm : Room k A
  gd : A.guards = some []
  dp : A.depth + 3 * k + 205 < recursionLimit
theorem GA.mono {j k : Nat} {A : Around} (r : GA k A) (h : j ≤ k) : GA j A := ⟨r.rm.mono h, r.gd, by have := r.dp; omega⟩
theorem GA.deeper {k : Nat} {A : Around} (r : GA (k + 1) A) (env : Env) : GA k (A.deeper env) := ⟨r.rm.deeper env, r.gd, by
  have h := r.dp
  show A.depth + 1 + 3 * k + 205 < recursionLimit
  omega⟩
theorem GA.u64 {k : Nat} {A : Around} (r : GA k A) : A.units + 64 < cLine := r.rm.units
structure FnG (P : Program) (w : World) (K : PySem.W.Frag) (mg : Str → Option Value) (base : Heap) (CX : CXT) (k : Nat) (f : Addr) (fd : FuncData) (ps : List Str) (sp : Sp) : Prop where
  len : ∀ vs H Q E, sp vs H Q E → vs.length = ps.length
  run : ∀ (A : Around) (outer : List Env) (s : Shared) (H : Hp) (args : Args) (us : List Value) (vs : List V) (Q : VK) (E : XK), GA k A → Env0 P w K mg base A outer s H → BindsTo s fd args (ps.zip us) →
    Vals vs us → sp vs H Q E → codeAny (model P w) A (.call (.ref f) args) (CR CX outer P w H s Q E) s
theorem FnG.mono {P : Program} {w : World} {K : PySem.W.Frag} {mg : Str → Option Value} {base : Heap} {CX : CXT} {j k : Nat} {f : Addr} {fd : FuncData} {ps : List Str} {sp : Sp} (F : FnG P w K mg base CX j f fd ps sp) (h : j ≤ k) : FnG P w K mg base CX k f fd ps sp :=
  ⟨F.len, fun A outer s H args us vs Q E hr => F.run A outer s H args us vs Q E (hr.mono h)⟩
theorem FnG.imp {P : Program} {w : World} {K : PySem.W.Frag} {mg : Str → Option Value} {base : Heap} {CX : CXT} {k : Nat} {f : Addr} {fd : FuncData} {ps : List Str} {sp sp' : Sp} (F : FnG P w K mg base CX k f fd ps sp) (h : ∀ vs H Q E, sp' vs H Q E → sp vs H Q E) :
    FnG P w K mg base CX k f fd ps sp' := ⟨fun vs H Q E q => F.len vs H Q E (h _ _ _ _ q), fun A outer s H args us vs Q E hr he hb hv hs => F.run A outer s H args us vs Q E hr he hb hv (h _ _ _ _ hs)⟩
theorem fnG_of {P : Program} {w : World} {K : PySem.W.Frag} {mg : Str → Option Value} {base : Heap} {CX : CXT} {x qual : Str} {st : Stmt} {f : Addr} {fd : FuncData} {N ps : List Str} {k : Nat} {sp : Sp} (F : Fun K x qual st f fd) (S : FnScope N ps (defScope st))
    (len : ∀ vs H Q E, sp vs H Q E → vs.length = ps.length)
    (body : ∀ (cdv : Value) (A : Around) (outer : List Env) (s : Shared) (H : Hp) (vs : List V) (Q : VK) (E : XK), GA k (A.deeper (envOfC qual (defScope st) s.heap.objs.size f cdv)) → sp vs H Q E →
      ∃ t, PSs (cxOf CX P w K mg base N qual (defScope st) f cdv A outer s H E) (defBody st) t ∧ t { nx := fun _ H' => Q .non H', rt := Q } (start N vs) H) : FnG P w K mg base CX (k + 1) f fd ps sp := by
  obtain ⟨oc, od, kV, doc, pm, an, cdv, ct, osl, rfl, lk, hcd⟩ := F.ex
  refine ⟨len, fun A outer s H args us vs Q E ga env0 bind rel want => ?_⟩
  have keep := fun b o e => (env0.bs b o e).1
  have KX : K.In s.heap := env0.mod.kin.keeps keep
  refine codeAny_call_function ga.rm.depth (KX _ _ lk) rfl S.co S.gen rfl (PySem.W.codeRec_of KX hcd) (bind _ _ _ _ ?_)
  refine wpAny_newFunctionEnv_cells S.kind (fun ⟨n, v⟩ hy => ?_) fun env he s1 entered => ?_
  · exact (S.par n (List.of_mem_zip hy).1).elim .inl fun q => .inr ⟨q, PySem.W.cellsFrom_some _ _ _ (.inl q)⟩
  subst he
  refine ⟨(env0.mod.nolimit.keeps keep).keeps entered.toInCall.keep, codeAny_func ?_⟩
  obtain ⟨t, derived, reading⟩ := body cdv A outer s H vs Q E (ga.deeper _) want
  have inv := inv_start (CX := CX) (E := E) S ga.rm.hd env0 (len _ _ _ _ want) rel entered
  refine wpAny_mono (derived.run [] s1 (start N vs) H _ inv reading) (fun fl s' out => ?_) fun _ _ out => out
  match fl, out with
  | .ret u, ⟨v, σ', H', J, rv, q⟩ => exact ⟨v, H', J.os, J.bare, J.base, J.hok, rv, q⟩
  | .next, ⟨σ', H', J, q⟩ => exact ⟨V.non, H', J.os, J.bare, J.base, J.hok, rfl, q⟩
  | .brk, ⟨_, _, _, q⟩ => exact False.elim q
  | .cont, ⟨_, _, _, q⟩ => exact False.elim q
section
variable {X : Cx} {CX : CXT} {k : Nat} {f : Addr} {fd : FuncData} {ps : List Str} {sp : Sp} {E : XK} {x : Str} {p pos : Pos} {e : Expr} {es : List Expr} {t : TA}
theorem runG {pins : List (Addr × Obj)} {σ : St} {H : Hp} {s : Shared} {Q : VK} {us : List Value} {vs : List V} (F : FnG X.prog X.w X.K X.mg X.base CX k f fd ps sp) (ga : GA k X.A) (hb : Binds X.K fd ps []) (hx : Passes CX X E) (inv : Inv X pins σ H s) (rel : Vals vs us)
    (want : sp vs H Q E) : wpAny (model X.prog X.w) X.A (call (.ref f) us) (EP X pins σ Q) X.xe s := by
  have hl : us.length = ps.length := rel.length.symm.trans (F.len _ _ _ _ want)
  have bind := hb s us inv.kIn (by rw [List.append_nil]; exact hl)
  rw [List.append_nil] at bind
  refine wpAny_call (codeAny_mono (F.run X.A X.stack s H ⟨us, []⟩ us vs Q E ga inv.env0 bind rel want) fun r s' out => ?_)
  match r, out with
  | .error e, out => exact hx pins σ H s e s' inv out
  | .ok (.ret u), out => exact inv.after out
  | .ok .next, out => exact False.elim out
  | .ok .brk, out => exact False.elim out
  | .ok .cont, out => exact False.elim out
theorem pe_callG (F : FnG X.prog X.w X.K X.mg X.base CX k f fd ps sp) (ga : GA k X.A) (hg : Gl X x) (hm : X.mg x = some (.ref f)) (hk : PySem.W.keepIn X.K (.ref f) = true) (hb : Binds X.K fd ps []) (hx : Passes CX X E) (ha : PA X (e :: es) t)
    (hdb : (x == ("__debug__" : Str)) = false := by decide) (he : starEach (e :: es) X.env = (false, eval e X.env) :: starEach es X.env := by rfl) (hpl : (backTo pos (starEach es X.env)).any (·.1) = false := by rfl) : PE X (.Call (.Name x p) (e :: es) [] pos) (tCall sp [] E t) :=
  ⟨fun pins s σ H Q inv h => wpAny_Call_Name_kw (ld_glob inv hg hm (PySem.W.callWith_K (h₀ := X.base) inv.ok.mod.kin hk (thn (ha.run pos pins s σ H _ inv h) fun us s1 ⟨vs, H1, inv1, rel, want⟩ =>
    ⟨inv1.kIn, runG F ga hb hx inv1 rel (by have w2 : sp (vs ++ []) H1 Q E := want; rw [List.append_nil] at w2; exact w2)⟩) he hpl) hdb)⟩
end
def runF (nl : Nat) (B : FS) (ds : List PyData) : Option PyData := (B (ds.map some ++ List.replicate (nl - ds.length) none)).bind fun o => match o with
  | .rt d => some d
  | .nx _ => some .none
  | _ => none
def spF (n : Nat) (m : Md) (Fn : List PyData → Option PyData) : Sp := fun vs H Q _ => ∃ (ds : List PyData) (d : PyData) (Hs : Hp), ds.length = n ∧ Same Hs H ∧ RA Hs vs ds ∧ Fn ds = some d ∧ ∀ v Hs' H', Gr Hs H Hs' H' → Res m H Hs' H' v d → Q v H'
theorem spF_len {n : Nat} {m : Md} {Fn : List PyData → Option PyData} : ∀ vs H Q E, spF n m Fn vs H Q E → vs.length = n := fun vs H Q E h => by
  obtain ⟨ds, d, Hs, h1, _, h2, _⟩ := h
  rw [h2.length, h1]
theorem start_slots {N : List Str} {vs : List V} {ds : List PyData} {Hs H : Hp} (e : Same Hs H) (r : RA Hs vs ds) : StOK [] (ds.map some ++ List.replicate (N.length - ds.length) none) (start N vs) Hs H Hs H := by
  refine ⟨⟨e, ?_, fun i d h => ?_, fun i j di dj v hn h1 => ?_⟩, .refl e, fun i hi => (nomatch hi)⟩
  · unfold L2.start
    rw [List.length_append, List.length_append, List.length_map, List.length_map, List.length_replicate, List.length_replicate, r.length]
  · by_cases hi : i < ds.length
    · rw [List.getElem?_append_left (by rw [List.length_map]; exact hi), List.getElem?_map] at h
      obtain ⟨d', hd, e1⟩ := Option.map_eq_some_iff.mp h
      cases e1
      obtain ⟨v, h1, h2⟩ := r.get hd
      refine ⟨v, ?_, fun z => (nomatch z), fun _ => h2⟩
      unfold L2.start
      rw [List.getElem?_append_left (by rw [List.length_map, r.length]; exact hi), List.getElem?_map, h1] <;> rfl
    · rw [List.getElem?_append_right (by rw [List.length_map]; omega), List.length_map] at h
      have := List.mem_of_getElem? h
      have := (List.mem_replicate.mp this).2
      cases this
  · exact (nomatch h1)
theorem def_of {P : Program} {w : World} {K : PySem.W.Frag} {mg : Str → Option Value} {base : Heap} {CX : CXT} {x qual : Str} {st : Stmt} {f : Addr} {fd : FuncData} {N ps : List Str} {k : Nat} {m : Md} {B : FS} {O' W : List Nat} {n : Nat} (F : Fun K x qual st f fd) (S : FnScope N ps (defScope st)) (hn : ps.length = n)
    (none_ok : m = .cl ∨ ∀ ρ ρ', B ρ ≠ some (.nx ρ'))
    (body : ∀ (cdv : Value) (A : Around) (outer : List Env) (s : Shared) (H : Hp) (E : XK), GA k (A.deeper (envOfC qual (defScope st) s.heap.objs.size f cdv)) →
      ∃ t, DSs (cxOf CX P w K mg base N qual (defScope st) f cdv A outer s H E) m [] [] O' W (defBody st) t B) : FnG P w K mg base CX (k + 1) f fd ps (spF n m (runF N.length B)) := by
  subst hn
  refine fnG_of F S spF_len fun cdv A outer s H vs Q E ga want => ?_
  obtain ⟨t, h⟩ := body cdv A outer s H E ga
  obtain ⟨ds, d, Hs, hl, e, r, hf, q⟩ := want
  refine ⟨t, h.ps, ?_⟩
  obtain ⟨o, ho, hd⟩ := bind_some hf
  refine h.ev _ _ Hs H Hs H _ o (start_slots e r) ho ?_
  cases o with
  | nx ρ' =>
    cases hd
    rcases none_ok with rfl | hno
    · exact fun σ' Hs' H' x _ => q _ Hs' H' x.gr .non
    · exact absurd ho (hno _ _)
  | rt d' =>
    cases hd
    exact fun v Hs' H' g r' => q v Hs' H' g r'
  | bk _ => cases hd
  | ct _ => cases hd
theorem de_call {X : Cx} {O : List Nat} {CX : CXT} {k n : Nat} {f : Addr} {fd : FuncData} {ps : List Str} {m : Md} {Fn : List PyData → Option PyData} {E : XK} {x : Str} {p pos : Pos} {e : Expr} {es : List Expr} {t : TA} {fs : FA} (F : FnG X.prog X.w X.K X.mg X.base CX k f fd ps (spF n m Fn)) (ga : GA k X.A)
    (hm : X.mg x = some (.ref f)) (hk : PySem.W.keepIn X.K (.ref f) = true) (hb : Binds X.K fd ps []) (hx : Passes CX X E) (ha : DAc X O (e :: es) t fs) (hlen : (e :: es).length = n := by rfl) (hfs : ∀ ρ ds, fs ρ = some ds → ds.length = (e :: es).length) (hg : Gl X x := by rfl)
    (hdb : (x == ("__debug__" : Str)) = false := by decide) (he : starEach (e :: es) X.env = (false, eval e X.env) :: starEach es X.env := by rfl) (hpl : (backTo pos (starEach es X.env)).any (·.1) = false := by rfl) : DE X O m (.Call (.Name x p) (e :: es) [] pos) (tCall (spF n m Fn) [] E t) (fFn Fn fs) :=
  ⟨pe_callG F ga hg hm hk hb hx ha.pa hdb he hpl, fun ρ σ Hs H d s h Q q => by
    obtain ⟨xs, hxs, h⟩ := bind_some h
    refine ha.ev ρ σ Hs H xs s hxs _ fun vs Hs1 H1 g1 r1 => ?_
    refine ⟨xs, d, Hs1, (hfs ρ xs hxs).trans hlen, g1.sub, ?_, h, fun v Hs2 H2 g2 r2 => q v Hs2 H2 (g1.trans g2) (r2.back g1.h)⟩
    rw [List.append_nil]
    exact r1⟩
theorem fsA_nil : ∀ ρ ds, fNilA ρ = some ds → ds.length = ([] : List Expr).length := fun ρ ds h => by
  cases h
  rfl
theorem fsA_cons {e : Expr} {es : List Expr} {f : F} {fs : FA} (h : ∀ ρ ds, fs ρ = some ds → ds.length = es.length) : ∀ ρ ds, fConsA f fs ρ = some ds → ds.length = (e :: es).length := fun ρ ds hq => by
  obtain ⟨x, _, hq⟩ := bind_some hq
  obtain ⟨xs, h2, hq⟩ := bind_some hq
  cases hq
  rw [List.length_cons, List.length_cons, h ρ xs h2]
end DL
namespace DL
open PySem PySem.Spec L2
open PyProof.Rows hiding St
theorem seer_hid {h : Heap} {H : Hp} (x : h.NoSeer) (out : ∀ (b : Addr) (o : Obj), h.get? b = some o → (o.cls ≠ .type "list" ∨ ∀ its n, o.data ≠ .seq its n) → H b = none) : (hidT h H).NoSeer := by
  have ns : ∀ {b : Addr} {m : Str → Option Value}, h.Ns b m → (hidT h H).Ns b m := fun {b m} ⟨o, es, ep, e, d, r⟩ => ⟨o, es, ep, hidT_get e (out b o e (.inr fun its n z => by rw [d] at z; cases z)), d, r⟩
  obtain ⟨mc, s1, s2, s3⟩ := x.statics
  obtain ⟨mm, m1, m2⟩ := x.mods
  obtain ⟨mb, b1, b2⟩ := x.imp
  obtain ⟨mg, bm, ob, g1, g2, g3, g4, g5⟩ := x.main
  exact ⟨⟨mc, ns s1, s2, s3⟩, ⟨mm, ns m1, m2⟩, ⟨mb, ns b1, b2⟩, ⟨mg, bm, ob, ns g1, g2, hidT_get g3 (out bm ob g3 (.inl (by rw [g4]; decide))), g4, g5⟩⟩
theorem law_from [KF] {P : Program} {w : World} {mg mb : Str → Option Value} {CX : CXT} {k : Nat} {fa a : Addr} {fd : FuncData} {x : Str} {s₁ : Shared} {vs : List Value} {ns : List Int} {Fn : List PyData → Option PyData}
    (KX : KF.K.In s₁.heap) (hns : s₁.heap.Ns mainGlobals mg) (hb : s₁.heap.Ns builtinsNs mb) (hbb : ∀ x : Str, x ≠ "__name__" → mb x = bootBuiltins x) (hlim : s₁.heap.NoLimit) (hseer : s₁.heap.NoSeer) (hg : s₁.gens = #[])
    (ha : s₁.heap.get? a = some { cls := .type "list", data := .seq vs.toArray }) (hr : GA k callerA)
    (F : ∀ base : Heap, KF.K.In base → base.Ns mainGlobals mg → base.NoSeer → FnG P w KF.K mg base CX k fa fd [x] (spF 1 .cl Fn)) (hbind : ∀ (s : Shared) (u : Value), BindsTo s fd ⟨[u], []⟩ [(x, u)])
    (hFn : Fn [.list (ns.map .int)] = some (.bool true)) (hCX : ∀ H e s', CX [] H s₁ (fun _ _ _ => False) e s' → False)
    (H : Hp) (hL : LsK H a (ns.map V.int)) (ok : HOk P w H s₁.heap) (only : ∀ b, H b ≠ none → b = a) (frz : ∀ u, H a = some u → ∃ o xs, u = .frz o (.lst xs)) (out : H a ≠ none → KF.K.lookup a = none) :
    codeAny (model P w) callerA (.call (.ref fa) ⟨[.ref a], []⟩) (fun r s' => r = .ok (.ret (.bool true)) ∧ PySem.OldK s₁.heap s'.heap ∧ s'.os = s₁.os ∧ AllBare s'.gens) s₁ := by
  have untr : ∀ (b : Addr) (o : Obj), s₁.heap.get? b = some o → (o.cls ≠ .type "list" ∨ ∀ its n, o.data ≠ .seq its n) → H b = none := fun b o e hd => by
    cases q : H b with
    | none => rfl
    | some u =>
      have hb : b = a := only b (by rw [q]; simp)
      subst hb
      rw [ha] at e
      cases e
      rcases hd with hd | hd
      · exact absurd rfl hd
      · exact absurd rfl (hd _ _)
  have nsB : ∀ {b : Addr} {m : Str → Option Value}, s₁.heap.Ns b m → (hidT s₁.heap H).Ns b m := fun {b m} ⟨o, es, ep, e, d, r⟩ => ⟨o, es, ep, hidT_get e (untr b o e (.inr fun its n z => by rw [d] at z; cases z)), d, r⟩
  have hKb : KF.K.In (hidT s₁.heap H) := fun b o e => by
    refine hidT_get (KX b o e) ?_
    cases q : H b with
    | none => rfl
    | some u =>
      have hb : b = a := only b (by rw [q]; simp)
      subst hb
      rw [out (by rw [q]; simp)] at e
      cases e
  obtain ⟨ml, l1, l2⟩ := hlim
  have hM : Mod KF.K mg (hidT s₁.heap H) := ⟨hKb, nsB hns, ⟨mb, nsB hb, hbb⟩, ⟨ml, nsB l1, l2⟩⟩
  have env0 : Env0 P w KF.K mg (hidT s₁.heap H) callerA [] s₁ H :=
    ⟨rfl, hM, fun b o e => of_hidT e, Nat.le_of_eq (hidT_size _ _), trivial, fun b z => absurd (show b ∈ ([] : List Addr) from z) (by simp), ok, .of_eq hg⟩
  have want : spF 1 .cl Fn [.ref a] H (fun v _ => v = .bl true) (fun _ _ _ => False) :=
    ⟨[.list (ns.map .int)], .bool true, H, rfl, .refl _, .cons (.lst hL (RA.ints ns)) .nil, hFn, fun v Hs' H' _ r => by
      cases (show R Hs' v (.bool true) from r)
      rfl⟩
  refine codeAny_mono ((F _ hKb (nsB hns) (seer_hid hseer untr)).run callerA [] s₁ H ⟨[.ref a], []⟩ [.ref a] [.ref a] _ _ hr env0 (hbind s₁ (.ref a)) (.cons rfl .nil) want) fun r s' back => ?_
  match r, back with
  | .error e, back => exact (hCX H e s' back).elim
  | .ok .next, back => exact False.elim back
  | .ok .brk, back => exact False.elim back
  | .ok .cont, back => exact False.elim back
  | .ok (.ret u), ⟨v, H', os, bare, un, ok', rel, q⟩ =>
    have q : v = .bl true := q
    subst q
    have rel : u = Value.bool true := rel
    subst rel
    refine ⟨rfl, PySem.OldK.of_keep fun b o e => ?_, os, bare⟩
    cases q : H b with
    | none => exact un.keep b o e q (fun z => absurd (show b ∈ ([] : List Addr) from z) (by simp)) (by simp)
    | some u =>
      have hb : b = a := only b (by rw [q]; simp)
      subst hb
      obtain ⟨ob, xs, rfl⟩ := frz u q
      obtain ⟨e1, _⟩ := ok b _ q
      obtain ⟨e2, _⟩ := ok' b _ (un.frzs b ob _ q)
      rw [e] at e1
      cases e1
      exact e2
theorem walk_D {l : PySem.W.OpenLaw} {n k : Nat} {q : Program} {loose : List Str} {XP : (Str → Option Value) → Heap → Prop} {YP : World → Heap → Prop} {d : DefRec} {K : Params → PySem.W.Frag} {CX : World → CXT} {x : Str} {Fn : List PyData → Option PyData}
    (hn : l.most = some n) (hn2 : n ≤ sizeLine) (hdf : d.params.defaults = []) (hr : GA k callerA) (him : importsNone q = true) (hY : ∀ (w : World) (h : Heap), YP w h → (K w.params).In h)
    (F : ∀ (w : World) (mg : Str → Option Value) (fa : Addr) (h : Heap), (K w.params).In h → h.Ns mainGlobals mg → mg d.name = some (.ref fa) →
      ∃ fd : FuncData, (∀ (s : Shared) (u : Value), BindsTo s fd ⟨[u], []⟩ [(x, u)]) ∧ ∀ base : Heap, (K w.params).In base → base.Ns mainGlobals mg → base.NoSeer → FnG l.prog w (K w.params) mg base (CX w) k fa fd [x] (@spF ⟨K w.params, true⟩ 1 .cl Fn))
    (hFn : ∀ ns : List Int, ns.length ≤ n → (∀ z ∈ ns, Builtin.Int.intBits z ≤ 1048576) → Fn [.list (ns.map .int)] = some (.bool true))
    (hCX : ∀ (w : World) (H : Hp) (s : Shared) (e : Value) (s' : Shared), CX w [] H s (fun _ _ _ => False) e s' → False) : PySem.W.WalkO q loose XP YP l.row.toRowW d [] (fun f vs => PySem.call f vs) := by
  refine Att.attach_callB hn hdf fun w s₀ s₁ mg mb fa o pm cd doc a vs ns G Y ho hd hcd hmg hobj hints hlen hbits hg => ?_
  have KX := hY w _ Y
  obtain ⟨fd, hb, hF⟩ := F w mg fa _ KX G.T.g hmg
  have rv := vals_ints hints
  letI kf : KF := ⟨K w.params, true⟩
  have go := law_from (P := l.prog) (w := w) (CX := CX w) (fd := fd) KX G.T.g G.T.b G.T.builtins G.T.nolimit (G.T.seer him) hg hobj hr hF hb (hFn ns hlen hbits) fun H e s' => hCX w H s₁ e s'
  have small : (ns.map V.int).length ≤ sizeLine := by
    rw [List.length_map]
    exact Nat.le_trans hlen hn2
  cases hk : (K w.params).lookup a with
  | some ob =>
    have e := KX a ob hk
    rw [hobj] at e
    cases e
    exact go (fun _ => none) (.inr ⟨rfl, .inr ⟨vs.toArray, _, hk, by rw [List.size_toArray, ← rv.length]; exact small, by simpa using rv⟩⟩) (fun b u z => nomatch (show (none : Option HO) = some u from z)) (fun b z => absurd rfl z) (fun u z => nomatch (show (none : Option HO) = some u from z)) fun z => absurd rfl z
  | none =>
    have at_a : ∀ b, (fun b => if b = a then some (HO.frz { cls := .type "list", data := .seq vs.toArray } (.lst (ns.map V.int))) else none : Hp) b ≠ none → b = a := fun b z => by
      by_cases hb : b = a
      · exact hb
      · exact absurd (if_neg hb) z
    refine go (fun b => if b = a then some (.frz { cls := .type "list", data := .seq vs.toArray } (.lst (ns.map V.int))) else none) (.inr ⟨rfl, .inl ⟨_, if_pos rfl⟩⟩) (fun b u z => ?_) at_a (fun u z => ?_) fun _ => hk
    · have hb := at_a b (by rw [z]; simp)
      subst hb
      have z := (if_pos rfl).symm.trans z
      cases z
      exact ⟨hobj, small, vs, _, rv, hobj⟩
    · have z := (if_pos rfl).symm.trans z
      cases z
      exact ⟨_, _, rfl⟩
variable [KF]
theorem def_nx {P : Program} {w : World} {K : PySem.W.Frag} {mg : Str → Option Value} {base : Heap} {CX : CXT} {x qual : Str} {st : Stmt} {f : Addr} {fd : FuncData} {N ps : List Str} {k : Nat} {m : Md} {B : FS} {O' W : List Nat} {n nl : Nat} (F : Fun K x qual st f fd) (S : FnScope N ps (defScope st)) (hn : ps.length = n) (hnl : N.length = nl)
    (none_ok : m = .cl ∨ ∀ ρ ρ', B ρ ≠ some (.nx ρ'))
    (body : ∀ (cdv : Value) (A : Around) (outer : List Env) (s : Shared) (H : Hp) (E : XK), GA k (A.deeper (envOfC qual (defScope st) s.heap.objs.size f cdv)) →
      ∃ t, DSs (cxOf CX P w K mg base N qual (defScope st) f cdv A outer s H E).nox m [] [] O' W (defBody st) t B) : FnG P w K mg base CX (k + 1) f fd ps (spF n m (runF nl B)) := by
  subst hnl
  exact def_of F S hn none_ok fun cdv A outer s H E ga => let ⟨t, h⟩ := body cdv A outer s H E ga; ⟨t, ⟨h.ps.nox, h.ev⟩⟩
section
variable {X : Cx} {O : List Nat} {a b c : Expr} {ta tb tc : TE} {fa fb fc : F} {pos : Pos}
theorem dt_cmpR {op : CmpOp} {r : R2} {g : PyData → PyData → Option PyData} (ho : OpR X (compareOp op) r) (hg : OpD r .cl g) (ha : DE X O .rd a ta fa) (hb : DE X O .rd b tb fb) (hm : behindInMarks op b = false) : DT X O (.Compare a [op] [b] pos) (tTest (tOp r ta tb)) (tV (fBin g fa fb)) :=
  ⟨pt_cmpR ho ha.pe hb.pe hm, fun ρ σ Hs H k s h Q q => by
    obtain ⟨x, hx, h⟩ := bind_some h
    refine ev_op2 hg ha hb s hx _ fun v Hs1 H1 g1 r1 => ?_
    cases x <;> try (cases h; done)
    cases h
    exact ⟨_, rd_bool (H0 := H) (H := H1) (.inl r1), q Hs1 H1 g1⟩⟩
theorem dt_lt (ha : DE X O .rd a ta fa) (hb : DE X O .rd b tb fb) : DT X O (.Compare a [.Lt] [b] pos) (tTest (tOp rLtI ta tb)) (tV (fBin dLt fa fb)) := dt_cmpR op_lt opd_B0 ha hb (nomark _)
theorem dt_gt (ha : DE X O .rd a ta fa) (hb : DE X O .rd b tb fb) : DT X O (.Compare a [.Gt] [b] pos) (tTest (tOp rGtI ta tb)) (tV (fBin dGt fa fb)) := dt_cmpR op_gt opd_B0 ha hb (nomark _)
theorem dt_ge (ha : DE X O .rd a ta fa) (hb : DE X O .rd b tb fb) : DT X O (.Compare a [.GtE] [b] pos) (tTest (tOp rGeI ta tb)) (tV (fBin dGe fa fb)) := dt_cmpR op_ge opd_B0 ha hb (nomark _)
theorem dt_eq (hu : X.A.units + 64 < cLine) (hK : X.K = KF.K) (ha : DE X O .rd a ta fa) (hb : DE X O .rd b tb fb) : DT X O (.Compare a [.Eq] [b] pos) (tTest (tOp (rEqD X.K) ta tb)) (tV (fBin dEq fa fb)) := dt_cmpR (op_eqD hu) (by rw [hK]; exact opd_eq) ha hb (nomark _)
theorem dt_ne (hu : X.A.units + 64 < cLine) (hK : X.K = KF.K) (ha : DE X O .rd a ta fa) (hb : DE X O .rd b tb fb) : DT X O (.Compare a [.NotEq] [b] pos) (tTest (tOp (rNeD X.K) ta tb)) (tV (fBin dNe fa fb)) := dt_cmpR (op_neD hu) (by rw [hK]; exact opd_ne) ha hb (nomark _)
theorem dt_is (ha : DE X O .rd a ta fa) (hb : DE X O .rd b tb fb) : DT X O (.Compare a [.Is] [b] pos) (tTest (tOp rIsD ta tb)) (tV (fBin dIs fa fb)) := dt_cmpR op_isN opd_is ha hb (nomark _)
theorem dt_isnot (ha : DE X O .rd a ta fa) (hb : DE X O .rd b tb fb) : DT X O (.Compare a [.IsNot] [b] pos) (tTest (tOp rIsNotD ta tb)) (tV (fBin dIsNot fa fb)) := dt_cmpR op_notN opd_isnot ha hb (nomark _)
end
section
variable {X : Cx} {O : List Nat} {e a b c : Expr} {es : List Expr} {te ta tb tc : TE} {tA' tB' : TT} {f fa fb fc : F} {ft fu : FT} {m : Md} {pos : Pos}
theorem de_eqK (hu : X.A.units + 64 < cLine) (hK : X.K = KF.K) (ha : DE X O .rd a ta fa) (hb : DE X O .rd b tb fb) : DE X O .cl (.Compare a [.Eq] [b] pos) (tOp (rEqD KF.K) ta tb) (fBin dEq fa fb) := by
  rw [← hK]
  exact de_eq hu hK ha hb
end
section
variable {X : Cx} {O : List Nat} {e a b c : Expr} {es : List Expr} {te ta tb tc : TE} {tA' tB' : TT} {f fa fb fc : F} {ft fu : FT} {m : Md} {pos : Pos}
theorem dt_truK (hK : X.K = KF.K) (ha : DE X O .rd a ta fa) (he : ∀ whole, isTrue a X.env whole = (do let v ← whole; standAt a.pos; holding [v] (truthy v)) := by intro _; rfl) : DT X O a (fun σ H Q => ta σ H fun x H' => ∃ k, TruV KF.K x H' k ∧ Q k H') (tTr fa) := by
  rw [← hK]
  exact dt_tru hK ha he
end
section
variable {X : Cx} {O : List Nat} {a b c : Expr} {ta tb tc : TE} {fa fb fc : F} {pos : Pos}
theorem dt_eqK (hu : X.A.units + 64 < cLine) (hK : X.K = KF.K) (ha : DE X O .rd a ta fa) (hb : DE X O .rd b tb fb) : DT X O (.Compare a [.Eq] [b] pos) (tTest (tOp (rEqD KF.K) ta tb)) (tV (fBin dEq fa fb)) := by
  rw [← hK]
  exact dt_eq hu hK ha hb
end
section
variable {X : Cx} {O : List Nat} {a b c : Expr} {ta tb tc : TE} {fa fb fc : F} {pos : Pos}
theorem dt_neK (hu : X.A.units + 64 < cLine) (hK : X.K = KF.K) (ha : DE X O .rd a ta fa) (hb : DE X O .rd b tb fb) : DT X O (.Compare a [.NotEq] [b] pos) (tTest (tOp (rNeD KF.K) ta tb)) (tV (fBin dNe fa fb)) := by
  rw [← hK]
  exact dt_ne hu hK ha hb
end
section
variable {X : Cx} {O : List Nat} {e a b c : Expr} {es : List Expr} {te ta tb tc : TE} {t : TA} {f fa fb fc : F} {fs : FA} {m : Md} {pos : Pos}
theorem de_ixK (hK : X.K = KF.K) (ha : DE X O .rd a ta fa) (hb : DE X O .rd b tb fb) (hs : PlainIx b := by intro _ _; rfl) : DE X O .cl (.Subscript a b pos) (tOp (rIx KF.K) ta tb) (fBin dIx fa fb) := by
  rw [← hK]
  exact de_ix hK ha hb hs
end
section
variable {X : Cx} {O : List Nat} {e a b c : Expr} {es : List Expr} {te ta tb tc : TE} {t : TA} {f fa fb fc : F} {fs : FA} {m : Md} {pos : Pos}
theorem de_sliceK (hK : X.K = KF.K) {lo hi : Option Expr} {tl th : TO} {fl fh : Rho → Option (Option Int)} {p2 : Pos} (ha : DE X O .rd a ta fa) (hl : DO X O lo tl fl) (hh : DO X O hi th fh) : DE X O .ow (.Subscript a (.Slice lo hi none p2) pos) (tSl (rSlL KF.K) ta tl th) (fSl fa fl fh) := by
  rw [← hK]
  exact de_slice hK ha hl hh
end
section
variable {X : Cx} {O : List Nat} {e a b c : Expr} {es : List Expr} {te ta tb tc : TE} {t : TA} {f fa fb fc : F} {fs : FA} {m : Md} {pos : Pos}
theorem de_lenK {p : Pos} (hK : X.K = KF.K) (gl : Gl X "len") (hm : X.mg "len" = none) (ha : DE X O .rd e te f) (hs : starEach [e] X.env = [(false, eval e X.env)] := by rfl) : DE X O .cl (.Call (.Name "len" p) [e] [] pos) (tCB (rLenD KF.K) (tCons te tNil)) (fFn (g1 dLen) (fConsA f fNilA)) := by
  rw [← hK]
  exact de_len hK gl hm ha hs
end
section
variable {X : Cx} {O : List Nat} {e a b c : Expr} {es : List Expr} {te ta tb tc : TE} {t : TA} {f fa fb fc : F} {fs : FA} {m : Md} {pos : Pos}
theorem de_listcK {p : Pos} (hK : X.K = KF.K) (gl : Gl X "list") (hm : X.mg "list" = none) (ha : DE X O .rd e te f) (hs : starEach [e] X.env = [(false, eval e X.env)] := by rfl) : DE X O .ow (.Call (.Name "list" p) [e] [] pos) (tCB (rListD KF.K) (tCons te tNil)) (fFn (g1 dListOf) (fConsA f fNilA)) := by
  rw [← hK]
  exact de_listc hK gl hm ha hs
end
section
variable {X : Cx} {O : List Nat} {e : Expr} {te : TE} {f : F} {pos : Pos}
theorem de_isiK (hK : X.K = KF.K) {T : String} {c : Expr} {p : Pos} (gl : Gl X "isinstance") (hm : X.mg "isinstance" = none) (ha : DE X O .rd e te f) (hc : PE X c (tC (.ty T)))
    (he : starEach [e, c] X.env = (false, eval e X.env) :: starEach [c] X.env := by rfl) (he2 : starEach [c] X.env = (false, eval c X.env) :: starEach [] X.env := by rfl) (hpl : (backTo pos (starEach [c] X.env)).any (·.1) = false := by rfl) :
    DE X O .cl (.Call (.Name "isinstance" p) [e, c] [] pos) (tCB (rIsi KF.K) (tCons te (tCons (tC (.ty T)) tNil))) (fUn (isTy T) f) := by
  rw [← hK]
  exact de_isi hK gl hm ha hc he he2 hpl
end
section
variable {X : Cx} {O : List Nat} {e a b c tg : Expr} {te ta tb tc : TE} {f fa fb fc : F} {pos p : Pos}
theorem di_seqK (hK : X.K = KF.K) (h : DE X O .cl e te f) : DI X O tg e (fun σ H R => iList KF.K te σ H R ∨ iTup KF.K te σ H R) (iSeq f) := by
  rw [← hK]
  exact di_seq hK h
end
section
variable {X : Cx} {O : List Nat} {a b : Expr} {ta tb : TE} {fa fb : F} {pos : Pos}
theorem dg_tupK (hK : X.K = KF.K) {ts : List Expr} {n k : Nat} {p : Pos} {gs : TGs} {ks : List FG} {js : List Nat} (hc : X.calm = true) (h : DGs X O ts gs ks js) (hn : ts.length = n := by rfl) (hn2 : (assignEach ts X.env).length = n := by rfl) (hst : (assignEach ts X.env).findIdx? (·.1) = none := by rfl) : DG X O (.Tuple ts k p) (gTup KF.K n gs) (gT ks) js := by
  rw [← hK]
  exact dg_tup hK hc h hn hn2 hst
end
theorem nn_ret {f : F} : ∀ ρ ρ', sRet f ρ ≠ some (.nx ρ') := fun ρ ρ' h => by
  obtain ⟨d, _, e⟩ := Option.map_eq_some_iff.mp h
  cases e
theorem nn_seq {a b : FS} (h : ∀ ρ ρ', b ρ ≠ some (.nx ρ')) : ∀ ρ ρ', sSeq a b ρ ≠ some (.nx ρ') := fun ρ ρ' q => by
  obtain ⟨o, _, q⟩ := bind_some q
  cases o with
  | nx ρ1 => exact h ρ1 ρ' q
  | rt d => cases q
  | bk ρ1 => cases q
  | ct ρ1 => cases q
section
variable {X : Cx} {m : Md} {OB O O' : List Nat} {e : Expr} {te : TE} {f : F} {pos : Pos}
theorem dsn (i : Nat) {x : Str} {p : Pos} (hN : X.N.Nodup) (h : DE X O .cl e te f) (hi : X.N[i]? = some x := by rfl) (hx : Loc X.env.scope x := by first | exact Or.inl rfl | exact Or.inr rfl) (hs : swapsWith e (some (.Name x p)) pos.line X.env = pure false := by rfl)
    (hf : X.fn x = true ∨ X.env.scope.names.lookup x = some .local := by first | exact .inl rfl | exact .inr rfl) : DS X m OB O (del i O) [i] (.Assign [.Name x p] e pos) (tAsg te (gName i)) (sAsg i f) := ds_asg i h (ps_set hN hi hx h.pe hs hf)
theorem dsnO (i : Nat) {x : Str} {p : Pos} (hN : X.N.Nodup) (h : DE X O .ow e te f) (hi : X.N[i]? = some x := by rfl) (hx : Loc X.env.scope x := by first | exact Or.inl rfl | exact Or.inr rfl) (hs : swapsWith e (some (.Name x p)) pos.line X.env = pure false := by rfl)
    (hf : X.fn x = true ∨ X.env.scope.names.lookup x = some .local := by first | exact .inl rfl | exact .inr rfl) : DS X m OB O (i :: del i O) [i] (.Assign [.Name x p] e pos) (tAsg te (gName i)) (sAsg i f) := ds_asgOw i h (ps_set hN hi hx h.pe hs hf)
theorem dgn (i : Nat) {x : Str} {p : Pos} (hN : X.N.Nodup) (ho : O.contains i = false := by rfl) (hi : X.N[i]? = some x := by rfl) (hx : Loc X.env.scope x := by first | exact Or.inl rfl | exact Or.inr rfl)
    (hf : X.fn x = true ∨ X.env.scope.names.lookup x = some .local := by first | exact .inl rfl | exact .inr rfl) : DG X O (.Name x p) (gName i) (gN i) [i] := dg_name i ho (pg_name hN hi hx hf)
theorem dsapp (i : Nat) {x : Str} {p p2 p3 : Pos} (h : DE X O .cl e te f) (hv : PE X (.Name x p) (tVar i))
    (hs : swapsWith (.Call (.Attribute (.Name x p) "append" p2) [e] [] p3) none pos.line X.env = pure false := by rfl)
    (hb : PE X e te → PE X (.Call (.Attribute (.Name x p) "append" p2) [e] [] p3) (tBM X.K "list" rAppend (tVar i) (tCons te tNil))) (ho : O.contains i = true := by rfl) :
    DS X m OB O O [i] (.Expr (.Call (.Attribute (.Name x p) "append" p2) [e] [] p3) pos) (tDrop (tBM X.K "list" rAppend (tVar i) (tCons te tNil))) (sApp i f) := ds_append i ho h hv (ps_expr (hb h.pe) hs)
section
variable {elt tg iter : Expr} {ifs : List Expr} {scope : Scope} {own : List (Str × Nat)} {spos py : Pos} {wi : TI} {g : TG} {tt : TT} {k : FG} {t : FT} {el : F} {src : FA} {js : List Nat}
theorem dlc_mk (own : List (Str × Nat)) (hi : DI X O tg iter wi src) (ok : BlkOk X.N X.env.scope scope own) (hg : ∀ (s : Shared) (H : Hp) (C : Addr) (cl : List (Str × Addr)) (fp : List Addr), DG (X.blk s H scope (compEnvC scope cl C X.env) fp) O tg g k js)
    (ht : ∀ (s : Shared) (H : Hp) (C : Addr) (cl : List (Str × Addr)) (fp : List Addr), DTs (X.blk s H scope (compEnvC scope cl C X.env) fp) O ifs tt t) (he : ∀ (s : Shared) (H : Hp) (C : Addr) (cl : List (Str × Addr)) (fp : List Addr), DE (X.blk s H scope (compEnvC scope cl C X.env) fp) O .cl elt te el)
    (hj : js.all (own.map (·.2)).contains = true := by rfl) : DLc X O elt tg iter ifs scope own wi g tt te src k t el js := ⟨hi, ok, hg, ht, he, hj⟩
theorem de_lcv {vs : List Nat} (hc : X.calm = true) (hN : X.N.Nodup) (h : DLc X O elt tg iter ifs scope own wi g tt te src k t el js) (hv : own.map (·.2) = vs := by rfl) (hs : ∀ x, foldedSetIterable iter X.env x = pure x := by intro _; rfl) : DE X O .ow (.ListComp elt [⟨tg, iter, ifs, 0⟩] scope pos) (tLc wi g tt te (own.map (·.2))) (fLc src k t el vs) := by
  subst hv
  exact de_lc hc hN h hs
theorem dslc_ (i : Nat) {x : Str} (hc : X.calm = true) (hN : X.N.Nodup) (h : DLc X O elt tg iter ifs scope own wi g tt te src k t el js) (hsw : swapsWith (.ListComp elt [⟨tg, iter, ifs, 0⟩] scope pos) (some (.Name x py)) spos.line X.env = pure true) (hi : X.N[i]? = some x := by rfl)
    (hx : X.env.scope.names.lookup x = some .local := by rfl) (hs : ∀ x, foldedSetIterable iter X.env x = pure x := by intro _; rfl) : DS X m OB O (del i O) [i] (.Assign [.Name x py] (.ListComp elt [⟨tg, iter, ifs, 0⟩] scope pos) spos) (tAsg (tLc wi g tt te (own.map (·.2))) (gName i)) (sAsg i (fLc src k t el (own.map (·.2)))) :=
  ds_asg i (de_lc hc hN h hs).cl_ (ps_setLc hc hN hi hx hsw h.hi.pi h.ok (fun s H C cl fp => (h.hg s H C cl fp).pg) (fun s H C cl fp => (h.ht s H C cl fp).pt) (fun s H C cl fp => (h.he s H C cl fp).pe) hs)
theorem dslc (i : Nat) {vs : List Nat} {x : Str} (hc : X.calm = true) (hN : X.N.Nodup) (h : DLc X O elt tg iter ifs scope own wi g tt te src k t el js) (hsw : swapsWith (.ListComp elt [⟨tg, iter, ifs, 0⟩] scope pos) (some (.Name x py)) spos.line X.env = pure true) (hv : own.map (·.2) = vs := by rfl) (hi : X.N[i]? = some x := by rfl)
    (hx : X.env.scope.names.lookup x = some .local := by rfl) (hs : ∀ x, foldedSetIterable iter X.env x = pure x := by intro _; rfl) : DS X m OB O (del i O) [i] (.Assign [.Name x py] (.ListComp elt [⟨tg, iter, ifs, 0⟩] scope pos) spos) (tAsg (tLc wi g tt te (own.map (·.2))) (gName i)) (sAsg i (fLc src k t el vs)) := by
  subst hv
  exact dslc_ i hc hN h hsw hi hx hs
end
end
end DL
namespace DL
open PySem PySem.Spec L2
open PyProof.Rows hiding St
variable [KF]
def scalD : PyData → Bool
  | .none => true
  | .bool _ => true
  | .int _ => true
  | .str _ => true
  | _ => false
end DL
namespace DL
open PySem PySem.Spec L2
open PyProof.Rows hiding St
theorem cx_dead {P : Program} {w : World} {H : Hp} {s : Shared} {e : Value} {s' : Shared} (h : L2.CX P w [] H s (fun _ _ _ => False) e s') : False := by
  obtain ⟨_, _, _, _, _, _, _, _, _, _, _, _, z⟩ := h
  exact z
theorem fBin_eq {g : PyData → PyData → Option PyData} {a b : F} {ρ : Rho} {x y : PyData} (ha : a ρ = some x) (hb : b ρ = some y) : fBin g a b ρ = g x y := by
  unfold fBin
  rw [ha, Option.bind_some, hb, Option.bind_some]
theorem dAdd_i (a b : Int) : dAdd (.int a) (.int b) = some (.int (a + b)) := rfl
theorem dSub_i (a b : Int) : dSub (.int a) (.int b) = some (.int (a - b)) := rfl
theorem gI_pos {C : Int → Int → Bool} {k : Int → Int → PyData} {i j : Int} (h : C i j = true) : gI C k (.int i) (.int j) = some (k i j) := if_pos h
theorem intBits_le {i : Int} {n : Nat} (h : i.natAbs < 2 ^ n) : Builtin.Int.intBits i ≤ n := by
  unfold Builtin.Int.intBits
  split
  · exact Nat.zero_le _
  · rename_i h0
    have hn : i.natAbs ≠ 0 := by
      intro z
      apply h0
      simpa using z
    have := (Nat.log2_lt hn).mpr h
    omega
theorem dMul_b {a b : Int} {n m : Nat} (ha : a.natAbs < 2 ^ n) (hb : b.natAbs < 2 ^ m) (h : n + m ≤ 134217728) : dMul (.int a) (.int b) = some (.int (a * b)) := gI_pos (decide_eq_true (by
  have h1 := intBits_le ha
  have h2 := intBits_le hb
  omega))
theorem dMod_i {a b : Int} (h : b ≠ 0) : dMod (.int a) (.int b) = some (.int (a.fmod b)) := gI_pos (decide_eq_true h)
theorem dMod_p {a b : Int} (h : 0 < b) : dMod (.int a) (.int b) = some (.int (a % b)) := by
  rw [dMod_i (by omega), Int.fmod_eq_emod_of_nonneg _ (by omega)]
theorem log2_lt' {n k : Nat} (h : n < 2 ^ k) (hk : 0 < k) : n.log2 < k := by
  by_cases h0 : n = 0
  · subst h0
    simpa using hk
  · exact (Nat.log2_lt h0).mpr h
theorem dDiv_b {a b : Int} {n : Nat} (h : b ≠ 0) (hb : b.natAbs < 2 ^ n) (hn : n ≤ 9000) (h0 : 0 < n) : dDiv (.int a) (.int b) = some (.int (a.fdiv b)) := gI_pos (decide_eq_true ⟨h, Nat.lt_of_lt_of_le (log2_lt' hb h0) hn⟩)
theorem dDiv_p {a b : Int} {n : Nat} (h : 0 < b) (hb : b.natAbs < 2 ^ n) (hn : n ≤ 9000) (h0 : 0 < n) : dDiv (.int a) (.int b) = some (.int (a / b)) := by
  rw [dDiv_b (by omega) hb hn h0, Int.fdiv_eq_ediv_of_nonneg _ (by omega)]
theorem dLt_i (a b : Int) : dLt (.int a) (.int b) = some (.bool (decide (a < b))) := rfl
theorem dLe_i (a b : Int) : dLe (.int a) (.int b) = some (.bool (decide (a ≤ b))) := rfl
theorem dGt_i (a b : Int) : dGt (.int a) (.int b) = some (.bool (decide (b < a))) := rfl
theorem dGe_i (a b : Int) : dGe (.int a) (.int b) = some (.bool (decide (b ≤ a))) := rfl
theorem dEq_i (a b : Int) : dEq (.int a) (.int b) = some (.bool (a == b)) := rfl
theorem dNe_i (a b : Int) : dNe (.int a) (.int b) = some (.bool (!(a == b))) := rfl
def vecD (ns : List Int) : PyData := .list (ns.map .int)
theorem shaped_ints_all : ∀ ns : List Int, PyData.canLayAll0 (ns.map PyData.int) = true
  | [] => by simp [PyData.canLayAll0]
  | n :: r => by simp [PyData.canLayAll0, PyData.canLay0, shaped_ints_all r]
theorem depth_ints_all : ∀ ns : List Int, PyData.depthAll (ns.map PyData.int) ≤ 1
  | [] => by simp [PyData.depthAll]
  | n :: r => by
    have := depth_ints_all r
    simp only [List.map_cons, PyData.depthAll, PyData.depth]
    omega
theorem shaped_ints (ns : List Int) : SeqAt.shaped (vecD ns) = true := by
  have h1 : PyData.canLay0 (vecD ns) = true := by
    simp only [vecD, PyData.canLay0]
    exact shaped_ints_all ns
  have h2 : PyData.depth (vecD ns) ≤ 64 := by
    simp only [vecD, PyData.depth]
    have := depth_ints_all ns
    omega
  show (PyData.canLay0 (vecD ns) && decide (PyData.depth (vecD ns) ≤ 64)) = true
  rw [h1, Bool.true_and]
  exact decide_eq_true h2
theorem eqv_ints_all : ∀ xs ys : List Int, PyData.eqvAll (xs.map PyData.int) (ys.map PyData.int) = decide (xs = ys)
  | [], [] => by simp [PyData.eqvAll]
  | [], _ :: _ => by simp [PyData.eqvAll]
  | _ :: _, [] => by simp [PyData.eqvAll]
  | x :: xs, y :: ys => by
    simp only [List.map_cons, PyData.eqvAll, PyData.eqv, eqv_ints_all xs ys, List.cons.injEq]
    by_cases h : x = y <;> simp [h]
theorem eqv_ints (xs ys : List Int) : PyData.eqv (vecD xs) (vecD ys) = decide (xs = ys) := by
  simp only [vecD, PyData.eqv]
  exact eqv_ints_all xs ys
theorem dEq_v (xs ys : List Int) : dEq (vecD xs) (vecD ys) = some (.bool (decide (xs = ys))) := by
  unfold dEq
  rw [shaped_ints, shaped_ints, eqv_ints] <;> rfl
theorem dNe_v (xs ys : List Int) : dNe (vecD xs) (vecD ys) = some (.bool (!decide (xs = ys))) := by
  unfold dNe
  rw [shaped_ints, shaped_ints, eqv_ints] <;> rfl
theorem dIx_v {xs : List Int} {i : Int} {j : Nat} {x : Int} (hi : i = j) (h : xs[j]? = some x) : dIx (vecD xs) (.int i) = some (.int x) := by
  subst hi
  show atI (xs.map PyData.int) (j : Int) = _
  exact atI_nat (by rw [List.getElem?_map, h]; rfl)
theorem dLen_v (xs : List Int) : dLen (vecD xs) = some (.int xs.length) := by
  show some (PyData.int ((xs.map PyData.int).length : Int)) = _
  rw [List.length_map]
theorem intsOf_v : ∀ ns : List Int, intsOf (ns.map PyData.int) = some ns
  | [] => rfl
  | n :: r => by
    show (intsOf (r.map PyData.int)).map (n :: ·) = some (n :: r)
    rw [intsOf_v r] <;> rfl
theorem dSum_v (xs : List Int) : dSum (vecD xs) = some (.int xs.sum) := by
  show (intsOf (xs.map PyData.int)).map _ = _
  rw [intsOf_v] <;> rfl
theorem dAnyI_v (xs : List Int) : dAnyI (vecD xs) = some (.bool (xs.any fun n => n != 0)) := by
  show (intsOf (xs.map PyData.int)).map _ = _
  rw [intsOf_v] <;> rfl
theorem seq_nx {a b : FS} {ρ ρ' : Rho} {o : Option Out} (h : a ρ = some (.nx ρ')) (h2 : b ρ' = o) : sSeq a b ρ = o := by
  unfold sSeq
  rw [h, Option.bind_some]
  exact h2
theorem seq_rt {a b : FS} {ρ : Rho} {d : PyData} (h : a ρ = some (.rt d)) : sSeq a b ρ = some (.rt d) := by
  unfold sSeq
  rw [h, Option.bind_some]
theorem asg_nx {i : Nat} {f : F} {ρ : Rho} {d : PyData} (h : f ρ = some d) : sAsg i f ρ = some (.nx (ρ.set i (some d))) := by
  unfold sAsg
  rw [h] <;> rfl
theorem if_t {c : FT} {a b : FS} {ρ : Rho} (h : c ρ = some true) : sIf c a b ρ = a ρ := by
  unfold sIf
  rw [h, Option.bind_some, if_pos rfl]
theorem if_f {c : FT} {a b : FS} {ρ : Rho} (h : c ρ = some false) : sIf c a b ρ = b ρ := by
  unfold sIf
  rw [h, Option.bind_some, if_neg Bool.false_ne_true]
theorem ret_rt {f : F} {ρ : Rho} {d : PyData} (h : f ρ = some d) : sRet f ρ = some (.rt d) := by
  unfold sRet
  rw [h] <;> rfl
theorem runF_rt {nl : Nat} {B : FS} {ds : List PyData} {d : PyData} (h : B (ds.map some ++ List.replicate (nl - ds.length) none) = some (.rt d)) : runF nl B ds = some d := by
  unfold runF
  rw [h] <;> rfl
theorem lcF_map {k : FG} {t : FT} {el : F} {ρ : Rho} {α : Type} {h : α → PyData} {g : α → PyData} : ∀ {xs : List α}, (∀ x ∈ xs, ∃ ρ1, k (h x) ρ = some ρ1 ∧ t ρ1 = some true ∧ el ρ1 = some (g x)) → lcF k t el ρ (xs.map h) = some (xs.map g)
  | [], _ => rfl
  | x :: xs, hx => by
    obtain ⟨ρ1, h1, h2, h3⟩ := hx x (List.mem_cons_self ..)
    have ih := lcF_map (xs := xs) fun y hy => hx y (List.mem_cons_of_mem _ hy)
    show (k (h x) ρ).bind _ = _
    rw [h1, Option.bind_some, h2, Option.bind_some, if_pos rfl, h3, Option.bind_some, ih] <;> rfl
theorem catC_le {n m : Nat} (h : n + m ≤ 16000000) : catC n m = true := decide_eq_true h
theorem fLc_map {src : FA} {k : FG} {t : FT} {el : F} {vs : List Nat} {ρ : Rho} {α : Type} {h : α → PyData} {g : α → PyData} {xs : List α} (hs : src ρ = some (xs.map h)) (hl : xs.length ≤ 15000000) (hx : ∀ x ∈ xs, ∃ ρ1, k (h x) (wipeR ρ vs) = some ρ1 ∧ t ρ1 = some true ∧ el ρ1 = some (g x)) :
    fLc src k t el vs ρ = some (.list (xs.map g)) := by
  unfold fLc
  rw [hs, Option.bind_some, if_pos (catC_le (by rw [List.length_map]; omega)), lcF_map hx] <;> rfl
theorem iR1_ok {f : F} {ρ : Rho} {j : Int} (h : f ρ = some (.int j)) (hr : rgC j = true) : iR1 f ρ = some (rangeD 0 j.toNat) := by
  unfold iR1
  rw [h, Option.bind_some]
  exact if_pos hr
theorem for_eq {src : FA} {k : FG} {B : FS} {ρ : Rho} {ds : List PyData} (h : src ρ = some ds) : sFor src k B ρ = loopF k B ds ρ := by
  unfold sFor
  rw [h, Option.bind_some]
theorem rgC_ok {i : Int} (h1 : -(2 ^ 62) ≤ i) (h2 : i < 2 ^ 62) : rgC i = true := decide_eq_true ⟨h1, h2⟩
mutual
def plainB (k : Nat) : PyData → Bool
  | .none => true
  | .bool _ => true
  | .int i => decide (i.natAbs < 10 ^ k)
  | .list xs => plainAll k xs
  | .tuple xs => plainAll k xs
  | .str _ => false
  | .dict _ => false
def plainAll (k : Nat) : List PyData → Bool
  | [] => true
  | x :: xs => plainB k x && plainAll k xs
end
mutual
def nodesD : PyData → Nat
  | .none => 1
  | .bool _ => 1
  | .int _ => 1
  | .list xs => 1 + nodesAll xs
  | .tuple xs => 1 + nodesAll xs
  | .str _ => 1
  | .dict _ => 1
def nodesAll : List PyData → Nat
  | [] => 0
  | x :: xs => nodesD x + nodesAll xs
end
set_option exponentiation.threshold 2000 in
theorem pow_log {n k : Nat} (h : n < 10 ^ k) (hk : k ≤ 479) : n.log2 < 1920 := by
  have h1 : n < 2 ^ 1920 := Nat.lt_of_lt_of_le h (Nat.le_trans (Nat.pow_le_pow_left (by omega : 10 ≤ 2 ^ 4) k) (by rw [← Nat.pow_mul]; exact Nat.pow_le_pow_right (by decide) (by omega)))
  exact log2_lt' h1 (by omega)
mutual
theorem plain_showable {k : Nat} (hk : k ≤ 479) : ∀ d : PyData, plainB k d = true → d.showable = true
  | .none, _ => rfl
  | .bool _, _ => rfl
  | .int i, h => by
    unfold plainB at h
    unfold PyData.showable
    exact decide_eq_true (pow_log (of_decide_eq_true h) hk)
  | .list xs, h => by
    unfold plainB at h
    unfold PyData.showable
    exact plain_showableAll hk xs h
  | .tuple xs, h => by
    unfold plainB at h
    unfold PyData.showable
    exact plain_showableAll hk xs h
  | .str _, h => by
    unfold plainB at h
    cases h
  | .dict _, h => by
    unfold plainB at h
    cases h
theorem plain_showableAll {k : Nat} (hk : k ≤ 479) : ∀ xs : List PyData, plainAll k xs = true → PyData.showableAll xs = true
  | [], _ => rfl
  | x :: xs, h => by
    unfold plainAll at h
    rw [Bool.and_eq_true] at h
    unfold PyData.showableAll
    rw [plain_showable hk x h.1, plain_showableAll hk xs h.2] <;> rfl
end
mutual
theorem plain_nodict {k : Nat} : ∀ d : PyData, plainB k d = true → d.hasDict = false
  | .none, _ => rfl
  | .bool _, _ => rfl
  | .int i, h => rfl
  | .list xs, h => by
    unfold plainB at h
    unfold PyData.hasDict
    exact plain_nodictAll xs h
  | .tuple xs, h => by
    unfold plainB at h
    unfold PyData.hasDict
    exact plain_nodictAll xs h
  | .str _, h => rfl
  | .dict _, h => by
    unfold plainB at h
    cases h
theorem plain_nodictAll {k : Nat} : ∀ xs : List PyData, plainAll k xs = true → PyData.hasDictAll xs = false
  | [], _ => rfl
  | x :: xs, h => by
    unfold plainAll at h
    rw [Bool.and_eq_true] at h
    unfold PyData.hasDictAll
    rw [plain_nodict x h.1, plain_nodictAll xs h.2] <;> rfl
end
mutual
theorem plain_lay {k : Nat} : ∀ d : PyData, plainB k d = true → d.canLay0 = true
  | .none, _ => rfl
  | .bool _, _ => rfl
  | .int i, h => rfl
  | .list xs, h => by
    unfold plainB at h
    unfold PyData.canLay0
    exact plain_layAll xs h
  | .tuple xs, h => by
    unfold plainB at h
    unfold PyData.canLay0
    exact plain_layAll xs h
  | .str _, h => by
    unfold plainB at h
    cases h
  | .dict _, h => by
    unfold plainB at h
    cases h
theorem plain_layAll {k : Nat} : ∀ xs : List PyData, plainAll k xs = true → PyData.canLayAll0 xs = true
  | [], _ => rfl
  | x :: xs, h => by
    unfold plainAll at h
    rw [Bool.and_eq_true] at h
    unfold PyData.canLayAll0
    rw [plain_lay x h.1, plain_layAll xs h.2] <;> rfl
end
def lenAll : List Str → Nat
  | [] => 0
  | t :: ts => t.length + 2 + lenAll ts
theorem join_len : ∀ ts : List Str, (Str.join ", " ts).length ≤ lenAll ts
  | [] => Nat.zero_le _
  | [x] => by
    show x.length ≤ x.length + 2 + 0
    omega
  | x :: y :: r => by
    have ih := join_len (y :: r)
    show (x ++ ((", " : String) : Str) ++ Str.join ", " (y :: r)).length ≤ x.length + 2 + lenAll (y :: r)
    rw [strLen_append, strLen_append]
    have : ((", " : String) : Str).length = 2 := by decide +kernel
    omega
theorem intlen {i : Int} {k : Nat} (hk : 0 < k) (h : i.natAbs < 10 ^ k) : ((toString i : String) : Str).length ≤ k + 1 := by
  have e := int_text_length_le10 hk h
  have e2 : ((toString i : String) : Str).length = (toString i).length := by
    exact PySem.ofString_length _
  omega
mutual
theorem plain_len {k : Nat} (hk : 0 < k) : ∀ d : PyData, plainB k d = true → d.shown.length + 2 ≤ (k + 8) * nodesD d
  | .none, _ => by
    rw [PyData.shown_none]
    have : ((("None" : String) : Str)).length = 4 := by decide +kernel
    unfold nodesD
    omega
  | .bool b, _ => by
    rw [PyData.shown_bool]
    unfold nodesD
    cases b with
    | true =>
      have : ((("True" : String) : Str)).length = 4 := by decide +kernel
      rw [if_pos rfl]
      omega
    | false =>
      have : ((("False" : String) : Str)).length = 5 := by decide +kernel
      rw [if_neg Bool.false_ne_true]
      omega
  | .int i, h => by
    unfold plainB at h
    rw [PyData.shown_int]
    have := intlen hk (of_decide_eq_true h)
    unfold nodesD
    omega
  | .list xs, h => by
    unfold plainB at h
    rw [PyData.shown_list, strLen_append, strLen_append]
    have h1 := join_len (PyData.shownAll xs)
    have h2 := plain_lenAll hk xs h
    have : ((("[" : String) : Str)).length = 1 := by decide +kernel
    have : ((("]" : String) : Str)).length = 1 := by decide +kernel
    unfold nodesD
    rw [Nat.mul_add]
    omega
  | .tuple xs, h => by
    unfold plainB at h
    rw [PyData.shown_tuple, strLen_append, strLen_append]
    have h1 := join_len (PyData.shownAll xs)
    have h2 := plain_lenAll hk xs h
    have : ((("(" : String) : Str)).length = 1 := by decide +kernel
    have : (((if xs.length == 1 then ",)" else ")" : String) : Str)).length ≤ 2 := by split <;> decide +kernel
    unfold nodesD
    rw [Nat.mul_add]
    omega
  | .str _, h => by
    unfold plainB at h
    cases h
  | .dict _, h => by
    unfold plainB at h
    cases h
theorem plain_lenAll {k : Nat} (hk : 0 < k) : ∀ xs : List PyData, plainAll k xs = true → lenAll (PyData.shownAll xs) ≤ (k + 8) * nodesAll xs
  | [], _ => by
    rw [PyData.shownAll_nil]
    exact Nat.zero_le _
  | x :: xs, h => by
    unfold plainAll at h
    rw [Bool.and_eq_true] at h
    rw [PyData.shownAll_cons]
    have h1 := plain_len hk x h.1
    have h2 := plain_lenAll hk xs h.2
    show (PyData.shown x).length + 2 + lenAll (PyData.shownAll xs) ≤ _
    unfold nodesAll
    rw [Nat.mul_add]
    omega
end
theorem strOk_of (s : String) : PyData.strOk (Str.ofString s) = true := by
  rw [Str.ofString_eq_toList]
  unfold PyData.strOk
  simp only [Array.all_eq_true_iff_forall_mem, List.mem_toArray, List.mem_map]
  rintro x ⟨c, _, rfl⟩
  have := c.valid
  rcases this with h | h
  · exact decide_eq_true (Nat.lt_trans h (by decide))
  · exact decide_eq_true h.2
theorem strOk_append (a b : Str) (ha : PyData.strOk a = true) (hb : PyData.strOk b = true) : PyData.strOk (a ++ b) = true := by
  have e : (a ++ b).cps = a.cps ++ b.cps := rfl
  unfold PyData.strOk at *
  rw [e]
  simp only [Array.all_append, ha, hb, Bool.and_self]
def okAll (ts : List Str) : Prop := ∀ t ∈ ts, PyData.strOk t = true
theorem join_ok : ∀ ts : List Str, okAll ts → PyData.strOk (Str.join ", " ts) = true
  | [], _ => strOk_of ""
  | [x], h => h x (List.mem_cons_self ..)
  | x :: y :: r, h => by
    show PyData.strOk (x ++ ((", " : String) : Str) ++ Str.join ", " (y :: r)) = true
    exact strOk_append _ _ (strOk_append _ _ (h x (List.mem_cons_self ..)) (strOk_of _)) (join_ok (y :: r) fun t ht => h t (List.mem_cons_of_mem _ ht))
mutual
theorem plain_strOk {k : Nat} : ∀ d : PyData, plainB k d = true → PyData.strOk d.shown = true
  | .none, _ => by
    rw [PyData.shown_none]
    exact strOk_of _
  | .bool b, _ => by
    rw [PyData.shown_bool]
    split <;> exact strOk_of _
  | .int i, h => by
    rw [PyData.shown_int]
    exact strOk_of _
  | .list xs, h => by
    unfold plainB at h
    rw [PyData.shown_list]
    exact strOk_append _ _ (strOk_append _ _ (strOk_of _) (join_ok _ (plain_strOkAll xs h))) (strOk_of _)
  | .tuple xs, h => by
    unfold plainB at h
    rw [PyData.shown_tuple]
    exact strOk_append _ _ (strOk_append _ _ (strOk_of _) (join_ok _ (plain_strOkAll xs h))) (strOk_of _)
  | .str _, h => by
    unfold plainB at h
    cases h
  | .dict _, h => by
    unfold plainB at h
    cases h
theorem plain_strOkAll {k : Nat} : ∀ xs : List PyData, plainAll k xs = true → okAll (PyData.shownAll xs)
  | [], _ => by
    rw [PyData.shownAll_nil]
    exact fun _ h => nomatch h
  | x :: xs, h => by
    unfold plainAll at h
    rw [Bool.and_eq_true] at h
    rw [PyData.shownAll_cons]
    intro t ht
    rcases List.mem_cons.mp ht with rfl | ht
    · exact plain_strOk x h.1
    · exact plain_strOkAll xs h.2 t ht
end
variable [KF]
abbrev GXs := Rho → Option Str
structure ErrC (K : PySem.W.Frag) (mg : Str → Option Value) (n : Str) (C : Addr) : Prop where
  g : mg n = some (.ref C)
  q : ∃ bmB, ExcBaseFacts "ValueError" "ValueError.__new__" "ValueError.__init__" bmB ∧ PySem.W.excIn K C bmB "ValueError.__new__" = true
  k : PySem.W.keepIn K (.ref C) = true
  s : PySem.W.subIn K (.ref C) (.type "BaseException") = some true
  t : PySem.W.typeIn K (.ref C) = some (.type "type")
def SemX (X : Cx) (O : List Nat) (ts : TS) (GX : GXs) (Wx : WX) : Prop := ∀ (ρ : Rho) (σ : St) (Hs0 H0 Hs H : Hp) (D : Ends) (n : Str), StOK O ρ σ Hs0 H0 Hs H → GX ρ = some n →
  (∀ (C : Addr) (σ' : St) (Hs' H' : Hp), X.mg n = some (.ref C) → Gr Hs0 H0 Hs' H' → Wx (.ref C) none σ' H') → ts D σ H
structure DX (X : Cx) (m : Md) (OB O O' W : List Nat) (st : Stmt) (ts : TS) (G : FS) (Wx : WX) (GX : GXs) : Prop where
  ds : DS X m OB O O' W st ts G
  ex : SemX X O ts GX Wx
structure DXs (X : Cx) (m : Md) (OB O O' W : List Nat) (st : List Stmt) (ts : TS) (G : FS) (Wx : WX) (GX : GXs) : Prop where
  ds : DSs X m OB O O' W st ts G
  ex : SemX X O ts GX Wx
def xNo : GXs := fun _ => none
def xIf (c : FT) (a b : GXs) : GXs := fun ρ => (c ρ).bind fun k => if k = true then a ρ else b ρ
def xSeq (a : GXs) (g : FS) (b : GXs) : GXs := fun ρ => match a ρ with
  | some n => some n
  | none => (g ρ).bind fun o => match o with
    | .nx ρ' => b ρ'
    | _ => none
def sErr : FS := fun _ => none
section
variable {X : Cx} {m : Md} {OB O O' O'' W W' : List Nat} {st : Stmt} {rest s1 s2 : List Stmt} {t u : TS} {G G' : FS} {e c : Expr} {te : TE} {f : F} {ft : FT} {tc : TT} {pos : Pos} {Wx : WX} {GX GX' : GXs}
theorem dx_of (h : DS X m OB O O' W st t G) : DX X m OB O O' W st t G Wx xNo := ⟨h, fun ρ σ Hs0 H0 Hs H D n x hg => nomatch hg⟩
theorem dxs_of (h : DSs X m OB O O' W rest t G) : DXs X m OB O O' W rest t G Wx xNo := ⟨h, fun ρ σ Hs0 H0 Hs H D n x hg => nomatch hg⟩
theorem dxs_one (h : DX X m OB O O' W st t G Wx GX) : DXs X m OB O O' W [st] t G Wx GX := ⟨dss_one h.ds, h.ex⟩
theorem dxs_cons (h : DX X m OB O O' W st t G Wx GX) (hr : DXs X m OB O' O'' W' rest u G' Wx GX') : DXs X m OB O O'' (W ++ W') (st :: rest) (tSeq t u) (sSeq G G') Wx (xSeq GX G GX') := ⟨dss_cons h.ds hr.ds, fun ρ σ Hs0 H0 Hs H D n x hg q => by
  unfold xSeq at hg
  cases ha : GX ρ with
  | some n' =>
    rw [ha] at hg
    cases hg
    exact h.ex ρ σ Hs0 H0 Hs H { D with nx := u D } n x ha q
  | none =>
    rw [ha] at hg
    obtain ⟨o, h1, h2⟩ := bind_some hg
    refine h.ds.ev ρ σ Hs0 H0 Hs H { D with nx := u D } o x h1 ?_
    cases o with
    | nx ρ' => exact fun σ' Hs' H' x' fx => hr.ex ρ' σ' Hs0 H0 Hs' H' D n x' h2 q
    | rt d => cases h2
    | bk _ => cases h2
    | ct _ => cases h2⟩
theorem dx_if (hc : DT X O c tc ft) (ha : DXs X m OB O O' W s1 t G Wx GX) (hb : DXs X m OB O O' W' s2 u G' Wx GX') : DX X m OB O O' (W ++ W') (.If c s1 s2 pos) (tIfS tc t u) (sIf ft G G') Wx (xIf ft GX GX') := ⟨ds_if hc ha.ds hb.ds, fun ρ σ Hs0 H0 Hs H D n x hg q => by
  obtain ⟨k, h1, h2⟩ := bind_some hg
  refine hc.ev ρ σ Hs H k x.sl h1 _ fun Hs1 H1 g1 => ?_
  cases k with
  | true => exact iteT (ha.ex ρ σ Hs0 H0 Hs1 H1 D n (x.mono g1) h2 q)
  | false => exact iteF (hb.ex ρ σ Hs0 H0 Hs1 H1 D n (x.mono g1) h2 q)⟩
theorem dx_raise {n msg : Str} {C : Addr} {j : Nat} {p p2 p3 : Pos} (hc : X.calm = true) (tk : Takes X Wx) (er : ErrC X.K X.mg n C) (hg : Gl X n) (hdb : (n == ("__debug__" : Str)) = false := by decide) :
    DX X m OB O O' [] (.Raise (some (.Call (.Name n p) [.Constant (.str msg) j p2] [] p3)) none pos) (fun _ σ H => Wx (.ref C) none σ H) sErr Wx (fun _ => some n) := by
  obtain ⟨bmB, F, q⟩ := er.q
  exact ⟨⟨ps_raise hc tk (pmk_own F q er.g er.k (raises_own er.s er.t) hg hdb), fun ρ σ Hs0 H0 Hs H D o x hg => nomatch hg⟩, fun ρ σ Hs0 H0 Hs H D n' x hg q => by
    cases hg
    exact q C σ Hs H er.g x.gr⟩
end
def runX (nl : Nat) (GX : GXs) (ds : List PyData) : Option Str := GX (ds.map some ++ List.replicate (nl - ds.length) none)
def spX (n : Nat) (m : Md) (Fn : List PyData → Option PyData) (FX : List PyData → Option Str) (mg : Str → Option Value) : Sp := fun vs H Q E => ∃ (ds : List PyData) (Hs : Hp), ds.length = n ∧ Same Hs H ∧ RA Hs vs ds ∧
  ((∃ d, Fn ds = some d ∧ ∀ v Hs' H', Gr Hs H Hs' H' → Res m H Hs' H' v d → Q v H') ∨ ∃ c, FX ds = some c ∧ ∀ (C : Addr) (Hs' H' : Hp), mg c = some (.ref C) → Gr Hs H Hs' H' → E (.ref C) none H')
theorem spX_len {n : Nat} {m : Md} {Fn : List PyData → Option PyData} {FX : List PyData → Option Str} {mg : Str → Option Value} : ∀ vs H Q E, spX n m Fn FX mg vs H Q E → vs.length = n := fun vs H Q E h => by
  obtain ⟨ds, Hs, h1, _, h2, _⟩ := h
  rw [h2.length, h1]
theorem def_ofX {P : Program} {w : World} {K : PySem.W.Frag} {mg : Str → Option Value} {base : Heap} {x qual : Str} {st : Stmt} {f : Addr} {fd : FuncData} {N ps : List Str} {k : Nat} {m : Md} {B : FS} {GX : GXs} {O' W : List Nat} {n : Nat} (F : Fun K x qual st f fd) (S : FnScope N ps (defScope st)) (hn : ps.length = n)
    (none_ok : m = .cl ∨ ∀ ρ ρ', B ρ ≠ some (.nx ρ'))
    (body : ∀ (cdv : Value) (A : Around) (outer : List Env) (s : Shared) (H : Hp) (E : XK), GA k (A.deeper (envOfC qual (defScope st) s.heap.objs.size f cdv)) →
      ∃ t, DXs (cxOf (L2.CX P w) P w K mg base N qual (defScope st) f cdv A outer s H E) m [] [] O' W (defBody st) t B (fun cls d _ H' => E cls d H') GX) : FnG P w K mg base (L2.CX P w) (k + 1) f fd ps (spX n m (runF N.length B) (runX N.length GX) mg) := by
  subst hn
  refine fnG_of F S spX_len fun cdv A outer s H vs Q E ga want => ?_
  obtain ⟨t, h⟩ := body cdv A outer s H E ga
  obtain ⟨ds, Hs, hl, e, r, want⟩ := want
  refine ⟨t, h.ds.ps, ?_⟩
  rcases want with ⟨d, hf, q⟩ | ⟨c, hf, q⟩
  · obtain ⟨o, ho, hd⟩ := bind_some hf
    refine h.ds.ev _ _ Hs H Hs H _ o (start_slots e r) ho ?_
    cases o with
    | nx ρ' =>
      cases hd
      rcases none_ok with rfl | hno
      · exact fun σ' Hs' H' x _ => q _ Hs' H' x.gr .non
      · exact absurd ho (hno _ _)
    | rt d' =>
      cases hd
      exact fun v Hs' H' g r' => q v Hs' H' g r'
    | bk _ => cases hd
    | ct _ => cases hd
  · exact h.ex _ _ Hs H Hs H _ c (start_slots e r) hf fun C σ' Hs' H' hC g => q C Hs' H' hC g
section
variable {X : Cx} {CX : CXT} {k : Nat} {f : Addr} {fd : FuncData} {ps : List Str} {sp : Sp} {E : St → XK} {x : Str} {p pos : Pos} {e : Expr} {es : List Expr} {t : TA}
theorem runSG {pins : List (Addr × Obj)} {σ : St} {H : Hp} {s : Shared} {Q : VK} {us : List Value} {vs : List V} (F : FnG X.prog X.w X.K X.mg X.base CX k f fd ps sp) (ga : GA k X.A) (hb : Binds X.K fd ps []) (hx : PassesAt CX X σ (E σ)) (inv : Inv X pins σ H s) (rel : Vals vs us)
    (want : sp vs H Q (E σ)) : wpAny (model X.prog X.w) X.A (call (.ref f) us) (EP X pins σ Q) X.xe s := by
  have hl : us.length = ps.length := rel.length.symm.trans (F.len _ _ _ _ want)
  have bind := hb s us inv.kIn (by rw [List.append_nil]; exact hl)
  rw [List.append_nil] at bind
  refine wpAny_call (codeAny_mono (F.run X.A X.stack s H ⟨us, []⟩ us vs Q (E σ) ga inv.env0 bind rel want) fun r s' out => ?_)
  match r, out with
  | .error e, out => exact hx pins H s e s' inv out
  | .ok (.ret u), out => exact inv.after out
  | .ok .next, out => exact False.elim out
  | .ok .brk, out => exact False.elim out
  | .ok .cont, out => exact False.elim out
theorem pe_callSG (F : FnG X.prog X.w X.K X.mg X.base CX k f fd ps sp) (ga : GA k X.A) (hg : Gl X x) (hm : X.mg x = some (.ref f)) (hk : PySem.W.keepIn X.K (.ref f) = true) (hb : Binds X.K fd ps []) (hx : ∀ σ, PassesAt CX X σ (E σ)) (ha : PA X (e :: es) t)
    (hdb : (x == ("__debug__" : Str)) = false := by decide) (he : starEach (e :: es) X.env = (false, eval e X.env) :: starEach es X.env := by rfl) (hpl : (backTo pos (starEach es X.env)).any (·.1) = false := by rfl) : PE X (.Call (.Name x p) (e :: es) [] pos) (tCallS sp E t) :=
  ⟨fun pins s σ H Q inv h => wpAny_Call_Name_kw (ld_glob inv hg hm (PySem.W.callWith_K (h₀ := X.base) inv.ok.mod.kin hk (thn (ha.run pos pins s σ H _ inv h) fun us s1 ⟨vs, H1, inv1, rel, want⟩ =>
    ⟨inv1.kIn, runSG F ga hb (hx σ) inv1 rel want⟩) he hpl) hdb)⟩
end
structure BT (X : Cx) (i : Nat) (a : Addr) (e : Expr) (te : TE) (b : Bool) : Prop where
  pe : PE X e te
  ev : ∀ (σ : St) (H : Hp) (Q : VK), σ[i]? = some (some (.ref a)) → Q (.bl b) H → te σ H Q
theorem bt_is {X : Cx} {i : Nat} {a D : Addr} {oe : Obj} {pn : List (Addr × Obj)} {c : Expr} {v : V} {cv : Value} {b : Bool} {n : Str} {p p2 pos : Pos} (C : ExcC X.K D) (hz : Zc (.ref D) none oe) (hf : ∃ vs, oe.data = .fields vs) (gl : Gl (X.suite a ((a, oe) :: pn)) "isinstance") (hm : X.mg "isinstance" = none)
    (hv : PE (X.suite a ((a, oe) :: pn)) (.Name n p2) (tVar i)) (hc : PE (X.suite a ((a, oe) :: pn)) c (tC v)) (hcv : ∀ u, RelV v u → u = cv) (hk : PySem.W.kitOne X.K (.ref D) cv = some b)
    (he : starEach [.Name n p2, c] X.env = (false, eval (.Name n p2) X.env) :: starEach [c] X.env := by rfl) (he2 : starEach [c] X.env = (false, eval c X.env) :: starEach [] X.env := by rfl) (hpl : (backTo pos (starEach [c] X.env)).any (·.1) = false := by rfl) :
    BT (X.suite a ((a, oe) :: pn)) i a (.Call (.Name "isinstance" p) [.Name n p2, c] [] pos) (tCB (rIsE X.K D a) (tCons (tVar i) (tCons (tC v) tNil))) b :=
  ⟨pe_callB (call_isE C hz hf) gl hm (by decide +kernel) (pa_cons hv (pa_cons hc pa_nil he2) he) (by decide) (by decide) he hpl, fun σ H Q hs q => ⟨.ref a, hs, v, cv, b, rfl, hcv, hk, q⟩⟩
end DL
namespace DL
open PySem PySem.Spec L2
open PyProof.Rows hiding St
variable [KF]
theorem def_nxX {P : Program} {w : World} {K : PySem.W.Frag} {mg : Str → Option Value} {base : Heap} {x qual : Str} {st : Stmt} {f : Addr} {fd : FuncData} {N ps : List Str} {k : Nat} {m : Md} {B : FS} {GX : GXs} {O' W : List Nat} {n nl : Nat} (F : Fun K x qual st f fd) (S : FnScope N ps (defScope st)) (hn : ps.length = n) (hnl : N.length = nl)
    (none_ok : m = .cl ∨ ∀ ρ ρ', B ρ ≠ some (.nx ρ'))
    (body : ∀ (cdv : Value) (A : Around) (outer : List Env) (s : Shared) (H : Hp) (E : XK), GA k (A.deeper (envOfC qual (defScope st) s.heap.objs.size f cdv)) →
      ∃ t, DXs (cxOf (L2.CX P w) P w K mg base N qual (defScope st) f cdv A outer s H E) m [] [] O' W (defBody st) t B (fun cls d _ H' => E cls d H') GX) : FnG P w K mg base (L2.CX P w) (k + 1) f fd ps (spX n m (runF nl B) (runX nl GX) mg) := by
  subst hnl
  exact def_ofX F S hn none_ok body
end DL
namespace DL
open PySem PySem.Spec L2
open PyProof.Rows hiding St
theorem kit_own {K : PySem.W.Frag} {C D : Addr} {b : Bool} (h2 : PySem.W.isClsIn K D = true) (h3 : PySem.W.typeIn K (.ref D) = some (.type "type")) (h4 : PySem.W.subIn K (.ref C) (.ref D) = some b) (hb : b = true ∨ C ≠ D) : PySem.W.kitOne K (.ref C) (.ref D) = some b := by
  have h2' : (PySem.W.clsIn K D).isSome = true := h2
  have e2 : ((PySem.W.clsIn K D).isSome && PySem.W.typeIn K (.ref D) == some (.type "type")) = true := by rw [h2', h3] <;> rfl
  have k : PySem.W.kitCls K (.ref C) (.ref D) = some b := by
    show (if ((PySem.W.clsIn K D).isSome && PySem.W.typeIn K (.ref D) == some (.type "type")) = true then PySem.W.subIn K (.ref C) (.ref D) else none) = some b
    rw [if_pos e2]
    exact h4
  unfold PySem.W.kitOne
  by_cases e : C = D
  · rcases hb with rfl | n
    · rw [e, if_pos (by simp)]
    · exact absurd e n
  · rw [if_neg (by simpa using e)]
    exact k
abbrev kS [k : KF] : KF := ⟨k.K, false⟩
def outH (H0 Hs : Hp) : Hp := fun a => match H0 a with
  | none => Hs a
  | some _ => none
mutual
theorem up_R (k2 : KF) [k1 : KF] (e : ∀ H a vs, @LsK k1 H a vs → @LsK k2 H a vs) (e' : ∀ H a vs, @TuK k1 H a vs → @TuK k2 H a vs) {H : Hp} : ∀ {v : V} {d : PyData}, @R k1 H v d → @R k2 H v d
  | _, _, .non => @R.non k2 _
  | _, _, .bl b => @R.bl k2 _ b
  | _, _, .int i => @R.int k2 _ i
  | _, _, .str x => @R.str k2 _ x
  | _, _, .lst h r => @R.lst k2 _ _ _ _ (e _ _ _ h) (up_RA k2 e e' r)
  | _, _, .tup h r => @R.tup k2 _ _ _ _ (e' _ _ _ h) (up_RA k2 e e' r)
  | _, _, .dic h o t => @R.dic k2 _ _ _ _ _ _ h o t
theorem up_RA (k2 : KF) [k1 : KF] (e : ∀ H a vs, @LsK k1 H a vs → @LsK k2 H a vs) (e' : ∀ H a vs, @TuK k1 H a vs → @TuK k2 H a vs) {H : Hp} : ∀ {vs : List V} {ds : List PyData}, @RA k1 H vs ds → @RA k2 H vs ds
  | _, _, .nil => @RA.nil k2 _
  | _, _, .cons h r => @RA.cons k2 _ _ _ _ _ (up_R k2 e e' h) (up_RA k2 e e' r)
end
variable [kf : KF]
abbrev RS (H : Hp) (v : V) (d : PyData) : Prop := @R kS H v d
abbrev RSA (H : Hp) (vs : List V) (ds : List PyData) : Prop := @RA kS H vs ds
theorem RS.up {H : Hp} {v : V} {d : PyData} (h : RS H v d) : R H v d := @up_R kf kS (fun H a vs h => h.elim .inl fun z => Bool.noConfusion (show false = true from z.1)) (fun _ _ _ h => h) _ _ _ h
theorem RSA.up {H : Hp} {vs : List V} {ds : List PyData} (h : RSA H vs ds) : RA H vs ds := @up_RA kf kS (fun H a vs h => h.elim .inl fun z => Bool.noConfusion (show false = true from z.1)) (fun _ _ _ h => h) _ _ _ h
def EvZ (te : TE) (σ : St) (Hs H : Hp) (d : PyData) : Prop := ∀ Q : VK, (∀ v Hs' H', Gr Hs H Hs' H' → R Hs' v d → RS (outH H Hs') v d → Q v H') → te σ H Q
structure DZ (X : Cx) (O : List Nat) (e : Expr) (te : TE) (f : F) : Prop where
  pe : PE X e te
  ev : ∀ (ρ : Rho) (σ : St) (Hs H : Hp) (d : PyData), Slots O ρ σ Hs H → f ρ = some d → EvZ te σ Hs H d
theorem DZ.cl_ {X : Cx} {O : List Nat} {e : Expr} {te : TE} {f : F} (h : DZ X O e te f) : DE X O .cl e te f := ⟨h.pe, fun ρ σ Hs H d s hf Q q => h.ev ρ σ Hs H d s hf Q fun v Hs' H' g r _ => q v Hs' H' g r⟩
end DL
namespace DL
open PySem PySem.Spec L2
open PyProof.Rows hiding St
variable [kf : KF]
theorem StOK.base {O : List Nat} {ρ : Rho} {σ : St} {Hs0 H0 Hb Hc Hs H : Hp} (g : Gr Hs0 H0 Hb Hc) (x : StOK O ρ σ Hb Hc Hs H) : StOK O ρ σ Hs0 H0 Hs H := ⟨x.sl, g.trans x.gr, fun i hi d hd => by
  obtain ⟨a, ka, kb⟩ := x.new i hi d hd
  exact ⟨a, ka, Same.free g.h kb⟩⟩
def appD : Nat → List PyData → List PyData
  | _, [] => []
  | k, .list ws :: r => .list (ws ++ [.int (k : Int)]) :: appD (k + 1) r
  | k, d :: r => d :: appD (k + 1) r
theorem appD_RA {H : Hp} : ∀ {ds : List PyData} {bs : List Addr} {us : List (List V)} (k0 : Nat), bs.length = ds.length → us.length = ds.length →
    (∀ k, k < ds.length → ∃ ws, ds[k]? = some (.list ws) ∧ H (bs.getD k 0) = some (.lst (us.getD k [] ++ [.int ((k0 + k : Nat) : Int)])) ∧ RA H (us.getD k []) ws) → RA H (bs.map V.ref) (appD k0 ds)
  | [], [], _, _, _, _, _ => .nil
  | [], _ :: _, _, _, h, _, _ => by cases h
  | _ :: _, [], _, _, h, _, _ => by cases h
  | _ :: _, _ :: _, [], _, _, h, _ => by cases h
  | d :: ds, b :: bs, u :: us, k0, h1, h2, h => by
    obtain ⟨ws, e, p, r⟩ := h 0 (by rw [List.length_cons]; omega)
    have e' : d = .list ws := Option.some.inj e
    subst e'
    refine .cons (.lst (ls_of p) (r.append (.cons (.int _) .nil))) (appD_RA (ds := ds) (bs := bs) (us := us) (k0 + 1) (by rw [List.length_cons, List.length_cons] at h1; omega) (by rw [List.length_cons, List.length_cons] at h2; omega) fun k hk => ?_)
    obtain ⟨ws', q1, q2, q3⟩ := h (k + 1) (by rw [List.length_cons]; omega)
    rw [show k0 + (k + 1) = k0 + 1 + k by omega] at q2
    exact ⟨ws', q1, q2, q3⟩
end DL
namespace DL
open PySem PySem.Spec L2
open PyProof.Rows hiding St
end DL
set_option maxHeartbeats 0
namespace DL
open PySem PySem.Spec L2
open PyProof.Rows hiding St
set_option maxHeartbeats 0
end DL
set_option maxHeartbeats 2000000
namespace DL
open PySem PySem.Spec L2
open PyProof.Rows hiding St
variable [kf : KF]
def noRt (G : FS) : Prop := ∀ ρ d, G ρ ≠ some (.rt d)
theorem nr_asg {i : Nat} {f : F} : noRt (sAsg i f) := fun ρ d h => by
  obtain ⟨_, _, e⟩ := Option.map_eq_some_iff.mp h
  cases e
theorem nr_asgG {k : FG} {f : F} : noRt (sAsgG k f) := fun ρ d h => by
  obtain ⟨_, _, e⟩ := bind_some h
  obtain ⟨_, _, e⟩ := Option.map_eq_some_iff.mp e
  cases e
theorem nr_nil : noRt sNil := fun ρ d h => by cases h
theorem nr_app {i : Nat} {f : F} : noRt (sApp i f) := fun ρ d h => by
  obtain ⟨x, _, h⟩ := bind_some h
  split at h
  · obtain ⟨_, e⟩ := if_some h
    cases e
  · cases h
theorem nr_if {c : FT} {G G' : FS} (h : noRt G) (h' : noRt G') : noRt (sIf c G G') := fun ρ d q => by
  obtain ⟨k, _, q⟩ := bind_some q
  cases k with
  | true => exact h _ _ q
  | false => exact h' _ _ q
theorem fVar_some {i : Nat} {ρ : Rho} {d : PyData} (h : fVar i ρ = some d) : ρ[i]? = some (some d) := by
  unfold fVar at h
  cases hr : ρ[i]? with
  | none => rw [hr] at h; cases h
  | some y =>
    rw [hr] at h
    have h : y = some d := h
    rw [h]
theorem fConsA_some {f : F} {fs : FA} {ρ : Rho} {ds : List PyData} (h : fConsA f fs ρ = some ds) : ∃ d r, f ρ = some d ∧ fs ρ = some r ∧ ds = d :: r := by
  obtain ⟨d, h1, h2⟩ := bind_some h
  obtain ⟨r, h3, h4⟩ := bind_some (show (fs ρ).bind (fun xs => some (d :: xs)) = some ds from h2)
  cases h4
  exact ⟨d, r, h1, h3, rfl⟩
end DL
namespace DL
open PySem PySem.Spec L2
open PyProof.Rows hiding St
variable [kf : KF]
def Two (v : V) (d : PyData) (Hs : Hp) : Prop := (∃ xs ys, d = .tuple [.list xs, .list ys]) → ∃ t v1 v2, v = .ref t ∧ Hs t = some (.tup [v1, v2]) ∧ v1 ≠ v2
theorem Two.mono {v : V} {d : PyData} {Hs Hs' : Hp} (e : Same Hs Hs') (h : Two v d Hs) : Two v d Hs' := fun q => by
  obtain ⟨t, v1, v2, h1, h2, h3⟩ := h q
  exact ⟨t, v1, v2, h1, e _ _ h2, h3⟩
end DL
set_option maxHeartbeats 1000000
namespace DL
open PySem PySem.Spec L2
open PyProof.Rows hiding St
variable [kf : KF]
open Classical in
noncomputable def newH (F : Addr → Prop) (Hb K : Hp) : Hp := fun a => if F a then K a else Hb a
theorem newH_in {F : Addr → Prop} {Hb K : Hp} {a : Addr} (h : F a) : newH F Hb K a = K a := if_pos h
end DL
namespace DL
open PySem PySem.Spec L2
open PyProof.Rows hiding St
variable [kf : KF]
structure At5 (K : Hp) (t pa pb : Addr) (bs1 bs2 : List Addr) (us1 us2 : List (List V)) (ex1 ex2 : List V) : Prop where
  ht : K t = some (.tup [.ref pa, .ref pb])
  ha : K pa = some (.lst (bs1.map V.ref ++ ex1))
  hb : K pb = some (.lst (bs2.map V.ref ++ ex2))
  r1 : ∀ k, k < bs1.length → K (bs1.getD k 0) = some (.lst (us1.getD k [] ++ [.int ((0 + k : Nat) : Int)]))
  r2 : ∀ k, k < bs2.length → K (bs2.getD k 0) = some (.lst (us2.getD k [] ++ [.int ((0 + k : Nat) : Int)]))
section
variable {K K' : Hp} {t pa pb : Addr} {bs1 bs2 : List Addr} {us1 us2 : List (List V)} {ex1 ex2 : List V}
theorem At5.mono (e : Same K K') (x : At5 K t pa pb bs1 bs2 us1 us2 ex1 ex2) : At5 K' t pa pb bs1 bs2 us1 us2 ex1 ex2 := ⟨e _ _ x.ht, e _ _ x.ha, e _ _ x.hb, fun k h => e _ _ (x.r1 k h), fun k h => e _ _ (x.r2 k h)⟩
def Fr5 (t pa pb : Addr) (bs1 bs2 : List Addr) (a : Addr) : Prop := a = t ∨ a = pa ∨ a = pb ∨ a ∈ bs1 ∨ a ∈ bs2
theorem getD_mem {bs : List Addr} {k : Nat} (h : k < bs.length) : bs.getD k 0 ∈ bs := by
  rw [List.getD_eq_getElem?_getD, List.getElem?_eq_getElem h]
  exact List.getElem_mem _
theorem At5.R (x : At5 K t pa pb bs1 bs2 us1 us2 ex1 ex2) {Hb : Hp} {A B dx1 dx2 : List PyData} (l1 : bs1.length = A.length) (l1' : us1.length = A.length) (l2 : bs2.length = B.length) (l2' : us2.length = B.length)
    (hA : ∀ k, k < A.length → ∃ ws, A[k]? = some (.list ws) ∧ ∀ H, RA H (us1.getD k []) ws) (hB : ∀ k, k < B.length → ∃ ws, B[k]? = some (.list ws) ∧ ∀ H, RA H (us2.getD k []) ws) (e1 : ∀ H, RA H ex1 dx1) (e2 : ∀ H, RA H ex2 dx2) :
    DL.R (newH (Fr5 t pa pb bs1 bs2) Hb K) (.ref t) (.tuple [.list (appD 0 A ++ dx1), .list (appD 0 B ++ dx2)]) := by
  have q1 : newH (Fr5 t pa pb bs1 bs2) Hb K t = K t := newH_in (.inl rfl)
  have q2 : newH (Fr5 t pa pb bs1 bs2) Hb K pa = K pa := newH_in (.inr (.inl rfl))
  have q3 : newH (Fr5 t pa pb bs1 bs2) Hb K pb = K pb := newH_in (.inr (.inr (.inl rfl)))
  refine .tup (.inl (.inl (by rw [q1]; exact x.ht))) (.cons (.lst (ls_of (by rw [q2]; exact x.ha)) (RA.append ?_ (e1 _))) (.cons (.lst (ls_of (by rw [q3]; exact x.hb)) (RA.append ?_ (e2 _))) .nil))
  · refine appD_RA (us := us1) 0 l1 l1' fun k hk => ?_
    obtain ⟨ws, h1, h2⟩ := hA k hk
    exact ⟨ws, h1, by rw [newH_in (.inr (.inr (.inr (.inl (getD_mem (by omega))))))]; exact x.r1 k (by omega), h2 _⟩
  · refine appD_RA (us := us2) 0 l2 l2' fun k hk => ?_
    obtain ⟨ws, h1, h2⟩ := hB k hk
    exact ⟨ws, h1, by rw [newH_in (.inr (.inr (.inr (.inr (getD_mem (by omega))))))]; exact x.r2 k (by omega), h2 _⟩
end
end DL
namespace DL
open PySem PySem.Spec L2
open PyProof.Rows hiding St
end DL
set_option maxHeartbeats 2000000
namespace DL
open PySem PySem.Spec L2
open PyProof.Rows hiding St
end DL
namespace DL
open PySem PySem.Spec L2 RT
open PyProof.Rows hiding St
end DL
namespace DL
open PySem PySem.Spec L2
open PyProof.Rows hiding St
variable [kf : KF]
structure DicAt (Hs : Hp) (a : Addr) (o : Obj) (kvs : List (List Int × Int)) : Prop where
  at_ : Hs a = some (.frz o (.dT (dicV kvs)))
  keys : ∃ (es : Array DictEntry) (ep : Nat), o.data = .dict es ep ∧ ∀ (i : Nat) (p : List Int × Int), kvs[i]? = some p → ∃ (en : DictEntry) (q : Addr), es[i]? = some en ∧ en.key = .ref q ∧ Hs q = some (.tup (p.1.map V.int))
theorem DicAt.mono {Hs Hs' : Hp} {a : Addr} {o : Obj} {kvs : List (List Int × Int)} (e : Same Hs Hs') (h : DicAt Hs a o kvs) : DicAt Hs' a o kvs := by
  obtain ⟨h1, es, ep, h2, h3⟩ := h
  exact ⟨e _ _ h1, es, ep, h2, fun i p z => let ⟨en, q, z1, z2, z3⟩ := h3 i p z; ⟨en, q, z1, z2, e _ _ z3⟩⟩
end DL
namespace DL
open PySem PySem.Spec L2
open PyProof.Rows hiding St
section
variable [kf : KF] {X : Cx} {OB O : List Nat} {m : Md} {e : Expr} {te : TE} {f : F} {x : Str} {p pos : Pos}
def sDrop (f : F) : FS := fun ρ => (f ρ).map fun _ => .nx ρ
theorem ds_drop (h : DE X O .cl e te f) (hs : swapsWith e none pos.line X.env = pure false := by rfl) : DS X m OB O O [] (.Expr e pos) (tDrop te) (sDrop f) := ⟨ps_expr h.pe hs, fun ρ σ Hs0 H0 Hs H D o s hg q => by
  obtain ⟨d, h1, rfl⟩ := Option.map_eq_some_iff.mp hg
  exact h.ev ρ σ Hs H d s.sl h1 _ fun v Hs1 H1 g1 r1 => q σ Hs1 H1 (s.mono g1) (.refl _ _ _)⟩
end
end DL
namespace Law
open PySem PySem.Spec L2 DL
open PyProof.Rows hiding St
local macro_rules | `(tactic| walk_at "ev") => `(tactic| simp only [runF, sSeq, sIf, sAsg, sRet, sNil, sFor, sApp, fVar, fC, fBin, fUn, fFn, fNilA, fConsA, fAnd, fOr, gNot, g1, g2, tV, tA, tO, tN, gN, gT, gsR, iSeq, iR1, iR2, iZ, tYesF, Option.bind_some, Option.bind_none, Option.map_some, List.getElem?_cons_zero, List.getElem?_cons_succ, Option.getD_some,
  List.set_cons_zero, List.set_cons_succ, List.replicate, List.map_cons, List.map_nil, List.cons_append, List.nil_append, List.length_cons, List.length_nil, dAdd_i, dSub_i, dLt_i, dLe_i, dGt_i, dGe_i, dEq_i, dNe_i, dLen_v, dSum_v, dAnyI_v, dEq_v, dNe_v, dInt, dAbs, dNeg, dGcd, dListOf, if_true, if_false, Bool.false_eq_true, reduceIte, Bool.not_true, Bool.not_false, wipeR, decide_true, decide_false, *])
theorem dAbs_i (a : Int) : dAbs (.int a) = some (.int (a.natAbs : Int)) := by
  show some (PyData.int (if a < 0 then -a else a)) = _
  by_cases h : a < 0
  · rw [if_pos h, show -a = (a.natAbs : Int) by omega]
  · rw [if_neg h, show a = (a.natAbs : Int) by omega]
    simp
def gcdL : List Int → Nat → Nat
  | [], g => g
  | x :: r, g => gcdL r (Nat.gcd g x.natAbs)
def prim (v : List Int) : List Int := if gcdL v 0 = 0 then v else v.map (· / (gcdL v 0 : Int))
def Small (n : Nat) (v : List Int) : Prop := ∀ x ∈ v, x.natAbs < 2 ^ n
theorem gcdL_cons (x : Int) (r : List Int) (g : Nat) : gcdL (x :: r) g = gcdL r (Nat.gcd g x.natAbs) := by
  rw [gcdL]
abbrev GF := List PyData → Option PyData
theorem gcdL_dvd (v : List Int) : ∀ g : Nat, gcdL v g ∣ g ∧ ∀ x ∈ v, gcdL v g ∣ x.natAbs := by
  induction v with
  | nil =>
    intro g
    refine ⟨?_, fun x hx => nomatch hx⟩
    rw [gcdL]
    exact Nat.dvd_refl _
  | cons a v ih =>
    intro g
    rw [gcdL_cons]
    obtain ⟨h1, h2⟩ := ih (Nat.gcd g a.natAbs)
    refine ⟨Nat.dvd_trans h1 (Nat.gcd_dvd_left ..), fun x hx => ?_⟩
    rcases List.mem_cons.mp hx with rfl | hx
    · exact Nat.dvd_trans h1 (Nat.gcd_dvd_right ..)
    · exact h2 x hx
theorem dvd_gcdL {c : Nat} (v : List Int) : ∀ g : Nat, c ∣ g → (∀ x ∈ v, c ∣ x.natAbs) → c ∣ gcdL v g := by
  induction v with
  | nil =>
    intro g h _
    rw [gcdL]
    exact h
  | cons a v ih =>
    intro g h h2
    rw [gcdL_cons]
    exact ih _ (Nat.dvd_gcd h (h2 a (List.mem_cons_self ..))) fun x hx => h2 x (List.mem_cons_of_mem _ hx)
theorem gcdL_zero_iff (v : List Int) : gcdL v 0 = 0 ↔ ∀ x ∈ v, x = 0 := by
  constructor
  · intro h x hx
    have := (gcdL_dvd v 0).2 x hx
    rw [h] at this
    have := Nat.eq_zero_of_zero_dvd this
    omega
  · intro h
    exact Nat.eq_zero_of_zero_dvd (dvd_gcdL v 0 (Nat.dvd_refl _) fun x hx => by rw [h x hx]; exact Nat.dvd_refl _)
theorem gcdL_prim {v : List Int} (h : gcdL v 0 ≠ 0) : gcdL (prim v) 0 = 1 := by
  unfold prim
  rw [if_neg h]
  have hd := (gcdL_dvd v 0).2
  generalize hg : gcdL v 0 = g at *
  have hd2 := (gcdL_dvd (v.map (· / (g : Int))) 0).2
  generalize hc : gcdL (v.map (· / (g : Int))) 0 = c at *
  have h3 : g * c ∣ g := by
    conv => rhs; rw [← hg]
    refine dvd_gcdL v 0 (Nat.dvd_zero _) fun x hx => ?_
    have h1 : (x / (g : Int)).natAbs * g = x.natAbs := by
      have : (g : Int) ∣ x := Int.natAbs_dvd_natAbs.mp (by rw [Int.natAbs_natCast]; exact hd x hx)
      obtain ⟨q, rfl⟩ := this
      rw [Int.mul_ediv_cancel_left _ (by omega), Int.natAbs_mul, Int.natAbs_natCast, Nat.mul_comm]
    have h2 : c ∣ (x / (g : Int)).natAbs := hd2 _ (List.mem_map.mpr ⟨x, hx, rfl⟩)
    rw [← h1, Nat.mul_comm]
    exact Nat.mul_dvd_mul_right h2 g
  obtain ⟨q, e⟩ := h3
  have : g * (c * q) = g * 1 := by
    rw [← Nat.mul_assoc, Nat.mul_one]
    exact e.symm
  exact Nat.dvd_one.mp ⟨q, (Nat.eq_of_mul_eq_mul_left (Nat.pos_of_ne_zero h) this).symm⟩
theorem prim_prim (v : List Int) : prim (prim v) = prim v := by
  by_cases h : gcdL v 0 = 0
  · have : prim v = v := if_pos h
    rw [this, this]
  · show (if gcdL (prim v) 0 = 0 then prim v else (prim v).map (· / (gcdL (prim v) 0 : Int))) = prim v
    rw [gcdL_prim h]
    simp
theorem prim_length (v : List Int) : (prim v).length = v.length := by
  unfold prim
  split
  · rfl
  · rw [List.length_map]
theorem prim_small {n : Nat} {v : List Int} (hs : Small n v) : Small n (prim v) := by
  unfold prim
  split
  · exact hs
  · intro x hx
    obtain ⟨y, hy, rfl⟩ := List.mem_map.mp hx
    refine Nat.lt_of_le_of_lt ?_ (hs y hy)
    have hd := (gcdL_dvd v 0).2 y hy
    generalize gcdL v 0 = g at *
    obtain ⟨q, rfl⟩ : (g : Int) ∣ y := Int.natAbs_dvd_natAbs.mp (by rw [Int.natAbs_natCast]; exact hd)
    rw [Int.mul_ediv_cancel_left _ (by omega), Int.natAbs_mul, Int.natAbs_natCast]
    exact Nat.le_mul_of_pos_left _ (by omega)
end Law
namespace Law
open PySem PySem.Spec L2 DL
open PyProof.Rows hiding St
local macro_rules | `(tactic| walk_at "ev") => `(tactic| simp only [runF, sSeq, sIf, sAsg, sRet, sNil, sFor, sApp, fVar, fC, fBin, fUn, fFn, fNilA, fConsA, fAnd, fOr, gNot, g1, g2, tV, tA, tO, tN, gN, gT, gsR, iSeq, iR1, iR2, iZ, tYesF, Option.bind_some, Option.bind_none, Option.map_some, List.getElem?_cons_zero, List.getElem?_cons_succ, Option.getD_some,
  List.set_cons_zero, List.set_cons_succ, List.replicate, List.map_cons, List.map_nil, List.cons_append, List.nil_append, List.length_cons, List.length_nil, dAdd_i, dSub_i, dLt_i, dLe_i, dGt_i, dGe_i, dEq_i, dNe_i, dLen_v, dSum_v, dAnyI_v, dEq_v, dNe_v, dInt, dAbs, dNeg, dGcd, dListOf, if_true, if_false, Bool.false_eq_true, reduceIte, Bool.not_true, Bool.not_false, wipeR, decide_true, decide_false, *])
theorem fn1 {G : List PyData → Option PyData} {f : F} {ρ : Rho} {x z : PyData} (h : f ρ = some x) (h2 : G [x] = some z) : fFn G (fConsA f fNilA) ρ = some z := by
  unfold fFn fConsA fNilA
  rw [h, Option.bind_some]
  simp only [Option.bind_some]
  exact h2
end Law
namespace Law
open PySem PySem.Spec L2 DL
open PyProof.Rows hiding St
theorem cat_v {a b : List Int} (h : a.length + b.length ≤ 15000000) : dCat (vecD a) (vecD b) = some (vecD (a ++ b)) := by
  show (if catC (a.map PyData.int).length (b.map PyData.int).length = true then _ else _) = _
  rw [if_pos (catC_le (by rw [List.length_map, List.length_map]; omega))]
  unfold vecD
  rw [List.map_append] <;> rfl
theorem rep_v {x : Int} {n : Nat} (h : n ≤ 1000) : dRep (vecD [x]) (.int n) = some (vecD (List.replicate n x)) := by
  have e : ∀ n : Nat, (List.replicate n [PyData.int x]).flatten = (List.replicate n x).map PyData.int := by
    intro n
    induction n with
    | zero => rfl
    | succ n ih => rw [List.replicate_succ, List.flatten_cons, ih, List.replicate_succ] <;> rfl
  show (if repC 1 (n : Int) = true then some (PyData.list (List.replicate (n : Int).toNat [PyData.int x]).flatten) else none) = _
  rw [if_pos (show repC 1 (n : Int) = true from decide_eq_true ⟨by omega, by omega, by omega⟩), Int.toNat_natCast, e] <;> rfl
def comb (f : Int) (a : List Int) (g : Int) (b : List Int) : List Int := (List.range a.length).map fun i => f * a.getD i 0 + g * b.getD i 0
theorem getD_at {a : List Int} {i : Nat} (h : i < a.length) : a[i]? = some (a.getD i 0) := by
  rw [List.getD_eq_getElem?_getD, List.getElem?_eq_getElem h] <;> rfl
theorem getD_small {n : Nat} {a : List Int} (hs : Small n a) (i : Nat) : (a.getD i 0).natAbs < 2 ^ n := by
  rw [List.getD_eq_getElem?_getD]
  cases h : a[i]? with
  | none => exact Nat.two_pow_pos n
  | some x => exact hs x (List.mem_of_getElem? h)
theorem comb_length (f : Int) (a : List Int) (g : Int) (b : List Int) : (comb f a g b).length = a.length := by
  unfold comb
  rw [List.length_map, List.length_range]
theorem fnn2 {G : GF} {f g : F} {ρ : Rho} {x y z : PyData} (h1 : f ρ = some x) (h2 : g ρ = some y) (h : G [x, y] = some z) : fFn G (fConsA f (fConsA g fNilA)) ρ = some z := by
  unfold fFn fConsA fNilA
  rw [h1, Option.bind_some]
  simp only [Option.bind_some]
  rw [h2]
  simp only [Option.bind_some]
  exact h
theorem fnn4 {G : GF} {f g f' g' : F} {ρ : Rho} {x y x' y' z : PyData} (h1 : f ρ = some x) (h2 : g ρ = some y) (h3 : f' ρ = some x') (h4 : g' ρ = some y') (h : G [x, y, x', y'] = some z) : fFn G (fConsA f (fConsA g (fConsA f' (fConsA g' fNilA)))) ρ = some z := by
  unfold fFn fConsA fNilA
  rw [h1, Option.bind_some]
  simp only [Option.bind_some]
  rw [h2]
  simp only [Option.bind_some]
  rw [h3]
  simp only [Option.bind_some]
  rw [h4]
  simp only [Option.bind_some]
  exact h
theorem tV_b {f : F} {ρ : Rho} {b : Bool} (h : f ρ = some (.bool b)) : tV f ρ = some b := by
  unfold tV
  rw [h] <;> rfl
theorem fnn3 {G : List PyData → Option PyData} {f g f' : F} {ρ : Rho} {x y x' z : PyData} (h1 : f ρ = some x) (h2 : g ρ = some y) (h3 : f' ρ = some x') (h : G [x, y, x'] = some z) : fFn G (fConsA f (fConsA g (fConsA f' fNilA))) ρ = some z := by
  unfold fFn fConsA fNilA
  rw [h1, Option.bind_some]
  simp only [Option.bind_some]
  rw [h2]
  simp only [Option.bind_some]
  rw [h3]
  simp only [Option.bind_some]
  exact h
abbrev Vc := List Int
def av (v : Vc) (c : Nat) : Int := v.getD c 0
theorem ext_v {a b : Vc} (h : a.length = b.length) (e : ∀ i < a.length, av a i = av b i) : a = b := by
  refine List.ext_getElem h fun i h1 h2 => ?_
  have := e i h1
  unfold av at this
  rw [List.getD_eq_getElem?_getD, List.getD_eq_getElem?_getD, List.getElem?_eq_getElem h1, List.getElem?_eq_getElem h2] at this
  exact this
theorem av_out {v : Vc} {c : Nat} (h : v.length ≤ c) : av v c = 0 := by
  unfold av
  rw [List.getD_eq_getElem?_getD, List.getElem?_eq_none h] <;> rfl
theorem av_comb {f g : Int} {a b : Vc} {i : Nat} (h : i < a.length) : av (comb f a g b) i = f * av a i + g * av b i := by
  unfold av comb
  rw [List.getD_eq_getElem?_getD, List.getElem?_map, List.getElem?_range h] <;> rfl
def sc (g : Int) (v : Vc) : Vc := v.map (g * ·)
theorem sc_length (g : Int) (v : Vc) : (sc g v).length = v.length := List.length_map ..
theorem av_sc {g : Int} {v : Vc} {i : Nat} : av (sc g v) i = g * av v i := by
  unfold av sc
  rw [List.getD_eq_getElem?_getD, List.getD_eq_getElem?_getD, List.getElem?_map]
  cases v[i]? with
  | none => simp
  | some x => rfl
theorem gcdL_sc (g : Int) (w : Vc) : ∀ k : Nat, gcdL (sc g w) (g.natAbs * k) = g.natAbs * gcdL w k := by
  induction w with
  | nil => exact fun k => rfl
  | cons x w ih =>
    intro k
    show gcdL (g * x :: sc g w) (g.natAbs * k) = _
    rw [gcdL_cons, gcdL_cons, Int.natAbs_mul, Nat.gcd_mul_left]
    exact ih _
theorem prim_sc {g : Int} (hg : 1 ≤ g) (w : Vc) : prim (sc g w) = prim w := by
  have e := gcdL_sc g w 0
  rw [Nat.mul_zero] at e
  unfold prim
  rw [e]
  by_cases h : gcdL w 0 = 0
  · rw [h, Nat.mul_zero, if_pos rfl, if_pos rfl]
    have h0 := (gcdL_zero_iff w).mp h
    refine ext_v (sc_length ..) fun i _ => ?_
    rw [av_sc]
    have : av w i = 0 := by
      unfold av
      rw [List.getD_eq_getElem?_getD]
      cases e : w[i]? with
      | none => rfl
      | some x => exact h0 x (List.mem_of_getElem? e)
    rw [this, Int.mul_zero]
  · rw [if_neg h, if_neg (by
      have : 0 < g.natAbs * gcdL w 0 := Nat.mul_pos (by omega) (by omega)
      omega)]
    unfold sc
    rw [List.map_map]
    refine List.map_congr_left fun x _ => ?_
    show g * x / ((g.natAbs * gcdL w 0 : Nat) : Int) = _
    rw [Int.natCast_mul, show ((g.natAbs : Nat) : Int) = g by omega]
    exact Int.mul_ediv_mul_of_pos _ _ (by omega)
theorem prim_neg (w : Vc) : prim (sc (-1) w) = sc (-1) (prim w) := by
  have e := gcdL_sc (-1) w 0
  rw [Nat.mul_zero, show (-1 : Int).natAbs = 1 from rfl, Nat.one_mul] at e
  unfold prim
  rw [e]
  by_cases h : gcdL w 0 = 0
  · rw [if_pos h, if_pos h]
  · rw [if_neg h, if_neg h]
    unfold sc
    rw [List.map_map, List.map_map]
    refine List.map_congr_left fun x hx => ?_
    have hd : (gcdL w 0 : Int) ∣ x := Int.natAbs_dvd_natAbs.mp (by rw [Int.natAbs_natCast]; exact (gcdL_dvd w 0).2 x hx)
    show -1 * x / _ = -1 * (x / _)
    rw [Int.neg_one_mul, Int.neg_one_mul, Int.neg_ediv_of_dvd hd]
theorem prim_of (w : Vc) : ∃ g : Int, 1 ≤ g ∧ w = sc g (prim w) := by
  by_cases h : gcdL w 0 = 0
  · refine ⟨1, by omega, ?_⟩
    have : prim w = w := if_pos h
    rw [this]
    exact ext_v (sc_length ..).symm fun i _ => by rw [av_sc, Int.one_mul]
  · refine ⟨(gcdL w 0 : Int), by omega, ?_⟩
    have e : prim w = w.map (· / (gcdL w 0 : Int)) := if_neg h
    rw [e]
    unfold sc
    rw [List.map_map]
    refine (List.map_id w).symm.trans (List.map_congr_left fun x hx => ?_)
    have hd : (gcdL w 0 : Int) ∣ x := Int.natAbs_dvd_natAbs.mp (by rw [Int.natAbs_natCast]; exact (gcdL_dvd w 0).2 x hx)
    show x = (gcdL w 0 : Int) * (x / (gcdL w 0 : Int))
    rw [Int.mul_ediv_cancel' hd]
theorem av_prim_zero {w : Vc} {i : Nat} : av (prim w) i = 0 ↔ av w i = 0 := by
  obtain ⟨g, hg, e⟩ := prim_of w
  have : av w i = g * av (prim w) i := by
    conv => lhs; rw [e]
    exact av_sc
  rw [this]
  constructor
  · intro h
    rw [h, Int.mul_zero]
  · intro h
    rcases Int.mul_eq_zero.mp h with h | h
    · omega
    · exact h
def stp (p : Nat) (r v : Vc) : Vc := comb (av r p) v (-(av v p)) r
theorem stp_length {p : Nat} {r v : Vc} : (stp p r v).length = v.length := comb_length ..
theorem av_stp {p : Nat} {r v : Vc} {i : Nat} (h : i < v.length) : av (stp p r v) i = av r p * av v i - av v p * av r i := by
  unfold stp
  rw [av_comb h, Int.neg_mul]
  omega
abbrev RP := List (Vc × Nat)
def red : RP → Vc → Vc
  | [], v => v
  | (r, p) :: rs, v => red rs (stp p r v)
theorem red_length : ∀ (rs : RP) (v : Vc), (red rs v).length = v.length
  | [], v => rfl
  | (r, p) :: rs, v => by
    rw [red, red_length, stp_length]
inductive Ef (n : Nat) : RP → Prop
  | nil : Ef n []
  | cons {r : Vc} {p : Nat} {rs : RP} : r.length = n → p < n → 0 < av r p → (∀ x ∈ rs, av x.1 p = 0 ∧ av r x.2 = 0) → Ef n rs → Ef n ((r, p) :: rs)
theorem red_keep : ∀ (rs : RP) {n : Nat} {v : Vc} {c : Nat}, v.length = n → c < n → (∀ x ∈ rs, av x.1 c = 0) → av v c = 0 → av (red rs v) c = 0
  | [], n, v, c, _, _, _, h => h
  | (r, p) :: rs, n, v, c, hl, hc, hx, h => by
    rw [red]
    refine red_keep rs (n := n) (by rw [stp_length, hl]) hc (fun x h => hx x (List.mem_cons_of_mem _ h)) ?_
    rw [av_stp (by omega), h, hx (r, p) (List.mem_cons_self ..), Int.mul_zero, Int.mul_zero]
    rfl
theorem red_zero {n : Nat} {rs : RP} (e : Ef n rs) : ∀ {v : Vc}, v.length = n → ∀ x ∈ rs, av (red rs v) x.2 = 0 := by
  induction e with
  | nil => exact fun _ x hx => nomatch hx
  | cons h1 h2 h3 h4 h5 ih =>
    rename_i r p rs
    intro v hl x hx
    rw [red]
    rcases List.mem_cons.mp hx with rfl | hx
    · refine red_keep rs (n := n) (by rw [stp_length, hl]) h2 (fun x h => (h4 x h).1) ?_
      show av (stp p r v) p = 0
      rw [av_stp (by omega), Int.mul_comm, Int.sub_self]
    · exact ih (by rw [stp_length, hl]) x hx
def isZero (v : Vc) : Prop := ∀ i, av v i = 0
theorem av_small {n : Nat} {a : Vc} (hs : Small n a) (i : Nat) : (av a i).natAbs < 2 ^ n := getD_small hs i
theorem Small.up {n m : Nat} {v : Vc} (h : Small n v) (hm : n ≤ m) : Small m v := fun x hx => Nat.lt_of_lt_of_le (h x hx) (Nat.pow_le_pow_right (by decide) hm)
theorem small_of_av {n : Nat} {v : Vc} (h : ∀ i < v.length, (av v i).natAbs < 2 ^ n) : Small n v := fun x hx => by
  obtain ⟨i, hi, e⟩ := List.mem_iff_getElem.mp hx
  have := h i hi
  unfold av at this
  rw [List.getD_eq_getElem?_getD, List.getElem?_eq_getElem hi, e] at this
  exact this
theorem small_stp {n m p : Nat} {r v : Vc} (hr : Small n r) (hv : Small m v) : Small (n + m + 1) (stp p r v) := small_of_av fun i hi => by
  rw [stp_length] at hi
  rw [av_stp hi]
  have h1 : (av r p * av v i).natAbs < 2 ^ (n + m) := by
    rw [Int.natAbs_mul, Nat.pow_add]
    exact Nat.mul_lt_mul_of_lt_of_lt (av_small hr p) (av_small hv i)
  have h2 : (av v p * av r i).natAbs < 2 ^ (n + m) := by
    rw [Int.natAbs_mul, Nat.add_comm, Nat.pow_add]
    exact Nat.mul_lt_mul_of_lt_of_lt (av_small hv p) (av_small hr i)
  rw [Nat.pow_succ]
  omega
theorem ix_v {f g : F} {ρ : Rho} {v : Vc} {i : Nat} (h : f ρ = some (vecD v)) (h2 : g ρ = some (.int (i : Int))) (hi : i < v.length) : fBin dIx f g ρ = some (.int (av v i)) := (fBin_eq h h2).trans (dIx_v (j := i) rfl (getD_at hi))
def order : Nat → List Nat
  | 0 => []
  | n + 1 => (List.range n).map (1 + ·) ++ [0]
theorem order_lt {n c : Nat} (h : c ∈ order n) : c < n := by
  cases n with
  | zero => cases h
  | succ n =>
    unfold order at h
    rcases List.mem_append.mp h with h | h
    · obtain ⟨i, hi, rfl⟩ := List.mem_map.mp h
      have := List.mem_range.mp hi
      omega
    · rw [List.mem_singleton.mp h]
      omega
theorem mem_order {n c : Nat} (h : c < n) : c ∈ order n := by
  cases n with
  | zero => omega
  | succ n =>
    unfold order
    cases c with
    | zero => exact List.mem_append_right _ (List.mem_singleton.mpr rfl)
    | succ c => exact List.mem_append_left _ (List.mem_map.mpr ⟨c, List.mem_range.mpr (by omega), by omega⟩)
structure IsPiv (v : Vc) (p : Nat) : Prop where
  ne : av v p ≠ 0
  at_ : ∃ pre post, order v.length = pre ++ p :: post ∧ ∀ c ∈ pre, av v c = 0
theorem IsPiv.lt {v : Vc} {p : Nat} (h : IsPiv v p) : p < v.length := by
  obtain ⟨pre, post, e, _⟩ := h.at_
  exact order_lt (by rw [e]; exact List.mem_append_right _ (List.mem_cons_self ..))
def matD (m : List Vc) : PyData := .list (m.map vecD)
def rowsOf (rs : RP) : List Vc := rs.map (·.1)
def Good (n B : Nat) (rs : RP) : Prop := ∀ x ∈ rs, x.1.length = n ∧ Small B x.1 ∧ IsPiv x.1 x.2
theorem lcF_filter {k : FG} {t : FT} {el : F} {ρ : Rho} {α : Type} {h g : α → PyData} {P : α → Bool} : ∀ {xs : List α}, (∀ x ∈ xs, ∃ ρ1, k (h x) ρ = some ρ1 ∧ t ρ1 = some (P x) ∧ (P x = true → el ρ1 = some (g x))) → lcF k t el ρ (xs.map h) = some ((xs.filter P).map g)
  | [], _ => rfl
  | x :: xs, hx => by
    obtain ⟨ρ1, h1, h2, h3⟩ := hx x (List.mem_cons_self ..)
    have ih := lcF_filter (xs := xs) fun y hy => hx y (List.mem_cons_of_mem _ hy)
    show (k (h x) ρ).bind _ = _
    rw [h1, Option.bind_some, h2, Option.bind_some]
    cases hP : P x with
    | true => rw [if_pos rfl, h3 hP, Option.bind_some, ih, List.filter_cons_of_pos hP] <;> rfl
    | false => rw [if_neg Bool.false_ne_true, ih, List.filter_cons_of_neg (by rw [hP]; exact Bool.false_ne_true)]
theorem fLc_filter {src : FA} {k : FG} {t : FT} {el : F} {vs : List Nat} {ρ : Rho} {α : Type} {h g : α → PyData} {P : α → Bool} {xs : List α} (hs : src ρ = some (xs.map h)) (hl : xs.length ≤ 15000000) (hx : ∀ x ∈ xs, ∃ ρ1, k (h x) (wipeR ρ vs) = some ρ1 ∧ t ρ1 = some (P x) ∧ (P x = true → el ρ1 = some (g x))) :
    fLc src k t el vs ρ = some (.list ((xs.filter P).map g)) := by
  unfold fLc
  rw [hs, Option.bind_some, if_pos (catC_le (by rw [List.length_map]; omega)), lcF_filter hx] <;> rfl
def clr (c : Nat) (r v : Vc) : Vc := prim (stp c r v)
def zeros (n : Nat) : Vc := List.replicate n 0
theorem av_zeros {n i : Nat} : av (zeros n) i = 0 := by
  unfold av zeros
  rw [List.getD_eq_getElem?_getD, List.getElem?_replicate]
  split <;> rfl
theorem zeros_length {n : Nat} : (zeros n).length = n := List.length_replicate ..
theorem eq_zeros {n : Nat} {v : Vc} (h : v.length = n) (hz : ∀ i, av v i = 0) : v = zeros n := ext_v (by unfold zeros; rw [List.length_replicate, h]) fun i _ => by rw [hz, av_zeros]
inductive Span (n : Nat) (B : List Vc) : Vc → Prop
  | mem {v : Vc} : v ∈ B → v.length = n → Span n B v
  | zero : Span n B (zeros n)
  | comb {a b : Vc} (f g : Int) : Span n B a → Span n B b → Span n B (comb f a g b)
  | div {v : Vc} {k : Int} : k ≠ 0 → v.length = n → Span n B (sc k v) → Span n B v
theorem Span.length {n : Nat} {B : List Vc} {v : Vc} (h : Span n B v) : v.length = n := by
  induction h with
  | mem _ h => exact h
  | zero => exact zeros_length
  | comb f g _ _ ih _ => rw [comb_length, ih]
  | div _ h _ _ => exact h
theorem Span.trans {n : Nat} {B C : List Vc} (h : ∀ v ∈ B, v.length = n → Span n C v) {v : Vc} (x : Span n B v) : Span n C v := by
  induction x with
  | mem h1 h2 => exact h _ h1 h2
  | zero => exact .zero
  | comb f g _ _ ih1 ih2 => exact .comb f g ih1 ih2
  | div h1 h2 _ ih => exact .div h1 h2 ih
theorem comb_sc {f : Int} {v : Vc} : comb f v 0 v = sc f v := ext_v (by rw [comb_length, sc_length]) fun i hi => by
  rw [comb_length] at hi
  rw [av_comb hi, av_sc, Int.zero_mul, Int.add_zero]
theorem Span.sc {n : Nat} {B : List Vc} {v : Vc} (f : Int) (x : Span n B v) : Span n B (sc f v) := by
  have := Span.comb f 0 x x
  rwa [comb_sc] at this
theorem Span.prim_iff {n : Nat} {B : List Vc} {v : Vc} (h : v.length = n) : Span n B (prim v) ↔ Span n B v := by
  obtain ⟨g, hg, e⟩ := prim_of v
  constructor
  · intro x
    rw [e]
    exact x.sc g
  · intro x
    rw [e] at x
    exact .div (k := g) (by omega) (by rw [prim_length, h]) x
theorem Span.clr {n c : Nat} {B : List Vc} {r v : Vc} (hr : Span n B r) (hv : Span n B v) : Span n B (clr c r v) := by
  unfold Law.clr
  rw [Span.prim_iff (stp_length.trans hv.length)]
  exact Span.comb _ _ hv hr
theorem Span.unclr {n c : Nat} {B : List Vc} {r v : Vc} (hl : v.length = n) (hp : av r c ≠ 0) (hr : Span n B r) (hv : Span n B (Law.clr c r v)) : Span n B v := by
  unfold Law.clr at hv
  rw [Span.prim_iff (stp_length.trans hl)] at hv
  refine .div hp hl ?_
  have e : Law.sc (av r c) v = Law.comb 1 (stp c r v) (av v c) r := ext_v (by rw [sc_length, comb_length, stp_length]) fun i hi => by
    rw [sc_length] at hi
    rw [av_sc, av_comb (by rw [stp_length]; exact hi), av_stp hi]
    omega
  rw [e]
  exact .comb _ _ hv hr
def repS (D : Int) (v : Vc) (c : Nat) : RP → Int
  | [] => 0
  | (r, p) :: rs => (D / av r p) * (av v p * av r c) + repS D v c rs
theorem repS_zero {D : Int} {v : Vc} {c : Nat} : ∀ {rs : RP}, (∀ x ∈ rs, av v x.2 * av x.1 c = 0) → repS D v c rs = 0
  | [], _ => rfl
  | (r, p) :: rs, h => by
    rw [repS, h (r, p) (List.mem_cons_self ..), Int.mul_zero, Int.zero_add]
    exact repS_zero fun x hx => h x (List.mem_cons_of_mem _ hx)
theorem repS_one {D : Int} {v : Vc} {c : Nat} : ∀ {rs : RP} {y : Vc × Nat}, y ∈ rs → rs.Pairwise (fun a b => a.2 ≠ b.2) → (∀ x ∈ rs, x.2 ≠ y.2 → av v x.2 * av x.1 c = 0) → repS D v c rs = (D / av y.1 y.2) * (av v y.2 * av y.1 c)
  | [], y, h, _, _ => by cases h
  | (r, p) :: rs, y, h, P, hz => by
    rw [List.pairwise_cons] at P
    rw [repS]
    rcases List.mem_cons.mp h with rfl | h
    · rw [repS_zero fun x hx => hz x (List.mem_cons_of_mem _ hx) fun e => (P.1 x hx) e.symm, Int.add_zero]
    · have := hz (r, p) (List.mem_cons_self ..) (P.1 y h)
      rw [this, Int.mul_zero, Int.zero_add]
      exact repS_one h P.2 fun x hx => hz x (List.mem_cons_of_mem _ hx)
theorem repS_comb {D f g : Int} {a b : Vc} {c n : Nat} : ∀ {rs : RP}, a.length = n → (∀ x ∈ rs, x.2 < n) → repS D (comb f a g b) c rs = f * repS D a c rs + g * repS D b c rs
  | [], _, _ => by simp [repS]
  | (r, p) :: rs, h, hp => by
    have h1 : p < n := hp (r, p) (List.mem_cons_self ..)
    rw [repS, repS, repS, repS_comb h fun x hx => hp x (List.mem_cons_of_mem _ hx), av_comb (by omega)]
    generalize repS D a c rs = A
    generalize repS D b c rs = B
    generalize D / av r p = w
    rw [Int.mul_add, Int.mul_add, Int.add_mul, Int.mul_add]
    have e1 : w * (f * av a p * av r c) = f * (w * (av a p * av r c)) := by ac_rfl
    have e2 : w * (g * av b p * av r c) = g * (w * (av b p * av r c)) := by ac_rfl
    omega
theorem repS_sc {D k : Int} {v : Vc} {c : Nat} : ∀ {rs : RP}, repS D (sc k v) c rs = k * repS D v c rs
  | [] => by simp [repS]
  | (r, p) :: rs => by
    rw [repS, repS, repS_sc, av_sc, Int.mul_add]
    congr 1
    ac_rfl
structure Ech (n : Nat) (rs : RP) : Prop where
  R : ∀ x ∈ rs, x.1.length = n ∧ prim x.1 = x.1 ∧ 0 < av x.1 x.2 ∧ x.2 < n ∧ ∀ done c rest, order n = done ++ c :: rest → x.2 ∈ rest → av x.1 c = 0
  P : rs.Pairwise fun x y => av x.1 y.2 = 0 ∧ av y.1 x.2 = 0
  S : (rs.map (·.2)).Sublist (order n)
def prodD : RP → Int
  | [] => 1
  | (r, p) :: rs => av r p * prodD rs
theorem prodD_pos {n : Nat} : ∀ {rs : RP}, (∀ x ∈ rs, 0 < av x.1 x.2) → 0 < prodD rs
  | [], _ => by decide
  | (r, p) :: rs, h => Int.mul_pos (h (r, p) (List.mem_cons_self ..)) (prodD_pos (n := n) fun x hx => h x (List.mem_cons_of_mem _ hx))
theorem prodD_dvd : ∀ {rs : RP} {x : Vc × Nat}, x ∈ rs → av x.1 x.2 ∣ prodD rs
  | [], x, h => by cases h
  | (r, p) :: rs, x, h => by
    rcases List.mem_cons.mp h with rfl | h
    · exact Int.dvd_mul_right ..
    · exact Int.dvd_trans (prodD_dvd h) (Int.dvd_mul_left ..)
theorem Ech.pw {n : Nat} {rs : RP} (e : Ech n rs) : ∀ x ∈ rs, ∀ y ∈ rs, x.2 ≠ y.2 → av x.1 y.2 = 0 := by
  have P := e.P
  clear e
  induction rs with
  | nil => exact fun x hx => nomatch hx
  | cons z rs ih =>
    rw [List.pairwise_cons] at P
    intro x hx y hy hn
    rcases List.mem_cons.mp hx with hx | hx
    · rcases List.mem_cons.mp hy with hy | hy
      · exact absurd (by rw [hx, hy]) hn
      · rw [hx]
        exact (P.1 y hy).1
    · rcases List.mem_cons.mp hy with hy | hy
      · rw [hy]
        exact (P.1 x hx).2
      · exact ih P.2 x hx y hy hn
theorem Ech.ne {n : Nat} {rs : RP} (e : Ech n rs) : rs.Pairwise (fun a b => a.2 ≠ b.2) := by
  refine e.P.imp_of_mem fun {x y} hx hy h z => ?_
  have h1 := (e.R y hy).2.2.1
  rw [← z, h.2] at h1
  omega
theorem Ech.rep {n : Nat} {rs : RP} (e : Ech n rs) {v : Vc} (h : Span n (rs.map (·.1)) v) (c : Nat) : prodD rs * av v c = repS (prodD rs) v c rs := by
  induction h with
  | mem h1 h2 =>
    obtain ⟨x, hx, rfl⟩ := List.mem_map.mp h1
    rw [repS_one hx e.ne fun y hy hn => by rw [e.pw x hx y hy hn.symm, Int.zero_mul], ← Int.mul_assoc, Int.ediv_mul_cancel (prodD_dvd hx)]
  | zero =>
    rw [av_zeros, Int.mul_zero]
    exact (repS_zero fun x hx => by rw [av_zeros, Int.zero_mul]).symm
  | comb f g h1 h2 ih1 ih2 =>
    rename_i a b
    rw [repS_comb h1.length (fun x hx => (e.R x hx).2.2.2.1), ← ih1, ← ih2]
    by_cases hc : c < a.length
    · rw [av_comb hc, Int.mul_add]
      congr 1 <;> ac_rfl
    · rw [av_out (by rw [comb_length]; omega), av_out (v := a) (by omega), av_out (v := b) (by rw [h2.length, ← h1.length]; omega)]
      simp
  | div hk h1 h2 ih =>
    rename_i v k
    rw [av_sc, repS_sc] at ih
    have : k * (prodD rs * av v c) = k * repS (prodD rs) v c rs := by rw [← ih]; ac_rfl
    exact Int.eq_of_mul_eq_mul_left hk this
theorem Ech.zero {n : Nat} {rs : RP} (e : Ech n rs) {v : Vc} (h : Span n (rs.map (·.1)) v) (hz : ∀ x ∈ rs, av v x.2 = 0) : isZero v := fun c => by
  have h1 := e.rep h c
  rw [repS_zero fun x hx => by rw [hz x hx, Int.zero_mul]] at h1
  have h2 := prodD_pos (n := n) fun x hx => (e.R x hx).2.2.1
  rcases Int.mul_eq_zero.mp h1 with h | h
  · omega
  · exact h
theorem sub_filter {l : List Nat} (nd : l.Nodup) : ∀ {l1 : List Nat}, l1.Sublist l → l1 = l.filter fun x => decide (x ∈ l1) := by
  induction l with
  | nil =>
    intro l1 s
    rw [List.sublist_nil.mp s]
    rfl
  | cons a l ih =>
    rw [List.nodup_cons] at nd
    intro l1 s
    cases s with
    | cons _ s =>
      have ha : a ∉ l1 := fun z => nd.1 (s.subset z)
      rw [List.filter_cons_of_neg (by simpa using ha)]
      exact ih nd.2 s
    | cons_cons _ s =>
      rename_i l2
      rw [List.filter_cons_of_pos (by simp)]
      congr 1
      refine (ih nd.2 s).trans (List.filter_congr fun x hx => ?_)
      have hxa : x ≠ a := fun z => nd.1 (by rw [← z]; exact hx)
      simp [hxa]
theorem order_nodup' (n : Nat) : (order n).Nodup := by
  cases n with
  | zero => exact List.nodup_nil
  | succ n =>
    unfold order
    rw [List.nodup_append]
    refine ⟨?_, by simp, fun a ha b hb => ?_⟩
    · refine List.Pairwise.map _ (fun a b h => ?_) (List.nodup_range (n := n))
      show 1 + a ≠ 1 + b
      omega
    · obtain ⟨i, _, rfl⟩ := List.mem_map.mp ha
      rw [List.mem_singleton.mp hb]
      omega
theorem two_in {l : List Nat} {p q : Nat} (hp : p ∈ l) (hq : q ∈ l) (h : p ≠ q) : (∃ done rest, l = done ++ p :: rest ∧ q ∈ rest) ∨ ∃ done rest, l = done ++ q :: rest ∧ p ∈ rest := by
  obtain ⟨a, b, e⟩ := List.append_of_mem hp
  rw [e] at hq
  rcases List.mem_append.mp hq with hq | hq
  · obtain ⟨c, d, e2⟩ := List.append_of_mem hq
    refine .inr ⟨c, d ++ p :: b, by rw [e, e2, List.append_assoc, List.cons_append], List.mem_append_right _ (List.mem_cons_self ..)⟩
  · rcases List.mem_cons.mp hq with rfl | hq
    · exact absurd rfl h
    · exact .inl ⟨a, b, e, hq⟩
theorem Ech.piv_in {n : Nat} {E F : RP} (e : Ech n E) (f : Ech n F) (h : ∀ x ∈ E, Span n (F.map (·.1)) x.1) {x : Vc × Nat} (hx : x ∈ E) : ∃ y ∈ F, y.2 = x.2 := by
  obtain ⟨x1, x2, x3, x4, x5⟩ := e.R x hx
  have h1 := f.rep (h x hx) x.2
  have h2 := prodD_pos (n := n) fun x hx => (f.R x hx).2.2.1
  have h3 : ∃ y ∈ F, av x.1 y.2 * av y.1 x.2 ≠ 0 := by
    refine Classical.byContradiction fun z => ?_
    rw [repS_zero fun y hy => Classical.byContradiction fun q => z ⟨y, hy, q⟩] at h1
    rcases Int.mul_eq_zero.mp h1 with h | h <;> omega
  obtain ⟨y, hy, hne⟩ := h3
  have n1 : av x.1 y.2 ≠ 0 := fun z => hne (by rw [z, Int.zero_mul])
  have n2 : av y.1 x.2 ≠ 0 := fun z => hne (by rw [z, Int.mul_zero])
  obtain ⟨y1, y2, y3, y4, y5⟩ := f.R y hy
  refine ⟨y, hy, Classical.byContradiction fun z => ?_⟩
  rcases two_in (mem_order y4) (mem_order x4) z with ⟨done, rest, ho, hm⟩ | ⟨done, rest, ho, hm⟩
  · exact n1 (x5 done y.2 rest ho hm)
  · exact n2 (y5 done x.2 rest ho hm)
theorem av_clr_zero {c : Nat} {r v : Vc} {i : Nat} (h : av r c * av v i - av v c * av r i = 0) : av (clr c r v) i = 0 := by
  unfold clr
  rw [av_prim_zero]
  by_cases hi : i < v.length
  · rw [av_stp hi]
    exact h
  · exact av_out (by rw [stp_length]; omega)
theorem clr_length {c : Nat} {r v : Vc} : (clr c r v).length = v.length := (prim_length _).trans stp_length
theorem clr_small {c b : Nat} {r v : Vc} (hr : Small b r) (hv : Small b v) : Small (2 * b + 1) (clr c r v) := prim_small ((small_stp hr hv).up (by omega))
theorem clr_prim {c : Nat} {r v : Vc} : prim (clr c r v) = clr c r v := prim_prim _
theorem av_clr_pos {c : Nat} {r v : Vc} {i : Nat} (hi : i < v.length) (h : 0 < av r c * av v i - av v c * av r i) : 0 < av (clr c r v) i := by
  obtain ⟨g, hg, e⟩ := prim_of (stp c r v)
  have e2 : av (stp c r v) i = g * av (clr c r v) i := by
    conv => lhs; rw [e]
    exact av_sc
  rw [av_stp hi] at e2
  rw [e2] at h
  have : ¬ av (clr c r v) i ≤ 0 := fun z => by
    have := Int.mul_nonpos_of_nonneg_of_nonpos (show 0 ≤ g by omega) z
    omega
  omega
structure LInv (n b : Nat) (done : List Nat) (left : List Vc) (rs : RP) : Prop where
  L : ∀ v ∈ left, v.length = n ∧ Small b v ∧ prim v = v ∧ ∀ c ∈ done, av v c = 0
  R : ∀ x ∈ rs, x.1.length = n ∧ Small b x.1 ∧ prim x.1 = x.1 ∧ 0 < av x.1 x.2 ∧ x.2 ∈ done ∧ ∃ pre post, order n = pre ++ x.2 :: post ∧ ∀ c ∈ pre, av x.1 c = 0 ∧ c ∈ done
  P : rs.Pairwise fun x y => av x.1 y.2 = 0 ∧ av y.1 x.2 = 0
  S : (rs.map (·.2)).Sublist done
theorem linv_same {n b c : Nat} {done : List Nat} {left : List Vc} {rs : RP} (x : LInv n b done left rs) (h : ∀ v ∈ left, av v c = 0) : LInv n (2 * b + 1) (done ++ [c]) left rs :=
  ⟨fun v hv => let ⟨h1, h2, h3, h4⟩ := x.L v hv; ⟨h1, h2.up (by omega), h3, fun c' hc => by
      rcases List.mem_append.mp hc with hc | hc
      · exact h4 c' hc
      · rw [List.mem_singleton.mp hc]
        exact h v hv⟩,
   fun y hy => let ⟨h1, h2, h3, h4, h5, pre, post, e, h6⟩ := x.R y hy; ⟨h1, h2.up (by omega), h3, h4, List.mem_append_left _ h5, pre, post, e, fun c' hc => ⟨(h6 c' hc).1, List.mem_append_left _ (h6 c' hc).2⟩⟩,
   x.P, x.S.trans (List.sublist_append_left ..)⟩
theorem linv_step {n b c : Nat} {done rest' : List Nat} {left rest : List Vc} {rs : RP} (x : LInv n b done left rs) (ho : order n = done ++ c :: rest') {r0 r : Vc} (h0 : r0 ∈ left) (hrest : ∀ v ∈ rest, v ∈ left) (hr : r = r0 ∨ r = sc (-1) r0) (hp : 0 < av r c) :
    LInv n (2 * b + 1) (done ++ [c]) (rest.map (clr c r)) (rs.map (fun y => (clr c r y.1, y.2)) ++ [(r, c)]) := by
  obtain ⟨g1, g2, g3, g4⟩ := x.L r0 h0
  have r1 : r.length = n ∧ Small b r ∧ prim r = r ∧ ∀ c ∈ done, av r c = 0 := by
    rcases hr with rfl | rfl
    · exact ⟨g1, g2, g3, g4⟩
    · refine ⟨by rw [sc_length, g1], fun y hy => ?_, by rw [prim_neg, g3], fun c hc => by rw [av_sc, g4 c hc, Int.mul_zero]⟩
      obtain ⟨z, hz, rfl⟩ := List.mem_map.mp hy
      rw [Int.neg_one_mul, Int.natAbs_neg]
      exact g2 z hz
  obtain ⟨q1, q2, q3, q4⟩ := r1
  have keep : ∀ y ∈ rs, ∀ c' ∈ done, av y.1 c' = 0 → av (clr c r y.1) c' = 0 := fun y hy c' hc h => av_clr_zero (by rw [h, q4 c' hc, Int.mul_zero, Int.mul_zero]; rfl)
  have atc : ∀ v : Vc, av (clr c r v) c = 0 := fun v => av_clr_zero (by rw [Int.mul_comm, Int.sub_self])
  refine ⟨fun v hv => ?_, fun y hy => ?_, ?_, ?_⟩
  · obtain ⟨u, hu, rfl⟩ := List.mem_map.mp hv
    obtain ⟨u1, u2, u3, u4⟩ := x.L u (hrest u hu)
    refine ⟨by rw [clr_length, u1], clr_small q2 u2, clr_prim, fun c' hc => ?_⟩
    rcases List.mem_append.mp hc with hc | hc
    · exact av_clr_zero (by rw [u4 c' hc, q4 c' hc, Int.mul_zero, Int.mul_zero]; rfl)
    · rw [List.mem_singleton.mp hc]
      exact atc u
  · rcases List.mem_append.mp hy with hy | hy
    · obtain ⟨z, hz, rfl⟩ := List.mem_map.mp hy
      obtain ⟨z1, z2, z3, z4, z5, pre, post, e, z6⟩ := x.R z hz
      refine ⟨by show (clr c r z.1).length = n; rw [clr_length, z1], clr_small q2 z2, clr_prim, ?_, List.mem_append_left _ z5, pre, post, e, fun c' hc => ⟨keep z hz c' (z6 c' hc).2 (z6 c' hc).1, List.mem_append_left _ (z6 c' hc).2⟩⟩
      refine av_clr_pos (by rw [z1]; exact order_lt (by rw [e]; exact List.mem_append_right _ (List.mem_cons_self ..))) ?_
      rw [q4 _ z5, Int.mul_zero, Int.sub_zero]
      exact Int.mul_pos hp z4
    · rw [List.mem_singleton.mp hy]
      exact ⟨q1, q2.up (by omega), q3, hp, List.mem_append_right _ (List.mem_singleton.mpr rfl), done, rest', ho, fun c' hc => ⟨q4 c' hc, List.mem_append_left _ hc⟩⟩
  · rw [List.pairwise_append]
    refine ⟨?_, List.pairwise_singleton .., fun y hy z hz => ?_⟩
    · rw [List.pairwise_map]
      exact x.P.imp_of_mem fun {y z} hy hz h => ⟨keep y hy _ (x.R z hz).2.2.2.2.1 h.1, keep z hz _ (x.R y hy).2.2.2.2.1 h.2⟩
    · obtain ⟨u, hu, rfl⟩ := List.mem_map.mp hy
      rw [List.mem_singleton.mp hz]
      exact ⟨atc u.1, q4 _ (x.R u hu).2.2.2.2.1⟩
  · rw [List.map_append, List.map_map]
    exact List.Sublist.append x.S (List.Sublist.refl _)
structure SI (n : Nat) (rows left found : List Vc) : Prop where
  A : ∀ v ∈ rows, v.length = n → Span n (found ++ left) v
  B : ∀ u ∈ found ++ left, Span n rows u
theorem sc_neg_neg {v : Vc} : sc (-1) (sc (-1) v) = v := ext_v (by rw [sc_length, sc_length]) fun i _ => by
  rw [av_sc, av_sc]
  omega
theorem si_step {n c : Nat} {rows left found rest : List Vc} (x : SI n rows left found) (hl : ∀ v ∈ left, v.length = n) (hf : ∀ v ∈ found, v.length = n) {r0 r : Vc} (h0 : r0 ∈ left) (hrest : ∀ v ∈ rest, v ∈ left) (hcov : ∀ v ∈ left, v = r0 ∨ v ∈ rest) (hr : r = r0 ∨ r = sc (-1) r0) (hp : 0 < av r c) :
    SI n rows (rest.map (clr c r)) (found.map (clr c r) ++ [r]) := by
  have lr : r.length = n := by
    rcases hr with rfl | rfl
    · exact hl _ h0
    · rw [sc_length]
      exact hl _ h0
  have sr : Span n rows r := by
    have := x.B r0 (List.mem_append_right _ h0)
    rcases hr with rfl | rfl
    · exact this
    · exact this.sc _
  have mr : Span n (found.map (clr c r) ++ [r] ++ rest.map (clr c r)) r := .mem (List.mem_append_left _ (List.mem_append_right _ (List.mem_singleton.mpr rfl))) lr
  refine ⟨fun v hv hn => (x.A v hv hn).trans fun u hu hun => ?_, fun u hu => ?_⟩
  · rcases List.mem_append.mp hu with hu | hu
    · exact Span.unclr hun (by omega) mr (.mem (List.mem_append_left _ (List.mem_append_left _ (List.mem_map.mpr ⟨u, hu, rfl⟩))) (clr_length.trans hun))
    · rcases hcov u hu with rfl | hu
      · rcases hr with rfl | e
        · exact mr
        · have := mr.sc (-1)
          rwa [e, sc_neg_neg, ← e] at this
      · exact Span.unclr hun (by omega) mr (.mem (List.mem_append_right _ (List.mem_map.mpr ⟨u, hu, rfl⟩)) (clr_length.trans hun))
  · rcases List.mem_append.mp hu with hu | hu
    · rcases List.mem_append.mp hu with hu | hu
      · obtain ⟨w, hw, rfl⟩ := List.mem_map.mp hu
        exact Span.clr sr (x.B w (List.mem_append_left _ hw))
      · rw [List.mem_singleton.mp hu]
        exact sr
    · obtain ⟨w, hw, rfl⟩ := List.mem_map.mp hu
      exact Span.clr sr (x.B w (List.mem_append_right _ (hrest w hw)))
theorem si_start {n : Nat} {rows : List Vc} (h : ∀ v ∈ rows, v.length = n) : SI n rows (rows.map prim) [] := ⟨fun v hv hn => (Span.prim_iff hn).mp (.mem (List.mem_append_right _ (List.mem_map.mpr ⟨v, hv, rfl⟩)) (by rw [prim_length, hn])), fun u hu => by
  rcases List.mem_append.mp hu with hu | hu
  · cases hu
  · obtain ⟨w, hw, rfl⟩ := List.mem_map.mp hu
    exact (Span.prim_iff (h w hw)).mpr (.mem hw (h w hw))⟩
theorem before_of {l : List Nat} (nd : l.Nodup) {pre post done rest : List Nat} {p c : Nat} (h1 : l = pre ++ p :: post) (h2 : l = done ++ c :: rest) (hp : p ∈ rest) : c ∈ pre := by
  rw [h1] at h2 nd
  have np : p ∉ post := (List.nodup_cons.mp (List.nodup_append.mp nd).2.1).1
  rcases List.append_eq_append_iff.mp h2 with ⟨a, e1, e2⟩ | ⟨a, e1, e2⟩
  · cases a with
    | nil =>
      obtain ⟨_, e3⟩ := List.cons.inj e2
      exact absurd (by rw [e3]; exact hp) np
    | cons b a =>
      obtain ⟨_, e3⟩ := List.cons.inj e2
      exact absurd (by rw [e3]; exact List.mem_append_right _ (List.mem_cons_of_mem _ hp)) np
  · cases a with
    | nil =>
      obtain ⟨_, e3⟩ := List.cons.inj e2
      exact absurd (by rw [← e3]; exact hp) np
    | cons b a =>
      obtain ⟨e3, _⟩ := List.cons.inj e2
      rw [e1, e3]
      exact List.mem_append_right _ (List.mem_cons_self ..)
theorem LInv.ech {n b : Nat} {left : List Vc} {rs : RP} (x : LInv n b (order n) left rs) : Ech n rs := ⟨fun y hy => by
  obtain ⟨h1, h2, h3, h4, h5, pre, post, e, h6⟩ := x.R y hy
  exact ⟨h1, h3, h4, order_lt h5, fun done c rest ho hp => (h6 c (before_of (order_nodup' n) e ho hp)).1⟩, x.P, x.S⟩
theorem si_end {n b : Nat} {rows left : List Vc} {rs : RP} (x : LInv n b (order n) left rs) (s : SI n rows left (rowsOf rs)) : (∀ v ∈ rows, v.length = n → Span n (rs.map (·.1)) v) ∧ ∀ y ∈ rs, Span n rows y.1 := by
  refine ⟨fun v hv hn => (s.A v hv hn).trans fun u hu hun => ?_, fun y hy => s.B y.1 (List.mem_append_left _ (List.mem_map.mpr ⟨y, hy, rfl⟩))⟩
  rcases List.mem_append.mp hu with hu | hu
  · exact .mem hu hun
  · have hz := (x.L u hu).2.2.2
    have : u = zeros n := eq_zeros hun fun i => by
      by_cases hi : i < n
      · exact hz i (mem_order hi)
      · exact av_out (by omega)
    rw [this]
    exact .zero
theorem sum_lin (l : List Nat) (x y : Nat → Int) (f g : Int) : (l.map fun i => f * x i + g * y i).sum = f * (l.map x).sum + g * (l.map y).sum := by
  induction l with
  | nil => simp
  | cons a l ih =>
    simp only [List.map_cons, List.sum_cons, ih, Int.mul_add]
    omega
theorem sum_congr (l : List Nat) (x y : Nat → Int) (h : ∀ i ∈ l, x i = y i) : (l.map x).sum = (l.map y).sum := by
  rw [List.map_congr_left h]
def Dt (n : Nat) (c v : Vc) : Int := ((List.range n).map fun i => av c i * av v i).sum
theorem Dt_comm {n : Nat} {c v : Vc} : Dt n c v = Dt n v c := sum_congr _ _ _ fun i _ => Int.mul_comm ..
theorem Dt_comb {n : Nat} {c a b : Vc} {f g : Int} (ha : a.length = n) : Dt n c (comb f a g b) = f * Dt n c a + g * Dt n c b := by
  unfold Dt
  rw [← sum_lin]
  refine sum_congr _ _ _ fun i hi => ?_
  rw [av_comb (by rw [ha]; exact List.mem_range.mp hi), Int.mul_add]
  congr 1 <;> ac_rfl
theorem Dt_sc {n : Nat} {c v : Vc} {k : Int} : Dt n c (sc k v) = k * Dt n c v := by
  unfold Dt
  have := sum_lin (List.range n) (fun i => av c i * av v i) (fun _ => 0) k 0
  simp only [Int.zero_mul, Int.add_zero] at this
  rw [← this]
  refine sum_congr _ _ _ fun i _ => ?_
  rw [av_sc]
  ac_rfl
theorem Dt_zeros {n : Nat} {c : Vc} : Dt n c (zeros n) = 0 := by
  unfold Dt
  rw [sum_congr _ _ (fun _ => 0) fun i _ => by rw [av_zeros, Int.mul_zero]]
  induction List.range n with
  | nil => rfl
  | cons a l ih => rw [List.map_cons, List.sum_cons, ih] <;> rfl
theorem Dt_isZero {n : Nat} {c v : Vc} (h : isZero v) : Dt n c v = 0 := by
  unfold Dt
  rw [sum_congr _ _ (fun _ => 0) fun i _ => by rw [h, Int.mul_zero]]
  induction List.range n with
  | nil => rfl
  | cons a l ih => rw [List.map_cons, List.sum_cons, ih] <;> rfl
theorem Dt_prim {n : Nat} {c v : Vc} : ∃ g : Int, 1 ≤ g ∧ Dt n c v = g * Dt n c (prim v) := by
  obtain ⟨g, hg, e⟩ := prim_of v
  refine ⟨g, hg, ?_⟩
  conv => lhs; rw [e]
  exact Dt_sc
theorem span_lin0 {n : Nat} {B : List Vc} {c v : Vc} (h : Span n B v) (hB : ∀ b ∈ B, b.length = n → Dt n c b = 0) : Dt n c v = 0 := by
  induction h with
  | mem h1 h2 => exact hB _ h1 h2
  | zero => exact Dt_zeros
  | comb f g h1 h2 ih1 ih2 => rw [Dt_comb h1.length, ih1, ih2, Int.mul_zero, Int.mul_zero] <;> rfl
  | div hk h1 h2 ih =>
    rw [Dt_sc] at ih
    exact (Int.mul_eq_zero.mp ih).resolve_left hk
theorem span_mono {n : Nat} {B C : List Vc} {v : Vc} (h : Span n B v) (hs : ∀ b ∈ B, b ∈ C) : Span n C v := h.trans fun b hb hl => .mem (hs b hb) hl
theorem span_cons {n : Nat} {a : Vc} {B : List Vc} (ha : a.length = n) {v : Vc} (h : Span n (a :: B) v) : ∃ (k t : Int) (b : Vc), 0 < k ∧ Span n B b ∧ sc k v = comb t a 1 b := by
  induction h with
  | mem h1 h2 =>
    rename_i v
    rcases List.mem_cons.mp h1 with rfl | h1
    · refine ⟨1, 1, zeros n, by decide, .zero, ext_v (by rw [sc_length, comb_length]) fun i hi => ?_⟩
      rw [sc_length] at hi
      rw [av_sc, av_comb hi, av_zeros]
      omega
    · refine ⟨1, 0, v, by decide, .mem h1 h2, ext_v (by rw [sc_length, comb_length, h2, ha]) fun i hi => ?_⟩
      rw [sc_length, h2] at hi
      rw [av_sc, av_comb (by omega)]
      omega
  | zero =>
    refine ⟨1, 0, zeros n, by decide, .zero, ext_v (by rw [sc_length, comb_length, zeros_length, ha]) fun i hi => ?_⟩
    rw [sc_length, zeros_length] at hi
    rw [av_sc, av_comb (by omega), av_zeros]
    omega
  | comb f g h1 h2 ih1 ih2 =>
    rename_i x y
    obtain ⟨k1, t1, b1, p1, s1, e1⟩ := ih1
    obtain ⟨k2, t2, b2, p2, s2, e2⟩ := ih2
    refine ⟨k1 * k2, k2 * (f * t1) + k1 * (g * t2), Law.comb (k2 * f) b1 (k1 * g) b2, Int.mul_pos p1 p2, .comb _ _ s1 s2, ext_v (by rw [sc_length, comb_length, comb_length, h1.length, ha]) fun i hi => ?_⟩
    rw [sc_length, comb_length, h1.length] at hi
    rw [av_sc, av_comb (by rw [h1.length]; exact hi), av_comb (by omega), av_comb (by rw [s1.length]; exact hi)]
    have q1 : k1 * av x i = t1 * av a i + 1 * av b1 i := by
      have := congrArg (fun w => av w i) e1
      simp only [av_sc] at this
      rw [this, av_comb (by omega)]
    have q2 : k2 * av y i = t2 * av a i + 1 * av b2 i := by
      have := congrArg (fun w => av w i) e2
      simp only [av_sc] at this
      rw [this, av_comb (by omega)]
    have r1 : k1 * k2 * (f * av x i + g * av y i) = k2 * f * (k1 * av x i) + k1 * g * (k2 * av y i) := by
      rw [Int.mul_add]
      congr 1 <;> ac_rfl
    rw [r1, q1, q2]
    simp only [Int.mul_add, Int.add_mul, Int.one_mul]
    have z1 : k2 * f * (t1 * av a i) = k2 * (f * t1) * av a i := by ac_rfl
    have z2 : k1 * g * (t2 * av a i) = k1 * (g * t2) * av a i := by ac_rfl
    omega
  | div hk h1 h2 ih =>
    rename_i v k
    obtain ⟨k1, t1, b1, p1, s1, e1⟩ := ih
    by_cases hp : 0 < k
    · refine ⟨k1 * k, t1, b1, Int.mul_pos p1 hp, s1, ?_⟩
      rw [← e1]
      exact ext_v (by rw [sc_length, sc_length, sc_length]) fun i _ => by
        rw [av_sc, av_sc, av_sc]
        ac_rfl
    · refine ⟨k1 * (-k), -t1, Law.sc (-1) b1, Int.mul_pos p1 (by omega), s1.sc _, ?_⟩
      refine ext_v (by rw [sc_length, comb_length, h1, ha]) fun i hi => ?_
      rw [sc_length, h1] at hi
      have q1 : k1 * (k * av v i) = t1 * av a i + 1 * av b1 i := by
        have := congrArg (fun w => av w i) e1
        simp only [av_sc] at this
        rw [this, av_comb (by omega)]
      rw [av_sc, av_comb (by omega), av_sc]
      have r1 : k1 * -k * av v i = -(k1 * (k * av v i)) := by
        rw [Int.mul_neg, Int.neg_mul]
        congr 1
        ac_rfl
      rw [r1, q1, Int.neg_mul]
      omega
inductive Cone (n : Nat) (L : List Vc) (R : Vc → Prop) : Vc → Prop
  | line {v : Vc} : Span n L v → Cone n L R v
  | ray {r : Vc} : R r → r.length = n → Cone n L R r
  | comb {a b : Vc} (f g : Int) : 0 ≤ f → 0 ≤ g → Cone n L R a → Cone n L R b → Cone n L R (comb f a g b)
  | div {v : Vc} {k : Int} : 0 < k → v.length = n → Cone n L R (sc k v) → Cone n L R v
theorem cone_length {n : Nat} {L : List Vc} {R : Vc → Prop} {v : Vc} (h : Cone n L R v) : v.length = n := by
  induction h with
  | line h => exact h.length
  | ray _ h => exact h
  | comb f g _ _ _ _ ih _ => rw [comb_length, ih]
  | div _ h _ _ => exact h
theorem cone_trans {n : Nat} {L L' : List Vc} {R R' : Vc → Prop} (hl : ∀ v, Span n L v → Cone n L' R' v) (hr : ∀ r, R r → r.length = n → Cone n L' R' r) {v : Vc} (h : Cone n L R v) : Cone n L' R' v := by
  induction h with
  | line h => exact hl _ h
  | ray h1 h2 => exact hr _ h1 h2
  | comb f g h1 h2 _ _ ih1 ih2 => exact .comb f g h1 h2 ih1 ih2
  | div h1 h2 _ ih => exact .div h1 h2 ih
theorem cone_mono {n : Nat} {L : List Vc} {R R' : Vc → Prop} (hr : ∀ r, R r → R' r) {v : Vc} (h : Cone n L R v) : Cone n L R' v := cone_trans (fun _ h => .line h) (fun r h1 h2 => .ray (hr r h1) h2) h
theorem cone_sc {n : Nat} {L : List Vc} {R : Vc → Prop} {v : Vc} {k : Int} (hk : 0 ≤ k) (h : Cone n L R v) : Cone n L R (sc k v) := by
  have := Cone.comb k 0 hk (Int.le_refl 0) h h
  rwa [comb_sc] at this
theorem av_combE {f g : Int} {a b : Vc} {n i : Nat} (h : a.length = n) (hi : i < n) : av (comb f a g b) i = f * av a i + g * av b i := av_comb (by omega)
theorem ext_n {n : Nat} {a b : Vc} (ha : a.length = n) (hb : b.length = n) (h : ∀ i < n, av a i = av b i) : a = b := ext_v (ha.trans hb.symm) fun i hi => h i (by omega)
theorem comb_zero_l {n : Nat} {a b : Vc} {g : Int} (ha : a.length = n) : comb 0 a g b = comb 0 (zeros n) g b := ext_n (n := n) (by rw [comb_length, ha]) (by rw [comb_length, zeros_length]) fun i hi => by
  rw [av_combE ha hi, av_combE zeros_length hi, av_zeros]
  omega
theorem comb_zero_r {n : Nat} {a b : Vc} {f : Int} (ha : a.length = n) : comb f a 0 b = comb f a 0 (zeros n) := ext_n (n := n) (by rw [comb_length, ha]) (by rw [comb_length, ha]) fun i hi => by
  rw [av_combE ha hi, av_combE ha hi, av_zeros]
  omega
def tle (n : Nat) (cs : List Vc) (a b : Vc) : Prop := ∀ c ∈ cs, Dt n c a = 0 → Dt n c b = 0
theorem tle.refl {n : Nat} {cs : List Vc} {a : Vc} : tle n cs a a := fun _ _ h => h
theorem tle.trans {n : Nat} {cs : List Vc} {a b c : Vc} (h : tle n cs a b) (h' : tle n cs b c) : tle n cs a c := fun d hd z => h' d hd (h d hd z)
theorem cone_nonneg {n : Nat} {L : List Vc} {R : Vc → Prop} {c : Vc} (hL : ∀ l ∈ L, l.length = n → Dt n c l = 0) (hR : ∀ r, R r → 0 ≤ Dt n c r) {v : Vc} (h : Cone n L R v) : 0 ≤ Dt n c v := by
  induction h with
  | line h => rw [span_lin0 h hL]; exact Int.le_refl 0
  | ray h _ => exact hR _ h
  | comb f g h1 h2 ha hb ih1 ih2 =>
    rw [Dt_comb (cone_length ha)]
    exact Int.add_nonneg (Int.mul_nonneg h1 ih1) (Int.mul_nonneg h2 ih2)
  | div hk _ _ ih =>
    rw [Dt_sc] at ih
    exact Classical.byContradiction fun z => by
      have := Int.mul_lt_mul_of_pos_left (show Dt n c _ < 0 from Int.not_le.mp z) hk
      rw [Int.mul_zero] at this
      omega
theorem cone_tle {n : Nat} {L cs : List Vc} {R : Vc → Prop} (hL : ∀ c ∈ cs, ∀ l ∈ L, l.length = n → Dt n c l = 0) (hR : ∀ c ∈ cs, ∀ r, R r → 0 ≤ Dt n c r) {v : Vc} (h : Cone n L R v) : Cone n L (fun r => R r ∧ tle n cs v r) v := by
  induction h with
  | line h => exact .line h
  | ray h1 h2 => exact .ray ⟨h1, .refl⟩ h2
  | comb f g h1 h2 ha hb ih1 ih2 =>
    rename_i a b
    have la := cone_length ha
    have key : ∀ c ∈ cs, Dt n c (Law.comb f a g b) = 0 → f * Dt n c a = 0 ∧ g * Dt n c b = 0 := fun c hc z => by
      rw [Dt_comb la] at z
      have p1 := Int.mul_nonneg h1 (cone_nonneg (hL c hc) (hR c hc) ha)
      have p2 := Int.mul_nonneg h2 (cone_nonneg (hL c hc) (hR c hc) hb)
      omega
    have A : f = 0 ∨ tle n cs (Law.comb f a g b) a := by
      by_cases hf : f = 0
      · exact .inl hf
      · exact .inr fun c hc z => (Int.mul_eq_zero.mp (key c hc z).1).resolve_left hf
    have B : g = 0 ∨ tle n cs (Law.comb f a g b) b := by
      by_cases hg : g = 0
      · exact .inl hg
      · exact .inr fun c hc z => (Int.mul_eq_zero.mp (key c hc z).2).resolve_left hg
    have up : ∀ {x : Vc}, tle n cs (Law.comb f a g b) x → Cone n L (fun r => R r ∧ tle n cs x r) x → Cone n L (fun r => R r ∧ tle n cs (Law.comb f a g b) r) x := fun h hx => cone_mono (fun r hr => ⟨hr.1, h.trans hr.2⟩) hx
    have z0 : Cone n L (fun r => R r ∧ tle n cs (Law.comb f a g b) r) (zeros n) := .line .zero
    rcases A with rfl | A
    · rcases B with rfl | B
      · have e : Law.comb 0 a 0 b = zeros n := ext_n (n := n) (by rw [comb_length, la]) zeros_length fun i hi => by
          rw [av_combE la hi, av_zeros]
          omega
        rw [e]
        exact .line .zero
      · have := Cone.comb 0 g (Int.le_refl 0) h2 z0 (up B ih2)
        rwa [← comb_zero_l la] at this
    · rcases B with rfl | B
      · have := Cone.comb f 0 h1 (Int.le_refl 0) (up A ih1) z0
        rwa [← comb_zero_r la] at this
      · exact .comb f g h1 h2 (up A ih1) (up B ih2)
  | div hk h1 h2 ih =>
    refine .div hk h1 (cone_mono (fun r hr => ⟨hr.1, fun c hc z => hr.2 c hc ?_⟩) ih)
    rw [Dt_sc, z, Int.mul_zero]
theorem cone_span {n : Nat} {L : List Vc} {R : Vc → Prop} (hR : ∀ r, R r → Span n L r) {v : Vc} (h : Cone n L R v) : Span n L v := by
  induction h with
  | line h => exact h
  | ray h _ => exact hR _ h
  | comb f g _ _ _ _ ih1 ih2 => exact .comb f g ih1 ih2
  | div hk h _ ih => exact .div (by omega) h ih
def Eq0 (n : Nat) (E : List Vc) (v : Vc) : Prop := ∀ e ∈ E, Dt n e v = 0
structure DD (n : Nat) (E cs L R : List Vc) : Prop where
  ll : ∀ l ∈ L, l.length = n
  lr : ∀ r ∈ R, r.length = n
  lin : ∀ v, v.length = n → (Span n L v ↔ Eq0 n E v ∧ ∀ c ∈ cs, Dt n c v = 0)
  sat : ∀ r ∈ R, Eq0 n E r ∧ ∀ c ∈ cs, 0 ≤ Dt n c r
  gen : ∀ v, v.length = n → Eq0 n E v → (∀ c ∈ cs, 0 ≤ Dt n c v) → Cone n L (· ∈ R) v
  anti : R.Pairwise fun a b => ¬ tle n cs a b ∧ ¬ tle n cs b a
  nt : ∀ r ∈ R, ∃ c ∈ cs, Dt n c r ≠ 0
def lv (n : Nat) (c a v : Vc) : Vc := prim (comb (Dt n c a) v (-(Dt n c v)) a)
theorem lv_length {n : Nat} {c a v : Vc} : (lv n c a v).length = v.length := by
  unfold lv
  rw [prim_length, comb_length]
theorem lv_Dt {n : Nat} {c a v d : Vc} (hv : v.length = n) : ∃ g : Int, 1 ≤ g ∧ g * Dt n d (lv n c a v) = Dt n c a * Dt n d v - Dt n c v * Dt n d a := by
  obtain ⟨g, hg, e⟩ := Dt_prim (n := n) (c := d) (v := comb (Dt n c a) v (-(Dt n c v)) a)
  refine ⟨g, hg, ?_⟩
  unfold lv
  rw [← e, Dt_comb hv, Int.neg_mul]
  omega
theorem lv_c {n : Nat} {c a v : Vc} (hv : v.length = n) : Dt n c (lv n c a v) = 0 := by
  obtain ⟨g, hg, e⟩ := lv_Dt (c := c) (a := a) (d := c) hv
  rw [Int.mul_comm (Dt n c a), Int.sub_self] at e
  exact (Int.mul_eq_zero.mp e).resolve_left (by omega)
theorem nonneg_of_mul {g x : Int} (hg : 1 ≤ g) (h : 0 ≤ g * x) : 0 ≤ x := Classical.byContradiction fun z => by
  have := Int.mul_lt_mul_of_pos_left (show x < 0 by omega) (show 0 < g by omega)
  rw [Int.mul_zero] at this
  omega
theorem zero_of_mul {g x : Int} (hg : 1 ≤ g) (h : g * x = 0) : x = 0 := (Int.mul_eq_zero.mp h).resolve_left (by omega)
theorem lv_zero_iff {n : Nat} {c a v d : Vc} (hv : v.length = n) (hp : 0 < Dt n c a) (hd : Dt n d a = 0) : Dt n d (lv n c a v) = 0 ↔ Dt n d v = 0 := by
  obtain ⟨g, hg, e⟩ := lv_Dt (c := c) (a := a) (d := d) hv
  rw [hd, Int.mul_zero, Int.sub_zero] at e
  constructor
  · intro z
    rw [z, Int.mul_zero] at e
    exact (Int.mul_eq_zero.mp e.symm).resolve_left (by omega)
  · intro z
    rw [z, Int.mul_zero] at e
    exact zero_of_mul hg e
theorem lv_nonneg {n : Nat} {c a v d : Vc} (hv : v.length = n) (h : 0 ≤ Dt n c a * Dt n d v - Dt n c v * Dt n d a) : 0 ≤ Dt n d (lv n c a v) := by
  obtain ⟨g, hg, e⟩ := lv_Dt (c := c) (a := a) (d := d) hv
  exact nonneg_of_mul hg (by rw [e]; exact h)
theorem dd_line {n : Nat} {E cs L R L' : List Vc} {c a : Vc} (x : DD n E cs L R) (ha : Span n L a) (hp : 0 < Dt n c a) (hL' : ∀ l ∈ L', l.length = n ∧ Span n L l ∧ Dt n c l = 0) (hcov : ∀ v, Span n L v → Span n (a :: L') v) : DD n E (cs ++ [c]) L' (R.map (lv n c a) ++ [a]) := by
  have la := ha.length
  obtain ⟨aE, aC⟩ := (x.lin a la).mp ha
  have back : ∀ v, Span n L' v → Span n L v := fun v h => h.trans fun b hb _ => (hL' b hb).2.1
  have lev : ∀ v, Span n L' v → Dt n c v = 0 := fun v h => span_lin0 h fun b hb _ => (hL' b hb).2.2
  have lr' : ∀ r ∈ R, (lv n c a r).length = n := fun r hr => lv_length.trans (x.lr r hr)
  -- the move to the level
  have proj_line : ∀ v, Span n L v → Span n L' (comb (Dt n c a) v (-(Dt n c v)) a) := fun v h => by
    obtain ⟨k, t, b, hk, sb, e⟩ := span_cons la (hcov v h)
    have lv0 := h.length
    have q : k * Dt n c v = t * Dt n c a := by
      have := congrArg (fun w => Dt n c w) e
      simp only [Dt_sc, Dt_comb la, lev b sb] at this
      omega
    refine .div (k := k) (by omega) (by rw [comb_length, lv0]) ?_
    have e2 : sc k (comb (Dt n c a) v (-(Dt n c v)) a) = sc (Dt n c a) b := ext_n (n := n) (by rw [sc_length, comb_length, lv0]) (by rw [sc_length, sb.length]) fun i hi => by
      have w := congrArg (fun w => av w i) e
      simp only [av_sc] at w
      rw [av_combE la hi] at w
      rw [av_sc, av_sc, av_combE lv0 hi]
      generalize av v i = X at *
      generalize av a i = Y at *
      generalize av b i = Z at *
      generalize Dt n c a = p at *
      generalize Dt n c v = r at *
      clear e
      grind
    rw [e2]
    exact sb.sc _
  have proj : ∀ v, Cone n L (· ∈ R) v → Cone n L' (· ∈ R.map (lv n c a) ++ [a]) (comb (Dt n c a) v (-(Dt n c v)) a) := fun v h => by
    induction h with
    | line h => exact .line (proj_line _ h)
    | ray h1 h2 =>
      rename_i r
      obtain ⟨g, hg, e⟩ := prim_of (comb (Dt n c a) r (-(Dt n c r)) a)
      rw [e]
      exact cone_sc (by omega) (.ray (List.mem_append_left _ (List.mem_map.mpr ⟨r, h1, rfl⟩)) (lv_length.trans h2))
    | comb f g h1 h2 hx hy ih1 ih2 =>
      rename_i u w
      have lu := cone_length hx
      have lw := cone_length hy
      have := Cone.comb f g h1 h2 ih1 ih2
      have e : comb (Dt n c a) (Law.comb f u g w) (-(Dt n c (Law.comb f u g w))) a = Law.comb f (Law.comb (Dt n c a) u (-(Dt n c u)) a) g (Law.comb (Dt n c a) w (-(Dt n c w)) a) := ext_n (n := n) (by rw [comb_length, comb_length, lu]) (by rw [comb_length, comb_length, lu]) fun i hi => by
        rw [av_combE (by rw [comb_length, lu]) hi, av_combE lu hi, av_combE (by rw [comb_length, lu]) hi, av_combE lu hi, av_combE lw hi, Dt_comb lu]
        generalize av u i = X
        generalize av w i = Y
        generalize av a i = Z
        generalize Dt n c a = p
        generalize Dt n c u = q
        generalize Dt n c w = r
        grind
      rw [e]
      exact this
    | div hk h1 h2 ih =>
      rename_i v k
      refine .div hk (by rw [comb_length, h1]) ?_
      have e : sc k (comb (Dt n c a) v (-(Dt n c v)) a) = comb (Dt n c a) (sc k v) (-(Dt n c (sc k v))) a := ext_n (n := n) (by rw [sc_length, comb_length, h1]) (by rw [comb_length, sc_length, h1]) fun i hi => by
        rw [av_sc, av_combE h1 hi, av_combE (by rw [sc_length, h1]) hi, av_sc, Dt_sc]
        generalize av v i = X
        generalize av a i = Z
        generalize Dt n c a = p
        generalize Dt n c v = q
        grind
      rw [e]
      exact ih
  refine ⟨fun l hl => (hL' l hl).1, fun r hr => ?_, fun v hv => ⟨fun h => ?_, fun ⟨hE, hC⟩ => ?_⟩, fun r hr => ?_, fun v hv hE hC => ?_, ?_, fun r hr => ?_⟩
  · rcases List.mem_append.mp hr with hr | hr
    · obtain ⟨r0, h0, rfl⟩ := List.mem_map.mp hr
      exact lr' r0 h0
    · rw [List.mem_singleton.mp hr]
      exact la
  · obtain ⟨h1, h2⟩ := (x.lin v hv).mp (back v h)
    refine ⟨h1, fun d hd => ?_⟩
    rcases List.mem_append.mp hd with hd | hd
    · exact h2 d hd
    · rw [List.mem_singleton.mp hd]
      exact lev v h
  · have hs := (x.lin v hv).mpr ⟨hE, fun d hd => hC d (List.mem_append_left _ hd)⟩
    have h0 := hC c (List.mem_append_right _ (List.mem_singleton.mpr rfl))
    have := proj_line v hs
    rw [h0] at this
    refine .div (k := Dt n c a) (by omega) hv ?_
    have e : comb (Dt n c a) v (-0) a = sc (Dt n c a) v := ext_n (n := n) (by rw [comb_length, hv]) (by rw [sc_length, hv]) fun i hi => by
      rw [av_combE hv hi, av_sc]
      omega
    rwa [e] at this
  · rcases List.mem_append.mp hr with hr | hr
    · obtain ⟨r0, h0, rfl⟩ := List.mem_map.mp hr
      have l0 := x.lr r0 h0
      obtain ⟨s1, s2⟩ := x.sat r0 h0
      refine ⟨fun e he => (lv_zero_iff l0 hp (aE e he)).mpr (s1 e he), fun d hd => ?_⟩
      rcases List.mem_append.mp hd with hd | hd
      · refine lv_nonneg l0 ?_
        rw [aC d hd, Int.mul_zero, Int.sub_zero]
        exact Int.mul_nonneg (by omega) (s2 d hd)
      · rw [List.mem_singleton.mp hd, lv_c l0]
        exact Int.le_refl 0
    · rw [List.mem_singleton.mp hr]
      refine ⟨aE, fun d hd => ?_⟩
      rcases List.mem_append.mp hd with hd | hd
      · rw [aC d hd]
        exact Int.le_refl 0
      · rw [List.mem_singleton.mp hd]
        omega
  · have h1 := x.gen v hv hE fun d hd => hC d (List.mem_append_left _ hd)
    have h0 := hC c (List.mem_append_right _ (List.mem_singleton.mpr rfl))
    refine .div hp hv ?_
    have e : sc (Dt n c a) v = comb 1 (comb (Dt n c a) v (-(Dt n c v)) a) (Dt n c v) a := ext_n (n := n) (by rw [sc_length, hv]) (by rw [comb_length, comb_length, hv]) fun i hi => by
      rw [av_sc, av_combE (by rw [comb_length, hv]) hi, av_combE hv hi]
      generalize av v i = X
      generalize av a i = Z
      grind
    rw [e]
    exact .comb _ _ (by decide) h0 (proj v h1) (.ray (List.mem_append_right _ (List.mem_singleton.mpr rfl)) la)
  · rw [List.pairwise_append]
    have tz : ∀ {r d}, r ∈ R → d ∈ cs → (Dt n d (lv n c a r) = 0 ↔ Dt n d r = 0) := fun hr hd => lv_zero_iff (x.lr _ hr) hp (aC _ hd)
    refine ⟨?_, List.pairwise_singleton .., fun r hr s hs => ?_⟩
    · rw [List.pairwise_map]
      refine x.anti.imp_of_mem fun {p q} hp' hq h => ⟨fun z => h.1 fun d hd w => ?_, fun z => h.2 fun d hd w => ?_⟩
      · exact (tz hq hd).mp (z d (List.mem_append_left _ hd) ((tz hp' hd).mpr w))
      · exact (tz hp' hd).mp (z d (List.mem_append_left _ hd) ((tz hq hd).mpr w))
    · obtain ⟨r0, h0, rfl⟩ := List.mem_map.mp hr
      rw [List.mem_singleton.mp hs]
      refine ⟨fun z => ?_, fun z => ?_⟩
      · have := z c (List.mem_append_right _ (List.mem_singleton.mpr rfl)) (lv_c (x.lr r0 h0))
        omega
      · obtain ⟨d, hd, hne⟩ := x.nt r0 h0
        exact hne ((tz h0 hd).mp (z d (List.mem_append_left _ hd) (aC d hd)))
  · rcases List.mem_append.mp hr with hr | hr
    · obtain ⟨r0, h0, rfl⟩ := List.mem_map.mp hr
      obtain ⟨d, hd, hne⟩ := x.nt r0 h0
      exact ⟨d, List.mem_append_left _ hd, fun z => hne ((lv_zero_iff (x.lr _ h0) hp (aC _ hd)).mp z)⟩
    · rw [List.mem_singleton.mp hr]
      exact ⟨c, List.mem_append_right _ (List.mem_singleton.mpr rfl), by omega⟩
theorem pw_mem {P : Vc → Vc → Prop} (hs : ∀ a b, P a b → P b a) {R : List Vc} (h : R.Pairwise P) {a b : Vc} (ha : a ∈ R) (hb : b ∈ R) (hn : a ≠ b) : P a b := by
  induction R with
  | nil => cases ha
  | cons z R ih =>
    rw [List.pairwise_cons] at h
    rcases List.mem_cons.mp ha with ea | ha
    · rcases List.mem_cons.mp hb with eb | hb
      · exact absurd (ea.trans eb.symm) hn
      · rw [ea]
        exact h.1 b hb
    · rcases List.mem_cons.mp hb with eb | hb
      · rw [eb]
        exact hs _ _ (h.1 a ha)
      · exact ih h.2 ha hb
section
variable {n : Nat} {E cs L R : List Vc} {c : Vc} {acc : Vc → Vc → Bool}
theorem DD.anti_mem (x : DD n E cs L R) {a b : Vc} (ha : a ∈ R) (hb : b ∈ R) (hn : a ≠ b) : ¬ tle n cs a b ∧ ¬ tle n cs b a := pw_mem (fun _ _ h => ⟨h.2, h.1⟩) x.anti ha hb hn
theorem DD.line0 (x : DD n E cs L R) : ∀ d ∈ cs, ∀ l ∈ L, l.length = n → Dt n d l = 0 := fun d hd l hl hn => ((x.lin l hn).mp (.mem hl hn)).2 d hd
end
def Ind (n : Nat) (X : List Vc) : Prop := ∀ Y : List Vc, (∀ y ∈ Y, y.length = n) → (∀ x ∈ X, Span n Y x) → X.length ≤ Y.length
theorem ind_of_span {n : Nat} {X X' : List Vc} (h : Ind n X) (hx : ∀ v ∈ X, Span n X' v) (hl : X'.length = X.length) : Ind n X' := fun Y hY hs => by
  rw [hl]
  exact h Y hY fun x hx' => (hx x hx').trans fun b hb _ => hs b hb
def Diag (X : List (Vc × Nat)) : Prop := X.Pairwise (fun x y => av x.1 y.2 = 0 ∧ av y.1 x.2 = 0) ∧ ∀ x ∈ X, av x.1 x.2 ≠ 0
theorem span_col {n f : Nat} {Y : List Vc} {v : Vc} (h : Span n Y v) (hz : ∀ y ∈ Y, av y f = 0) : av v f = 0 := by
  induction h with
  | mem h1 _ => exact hz _ h1
  | zero => exact av_zeros
  | comb f' g' a1 a2 ih1 ih2 =>
    by_cases hi : f < n
    · rw [av_combE a1.length hi, ih1, ih2, Int.mul_zero, Int.mul_zero]
      rfl
    · exact av_out (by rw [comb_length, a1.length]; omega)
  | div hk a1 _ ih =>
    rw [av_sc] at ih
    exact (Int.mul_eq_zero.mp ih).resolve_left hk
theorem clear_col {n f : Nat} {Y : List Vc} (hY : ∀ y ∈ Y, y.length = n) {y0 : Vc} (h0 : y0 ∈ Y) (hn : av y0 f ≠ 0) : ∃ Z : List Vc, Z.length + 1 = Y.length ∧ (∀ z ∈ Z, z.length = n ∧ av z f = 0) ∧ ∀ v, Span n Y v → av v f = 0 → Span n Z v := by
  obtain ⟨p, q, rfl⟩ := List.append_of_mem h0
  have l0 : y0.length = n := hY y0 h0
  have hpq : ∀ z ∈ p ++ q, z.length = n := fun z hz => hY z (by
    rcases List.mem_append.mp hz with h | h
    · exact List.mem_append_left _ h
    · exact List.mem_append_right _ (List.mem_cons_of_mem _ h))
  have zf : ∀ z ∈ (p ++ q).map (stp f y0), z.length = n ∧ av z f = 0 := fun z hz => by
    obtain ⟨w, hw, rfl⟩ := List.mem_map.mp hz
    refine ⟨stp_length.trans (hpq w hw), ?_⟩
    by_cases hi : f < w.length
    · rw [av_stp hi, Int.mul_comm, Int.sub_self]
    · exact av_out (by rw [stp_length]; omega)
  refine ⟨(p ++ q).map (stp f y0), by rw [List.length_map]; simp; omega, zf, fun v hv hz => ?_⟩
  have h1 : Span n (y0 :: (p ++ q).map (stp f y0)) v := hv.trans fun b hb hbl => by
    have h0' : Span n (y0 :: (p ++ q).map (stp f y0)) y0 := .mem (List.mem_cons_self ..) l0
    have other : ∀ b ∈ p ++ q, Span n (y0 :: (p ++ q).map (stp f y0)) b := fun b hb => by
      have lb := hpq b hb
      refine .div (k := av y0 f) hn lb ?_
      have e : sc (av y0 f) b = comb 1 (stp f y0 b) (av b f) y0 := ext_n (n := n) (by rw [sc_length, lb]) (by rw [comb_length, stp_length, lb]) fun i hi => by
        rw [av_sc, av_combE (stp_length.trans lb) hi, av_stp (by omega)]
        omega
      rw [e]
      exact .comb _ _ (.mem (List.mem_cons_of_mem _ (List.mem_map.mpr ⟨b, hb, rfl⟩)) (stp_length.trans lb)) h0'
    rcases List.mem_append.mp hb with hb | hb
    · exact other b (List.mem_append_left _ hb)
    · rcases List.mem_cons.mp hb with rfl | hb
      · exact h0'
      · exact other b (List.mem_append_right _ hb)
  obtain ⟨k, t, b, hk, sb, e⟩ := span_cons l0 h1
  have bf : av b f = 0 := span_col sb fun z hz => (zf z hz).2
  have hfn : f < n := Classical.byContradiction fun z => hn (av_out (by omega))
  have ht : t = 0 := by
    have := congrArg (fun w => av w f) e
    simp only [av_sc] at this
    rw [av_combE l0 hfn, hz, bf, Int.mul_zero, Int.mul_zero, Int.add_zero] at this
    exact (Int.mul_eq_zero.mp this.symm).resolve_right hn
  subst ht
  have e2 : sc k v = b := by
    rw [e]
    exact ext_n (n := n) (by rw [comb_length, l0]) sb.length fun i hi => by
      rw [av_combE l0 hi]
      omega
  exact .div (k := k) (by omega) hv.length (by rw [e2]; exact sb)
theorem diag_ind {n : Nat} : ∀ (X : List (Vc × Nat)), Diag X → Ind n (X.map (·.1))
  | [], _ => fun Y _ _ => Nat.zero_le _
  | (x, f) :: X, h => fun Y hY hs => by
    obtain ⟨h1, h2⟩ := h
    rw [List.pairwise_cons] at h1
    have hx0 : av x f ≠ 0 := h2 (x, f) (List.mem_cons_self ..)
    have hsx := hs x (by rw [List.map_cons]; exact List.mem_cons_self ..)
    have : ∃ y0 ∈ Y, av y0 f ≠ 0 := by
      refine Classical.byContradiction fun z => hx0 ?_
      exact span_col hsx fun y hy => Classical.byContradiction fun q => z ⟨y, hy, q⟩
    obtain ⟨y0, hy0, hn⟩ := this
    obtain ⟨Z, lz, hz, hsp⟩ := clear_col hY hy0 hn
    have := diag_ind X ⟨h1.2, fun y hy => h2 y (List.mem_cons_of_mem _ hy)⟩ Z (fun z q => (hz z q).1) fun v hv => by
      obtain ⟨y, hy, rfl⟩ := List.mem_map.mp hv
      exact hsp y.1 (hs y.1 (by rw [List.map_cons]; exact List.mem_cons_of_mem _ (List.mem_map.mpr ⟨y, hy, rfl⟩))) (h1.1 y hy).2
    rw [List.map_cons, List.length_cons]
    omega
theorem pure_loop {n : Nat} {rows : List Vc} : ∀ (rest done : List Nat) (left : List Vc) (rs : RP) (b : Nat), order n = done ++ rest → LInv n b done left rs → SI n rows left (rowsOf rs) → ∃ (left' : List Vc) (rs' : RP) (b' : Nat), LInv n b' (done ++ rest) left' rs' ∧ SI n rows left' (rowsOf rs')
  | [], done, left, rs, b, ho, x, si => ⟨left, rs, b, by rw [List.append_nil]; exact x, si⟩
  | c :: rest, done, left, rs, b, ho, x, si => by
    have go : ∀ (left' : List Vc) (rs' : RP), LInv n (2 * b + 1) (done ++ [c]) left' rs' → SI n rows left' (rowsOf rs') → ∃ (left' : List Vc) (rs' : RP) (b' : Nat), LInv n b' (done ++ c :: rest) left' rs' ∧ SI n rows left' (rowsOf rs') := fun left' rs' x' si' => by
      have := pure_loop rest (done ++ [c]) left' rs' (2 * b + 1) (by rw [ho, List.append_assoc]; rfl) x' si'
      rw [List.append_assoc] at this
      exact this
    by_cases hz : ∀ v ∈ left, av v c = 0
    · exact go left rs (linv_same x hz) si
    · simp only [Classical.not_forall] at hz
      obtain ⟨r0, h0, hne⟩ := hz
      obtain ⟨r, hr, hp⟩ : ∃ r : Vc, (r = r0 ∨ r = sc (-1) r0) ∧ 0 < av r c := by
        by_cases h : av r0 c < 0
        · exact ⟨sc (-1) r0, .inr rfl, by rw [av_sc]; omega⟩
        · exact ⟨r0, .inl rfl, by omega⟩
      refine go (left.map (clr c r)) (rs.map (fun y => (clr c r y.1, y.2)) ++ [(r, c)]) (linv_step x ho h0 (fun _ h => h) hr hp) ?_
      have q := si_step si (fun v hv => (x.L v hv).1) (fun v hv => by
        obtain ⟨y, hy, rfl⟩ := List.mem_map.mp hv
        exact (x.R y hy).1) h0 (fun _ h => h) (fun _ h => .inr h) hr hp
      unfold rowsOf at q ⊢
      rw [List.map_append, List.map_map]
      rw [List.map_map] at q
      exact q
theorem some_small (B : List Vc) : ∃ b, ∀ v ∈ B, Small b v := by
  induction B with
  | nil => exact ⟨0, fun _ h => nomatch h⟩
  | cons v B ih =>
    obtain ⟨b, hb⟩ := ih
    have : ∃ b', Small b' v := by
      clear hb
      induction v with
      | nil => exact ⟨0, fun _ h => nomatch h⟩
      | cons x v ih =>
        obtain ⟨b', hb'⟩ := ih
        refine ⟨b' + x.natAbs, fun y hy => ?_⟩
        rcases List.mem_cons.mp hy with rfl | hy
        · exact Nat.lt_of_lt_of_le Nat.lt_two_pow_self (Nat.pow_le_pow_right (by decide) (by omega))
        · exact Nat.lt_of_lt_of_le (hb' y hy) (Nat.pow_le_pow_right (by decide) (by omega))
    obtain ⟨b', hb'⟩ := this
    refine ⟨b + b', fun w hw => ?_⟩
    rcases List.mem_cons.mp hw with rfl | hw
    · exact hb'.up (by omega)
    · exact (hb w hw).up (by omega)
structure IsEch (n : Nat) (B : List Vc) (rs : RP) : Prop where
  e : Ech n rs
  f : Ef n rs
  to : ∀ v ∈ B, Span n (rs.map (·.1)) v
  of : ∀ y ∈ rs, Span n B y.1
theorem IsEch.span {n : Nat} {B : List Vc} {rs : RP} (h : IsEch n B rs) {v : Vc} : Span n B v ↔ Span n (rs.map (·.1)) v := ⟨fun x => x.trans fun b hb _ => h.to b hb, fun x => x.trans fun b hb _ => by
  obtain ⟨y, hy, rfl⟩ := List.mem_map.mp hb
  exact h.of y hy⟩
theorem isEch_of {n b : Nat} {rows left : List Vc} {rs : RP} (h : ∀ v ∈ rows, v.length = n) (x : LInv n b (order n) left rs) (s : SI n rows left (rowsOf rs)) : IsEch n rows rs := by
  obtain ⟨a1, a2⟩ := si_end x s
  refine ⟨x.ech, ef_of' (fun y hy => ?_) x.P, fun v hv => a1 v hv (h v hv), a2⟩
  obtain ⟨h1, h2, h3, h4, h5, _⟩ := x.R y hy
  exact ⟨h1, order_lt h5, h4⟩
where
  ef_of' {n : Nat} : ∀ {rs : RP}, (∀ x ∈ rs, x.1.length = n ∧ x.2 < n ∧ 0 < av x.1 x.2) → (rs.Pairwise fun x y => av x.1 y.2 = 0 ∧ av y.1 x.2 = 0) → Ef n rs
  | [], _, _ => .nil
  | (r, p) :: rs, h, P => by
    obtain ⟨h1, h2, h3⟩ : r.length = n ∧ p < n ∧ 0 < av r p := h _ (List.mem_cons_self ..)
    rw [List.pairwise_cons] at P
    exact .cons h1 h2 h3 (fun x hx => ⟨(P.1 x hx).2, (P.1 x hx).1⟩) (ef_of' (fun x hx => h x (List.mem_cons_of_mem _ hx)) P.2)
theorem pure_ech {n : Nat} {B : List Vc} (h : ∀ v ∈ B, v.length = n) : ∃ rs, IsEch n B rs := by
  obtain ⟨b, hb⟩ := some_small B
  have x0 : LInv n b [] (B.map prim) [] := ⟨fun v hv => by
    obtain ⟨u, hu, rfl⟩ := List.mem_map.mp hv
    exact ⟨by rw [prim_length, h u hu], prim_small (hb u hu), prim_prim _, (fun _ hc => nomatch hc)⟩, (fun _ hv => nomatch hv), List.Pairwise.nil, List.nil_sublist _⟩
  obtain ⟨left', rs', b', x, s⟩ := pure_loop (rows := B) (order n) [] (B.map prim) [] b rfl x0 (si_start h)
  exact ⟨rs', isEch_of h x s⟩
theorem ech_diag {n : Nat} {rs : RP} (e : Ech n rs) : Diag rs := ⟨e.P, fun x hx => by have := (e.R x hx).2.2.1; omega⟩
theorem ech_ind {n : Nat} {rs : RP} (e : Ech n rs) : Ind n (rs.map (·.1)) := diag_ind rs (ech_diag e)
theorem ech_len {n : Nat} {rs : RP} (e : Ech n rs) : ∀ v ∈ rs.map (·.1), v.length = n := fun v hv => by
  obtain ⟨y, hy, rfl⟩ := List.mem_map.mp hv
  exact (e.R y hy).1
theorem red_form {n : Nat} {B : List Vc} : ∀ {rs : RP} {v : Vc}, v.length = n → (∀ x ∈ rs, 0 < av x.1 x.2 ∧ Span n B x.1) → ∃ (g : Int) (l : Vc), 1 ≤ g ∧ Span n B l ∧ red rs v = comb g v 1 l
  | [], v, hv, _ => ⟨1, zeros n, by decide, .zero, ext_n (n := n) hv (by rw [comb_length, hv]) fun i hi => by
      rw [av_combE hv hi, av_zeros]
      show av v i = _
      omega⟩
  | (r, p) :: rs, v, hv, h => by
    obtain ⟨h1, h2⟩ := h (r, p) (List.mem_cons_self ..)
    have ls : (stp p r v).length = n := stp_length.trans hv
    obtain ⟨g, l, hg, sl, e⟩ := red_form (n := n) (B := B) (rs := rs) (v := stp p r v) ls fun x hx => h x (List.mem_cons_of_mem _ hx)
    refine ⟨g * av r p, comb 1 l (-(g * av v p)) r, ?_, .comb _ _ sl h2, ?_⟩
    · have h1 : 0 < av r p := h1
      have := Int.mul_le_mul hg (show 1 ≤ av r p by omega) (by omega) (by omega)
      omega
    · rw [red, e]
      refine ext_n (n := n) (by rw [comb_length, ls]) (by rw [comb_length, hv]) fun i hi => ?_
      rw [av_combE ls hi, av_stp (by omega), av_combE hv hi, av_combE sl.length hi]
      generalize av v i = a
      generalize av r i = b
      generalize av l i = c
      generalize av r p = d
      generalize av v p = f
      grind
theorem span_eq_of_len {n : Nat} {A B : RP} (a : Ech n A) (b : Ech n B) (bf : Ef n B) (af : Ef n A) (h : ∀ x ∈ A, Span n (B.map (·.1)) x.1) (hl : B.length ≤ A.length) {v : Vc} (hv : Span n (B.map (·.1)) v) : Span n (A.map (·.1)) v := by
  have sub : ∀ p, p ∈ A.map (·.2) → p ∈ B.map (·.2) := fun p hp => by
    obtain ⟨x, hx, rfl⟩ := List.mem_map.mp hp
    obtain ⟨y, hy, e⟩ := a.piv_in b h hx
    exact List.mem_map.mpr ⟨y, hy, e⟩
  have e1 := sub_filter (order_nodup' n) a.S
  have e2 := sub_filter (order_nodup' n) b.S
  have hs : (A.map (·.2)).Sublist (B.map (·.2)) := by
    rw [e1, e2]
    have : (order n).filter (fun x => decide (x ∈ A.map (·.2))) = ((order n).filter (fun x => decide (x ∈ B.map (·.2)))).filter (fun x => decide (x ∈ A.map (·.2))) := by
      rw [List.filter_filter]
      refine List.filter_congr fun x _ => ?_
      by_cases hx : x ∈ A.map (·.2)
      · simp [hx, sub x hx]
      · simp [hx]
    rw [this]
    exact List.filter_sublist
  have e3 : A.map (·.2) = B.map (·.2) := hs.eq_of_length_le (by rw [List.length_map, List.length_map]; exact hl)
  have lv := hv.length
  obtain ⟨g, l, hg, sl, e⟩ := red_form (n := n) (B := A.map (·.1)) (rs := A) (v := v) lv fun x hx => ⟨(a.R x hx).2.2.1, .mem (List.mem_map.mpr ⟨x, hx, rfl⟩) (a.R x hx).1⟩
  have z : isZero (red A v) := b.zero (by
    rw [e]
    exact .comb _ _ hv (sl.trans fun w hw _ => by
      obtain ⟨x, hx, rfl⟩ := List.mem_map.mp hw
      exact h x hx)) fun y hy => by
    have : y.2 ∈ A.map (·.2) := by rw [e3]; exact List.mem_map.mpr ⟨y, hy, rfl⟩
    obtain ⟨x, hx, ex⟩ := List.mem_map.mp this
    rw [← ex]
    exact red_zero af lv x hx
  refine .div (k := g) (by omega) lv ?_
  have e4 : sc g v = comb (-1) l 0 l := ext_n (n := n) (by rw [sc_length, lv]) (by rw [comb_length, sl.length]) fun i hi => by
    have := z i
    rw [e, av_combE lv hi] at this
    rw [av_sc, av_combE sl.length hi]
    omega
  rw [e4]
  exact .comb _ _ sl sl
theorem sum_one {F : Nat → Int} : ∀ {n f : Nat}, f < n → (∀ i < n, i ≠ f → F i = 0) → ((List.range n).map F).sum = F f
  | 0, f, h, _ => absurd h (Nat.not_lt_zero _)
  | n + 1, f, h, hz => by
    rw [List.range_succ, List.map_append, List.sum_append]
    by_cases hf : f = n
    · subst hf
      have : ((List.range f).map F).sum = 0 := by
        rw [sum_congr _ F (fun _ => 0) fun i hi => hz i (by have := List.mem_range.mp hi; omega) (by have := List.mem_range.mp hi; omega)]
        induction List.range f with
        | nil => rfl
        | cons a l ih => rw [List.map_cons, List.sum_cons, ih] <;> rfl
      rw [this]
      simp
    · rw [sum_one (by omega) fun i hi hn => hz i (by omega) hn, List.map_singleton, List.sum_singleton, hz n (by omega) (Ne.symm hf), Int.add_zero]
theorem sum_two {F : Nat → Int} {n f p : Nat} (hf : f < n) (hp : p < n) (hn : f ≠ p) (hz : ∀ i < n, i ≠ f → i ≠ p → F i = 0) : ((List.range n).map F).sum = F f + F p := by
  have e : ((List.range n).map F).sum = ((List.range n).map fun i => 1 * (if i = f then F f else 0) + 1 * (if i = p then F p else 0)).sum := sum_congr _ _ _ fun i hi => by
    have hi := List.mem_range.mp hi
    by_cases h1 : i = f
    · rw [if_pos h1, if_neg (by omega), h1]
      omega
    · by_cases h2 : i = p
      · rw [if_neg h1, if_pos h2, h2]
        omega
      · rw [if_neg h1, if_neg h2, hz i hi h1 h2]
        omega
  rw [e, sum_lin, sum_one (f := f) hf fun i _ h => if_neg h, sum_one (f := p) hp fun i _ h => if_neg h, if_pos rfl, if_pos rfl]
  omega
def nv (S : Int) (f : Nat) : RP → Nat → Int
  | [], i => if i = f then S else 0
  | (r, p) :: rs, i => if i = p then -(av r f) * (S / av r p) else nv S f rs i
def nullV (n : Nat) (S : Int) (rs : RP) (f : Nat) : Vc := (List.range n).map (nv S f rs)
theorem nullV_length {n : Nat} {S : Int} {rs : RP} {f : Nat} : (nullV n S rs f).length = n := by
  unfold nullV
  rw [List.length_map, List.length_range]
theorem av_nullV {n : Nat} {S : Int} {rs : RP} {f i : Nat} (h : i < n) : av (nullV n S rs f) i = nv S f rs i := by
  unfold av nullV
  rw [List.getD_eq_getElem?_getD, List.getElem?_map, List.getElem?_range h] <;> rfl
theorem nv_free {S : Int} {f i : Nat} : ∀ {rs : RP}, (∀ x ∈ rs, x.2 ≠ i) → nv S f rs i = if i = f then S else 0
  | [], _ => rfl
  | (r, p) :: rs, h => by
    rw [nv, if_neg fun z => h (r, p) (List.mem_cons_self ..) z.symm]
    exact nv_free fun x hx => h x (List.mem_cons_of_mem _ hx)
theorem nv_piv {S : Int} {f : Nat} : ∀ {rs : RP} {x : Vc × Nat}, x ∈ rs → rs.Pairwise (fun a b => a.2 ≠ b.2) → nv S f rs x.2 = -(av x.1 f) * (S / av x.1 x.2)
  | [], x, h, _ => by cases h
  | (r, p) :: rs, x, h, P => by
    rw [List.pairwise_cons] at P
    rw [nv]
    rcases List.mem_cons.mp h with rfl | h
    · rw [if_pos rfl]
    · rw [if_neg fun z => P.1 x h z.symm]
      exact nv_piv h P.2
theorem null_zero {n : Nat} {rs : RP} {S : Int} (e : Ech n rs) (hS : ∀ x ∈ rs, av x.1 x.2 ∣ S) {f : Nat} (hf : f < n) (hn : ∀ x ∈ rs, x.2 ≠ f) : ∀ x ∈ rs, Dt n x.1 (nullV n S rs f) = 0 := fun x hx => by
  obtain ⟨x1, x2, x3, x4, _⟩ := e.R x hx
  have hz : ∀ i < n, i ≠ f → i ≠ x.2 → av x.1 i * av (nullV n S rs f) i = 0 := fun i hi h1 h2 => by
    rw [av_nullV hi]
    by_cases hp : ∃ y ∈ rs, y.2 = i
    · obtain ⟨y, hy, rfl⟩ := hp
      rw [e.pw x hx y hy fun z => h2 z.symm, Int.zero_mul]
    · rw [nv_free fun y hy z => hp ⟨y, hy, z⟩, if_neg h1, Int.mul_zero]
  unfold Dt
  rw [sum_two (F := fun i => av x.1 i * av (nullV n S rs f) i) hf x4 (fun z => hn x hx z.symm) hz]
  show av x.1 f * av (nullV n S rs f) f + av x.1 x.2 * av (nullV n S rs f) x.2 = 0
  rw [av_nullV hf, av_nullV x4, nv_free hn, if_pos rfl, nv_piv hx e.ne]
  obtain ⟨q, hq⟩ := hS x hx
  rw [hq, Int.mul_ediv_cancel_left _ (by omega)]
  generalize av x.1 f = a
  generalize av x.1 x.2 = b
  grind
theorem null_span {n : Nat} {rs : RP} {S : Int} (e : Ech n rs) (hS : ∀ x ∈ rs, av x.1 x.2 ∣ S) (hS0 : S ≠ 0) : ∀ (fs : List Nat) (v : Vc), fs.Nodup → (∀ f ∈ fs, f < n ∧ ∀ x ∈ rs, x.2 ≠ f) → v.length = n → (∀ x ∈ rs, Dt n x.1 v = 0) → (∀ i < n, (∀ x ∈ rs, x.2 ≠ i) → i ∉ fs → av v i = 0) → Span n (fs.map (nullV n S rs)) v
  | [], v, _, _, hl, hv, hz => by
    have : v = zeros n := eq_zeros hl fun i => by
      by_cases hi : i < n
      · by_cases hp : ∃ y ∈ rs, y.2 = i
        · obtain ⟨y, hy, rfl⟩ := hp
          have := hv y hy
          unfold Dt at this
          rw [sum_one (F := fun i => av y.1 i * av v i) (f := y.2) hi fun i hi h => by
            by_cases hp : ∃ z ∈ rs, z.2 = i
            · obtain ⟨z, hz', rfl⟩ := hp
              rw [e.pw y hy z hz' fun q => h q.symm, Int.zero_mul]
            · rw [hz i hi (fun z hz' q => hp ⟨z, hz', q⟩) List.not_mem_nil, Int.mul_zero]] at this
          exact (Int.mul_eq_zero.mp this).resolve_left (by have := (e.R y hy).2.2.1; omega)
        · exact hz i hi (fun z hz' q => hp ⟨z, hz', q⟩) List.not_mem_nil
      · exact av_out (by omega)
    rw [this]
    exact .zero
  | f :: fs, v, nd, hf, hl, hv, hz => by
    rw [List.nodup_cons] at nd
    obtain ⟨f1, f2⟩ := hf f (List.mem_cons_self ..)
    have lN : (nullV n S rs f).length = n := nullV_length
    have ih := null_span e hS hS0 fs (comb S v (-(av v f)) (nullV n S rs f)) nd.2 (fun g hg => hf g (List.mem_cons_of_mem _ hg)) (by rw [comb_length, hl]) (fun x hx => by rw [Dt_comb hl, hv x hx, null_zero e hS f1 f2 x hx, Int.mul_zero, Int.mul_zero]; rfl) fun i hi hfree hni => by
      rw [av_combE hl hi, av_nullV hi, nv_free hfree]
      by_cases h : i = f
      · subst h
        rw [if_pos rfl, Int.neg_mul, Int.mul_comm S]
        omega
      · rw [if_neg h, hz i hi hfree (fun z => by rcases List.mem_cons.mp z with z | z; exact h z; exact hni z), Int.mul_zero, Int.mul_zero]
        rfl
    refine .div hS0 hl ?_
    have e2 : sc S v = comb 1 (comb S v (-(av v f)) (nullV n S rs f)) (av v f) (nullV n S rs f) := ext_n (n := n) (by rw [sc_length, hl]) (by rw [comb_length, comb_length, hl]) fun i hi => by
      rw [av_sc, av_combE (by rw [comb_length, hl]) hi, av_combE hl hi]
      generalize av v i = a
      generalize av (nullV n S rs f) i = b
      grind
    rw [e2]
    exact .comb _ _ (span_mono ih fun b hb => List.mem_cons_of_mem _ hb) (.mem (List.mem_cons_self ..) lN)
def freeC (n : Nat) (rs : RP) : List Nat := (List.range n).filter fun i => !(rs.map (·.2)).contains i
theorem mem_freeC {n : Nat} {rs : RP} {i : Nat} : i ∈ freeC n rs ↔ i < n ∧ ∀ x ∈ rs, x.2 ≠ i := by
  unfold freeC
  rw [List.mem_filter, List.mem_range, Bool.not_eq_true', ← Bool.not_eq_true, List.contains_iff_mem]
  refine ⟨fun ⟨h1, h2⟩ => ⟨h1, fun x hx z => h2 (List.mem_map.mpr ⟨x, hx, z⟩)⟩, fun ⟨h1, h2⟩ => ⟨h1, fun z => ?_⟩⟩
  obtain ⟨x, hx, e⟩ := List.mem_map.mp z
  exact h2 x hx e
def nullL (n : Nat) (rs : RP) : List Vc := (freeC n rs).map fun f => prim (nullV n (prodD rs) rs f)
theorem nullL_len {n : Nat} {rs : RP} : ∀ v ∈ nullL n rs, v.length = n := fun v hv => by
  obtain ⟨f, _, rfl⟩ := List.mem_map.mp hv
  rw [prim_length, nullV_length]
theorem nullL_span {n : Nat} {rs : RP} (e : Ech n rs) {v : Vc} (hl : v.length = n) : Span n (nullL n rs) v ↔ ∀ x ∈ rs, Dt n x.1 v = 0 := by
  have hS : ∀ x ∈ rs, av x.1 x.2 ∣ prodD rs := fun x hx => prodD_dvd hx
  have hS0 : prodD rs ≠ 0 := by
    have := prodD_pos (n := n) fun x hx => (e.R x hx).2.2.1
    omega
  constructor
  · intro h x hx
    refine span_lin0 h fun b hb _ => ?_
    obtain ⟨f, hf, rfl⟩ := List.mem_map.mp hb
    obtain ⟨f1, f2⟩ := mem_freeC.mp hf
    obtain ⟨g, hg, q⟩ := Dt_prim (n := n) (c := x.1) (v := nullV n (prodD rs) rs f)
    rw [null_zero e hS f1 f2 x hx] at q
    exact zero_of_mul hg q.symm
  · intro h
    have := null_span e hS hS0 (freeC n rs) v (List.Pairwise.filter _ List.nodup_range) (fun f hf => mem_freeC.mp hf) hl h fun i hi hfree hni => absurd (mem_freeC.mpr ⟨hi, hfree⟩) hni
    refine this.trans fun b hb hbl => ?_
    obtain ⟨f, hf, rfl⟩ := List.mem_map.mp hb
    exact (Span.prim_iff hbl).mp (.mem (List.mem_map.mpr ⟨f, hf, rfl⟩) (by rw [prim_length, hbl]))
theorem nullL_ind {n : Nat} {rs : RP} (e : Ech n rs) : Ind n (nullL n rs) := by
  have hS0 : prodD rs ≠ 0 := by
    have := prodD_pos (n := n) fun x hx => (e.R x hx).2.2.1
    omega
  have hd := diag_ind (n := n) ((freeC n rs).map fun f => (prim (nullV n (prodD rs) rs f), f)) ⟨by
    rw [List.pairwise_map]
    refine (List.Pairwise.filter _ List.nodup_range : (freeC n rs).Nodup).imp_of_mem fun {a b} ha hb hne => ?_
    obtain ⟨a1, a2⟩ := mem_freeC.mp ha
    obtain ⟨b1, b2⟩ := mem_freeC.mp hb
    refine ⟨av_prim_zero.mpr ?_, av_prim_zero.mpr ?_⟩
    · rw [av_nullV b1, nv_free b2, if_neg (Ne.symm hne)]
    · rw [av_nullV a1, nv_free a2, if_neg hne], fun x hx => by
    obtain ⟨f, hf, rfl⟩ := List.mem_map.mp hx
    obtain ⟨f1, f2⟩ := mem_freeC.mp hf
    intro z
    have := av_prim_zero.mp z
    rw [av_nullV f1, nv_free f2, if_pos rfl] at this
    exact hS0 this⟩
  rw [List.map_map] at hd
  exact hd
theorem order_count (n : Nat) (p : Nat → Bool) : ((order n).filter p).length = ((List.range n).filter p).length := by
  cases n with
  | zero => rfl
  | succ n =>
    unfold order
    rw [List.range_succ_eq_map, List.filter_append, List.length_append, List.filter_cons]
    have : (fun x => 1 + x) = Nat.succ := by
      funext x
      omega
    rw [this]
    by_cases h : p 0 = true
    · simp [h]
    · simp [h]
theorem nullL_length {n : Nat} {rs : RP} (e : Ech n rs) : (nullL n rs).length + rs.length = n := by
  unfold nullL freeC
  rw [List.length_map]
  have e1 := sub_filter (order_nodup' n) e.S
  have e2 : rs.length = ((List.range n).filter fun i => (rs.map (·.2)).contains i).length := by
    have : rs.length = (rs.map (·.2)).length := (List.length_map ..).symm
    rw [this, e1, order_count]
    have e3 : ∀ i, (rs.map (·.2)).contains i = decide (i ∈ rs.map (·.2)) := fun i => by simp
    congr 1
    refine List.filter_congr fun i _ => ?_
    rw [← e1, e3]
  rw [e2]
  have : ∀ (l : List Nat) (p : Nat → Bool), (l.filter fun i => !p i).length + (l.filter p).length = l.length := fun l p => by
    induction l with
    | nil => rfl
    | cons a l ih =>
      by_cases h : p a = true
      · simp [h]
        omega
      · simp [h]
        omega
  rw [this, List.length_range]
section
variable {n : Nat} {E cs L R : List Vc} {rl : RP}
def redL (rl : RP) (v : Vc) : Vc := prim (red rl v)
theorem redL_length {v : Vc} : (redL rl v).length = v.length := (prim_length _).trans (red_length _ _)
theorem ray_not (x : DD n E cs L R) {r : Vc} (hr : r ∈ R) : ¬ Span n L r := fun h => by
  obtain ⟨d, hd, hne⟩ := x.nt r hr
  exact hne (((x.lin r (x.lr r hr)).mp h).2 d hd)
theorem piv_eq (hl : IsEch n L rl) {u v l : Vc} {k t : Int} (lu : u.length = n) (lv : v.length = n) (zu : ∀ x ∈ rl, av u x.2 = 0) (zv : ∀ x ∈ rl, av v x.2 = 0) (sl : Span n L l) (e : sc k u = comb t v 1 l) : sc k u = sc t v := by
  have ll := sl.length
  have hz : isZero l := hl.e.zero (hl.span.mp sl) fun x hx => by
    have := congrArg (fun w => av w x.2) e
    simp only [av_sc] at this
    rw [av_combE lv (hl.e.R x hx).2.2.2.1, zu x hx, zv x hx] at this
    omega
  rw [e]
  exact ext_n (n := n) (by rw [comb_length, lv]) (by rw [sc_length, lv]) fun i hi => by
    rw [av_combE lv hi, av_sc, hz i]
    omega
theorem red_L (hl : IsEch n L rl) {v : Vc} (lv : v.length = n) : ∃ (g : Int) (l : Vc), 1 ≤ g ∧ Span n L l ∧ red rl v = comb g v 1 l := red_form lv fun x hx => ⟨(hl.e.R x hx).2.2.1, hl.of x hx⟩
theorem red_piv (hl : IsEch n L rl) {v : Vc} (lv : v.length = n) : ∀ x ∈ rl, av (red rl v) x.2 = 0 := fun x hx => red_zero hl.f lv x hx
theorem redL_piv (hl : IsEch n L rl) {v : Vc} (lv : v.length = n) : ∀ x ∈ rl, av (redL rl v) x.2 = 0 := fun x hx => av_prim_zero.mpr (red_piv hl lv x hx)
theorem red_mul (hl : IsEch n L rl) {v y l : Vc} {k t : Int} (hk : 0 < k) (lv : v.length = n) (ly : y.length = n) (zy : ∀ x ∈ rl, av y x.2 = 0) (py : prim y = y) (sl : Span n L l) (e : sc k v = comb t y 1 l) :
    (0 < t → redL rl v = y) ∧ (t < 0 → redL rl v = sc (-1) y) ∧ (t = 0 → isZero (red rl v)) := by
  obtain ⟨g, l1, hg, s1, f⟩ := red_L hl lv
  have lr : (red rl v).length = n := (red_length _ _).trans lv
  have e2 : sc k (red rl v) = comb (g * t) y 1 (comb g l k l1) := by
    refine ext_n (n := n) (by rw [sc_length, lr]) (by rw [comb_length, ly]) fun i hi => ?_
    have w := congrArg (fun w => av w i) e
    simp only [av_sc] at w
    rw [av_combE ly hi] at w
    rw [av_sc, f, av_combE lv hi, av_combE ly hi, av_combE sl.length hi]
    generalize av v i = X at *
    generalize av y i = Y at *
    generalize av l i = Z at *
    generalize av l1 i = W at *
    clear e f
    grind
  have e3 := piv_eq hl lr ly (red_piv hl lv) zy (.comb g k sl s1) e2
  have e4 : prim (red rl v) = prim (sc (g * t) y) := by
    rw [← e3, prim_sc (by omega)]
  refine ⟨fun ht => ?_, fun ht => ?_, fun ht => ?_⟩
  · unfold redL
    rw [e4, prim_sc (by have := Int.mul_pos (show 0 < g by omega) ht; omega), py]
  · unfold redL
    have : sc (g * t) y = sc (-1) (sc (g * -t) y) := ext_v (by rw [sc_length, sc_length, sc_length]) fun i _ => by
      rw [av_sc, av_sc, av_sc]
      generalize av y i = z
      grind
    rw [e4, this, prim_neg, prim_sc (by have := Int.mul_pos (show 0 < g by omega) (show 0 < -t by omega); omega), py]
  · subst ht
    intro i
    have := congrArg (fun w => av w i) e3
    simp only [av_sc] at this
    rw [Int.mul_zero, Int.zero_mul] at this
    exact (Int.mul_eq_zero.mp this).resolve_left (by omega)
theorem not_zero_at {v : Vc} (h : ¬ isZero v) : ∃ f, av v f ≠ 0 := Classical.byContradiction fun z => h fun i => Classical.byContradiction fun q => z ⟨i, q⟩
theorem ind_snoc (e : Ech n rl) {y : Vc} (ly : y.length = n) (zy : ∀ x ∈ rl, av y x.2 = 0) (hy : ¬ isZero y) : Ind n (rl.map (·.1) ++ [y]) := by
  obtain ⟨f, hf⟩ := not_zero_at hy
  have hfn : f < n := Classical.byContradiction fun z => hf (av_out (by omega))
  have hd : Diag (rl.map (fun x => (stp f y x.1, x.2)) ++ [(y, f)]) := by
    refine ⟨?_, fun x hx => ?_⟩
    · rw [List.pairwise_append]
      refine ⟨?_, List.pairwise_singleton .., fun x hx z hz => ?_⟩
      · rw [List.pairwise_map]
        refine e.P.imp_of_mem fun {p q} hp hq h => ⟨?_, ?_⟩
        · show av (stp f y p.1) q.2 = 0
          rw [av_stp (by rw [(e.R p hp).1]; exact (e.R q hq).2.2.2.1), h.1, zy q hq, Int.mul_zero, Int.mul_zero]
          rfl
        · show av (stp f y q.1) p.2 = 0
          rw [av_stp (by rw [(e.R q hq).1]; exact (e.R p hp).2.2.2.1), h.2, zy p hp, Int.mul_zero, Int.mul_zero]
          rfl
      · obtain ⟨p, hp, rfl⟩ := List.mem_map.mp hx
        rw [List.mem_singleton.mp hz]
        refine ⟨?_, zy p hp⟩
        show av (stp f y p.1) f = 0
        rw [av_stp (by rw [(e.R p hp).1]; exact hfn), Int.mul_comm, Int.sub_self]
    · rcases List.mem_append.mp hx with hx | hx
      · obtain ⟨p, hp, rfl⟩ := List.mem_map.mp hx
        show av (stp f y p.1) p.2 ≠ 0
        rw [av_stp (by rw [(e.R p hp).1]; exact (e.R p hp).2.2.2.1), zy p hp, Int.mul_zero, Int.sub_zero]
        have := (e.R p hp).2.2.1
        exact Int.mul_ne_zero hf (by omega)
      · rw [List.mem_singleton.mp hx]
        exact hf
  have hi := diag_ind (n := n) _ hd
  refine ind_of_span hi (fun v hv => ?_) (by simp)
  have my : Span n (rl.map (·.1) ++ [y]) y := .mem (List.mem_append_right _ (List.mem_singleton.mpr rfl)) ly
  rw [List.map_append, List.map_map] at hv
  rcases List.mem_append.mp hv with hv | hv
  · obtain ⟨p, hp, rfl⟩ := List.mem_map.mp hv
    show Span n _ (stp f y p.1)
    exact .comb _ _ (.mem (List.mem_append_left _ (List.mem_map.mpr ⟨p, hp, rfl⟩)) (e.R p hp).1) my
  · have : v = y := by simpa using hv
    rw [this]
    exact my
theorem tight_span (x : DD n E cs L R) {r v : Vc} (hr : r ∈ R) (lv : v.length = n) (vE : Eq0 n E v) (h : ∀ d ∈ cs, Dt n d r = 0 → Dt n d v = 0) : Span n (r :: L) v := by
  have lr := x.lr r hr
  obtain ⟨K, hK0, hK⟩ : ∃ K : Int, 0 ≤ K ∧ ∀ d ∈ cs, -K ≤ Dt n d v := by
    clear x h
    induction cs with
    | nil => exact ⟨0, Int.le_refl 0, fun _ h => nomatch h⟩
    | cons d cs ih =>
      obtain ⟨K, a, b⟩ := ih
      refine ⟨K + (Dt n d v).natAbs, by omega, fun e he => ?_⟩
      rcases List.mem_cons.mp he with rfl | he
      · omega
      · have := b e he
        omega
  have eD : ∀ d, Dt n d (comb K r 1 v) = K * Dt n d r + Dt n d v := fun d => by
    rw [Dt_comb lr]
    omega
  have hC : ∀ d ∈ cs, 0 ≤ Dt n d (comb K r 1 v) := fun d hd => by
    rw [eD]
    have s1 := (x.sat r hr).2 d hd
    by_cases hz : Dt n d r = 0
    · rw [hz, h d hd hz]
      omega
    · have hk := hK d hd
      have := Int.mul_le_mul_of_nonneg_left (show 1 ≤ Dt n d r by omega) hK0
      omega
  have hg := cone_tle (cs := cs) x.line0 (fun d hd r (hr : r ∈ R) => (x.sat r hr).2 d hd) (x.gen _ (by rw [comb_length, lr]) (fun e he => by
    rw [eD, (x.sat r hr).1 e he, vE e he, Int.mul_zero]
    rfl) hC)
  have mr : Span n (r :: L) r := .mem (List.mem_cons_self ..) lr
  have hs : Span n (r :: L) (comb K r 1 v) := by
    refine cone_span (L := r :: L) (R := fun q => q ∈ R ∧ tle n cs (comb K r 1 v) q) (fun q hq => ?_) (cone_trans (fun v hv => .line (span_mono hv fun b hb => List.mem_cons_of_mem _ hb)) (fun q h1 h2 => .ray h1 h2) hg)
    have : q = r := Classical.byContradiction fun z => by
      refine (x.anti_mem hq.1 hr z).2 fun d hd h0 => hq.2 d hd ?_
      rw [eD, h0, h d hd h0, Int.mul_zero]
      rfl
    rw [this]
    exact mr
  have := Span.comb 1 (-K) hs mr
  have e : comb 1 (comb K r 1 v) (-K) r = v := ext_n (n := n) (by rw [comb_length, comb_length, lr]) lv fun i hi => by
    rw [av_combE (by rw [comb_length, lr]) hi, av_combE lr hi, Int.neg_mul]
    omega
  rwa [e] at this
theorem ray_red (x : DD n E cs L R) (hl : IsEch n L rl) {r : Vc} (hr : r ∈ R) : ¬ isZero (red rl r) ∧ ¬ isZero (redL rl r) ∧ ∃ (g : Int) (l : Vc), 1 ≤ g ∧ Span n L l ∧ ∃ q : Int, 1 ≤ q ∧ sc q (redL rl r) = comb g r 1 l := by
  have lr := x.lr r hr
  obtain ⟨g, l, hg, sl, e⟩ := red_L hl lr
  have nz : ¬ isZero (red rl r) := fun z => ray_not x hr (.div (k := g) (by omega) lr (by
    have e4 : sc g r = comb (-1) l 0 l := ext_n (n := n) (by rw [sc_length, lr]) (by rw [comb_length, sl.length]) fun i hi => by
      have := z i
      rw [e, av_combE lr hi] at this
      rw [av_sc, av_combE sl.length hi]
      omega
    rw [e4]
    exact .comb _ _ sl sl))
  obtain ⟨q, hq, eq⟩ := prim_of (red rl r)
  exact ⟨nz, fun z => nz fun i => av_prim_zero.mp (z i), g, l, hg, sl, q, hq, by unfold redL; rw [← eq, e]⟩
theorem redL_sat (x : DD n E cs L R) (hl : IsEch n L rl) {r : Vc} (hr : r ∈ R) : Eq0 n E (redL rl r) ∧ (∀ d ∈ cs, 0 ≤ Dt n d (redL rl r)) ∧ ∀ d ∈ cs, (Dt n d (redL rl r) = 0 ↔ Dt n d r = 0) := by
  obtain ⟨_, _, g, l, hg, sl, q, hq, e⟩ := ray_red x hl hr
  obtain ⟨lE, lC⟩ := (x.lin l sl.length).mp sl
  have eD : ∀ d, q * Dt n d (redL rl r) = g * Dt n d r + Dt n d l := fun d => by
    have := congrArg (fun w => Dt n d w) e
    simp only [Dt_sc, Dt_comb (x.lr r hr)] at this
    omega
  refine ⟨fun d hd => ?_, fun d hd => ?_, fun d hd => ?_⟩
  · have := eD d
    rw [(x.sat r hr).1 d hd, lE d hd, Int.mul_zero] at this
    exact zero_of_mul hq this
  · have := eD d
    rw [lC d hd, Int.add_zero] at this
    exact nonneg_of_mul hq (by rw [this]; exact Int.mul_nonneg (by omega) ((x.sat r hr).2 d hd))
  · have := eD d
    rw [lC d hd, Int.add_zero] at this
    constructor
    · intro z
      rw [z, Int.mul_zero] at this
      exact zero_of_mul hg this.symm
    · intro z
      rw [z, Int.mul_zero] at this
      exact zero_of_mul hq this
theorem basis_of (x : DD n E cs L R) (hl : IsEch n L rl) {r : Vc} (hr : r ∈ R) {ch Bs : List Vc} (hch : ∀ d ∈ ch, d ∈ cs ∧ Dt n d r = 0) (hT : ∀ v : Vc, v.length = n → Eq0 n E v → (∀ d ∈ ch, Dt n d v = 0) → ∀ d ∈ cs, Dt n d r = 0 → Dt n d v = 0)
    (lB : ∀ b ∈ Bs, b.length = n) (iB : Ind n Bs) (hB : ∀ v : Vc, v.length = n → (Span n Bs v ↔ Eq0 n E v ∧ ∀ d ∈ ch, Dt n d v = 0)) :
    Bs.length = rl.length + 1 ∧ (∃ v ∈ Bs, ¬ isZero (red rl v)) ∧ (∀ v ∈ Bs, redL rl v = redL rl r ∨ redL rl v = sc (-1) (redL rl r) ∨ isZero (red rl v)) ∧ ∃ d ∈ cs, 0 < Dt n d (redL rl r) := by
  have lr := x.lr r hr
  obtain ⟨nz, nz2, g, l, hg, sl, q, hq, e⟩ := ray_red x hl hr
  obtain ⟨yE, yC, yT⟩ := redL_sat x hl hr
  have ly : (redL rl r).length = n := redL_length.trans lr
  have zy := redL_piv hl lr
  have py : prim (redL rl r) = redL rl r := prim_prim _
  -- the ray lies in the span of the reduced one and the lines
  have rY : ∀ v, Span n (r :: L) v → Span n (redL rl r :: L) v := fun v hv => hv.trans fun b hb hbl => by
    rcases List.mem_cons.mp hb with rfl | hb
    · refine .div (k := g) (by omega) hbl ?_
      have e2 : sc g b = comb q (redL rl b) (-1) l := ext_n (n := n) (by rw [sc_length, hbl]) (by rw [comb_length, ly]) fun i hi => by
        have w := congrArg (fun w => av w i) e
        simp only [av_sc] at w
        rw [av_combE lr hi] at w
        rw [av_sc, av_combE ly hi]
        omega
      rw [e2]
      exact .comb _ _ (.mem (List.mem_cons_self ..) ly) (span_mono sl fun b hb => List.mem_cons_of_mem _ hb)
    · exact .mem (List.mem_cons_of_mem _ hb) hbl
  have bY : ∀ v ∈ Bs, Span n (redL rl r :: L) v := fun v hv => by
    obtain ⟨h1, h2⟩ := (hB v (lB v hv)).mp (.mem hv (lB v hv))
    exact rY v (tight_span x hr (lB v hv) h1 (hT v (lB v hv) h1 h2))
  have toRows : ∀ v, Span n (redL rl r :: L) v → Span n (rl.map (·.1) ++ [redL rl r]) v := fun v hv => hv.trans fun b hb hbl => by
    rcases List.mem_cons.mp hb with rfl | hb
    · exact .mem (List.mem_append_right _ (List.mem_singleton.mpr rfl)) hbl
    · exact span_mono (hl.to b hb) fun z hz => List.mem_append_left _ hz
  have h1 : Bs.length ≤ rl.length + 1 := by
    have := iB (rl.map (·.1) ++ [redL rl r]) (fun v hv => by
      rcases List.mem_append.mp hv with hv | hv
      · exact ech_len hl.e v hv
      · rw [List.mem_singleton.mp hv]
        exact ly) fun v hv => toRows v (bY v hv)
    rw [List.length_append, List.length_map, List.length_singleton] at this
    exact this
  have h2 : rl.length + 1 ≤ Bs.length := by
    have := ind_snoc hl.e ly zy nz2 Bs lB fun v hv => by
      rcases List.mem_append.mp hv with hv | hv
      · obtain ⟨p, hp, rfl⟩ := List.mem_map.mp hv
        have hs := hl.of p hp
        obtain ⟨a1, a2⟩ := (x.lin p.1 hs.length).mp hs
        exact (hB p.1 hs.length).mpr ⟨a1, fun d hd => a2 d (hch d hd).1⟩
      · rw [List.mem_singleton.mp hv]
        exact (hB _ ly).mpr ⟨yE, fun d hd => (yT d (hch d hd).1).mpr (hch d hd).2⟩
    rw [List.length_append, List.length_map, List.length_singleton] at this
    exact this
  refine ⟨by omega, ?_, fun v hv => ?_, ?_⟩
  · refine Classical.byContradiction fun z => ?_
    have := iB (rl.map (·.1)) (ech_len hl.e) fun v hv => by
      have hz : isZero (red rl v) := Classical.byContradiction fun w => z ⟨v, hv, w⟩
      have lv := lB v hv
      obtain ⟨g', l', hg', sl', e'⟩ := red_L hl lv
      refine hl.span.mp (.div (k := g') (by omega) lv ?_)
      have e4 : sc g' v = comb (-1) l' 0 l' := ext_n (n := n) (by rw [sc_length, lv]) (by rw [comb_length, sl'.length]) fun i hi => by
        have := hz i
        rw [e', av_combE lv hi] at this
        rw [av_sc, av_combE sl'.length hi]
        omega
      rw [e4]
      exact .comb _ _ sl' sl'
    rw [List.length_map] at this
    omega
  · obtain ⟨k, t, l2, hk, s2, e2⟩ := span_cons ly (bY v hv)
    have hm := red_mul hl hk (lB v hv) ly zy py s2 e2
    rcases Int.lt_trichotomy t 0 with ht | ht | ht
    · exact .inr (.inl (hm.2.1 ht))
    · exact .inr (.inr (hm.2.2 ht))
    · exact .inl (hm.1 ht)
  · obtain ⟨d, hd, hne⟩ := x.nt r hr
    have := yC d hd
    exact ⟨d, hd, by have : Dt n d (redL rl r) ≠ 0 := fun z => hne ((yT d hd).mp z); omega⟩
theorem greedy {C : List Vc} (hE : ∀ e ∈ E, e.length = n) (hC : ∀ c ∈ C, c.length = n) {rE : RP} (he : IsEch n E rE) (T : Nat → Prop) : ∀ m, m ≤ C.length → ∃ (idx : List Nat) (rs : RP), idx.Pairwise (· < ·) ∧ (∀ i ∈ idx, i < m ∧ T i) ∧ IsEch n (E ++ idx.map fun i => C.getD i []) rs ∧ rs.length = rE.length + idx.length ∧ ∀ i < m, T i → Span n (E ++ idx.map fun i => C.getD i []) (C.getD i []) := by
  intro m
  induction m with
  | zero => exact fun _ => ⟨[], rE, .nil, (fun _ h => nomatch h), by simpa using he, by simp, fun _ h => absurd h (Nat.not_lt_zero _)⟩
  | succ m ih =>
    intro hm
    obtain ⟨idx, rs, h1, h2, h3, h4, h5⟩ := ih (by omega)
    have lc : (C.getD m []).length = n := by
      refine hC _ ?_
      rw [List.getD_eq_getElem?_getD, List.getElem?_eq_getElem (by omega)]
      exact List.getElem_mem _
    by_cases hT : T m ∧ ¬ Span n (E ++ idx.map fun i => C.getD i []) (C.getD m [])
    · obtain ⟨hT, hns⟩ := hT
      have ll : ∀ v ∈ E ++ (idx ++ [m]).map fun i => C.getD i [], v.length = n := fun v hv => by
        rcases List.mem_append.mp hv with hv | hv
        · exact hE v hv
        · obtain ⟨i, hi, rfl⟩ := List.mem_map.mp hv
          have him : i ≤ m := by
            rcases List.mem_append.mp hi with hi | hi
            · have := (h2 i hi).1
              omega
            · rw [List.mem_singleton.mp hi]
              exact Nat.le_refl _
          refine hC _ ?_
          rw [List.getD_eq_getElem?_getD, List.getElem?_eq_getElem (by omega)]
          exact List.getElem_mem _
      obtain ⟨rs', hr'⟩ := pure_ech ll
      have sub : ∀ b ∈ E ++ idx.map fun i => C.getD i [], b ∈ E ++ (idx ++ [m]).map fun i => C.getD i [] := fun b hb => by
        rw [List.map_append, ← List.append_assoc]
        exact List.mem_append_left _ hb
      have up : ∀ v, Span n (rs.map (·.1)) v → Span n (rs'.map (·.1)) v := fun v hv => hr'.span.mp (span_mono (h3.span.mpr hv) sub)
      have mc : Span n (rs'.map (·.1)) (C.getD m []) := hr'.to _ (by
        rw [List.map_append, ← List.append_assoc]
        exact List.mem_append_right _ (List.mem_singleton.mpr rfl))
      have g1 : rs.length < rs'.length := Classical.byContradiction fun z => hns (h3.span.mpr (span_eq_of_len h3.e hr'.e hr'.f h3.f (fun p hp => up _ (.mem (List.mem_map.mpr ⟨p, hp, rfl⟩) (h3.e.R p hp).1)) (by omega) mc))
      have g2 : rs'.length ≤ rs.length + 1 := by
        have := ech_ind hr'.e (rs.map (·.1) ++ [C.getD m []]) (fun v hv => by
          rcases List.mem_append.mp hv with hv | hv
          · exact ech_len h3.e v hv
          · rw [List.mem_singleton.mp hv]
            exact lc) fun v hv => by
          obtain ⟨p, hp, rfl⟩ := List.mem_map.mp hv
          refine (hr'.of p hp).trans fun b hb hbl => ?_
          rw [List.map_append, ← List.append_assoc] at hb
          rcases List.mem_append.mp hb with hb | hb
          · exact span_mono (h3.to b hb) fun z hz => List.mem_append_left _ hz
          · have : b = C.getD m [] := by simpa using hb
            rw [this]
            exact .mem (List.mem_append_right _ (List.mem_singleton.mpr rfl)) lc
        rw [List.length_map, List.length_append, List.length_map, List.length_singleton] at this
        exact this
      refine ⟨idx ++ [m], rs', ?_, fun i hi => ?_, hr', by rw [List.length_append, List.length_singleton]; omega, fun i hi hTi => ?_⟩
      · rw [List.pairwise_append]
        exact ⟨h1, List.pairwise_singleton .., fun a ha b hb => by
          rw [List.mem_singleton.mp hb]
          exact (h2 a ha).1⟩
      · rcases List.mem_append.mp hi with hi | hi
        · exact ⟨by have := (h2 i hi).1; omega, (h2 i hi).2⟩
        · rw [List.mem_singleton.mp hi]
          exact ⟨by omega, hT⟩
      · by_cases him : i = m
        · subst him
          exact hr'.span.mpr mc
        · exact span_mono (h5 i (by omega) hTi) sub
    · refine ⟨idx, rs, h1, fun i hi => ⟨by have := (h2 i hi).1; omega, (h2 i hi).2⟩, h3, h4, fun i hi hTi => ?_⟩
      by_cases him : i = m
      · subst him
        exact Classical.byContradiction fun z => hT ⟨hTi, z⟩
      · exact h5 i (by omega) hTi
end
structure Row (n B : Nat) (x : Vc × Nat) : Prop where
  l : x.1.length = n
  s : Small B x.1
  p : prim x.1 = x.1
  pos : 0 < av x.1 x.2
  bf : ∀ done c rest, order n = done ++ c :: rest → x.2 ∈ rest → av x.1 c = 0
theorem order_nodup (n : Nat) : (order n).Nodup := by
  cases n with
  | zero => exact List.nodup_nil
  | succ n =>
    unfold order
    rw [List.nodup_append]
    refine ⟨?_, by simp, fun a ha b hb => ?_⟩
    · refine List.Pairwise.map _ (fun a b h => ?_) (List.nodup_range (n := n))
      show 1 + a ≠ 1 + b
      omega
    · obtain ⟨i, _, rfl⟩ := List.mem_map.mp ha
      rw [List.mem_singleton.mp hb]
      omega
theorem LInv.row {n b : Nat} {left : List Vc} {rs : RP} (x : LInv n b (order n) left rs) : ∀ y ∈ rs, Row n b y := fun y hy => by
  obtain ⟨h1, h2, h3, h4, h5, pre, post, e, h6⟩ := x.R y hy
  exact ⟨h1, h2, h3, h4, fun done c rest ho hp => (h6 c (before_of (order_nodup n) e ho hp)).1⟩
def unitV (n p : Nat) : Vc := (List.range n).map fun i => if i = p then 1 else 0
def units (n : Nat) : List Vc := (List.range n).map (unitV n)
def idx (s k : Nat) : List PyData := (List.range' s k).map fun (i : Nat) => PyData.int (i : Int)
theorem rangeD_idx (k : Nat) : rangeD 0 k = idx 0 k := by
  unfold rangeD idx
  rw [List.range_eq_range']
  simp
def splitL (n : Nat) (c : Vc) : List Vc → List Vc → Option (Vc × List Vc)
  | _, [] => none
  | A, l :: B => if Dt n c l = 0 then splitL n c (A ++ [l]) B else
    let a := if 0 < Dt n c l then l else sc (-1) l
    some (a, (A ++ B).map (lv n c a))
theorem fIf_t {c : FT} {a b : F} {ρ : Rho} (h : c ρ = some true) : fIf c a b ρ = a ρ := by
  unfold fIf
  rw [h, Option.bind_some, if_pos rfl]
theorem fIf_f {c : FT} {a b : F} {ρ : Rho} (h : c ρ = some false) : fIf c a b ρ = b ρ := by
  unfold fIf
  rw [h, Option.bind_some, if_neg Bool.false_ne_true]
theorem app_l {i : Nat} {f : F} {ρ : Rho} {x : PyData} {xs : List PyData} (h : f ρ = some x) (h2 : ρ[i]? = some (some (.list xs))) (hl : xs.length ≤ 15000000) : sApp i f ρ = some (.nx (ρ.set i (some (.list (xs ++ [x]))))) := by
  unfold sApp
  rw [h, Option.bind_some, h2]
  exact if_pos (catC_le (by omega))
abbrev Ry := Vc × Nat
theorem asgG_nx {k : FG} {f : F} {ρ ρ' : Rho} {d : PyData} (h : f ρ = some d) (h2 : k d ρ = some ρ') : sAsgG k f ρ = some (.nx ρ') := by
  unfold sAsgG
  rw [h, Option.bind_some, h2] <;> rfl
section
variable {n : Nat} {c : Vc}
theorem splitL_some : ∀ {rest A : List Vc} {p : Vc × List Vc}, splitL n c A rest = some p → ∃ (A' : List Vc) (l : Vc) (B' : List Vc), A ++ rest = A' ++ l :: B' ∧ Dt n c l ≠ 0 ∧ p.1 = (if 0 < Dt n c l then l else sc (-1) l) ∧ p.2 = (A' ++ B').map (lv n c p.1)
  | [], _, _, h => by cases h
  | l :: B, A, p, h => by
    unfold splitL at h
    by_cases hz : Dt n c l = 0
    · rw [if_pos hz] at h
      obtain ⟨A', l', B', e, h2⟩ := splitL_some h
      exact ⟨A', l', B', by rw [← e, List.append_assoc] <;> rfl, h2⟩
    · rw [if_neg hz] at h
      cases h
      exact ⟨A, l, B, rfl, hz, rfl, rfl⟩
theorem split_facts {L : List Vc} {p : Vc × List Vc} (hL : ∀ l ∈ L, l.length = n) (h : splitL n c [] L = some p) :
    Span n L p.1 ∧ 0 < Dt n c p.1 ∧ (∀ l ∈ p.2, l.length = n ∧ Span n L l ∧ Dt n c l = 0) ∧ (∀ v, Span n L v → Span n (p.1 :: p.2) v) ∧ p.2.length + 1 = L.length := by
  obtain ⟨A, l, B, e, hz, h1, h2⟩ := splitL_some h
  rw [List.nil_append] at e
  obtain ⟨a, L'⟩ := p
  have h1 : a = if 0 < Dt n c l then l else sc (-1) l := h1
  have h2 : L' = (A ++ B).map (lv n c a) := h2
  have hl : l ∈ L := by rw [e]; exact List.mem_append_right _ (List.mem_cons_self ..)
  have ll := hL l hl
  have sl : Span n L l := .mem hl ll
  have hAB : ∀ v ∈ A ++ B, v ∈ L := fun v hv => by
    rw [e]
    rcases List.mem_append.mp hv with h | h
    · exact List.mem_append_left _ h
    · exact List.mem_append_right _ (List.mem_cons_of_mem _ h)
  have sa : Span n L a ∧ 0 < Dt n c a := by
    by_cases hp : 0 < Dt n c l
    · rw [if_pos hp] at h1
      rw [h1]
      exact ⟨sl, hp⟩
    · rw [if_neg hp] at h1
      rw [h1]
      refine ⟨sl.sc _, ?_⟩
      rw [Dt_sc]
      omega
  obtain ⟨sa, pa⟩ := sa
  have la := sa.length
  have lvc : ∀ v, v.length = n → (comb (Dt n c a) v (-(Dt n c v)) a).length = n := fun v hv => by rw [comb_length, hv]
  refine ⟨sa, pa, fun x hx => ?_, fun v hv => ?_, ?_⟩
  · rw [h2] at hx
    obtain ⟨v, hv, rfl⟩ := List.mem_map.mp hx
    have lv' := hL v (hAB v hv)
    refine ⟨by rw [lv_length, lv'], ?_, lv_c lv'⟩
    unfold lv
    exact (Span.prim_iff (lvc v lv')).mpr (.comb _ _ (.mem (hAB v hv) lv') sa)
  · have sa' : Span n (a :: L') a := .mem (List.mem_cons_self ..) la
    refine hv.trans fun b hb lb => ?_
    rw [e] at hb
    have key : ∀ v ∈ A ++ B, Span n (a :: L') v := fun v hv => by
      have lv' := hL v (hAB v hv)
      have hm : lv n c a v ∈ a :: L' := List.mem_cons_of_mem _ (by rw [h2]; exact List.mem_map_of_mem hv)
      have s1 : Span n (a :: L') (comb (Dt n c a) v (-(Dt n c v)) a) := (Span.prim_iff (lvc v lv')).mp (.mem hm (by
        show (lv n c a v).length = n
        rw [lv_length, lv']))
      refine .div (k := Dt n c a) (by omega) lv' ?_
      have : Law.sc (Dt n c a) v = comb 1 (comb (Dt n c a) v (-(Dt n c v)) a) (Dt n c v) a := ext_n (n := n) (by rw [sc_length, lv']) (by rw [comb_length, lvc v lv']) fun i hi => by
        rw [av_sc, av_combE (lvc v lv') hi, av_combE lv' hi]
        grind
      rw [this]
      exact .comb _ _ s1 sa'
    rcases List.mem_append.mp hb with h | h
    · exact key b (List.mem_append_left _ h)
    · rcases List.mem_cons.mp h with rfl | h
      · by_cases hp : 0 < Dt n c b
        · rw [if_pos hp] at h1
          rw [← h1]
          exact sa'
        · rw [if_neg hp] at h1
          refine .div (k := -1) (by decide) lb ?_
          rw [← h1]
          exact sa'
      · exact key b (List.mem_append_right _ h)
  · show L'.length + 1 = L.length
    rw [h2, e, List.length_map, List.length_append, List.length_append, List.length_cons]
    omega
end
theorem unitV_len {n p : Nat} : (unitV n p).length = n := by
  unfold unitV
  rw [List.length_map, List.length_range]
theorem av_unitV {n p i : Nat} (h : i < n) : av (unitV n p) i = if i = p then 1 else 0 := by
  unfold av unitV
  rw [List.getD_eq_getElem?_getD, List.getElem?_map, List.getElem?_range h] <;> rfl
theorem units_len {n : Nat} : ∀ v ∈ units n, v.length = n := fun v hv => by
  unfold units at hv
  obtain ⟨p, _, rfl⟩ := List.mem_map.mp hv
  exact unitV_len
theorem units_span {n : Nat} {v : Vc} (hl : v.length = n) : Span n (units n) v := by
  have key : ∀ k ≤ n, Span n (units n) ((List.range n).map fun i => if i < k then av v i else 0) := by
    intro k
    induction k with
    | zero =>
      intro _
      have : ((List.range n).map fun i => if i < 0 then av v i else 0) = zeros n := by
        unfold zeros
        rw [List.eq_replicate_iff]
        refine ⟨by rw [List.length_map, List.length_range], fun b hb => ?_⟩
        obtain ⟨i, _, rfl⟩ := List.mem_map.mp hb
        rfl
      rw [this]
      exact .zero
    | succ k ih =>
      intro hk
      have s1 := ih (by omega)
      have s2 : Span n (units n) (unitV n k) := .mem (by
        unfold units
        exact List.mem_map_of_mem (List.mem_range.mpr (by omega))) unitV_len
      have : ((List.range n).map fun i => if i < k + 1 then av v i else 0) = comb 1 ((List.range n).map fun i => if i < k then av v i else 0) (av v k) (unitV n k) := by
        refine ext_n (n := n) (by rw [List.length_map, List.length_range]) (by rw [comb_length, List.length_map, List.length_range]) fun i hi => ?_
        rw [av_combE (by rw [List.length_map, List.length_range]) hi, av_unitV hi]
        unfold av
        rw [List.getD_eq_getElem?_getD, List.getElem?_map, List.getElem?_range hi, List.getD_eq_getElem?_getD, List.getElem?_map, List.getElem?_range hi]
        show (if i < k + 1 then v.getD i 0 else 0) = 1 * (if i < k then v.getD i 0 else 0) + v.getD k 0 * (if i = k then 1 else 0)
        by_cases h1 : i = k
        · subst h1
          rw [if_pos (by omega), if_neg (by omega), if_pos rfl]
          omega
        · rw [if_neg h1]
          by_cases h2 : i < k
          · rw [if_pos (by omega), if_pos h2]
            omega
          · rw [if_neg (by omega), if_neg h2]
            omega
      rw [this]
      exact .comb _ _ s1 s2
  have h := key n (Nat.le_refl _)
  have e : ((List.range n).map fun i => if i < n then av v i else 0) = v := ext_n (n := n) (by rw [List.length_map, List.length_range]) hl fun i hi => by
    show List.getD _ i 0 = _
    rw [List.getD_eq_getElem?_getD, List.getElem?_map, List.getElem?_range hi]
    show (if i < n then av v i else 0) = _
    rw [if_pos hi]
  rw [e] at h
  exact h
theorem units_ind {n : Nat} : Ind n (units n) := by
  have h := diag_ind (n := n) ((List.range n).map fun p => (unitV n p, p)) ⟨?_, ?_⟩
  · rw [List.map_map] at h
    exact h
  · rw [List.pairwise_map]
    have nd : (List.range n).Pairwise (· < ·) := List.pairwise_lt_range
    have := List.Pairwise.and_mem.mp nd
    refine this.imp fun {a b} ⟨ha, hb, hab⟩ => ?_
    have ha := List.mem_range.mp ha
    have hb := List.mem_range.mp hb
    show av (unitV n a) b = 0 ∧ av (unitV n b) a = 0
    rw [av_unitV hb, av_unitV ha, if_neg (by omega), if_neg (by omega)]
    exact ⟨rfl, rfl⟩
  · intro x hx
    obtain ⟨p, hp, rfl⟩ := List.mem_map.mp hx
    have hp := List.mem_range.mp hp
    show av (unitV n p) p ≠ 0
    rw [av_unitV hp, if_pos rfl]
    decide
structure LE (n : Nat) (E L : List Vc) : Prop where
  ll : ∀ l ∈ L, l.length = n
  lin : ∀ v, v.length = n → (Span n L v ↔ Eq0 n E v)
  ind : Ind n L
theorem le_start {n : Nat} : LE n [] (units n) := ⟨units_len, fun v hv => ⟨fun _ e he => (nomatch he), fun _ => units_span hv⟩, units_ind⟩
theorem LE.dd {n : Nat} {E L : List Vc} (x : LE n E L) : DD n E [] L [] := ⟨x.ll, fun r hr => (nomatch hr), fun v hv => (x.lin v hv).trans ⟨fun h => ⟨h, fun c hc => (nomatch hc)⟩, fun h => h.1⟩, fun r hr => (nomatch hr), fun v hv h _ => .line ((x.lin v hv).mpr h), .nil, fun r hr => (nomatch hr)⟩
def cd (C : List Vc) (i : Nat) : Vc := C.getD i []
theorem take_cd {C : List Vc} {j : Nat} (h : j < C.length) : C.take (j + 1) = C.take j ++ [cd C j] := by
  unfold cd
  rw [List.take_succ, List.getElem?_eq_getElem h, List.getD_eq_getElem?_getD, List.getElem?_eq_getElem h] <;> rfl
theorem mem_take_cd {C : List Vc} {j : Nat} (hj : j ≤ C.length) {d : Vc} : d ∈ C.take j ↔ ∃ i < j, cd C i = d := by
  constructor
  · intro h
    obtain ⟨i, hi, e⟩ := List.mem_iff_getElem.mp h
    rw [List.length_take] at hi
    rw [List.getElem_take] at e
    refine ⟨i, by omega, ?_⟩
    unfold cd
    rw [List.getD_eq_getElem?_getD, List.getElem?_eq_getElem (by omega), e] <;> rfl
  · rintro ⟨i, hi, e⟩
    refine List.mem_iff_getElem.mpr ⟨i, by rw [List.length_take]; omega, ?_⟩
    rw [List.getElem_take, ← e]
    unfold cd
    rw [List.getD_eq_getElem?_getD, List.getElem?_eq_getElem (by omega)] <;> rfl
structure Tgt (n : Nat) (C : List Vc) (j : Nat) (r : Ry) : Prop where
  lt : r.2 < 2 ^ j
  bit : ∀ i < j, r.2.testBit i = decide (Dt n (cd C i) r.1 = 0)
theorem tgt_or {n : Nat} {C : List Vc} {j t : Nat} {r v : Vc} (h : Tgt n C j (r, t)) (h0 : ∀ i < j, (Dt n (cd C i) v = 0 ↔ Dt n (cd C i) r = 0)) (hc : Dt n (cd C j) v = 0) : Tgt n C (j + 1) (v, t ||| 2 ^ j) := by
  have h2 : (2 : Nat) ^ j < 2 ^ (j + 1) := Nat.pow_lt_pow_right (by decide) (by omega)
  refine ⟨Nat.or_lt_two_pow (Nat.lt_trans h.lt h2) h2, fun i hi => ?_⟩
  show (t ||| 2 ^ j).testBit i = decide (Dt n (cd C i) v = 0)
  rw [Nat.testBit_or, Nat.testBit_two_pow]
  by_cases hij : i = j
  · subst hij
    rw [decide_eq_true hc, decide_eq_true rfl, Bool.or_true]
  · rw [decide_eq_false (fun z => hij z.symm), Bool.or_false, h.bit i (by omega)]
    exact decide_eq_decide.mpr (h0 i (by omega)).symm
theorem tgt_line {n : Nat} {C : List Vc} {j : Nat} {a : Vc} (h0 : ∀ i < j, Dt n (cd C i) a = 0) (hc : Dt n (cd C j) a ≠ 0) : Tgt n C (j + 1) (a, 2 ^ j - 1) := by
  have h1 : 0 < (2 : Nat) ^ j := Nat.pow_pos (by decide)
  have h2 : (2 : Nat) ^ j < 2 ^ (j + 1) := Nat.pow_lt_pow_right (by decide) (by omega)
  refine ⟨by show 2 ^ j - 1 < _; omega, fun i hi => ?_⟩
  show (2 ^ j - 1).testBit i = decide (Dt n (cd C i) a = 0)
  rw [Nat.testBit_two_pow_sub_one]
  by_cases hij : i = j
  · subst hij
    rw [decide_eq_false hc, decide_eq_false (by omega)]
  · rw [decide_eq_true (h0 i (by omega)), decide_eq_true (by omega)]
structure Dst (n : Nat) (E C : List Vc) (j : Nat) (L : List Vc) (rs : List Ry) : Prop where
  dd : DD n E (C.take j) L (rs.map (·.1))
  tg : ∀ r ∈ rs, Tgt n C j r
section
variable {n : Nat} {E C L L0 : List Vc} {j : Nat} {rs : List Ry}
theorem Dst.ne (x : Dst n E C j L rs) : rs.Pairwise fun a b => a.1 ≠ b.1 := by
  have h := x.dd.anti
  rw [List.pairwise_map] at h
  exact h.imp fun {a b} h z => h.1 (by rw [z]; exact tle.refl)
theorem Dst.inj (x : Dst n E C j L rs) {a b : Ry} (ha : a ∈ rs) (hb : b ∈ rs) (h : a.1 = b.1) : a = b := by
  have key : ∀ (l : List Ry), l.Pairwise (fun a b => a.1 ≠ b.1) → a ∈ l → b ∈ l → a = b := by
    intro l
    induction l with
    | nil => intro _ h; cases h
    | cons y l ih =>
      intro hp h1 h2
      rw [List.pairwise_cons] at hp
      rcases List.mem_cons.mp h1 with e1 | h1 <;> rcases List.mem_cons.mp h2 with e2 | h2
      · rw [e1, e2]
      · exact absurd (by rw [← e1]; exact h) (hp.1 b h2)
      · exact absurd (by rw [← e2]; exact h.symm) (hp.1 a h1)
      · exact ih hp.2 h1 h2
  exact key rs x.ne ha hb
def lineR (n : Nat) (c : Vc) (bit : Nat) (a : Vc) (rs : List Ry) : List Ry := rs.map (fun r => (lv n c a r.1, r.2 ||| bit)) ++ [(a, bit - 1)]
theorem dst_line (x : Dst n E C j L rs) (hj : j < C.length) {p : Vc × List Vc} (h : splitL n (cd C j) [] L = some p) : Dst n E C (j + 1) p.2 (lineR n (cd C j) (2 ^ j) p.1 rs) := by
  obtain ⟨sa, pa, h2, h3, _⟩ := split_facts x.dd.ll h
  have ha : ∀ i < j, Dt n (cd C i) p.1 = 0 := fun i hi => ((x.dd.lin p.1 sa.length).mp sa).2 _ ((mem_take_cd (by omega)).mpr ⟨i, hi, rfl⟩)
  refine ⟨?_, fun r hr => ?_⟩
  · rw [take_cd hj]
    have := dd_line x.dd sa pa h2 h3
    unfold lineR
    rw [List.map_append, List.map_map]
    rw [List.map_map] at this
    exact this
  · unfold lineR at hr
    rcases List.mem_append.mp hr with hr | hr
    · obtain ⟨r', hr', rfl⟩ := List.mem_map.mp hr
      have lr := x.dd.lr r'.1 (List.mem_map_of_mem hr')
      exact tgt_or (x.tg r' hr') (fun i hi => lv_zero_iff lr pa (ha i hi)) (lv_c lr)
    · rw [List.mem_singleton.mp hr]
      exact tgt_line ha (by omega)
end
theorem Dst.start {n : Nat} {E C L : List Vc} (x : LE n E L) : Dst n E C 0 L [] := ⟨x.dd, fun r hr => (nomatch hr)⟩
theorem span_one {n : Nat} {y v : Vc} (ly : y.length = n) (h : Span n [y] v) : ∃ k t : Int, 0 < k ∧ sc k v = sc t y := by
  obtain ⟨k, t, b, hk, hb, e⟩ := span_cons ly h
  refine ⟨k, t, hk, e.trans (ext_n (n := n) (by rw [comb_length, ly]) (by rw [sc_length, ly]) fun i hi => ?_)⟩
  rw [av_combE ly hi, av_sc, span_col hb (fun y hy => nomatch hy)]
  omega
theorem prim_mul {n : Nat} {k t : Int} {v y : Vc} (hk : 0 < k) (pv : prim v = v) (py : prim y = y) (nv : ¬ isZero v) (lv : v.length = n) (e : sc k v = sc t y) : v = y ∨ v = sc (-1) y := by
  rcases Int.lt_trichotomy t 0 with ht | ht | ht
  · right
    have e2 : sc t y = sc (-1) (sc (-t) y) := ext_v (by rw [sc_length, sc_length, sc_length]) fun i _ => by
      rw [av_sc, av_sc, av_sc]
      grind
    rw [← pv, ← prim_sc (show 1 ≤ k by omega) v, e, e2, prim_neg, prim_sc (by omega), py]
  · exfalso
    refine nv fun i => ?_
    have := congrArg (fun w => av w i) e
    simp only [av_sc] at this
    rw [ht, Int.zero_mul] at this
    exact (Int.mul_eq_zero.mp this).resolve_left (by omega)
  · left
    rw [← pv, ← prim_sc (show 1 ≤ k by omega) v, e, prim_sc (by omega), py]
structure FD (n : Nat) (X : List (Vc × Nat)) : Prop where
  d : Diag X
  p : ∀ x ∈ X, prim x.1 = x.1 ∧ x.1.length = n ∧ x.2 < n
def ZF (X : List (Vc × Nat)) (r : Vc) : Prop := ∀ x ∈ X, av r x.2 = 0
theorem diag_zero {n : Nat} : ∀ {X : List (Vc × Nat)} {w : Vc}, Diag X → (∀ x ∈ X, x.1.length = n) → Span n (X.map (·.1)) w → ZF X w → isZero w
  | [], w, _, _, h, _ => fun f => span_col h fun y hy => nomatch hy
  | x :: X, w, hd, hl, h, hz => by
    obtain ⟨k, t, b, hk, hb, e⟩ := span_cons (hl x (List.mem_cons_self ..)) h
    obtain ⟨hp, hn⟩ := hd
    rw [List.pairwise_cons] at hp
    have hbx : av b x.2 = 0 := span_col hb fun y hy => by
      obtain ⟨z, hz, rfl⟩ := List.mem_map.mp hy
      exact (hp.1 z hz).2
    have lx := hl x (List.mem_cons_self ..)
    have hxn : x.2 < n := Classical.byContradiction fun z => hn x (List.mem_cons_self ..) (av_out (by omega))
    have h1 := congrArg (fun w => av w x.2) e
    simp only [av_sc] at h1
    rw [av_combE lx hxn, hz x (List.mem_cons_self ..), hbx, Int.mul_zero, Int.one_mul, Int.add_zero] at h1
    have ht : t = 0 := (Int.mul_eq_zero.mp h1.symm).resolve_right (hn x (List.mem_cons_self ..))
    have eb : ∀ i < n, k * av w i = av b i := fun i hi => by
      have := congrArg (fun w => av w i) e
      simp only [av_sc] at this
      rw [av_combE lx hi, ht] at this
      omega
    have ih := diag_zero (X := X) (w := b) ⟨hp.2, fun y hy => hn y (List.mem_cons_of_mem _ hy)⟩ (fun y hy => hl y (List.mem_cons_of_mem _ hy)) hb fun y hy => by
      by_cases hyn : y.2 < n
      · rw [← eb y.2 hyn, hz y (List.mem_cons_of_mem _ hy), Int.mul_zero]
      · exact av_out (by rw [hb.length]; omega)
    intro i
    by_cases hi : i < n
    · have := eb i hi
      rw [ih i] at this
      exact (Int.mul_eq_zero.mp this).resolve_left (by omega)
    · exact av_out (by rw [h.length]; omega)
section
variable {n k : Nat} {E cs R : List Vc} {X : List (Vc × Nat)}
theorem fd_ray_span (x : DD n E cs (X.map (·.1)) R) (f : FD n X) {r v : Vc} (hr : r ∈ R) (zr : ZF X r) (lv : v.length = n) (vE : Eq0 n E v) (h : ∀ d ∈ cs, Dt n d r = 0 → Dt n d v = 0) (zv : ZF X v) : Span n [r] v := by
  have lr := x.lr r hr
  obtain ⟨k, t, b, hk, hb, e⟩ := span_cons lr (tight_span x hr lv vE h)
  have zb : ZF X b := fun y hy => by
    have hyn := (f.p y hy).2.2
    have := congrArg (fun w => av w y.2) e
    simp only [av_sc] at this
    rw [av_combE lr hyn, zv y hy, zr y hy] at this
    omega
  have hz := diag_zero f.d (fun y hy => (f.p y hy).2.1) hb zb
  refine .div (k := k) (by omega) lv ?_
  have e2 : sc k v = comb t r 0 r := e.trans (ext_n (n := n) (by rw [comb_length, lr]) (by rw [comb_length, lr]) fun i hi => by
    rw [av_combE lr hi, av_combE lr hi, hz i]
    omega)
  rw [e2]
  exact .comb _ _ (.mem (List.mem_singleton.mpr rfl) lr) (.mem (List.mem_singleton.mpr rfl) lr)
end
theorem av_lv_zero {n i : Nat} {c a v : Vc} (lv' : v.length = n) (hi : i < n) (hv : av v i = 0) (ha : av a i = 0) : av (lv n c a v) i = 0 := by
  unfold lv
  rw [av_prim_zero, av_combE lv' hi, hv, ha, Int.mul_zero, Int.mul_zero]
  rfl
theorem av_lv_ne {n i : Nat} {c a v : Vc} (lv' : v.length = n) (hi : i < n) (hv : av v i ≠ 0) (ha : av a i = 0) (hc : Dt n c a ≠ 0) : av (lv n c a v) i ≠ 0 := by
  unfold lv
  intro z
  rw [av_prim_zero, av_combE lv' hi, ha, Int.mul_zero, Int.add_zero] at z
  exact (Int.mul_ne_zero hc hv) z
theorem lv_prim {n : Nat} {c a v : Vc} : prim (lv n c a v) = lv n c a v := prim_prim _
theorem prim_scm {v : Vc} (h : prim v = v) : prim (sc (-1) v) = sc (-1) v := by rw [prim_neg, h]
theorem diag_fst {X : List (Vc × Nat)} (h : Diag X) {A B : List (Vc × Nat)} {x : Vc × Nat} (e : X = A ++ x :: B) : (∀ y ∈ A ++ B, av y.1 x.2 = 0 ∧ av x.1 y.2 = 0) ∧ Diag (A ++ B) := by
  subst e
  obtain ⟨hp, hn⟩ := h
  rw [List.pairwise_append, List.pairwise_cons] at hp
  obtain ⟨h1, ⟨h2, h3⟩, h4⟩ := hp
  refine ⟨fun y hy => ?_, ?_, fun y hy => hn y ?_⟩
  · rcases List.mem_append.mp hy with hy | hy
    · exact h4 y hy x (List.mem_cons_self ..)
    · exact ⟨(h2 y hy).2, (h2 y hy).1⟩
  · rw [List.pairwise_append]
    exact ⟨h1, h3, fun a ha b hb => h4 a ha b (List.mem_cons_of_mem _ hb)⟩
  · rcases List.mem_append.mp hy with hy | hy
    · exact List.mem_append_left _ hy
    · exact List.mem_append_right _ (List.mem_cons_of_mem _ hy)
theorem map_fst_split {X : List (Vc × Nat)} {A B : List Vc} {l : Vc} (e : X.map (·.1) = A ++ l :: B) : ∃ (XA XB : List (Vc × Nat)) (x : Vc × Nat), X = XA ++ x :: XB ∧ XA.map (·.1) = A ∧ x.1 = l ∧ XB.map (·.1) = B := by
  obtain ⟨XA, XR, rfl, h1, h2⟩ := List.map_eq_append_iff.mp e
  obtain ⟨x, XB, rfl, h3, h4⟩ := List.map_eq_cons_iff.mp h2
  exact ⟨XA, XB, x, rfl, h1, h3, h4⟩
theorem fd_split {n : Nat} {X : List (Vc × Nat)} {c : Vc} {p : Vc × List Vc} (f : FD n X) (h : splitL n c [] (X.map (·.1)) = some p) :
    ∃ X', p.2 = X'.map (·.1) ∧ FD n X' ∧ X'.length + 1 = X.length ∧ (∀ x ∈ X', ∃ y ∈ X, y.2 = x.2) ∧ prim p.1 = p.1 ∧ p.1.length = n ∧ ZF X' p.1 ∧ Dt n c p.1 ≠ 0 ∧ ∃ l ∈ X, p.1 = l.1 ∨ p.1 = sc (-1) l.1 := by
  obtain ⟨A, l, B, e, hne, h1, h2⟩ := splitL_some h
  rw [List.nil_append] at e
  obtain ⟨XA, XB, x, eX, eA, ex, eB⟩ := map_fst_split e
  obtain ⟨hz, hd⟩ := diag_fst f.d eX
  have hx : x ∈ X := by rw [eX]; exact List.mem_append_right _ (List.mem_cons_self ..)
  obtain ⟨px, lx, nx⟩ := f.p x hx
  have hor : p.1 = x.1 ∨ p.1 = sc (-1) x.1 := by
    rw [h1, ← ex]
    split
    · exact .inl rfl
    · exact .inr rfl
  have lp : p.1.length = n := by rcases hor with h | h <;> rw [h]; exact lx; rw [sc_length, lx]
  have pp : prim p.1 = p.1 := by rcases hor with h | h <;> rw [h]; exact px; exact prim_scm px
  have zp : ∀ y ∈ XA ++ XB, av p.1 y.2 = 0 := fun y hy => by
    rcases hor with h | h <;> rw [h]
    · exact (hz y hy).2
    · rw [av_sc, (hz y hy).2, Int.mul_zero]
  have dp : Dt n c p.1 ≠ 0 := by
    rcases hor with h | h <;> rw [h]
    · rw [ex]; exact hne
    · rw [Dt_sc, ex]; omega
  have sub : ∀ y ∈ XA ++ XB, y ∈ X := fun y hy => by
    rw [eX]
    rcases List.mem_append.mp hy with hy | hy
    · exact List.mem_append_left _ hy
    · exact List.mem_append_right _ (List.mem_cons_of_mem _ hy)
  refine ⟨(XA ++ XB).map fun y => (lv n c p.1 y.1, y.2), ?_, ⟨⟨?_, fun y hy => ?_⟩, fun y hy => ?_⟩, ?_, fun y hy => ?_, pp, lp, fun y hy => ?_, dp, x, hx, hor⟩
  · rw [h2, ← eA, ← eB, ← List.map_append, List.map_map, List.map_map] <;> rfl
  · rw [List.pairwise_map]
    refine hd.1.imp_of_mem fun {a b} ha hb hab => ⟨?_, ?_⟩
    · exact av_lv_zero (f.p a (sub a ha)).2.1 (f.p b (sub b hb)).2.2 hab.1 (zp b hb)
    · exact av_lv_zero (f.p b (sub b hb)).2.1 (f.p a (sub a ha)).2.2 hab.2 (zp a ha)
  · obtain ⟨z, hz', rfl⟩ := List.mem_map.mp hy
    exact av_lv_ne (f.p z (sub z hz')).2.1 (f.p z (sub z hz')).2.2 (hd.2 z hz') (zp z hz') dp
  · obtain ⟨z, hz', rfl⟩ := List.mem_map.mp hy
    exact ⟨lv_prim, lv_length.trans (f.p z (sub z hz')).2.1, (f.p z (sub z hz')).2.2⟩
  · rw [List.length_map, eX, List.length_append, List.length_append, List.length_cons]
    omega
  · obtain ⟨z, hz', rfl⟩ := List.mem_map.mp hy
    exact ⟨z, sub z hz', rfl⟩
  · obtain ⟨z, hz', rfl⟩ := List.mem_map.mp hy
    exact zp z hz'
def ucol (n : Nat) : List (Vc × Nat) := (List.range n).map fun i => (unitV n i, i)
theorem ucol_fst {n : Nat} : (ucol n).map (·.1) = units n := by
  unfold ucol units
  rw [List.map_map] <;> rfl
theorem unitV_prim {n f : Nat} (hf : f < n) : prim (unitV n f) = unitV n f := by
  obtain ⟨g, hg, e⟩ := prim_of (unitV n f)
  have h1 := congrArg (fun w => av w f) e
  simp only [av_sc] at h1
  rw [av_unitV hf, if_pos rfl] at h1
  have hg1 : g = 1 := by
    have hd : g ∣ 1 := ⟨_, h1⟩
    have := Int.le_of_dvd (by decide) hd
    omega
  rw [hg1] at e
  refine Eq.trans ?_ e.symm
  exact ext_v (by rw [sc_length]) fun i _ => by rw [av_sc, Int.one_mul]
theorem ucol_fd {n : Nat} : FD n (ucol n) := by
  unfold ucol
  refine ⟨⟨?_, fun x hx => ?_⟩, fun x hx => ?_⟩
  · rw [List.pairwise_map]
    refine (List.nodup_range (n := n)).imp_of_mem fun {a b} ha hb hab => ⟨?_, ?_⟩
    · show av (unitV n a) b = 0
      rw [av_unitV (List.mem_range.mp hb), if_neg (Ne.symm hab)]
    · show av (unitV n b) a = 0
      rw [av_unitV (List.mem_range.mp ha), if_neg hab]
  · obtain ⟨i, hi, rfl⟩ := List.mem_map.mp hx
    show av (unitV n i) i ≠ 0
    rw [av_unitV (List.mem_range.mp hi), if_pos rfl]
    decide
  · obtain ⟨i, hi, rfl⟩ := List.mem_map.mp hx
    exact ⟨unitV_prim (List.mem_range.mp hi), unitV_len, List.mem_range.mp hi⟩
theorem pigeon {α β : Type} [BEq β] [LawfulBEq β] (P : α → β → Prop) : ∀ (l : List α) (m : List β), l.Pairwise (· ≠ ·) → (∀ x ∈ l, ∃ y ∈ m, P x y) → (∀ x ∈ l, ∀ x' ∈ l, ∀ y, P x y → P x' y → x = x') → l.length ≤ m.length
  | [], _, _, _, _ => Nat.zero_le _
  | x :: l, m, hp, h1, h2 => by
    rw [List.pairwise_cons] at hp
    obtain ⟨y, hy, hxy⟩ := h1 x (List.mem_cons_self ..)
    have := pigeon P l (m.erase y) hp.2 (fun x' hx' => by
      obtain ⟨y', hy', hxy'⟩ := h1 x' (List.mem_cons_of_mem _ hx')
      refine ⟨y', (List.mem_erase_of_ne fun z => ?_).mpr hy', hxy'⟩
      subst z
      exact hp.1 x' hx' (h2 x (List.mem_cons_self ..) x' (List.mem_cons_of_mem _ hx') y' hxy hxy')) fun a ha b hb => h2 a (List.mem_cons_of_mem _ ha) b (List.mem_cons_of_mem _ hb)
    rw [List.length_erase_of_mem hy] at this
    have := List.length_pos_of_mem hy
    rw [List.length_cons]
    omega
def sub : Nat → Nat → List (List Nat)
  | _, 0 => [[]]
  | 0, _ + 1 => []
  | j + 1, d + 1 => sub j (d + 1) ++ (sub j d).map (· ++ [j])
theorem mem_sub : ∀ (j d : Nat) (l : List Nat), l.Pairwise (· < ·) → (∀ i ∈ l, i < j) → l.length = d → l ∈ sub j d
  | j, 0, l, _, _, hl => by
    have : l = [] := List.length_eq_zero_iff.mp (by omega)
    subst this
    unfold sub
    exact List.mem_singleton.mpr rfl
  | 0, d + 1, l, _, hi, hl => by
    exfalso
    cases l with
    | nil => cases hl
    | cons a l => exact Nat.not_lt_zero _ (hi a (List.mem_cons_self ..))
  | j + 1, d + 1, l, hp, hi, hl => by
    unfold sub
    by_cases hj : j ∈ l
    · refine List.mem_append_right _ ?_
      obtain ⟨A, B, rfl⟩ := List.append_of_mem hj
      rw [List.pairwise_append, List.pairwise_cons] at hp
      have hB : B = [] := List.eq_nil_iff_forall_not_mem.mpr fun x hx => by
        have h1 := hp.2.1.1 x hx
        have h2 := hi x (List.mem_append_right _ (List.mem_cons_of_mem _ hx))
        omega
      subst hB
      rw [List.length_append, List.length_singleton] at hl
      refine List.mem_map.mpr ⟨A, mem_sub j d A hp.1 (fun i hi' => ?_) (by omega), rfl⟩
      exact hp.2.2 i hi' j (List.mem_cons_self ..)
    · refine List.mem_append_left _ (mem_sub j (d + 1) l hp (fun i hi' => ?_) hl)
      have := hi i hi'
      have : i ≠ j := fun z => hj (z ▸ hi')
      omega
section
variable {n k : Nat} {E C : List Vc} {j : Nat} {X : List (Vc × Nat)} {rs : List Ry}
theorem ray_count (hn : 0 < n) (hE : ∀ e ∈ E, e.length = n) (hC : ∀ c ∈ C, c.length = n) (hj : j ≤ C.length) (x : Dst n E C j (X.map (·.1)) rs) (f : FD n X) (hr : ∀ r ∈ rs, prim r.1 = r.1 ∧ ZF X r.1) : ∃ d, d ≤ n - 1 ∧ rs.length ≤ (sub j d).length := by
  obtain ⟨rE, ieE⟩ := pure_ech hE
  obtain ⟨rl, hl⟩ := pure_ech (n := n) (B := X.map (·.1)) x.dd.ll
  refine ⟨n - 1 - rl.length - rE.length, by omega, ?_⟩
  refine pigeon (fun (r : Ry) (l : List Nat) => (∀ i ∈ l, i < j ∧ Dt n (cd C i) r.1 = 0) ∧ ∀ i < j, Dt n (cd C i) r.1 = 0 → Span n (E ++ l.map fun i => C.getD i []) (cd C i)) rs (sub j (n - 1 - rl.length - rE.length)) ((x.ne).imp fun {a b} h z => h (by rw [z])) (fun r hr' => ?_) fun a ha b hb l h1 h2 => ?_
  · obtain ⟨idx, r2, p1, p2, p3, p4, p5⟩ := greedy hE hC ieE (fun i => Dt n (cd C i) r.1 = 0) j hj
    have hrm : r.1 ∈ rs.map (·.1) := List.mem_map_of_mem hr'
    have hsp : ∀ v : Vc, v.length = n → (Span n (nullL n r2) v ↔ Eq0 n E v ∧ ∀ d ∈ idx.map (fun i => C.getD i []), Dt n d v = 0) := fun v lv => by
      rw [nullL_span p3.e lv]
      constructor
      · intro h
        have key : ∀ b ∈ E ++ idx.map (fun i => C.getD i []), Dt n b v = 0 := fun b hb => by
          rw [Dt_comm]
          refine span_lin0 (p3.to b hb) fun z hz _ => ?_
          obtain ⟨y, hy, rfl⟩ := List.mem_map.mp hz
          rw [Dt_comm]
          exact h y hy
        exact ⟨fun e he => key e (List.mem_append_left _ he), fun d hd => key d (List.mem_append_right _ hd)⟩
      · intro h y hy
        rw [Dt_comm]
        refine span_lin0 (p3.of y hy) fun b hb _ => ?_
        rw [Dt_comm]
        rcases List.mem_append.mp hb with hb | hb
        · exact h.1 b hb
        · exact h.2 b hb
    have hb := (basis_of x.dd hl hrm (ch := idx.map fun i => C.getD i []) (Bs := nullL n r2) (fun d hd => by
      obtain ⟨i, hi, rfl⟩ := List.mem_map.mp hd
      exact ⟨(mem_take_cd hj).mpr ⟨i, (p2 i hi).1, rfl⟩, (p2 i hi).2⟩) (fun v lv vE vch d hd h0 => by
      obtain ⟨i, hi, rfl⟩ := (mem_take_cd hj).mp hd
      rw [Dt_comm]
      refine span_lin0 (p5 i hi h0) fun b hb _ => ?_
      rw [Dt_comm]
      rcases List.mem_append.mp hb with hb | hb
      · exact vE b hb
      · exact vch b hb) nullL_len (nullL_ind p3.e) hsp).1
    have hnl := nullL_length p3.e
    exact ⟨idx, mem_sub j _ idx p1 (fun i hi => (p2 i hi).1) (by omega), fun i hi => p2 i hi, p5⟩
  · refine x.inj ha hb ?_
    have ham := List.mem_map_of_mem (f := fun r : Ry => r.1) ha
    have hbm := List.mem_map_of_mem (f := fun r : Ry => r.1) hb
    have lb := x.dd.lr _ hbm
    have la := x.dd.lr _ ham
    have nzb : ¬ isZero b.1 := fun z => by
      obtain ⟨c, _, hc⟩ := x.dd.nt _ hbm
      exact hc (Dt_isZero z)
    have hs := fd_ray_span x.dd f ham (hr a ha).2 lb (x.dd.sat _ hbm).1 (fun d hd h0 => by
      obtain ⟨i, hi, rfl⟩ := (mem_take_cd hj).mp hd
      rw [Dt_comm]
      refine span_lin0 (h1.2 i hi h0) fun e he _ => ?_
      rw [Dt_comm]
      rcases List.mem_append.mp he with he | he
      · exact (x.dd.sat _ hbm).1 e he
      · obtain ⟨q, hq, rfl⟩ := List.mem_map.mp he
        exact (h2.1 q hq).2) (hr b hb).2
    obtain ⟨kk, t, hkk, e⟩ := span_one la hs
    rcases prim_mul hkk (hr b hb).1 (hr a ha).1 nzb lb e with h | h
    · exact h.symm
    · exfalso
      obtain ⟨c, hc, hne⟩ := x.dd.nt _ ham
      have s1 := (x.dd.sat _ ham).2 c hc
      have s2 := (x.dd.sat _ hbm).2 c hc
      rw [h, Dt_sc] at s2
      omega
end
structure CS (n : Nat) (E C : List Vc) (j : Nat) (X : List (Vc × Nat)) (rs : List Ry) : Prop where
  d : Dst n E C j (X.map (·.1)) rs
  f : FD n X
  r : ∀ r ∈ rs, prim r.1 = r.1 ∧ ZF X r.1
section
variable {n k : Nat} {E C : List Vc} {j : Nat} {X : List (Vc × Nat)} {rs : List Ry}
theorem CS.line (x : CS n E C j X rs) (hj : j < C.length) {p : Vc × List Vc} (h : splitL n (cd C j) [] (X.map (·.1)) = some p) : ∃ X', p.2 = X'.map (·.1) ∧ CS n E C (j + 1) X' (lineR n (cd C j) (2 ^ j) p.1 rs) ∧ X'.length + 1 = X.length ∧ prim p.1 = p.1 := by
  obtain ⟨X', e, f', l', c', pp, lp, zp, _, _⟩ := fd_split x.f h
  refine ⟨X', e, ⟨e ▸ dst_line x.d hj h, f', fun r hr => ?_⟩, l', pp⟩
  unfold lineR at hr
  rcases List.mem_append.mp hr with hr | hr
  · obtain ⟨r', hr', rfl⟩ := List.mem_map.mp hr
    refine ⟨lv_prim, fun y hy => ?_⟩
    obtain ⟨z, hz, ez⟩ := c' y hy
    exact av_lv_zero (x.d.dd.lr _ (List.mem_map_of_mem hr')) (f'.p y hy).2.2 (by rw [← ez]; exact (x.r r' hr').2 z hz) (zp y hy)
  · rw [List.mem_singleton.mp hr]
    exact ⟨pp, zp⟩
theorem CS.len (x : CS n E C j X rs) (hn : 0 < n) (hE : ∀ e ∈ E, e.length = n) (hC : ∀ c ∈ C, c.length = n) (hj : j ≤ C.length) : ∃ d, d ≤ n - 1 ∧ rs.length ≤ (sub j d).length := ray_count hn hE hC hj x.d x.f x.r
structure ES (n : Nat) (E : List Vc) (X : List (Vc × Nat)) : Prop where
  x : LE n E (X.map (·.1))
  f : FD n X
theorem ES.start : ES n [] (ucol n) := ⟨ucol_fst ▸ le_start, ucol_fd⟩
end
theorem shaped_of {d : PyData} (h : PyData.canLay0 d = true) (hd : d.depth ≤ 60) : SeqAt.shaped d = true := by
  show (PyData.canLay0 d && decide (PyData.depth d ≤ 64)) = true
  rw [h, Bool.true_and]
  exact decide_eq_true (by omega)
theorem dNe_self {d : PyData} (h : PyData.canLay0 d = true) (hd : d.depth ≤ 60) : dNe d d = some (.bool false) := by
  unfold dNe
  rw [shaped_of h hd, SeqAt.eqv_refl d h] <;> rfl
end Law
namespace DL
open PySem PySem.Spec L2
open PyProof.Rows hiding St
variable [kf : KF]
def dMin2 : PyData → PyData → Option PyData
  | .int i, .int j => some (.int (if j < i then j else i))
  | _, _ => none
abbrev rMin2' : List V → Hp → VK → Prop := fun xs H Q => ∃ i j, xs = [.int i, .int j] ∧ Q (.int (if j < i then j else i)) H
theorem cd_min2 : CallD rMin2' .cl (g2 dMin2) := by
  intro Hs H vs xs z e hv hz Q q
  obtain ⟨x, y, rfl, hz⟩ := g2_some hz
  obtain ⟨v, w, rfl, h1, h2⟩ := rdA2 hv
  cases x <;> try (cases hz; done)
  cases y <;> try (cases hz; done)
  cases hz
  rw [rd_int h1, rd_int h2]
  exact ⟨_, _, rfl, q _ Hs H (.refl e) res_int⟩
section
variable {X : Cx} {O : List Nat} {a b : Expr} {ta tb : TE} {fa fb : F} {p pos : Pos}
theorem de_min2 (hc : X.calm = true) (gl : Gl X "min") (hm : X.mg "min" = none) (ha : DE X O .rd a ta fa) (hb : DE X O .rd b tb fb) (he : starEach [a, b] X.env = (false, eval a X.env) :: starEach [b] X.env := by rfl) (he2 : starEach [b] X.env = [(false, eval b X.env)] := by rfl) (hpl : (backTo pos (starEach [b] X.env)).any (·.1) = false := by rfl) :
    DE X O .cl (.Call (.Name "min" p) [a, b] [] pos) (tCB rMin2' (tCons ta (tCons tb tNil))) (fFn (g2 dMin2) (fConsA fa (fConsA fb fNilA))) :=
  de_b (call_min2 hc) cd_min2 gl hm (by decide +kernel) (da_cons ha (da_cons hb da_nil he2) he) (he := he) (hpl := hpl)
end
end DL
namespace DL
open PySem PySem.Spec L2
open PyProof.Rows hiding St
section
variable [kf : KF]
theorem RA.app {H : Hp} {vs ws : List V} {ds es : List PyData} (h : RA H vs ds) (h2 : RA H ws es) : RA H (vs ++ ws) (ds ++ es) := h.append h2
end
variable [kf : KF]
theorem Slots.setN {O : List Nat} {ρ : Rho} {σ : St} {Hs H : Hp} {i : Nat} {w : Option V} (s : Slots O ρ σ Hs H) (h : ρ[i]? = some none) : Slots O ρ (σ.set i w) Hs H := by
  have ne : ∀ j d, ρ[j]? = some (some d) → i ≠ j := fun j d hj z => by
    rw [← z, h] at hj
    cases hj
  refine ⟨s.sub, by rw [List.length_set]; exact s.len, fun j d hj => ?_, fun j k dj dk v hn h1 h2 h3 h4 h5 => ?_⟩
  · rw [List.getElem?_set_ne (ne j d hj)]
    exact s.val j d hj
  · rw [List.getElem?_set_ne (ne j dj h3)] at h5
    rw [List.getElem?_set_ne (ne k dk h4)]
    exact s.dis j k dj dk v hn h1 h2 h3 h4 h5
structure BD (X : Cx) (O : List Nat) (i : Nat) (a : Addr) (e : Expr) (te : TE) (f : F) : Prop where
  pe : PE X e te
  ev : ∀ (ρ : Rho) (σ : St) (Hs H : Hp) (d : PyData), Slots O ρ σ Hs H → σ[i]? = some (some (.ref a)) → f ρ = some d → Ev te σ Hs H .cl d
end DL
namespace DL
open PySem PySem.Spec L2
open PyProof.Rows hiding St
variable [kf : KF]
theorem nn_seq' {G G' : FS} (h : ∀ ρ ρ', G' ρ ≠ some (.nx ρ')) : ∀ ρ ρ', sSeq G G' ρ ≠ some (.nx ρ') := fun ρ ρ' hg => by
  obtain ⟨o1, h1, h2⟩ := bind_some hg
  cases o1 with
  | nx ρ1 => exact h _ _ h2
  | rt d => cases h2
  | bk _ => cases h2
  | ct _ => cases h2
theorem StOK.keepS {ρ : Rho} {σ : St} {Hs0 H0 Hs H H' : Hp} (x : StOK [] ρ σ Hs0 H0 Hs H) (e : Same H H') : StOK [] ρ σ Hs0 H0 Hs H' := x.mono ⟨.refl _, e, x.sl.sub.trans e, fun _ h _ => h⟩
end DL
namespace DL
open PySem PySem.Spec L2
open PyProof.Rows hiding St
variable [kf : KF]
mutual
inductive Tr (H : Hp) : List Addr → V → PyData → Prop
  | sc {v : V} {d : PyData} : scalD d = true → (∀ Hs, R Hs v d) → Tr H [] v d
  | tup {a : Addr} {vs : List V} {ds : List PyData} {fp : List Addr} : H a = some (.tup vs) → TrA H fp vs ds → Tr H (a :: fp) (.ref a) (.tuple ds)
  | lst {a : Addr} {vs : List V} {ds : List PyData} {fp : List Addr} : H a = some (.lst vs) → TrA H fp vs ds → Tr H (a :: fp) (.ref a) (.list ds)
inductive TrA (H : Hp) : List Addr → List V → List PyData → Prop
  | nil : TrA H [] [] []
  | cons {v : V} {d : PyData} {vs : List V} {ds : List PyData} {f1 f2 : List Addr} : Tr H f1 v d → TrA H f2 vs ds → TrA H (f1 ++ f2) (v :: vs) (d :: ds)
end
mutual
theorem Tr.ext {H H' : Hp} : ∀ {fp : List Addr} {v : V} {d : PyData}, (∀ a ∈ fp, H' a = H a) → Tr H fp v d → Tr H' fp v d
  | _, _, _, _, .sc c h => .sc c h
  | _, _, _, e, .tup h r => .tup ((e _ (List.mem_cons_self ..)).trans h) (TrA.ext (fun a ha => e a (List.mem_cons_of_mem _ ha)) r)
  | _, _, _, e, .lst h r => .lst ((e _ (List.mem_cons_self ..)).trans h) (TrA.ext (fun a ha => e a (List.mem_cons_of_mem _ ha)) r)
theorem TrA.ext {H H' : Hp} : ∀ {fp : List Addr} {vs : List V} {ds : List PyData}, (∀ a ∈ fp, H' a = H a) → TrA H fp vs ds → TrA H' fp vs ds
  | _, _, _, _, .nil => .nil
  | _, _, _, e, .cons h r => .cons (Tr.ext (fun a ha => e a (List.mem_append_left _ ha)) h) (TrA.ext (fun a ha => e a (List.mem_append_right _ ha)) r)
end
mutual
theorem Tr.r {H : Hp} : ∀ {fp : List Addr} {v : V} {d : PyData}, Tr H fp v d → R H v d
  | _, _, _, .sc _ h => h H
  | _, _, _, .tup h r => .tup (.inl (.inl h)) (TrA.r r)
  | _, _, _, .lst h r => .lst (ls_of h) (TrA.r r)
theorem TrA.r {H : Hp} : ∀ {fp : List Addr} {vs : List V} {ds : List PyData}, TrA H fp vs ds → RA H vs ds
  | _, _, _, .nil => .nil
  | _, _, _, .cons h r => .cons (Tr.r h) (TrA.r r)
end
mutual
theorem Tr.has {H : Hp} : ∀ {fp : List Addr} {v : V} {d : PyData}, Tr H fp v d → ∀ a ∈ fp, H a ≠ none
  | _, _, _, .sc _ _, a, ha => nomatch ha
  | _, _, _, .tup h r, a, ha => by
    rcases List.mem_cons.mp ha with rfl | ha
    · rw [h]
      simp
    · exact TrA.has r a ha
  | _, _, _, .lst h r, a, ha => by
    rcases List.mem_cons.mp ha with rfl | ha
    · rw [h]
      simp
    · exact TrA.has r a ha
theorem TrA.has {H : Hp} : ∀ {fp : List Addr} {vs : List V} {ds : List PyData}, TrA H fp vs ds → ∀ a ∈ fp, H a ≠ none
  | _, _, _, .nil, a, ha => nomatch ha
  | _, _, _, .cons h r, a, ha => by
    rcases List.mem_append.mp ha with ha | ha
    · exact Tr.has h a ha
    · exact TrA.has r a ha
end
theorem Tr.mono {H H' : Hp} {fp : List Addr} {v : V} {d : PyData} (t : Tr H fp v d) (e : Same H H') : Tr H' fp v d := t.ext fun a ha => by
  cases h : H a with
  | none => exact absurd h (t.has a ha)
  | some u => exact e a u h
theorem TrA.mono {H H' : Hp} {fp : List Addr} {vs : List V} {ds : List PyData} (t : TrA H fp vs ds) (e : Same H H') : TrA H' fp vs ds := t.ext fun a ha => by
  cases h : H a with
  | none => exact absurd h (t.has a ha)
  | some u => exact e a u h
theorem TrA.snoc {H : Hp} : ∀ {fp f2 : List Addr} {vs : List V} {ds : List PyData} {v : V} {d : PyData}, TrA H fp vs ds → Tr H f2 v d → TrA H (fp ++ f2) (vs ++ [v]) (ds ++ [d])
  | _, f2, _, _, v, d, .nil, t => by
    have := TrA.cons t (.nil)
    rw [List.append_nil] at this
    exact this
  | _, f2, _, _, v, d, .cons h r, t => by
    rw [List.append_assoc]
    exact .cons h (TrA.snoc r t)
def RU (H0 Hs : Hp) (v : V) (d : PyData) : Prop := ∃ fp : List Addr, Tr Hs fp v d ∧ fp.Nodup ∧ ∀ a ∈ fp, H0 a = none
theorem RU.base {H0 H1 Hs : Hp} {v : V} {d : PyData} (e : Same H0 H1) (h : RU H1 Hs v d) : RU H0 Hs v d := by
  obtain ⟨fp, h1, h2, h3⟩ := h
  exact ⟨fp, h1, h2, fun a ha => Same.free e (h3 a ha)⟩
structure DU (X : Cx) (O : List Nat) (e : Expr) (te : TE) (f : F) : Prop where
  pe : PE X e te
  ev : ∀ (ρ : Rho) (σ : St) (Hs H : Hp) (d : PyData), Slots O ρ σ Hs H → f ρ = some d → ∀ Q : VK, (∀ v Hs' H', Gr Hs H Hs' H' → RU H Hs' v d → Q v H') → te σ H Q
theorem DU.cl_ {X : Cx} {O : List Nat} {e : Expr} {te : TE} {f : F} (h : DU X O e te f) : DE X O .cl e te f := ⟨h.pe, fun ρ σ Hs H d s hf Q q => h.ev ρ σ Hs H d s hf Q fun v Hs' H' g ⟨fp, t, _, _⟩ => q v Hs' H' g t.r⟩
end DL
namespace DL
open PySem PySem.Spec L2
open PyProof.Rows hiding St
variable [kf : KF]
omit kf in
def vAt (H : Hp) : List Int → V → Option V
  | [], v => some v
  | i :: is, v => match v with
    | .ref a => match H a with
      | some (.lst vs) => (atI vs i).bind fun u => vAt H is u
      | some (.tup vs) => (atI vs i).bind fun u => vAt H is u
      | _ => none
    | _ => none
omit kf in
def appAt : List Int → PyData → PyData → Option PyData
  | [], y, d => match d with
    | .list ds => if catC ds.length 1 = true then some (.list (ds ++ [y])) else none
    | _ => none
  | i :: is, y, d => match d with
    | .list ds => (ixN ds.length i).bind fun n => (ds[n]?).bind fun e => (appAt is y e).map fun e' => .list (ds.set n e')
    | .tuple ds => (ixN ds.length i).bind fun n => (ds[n]?).bind fun e => (appAt is y e).map fun e' => .tuple (ds.set n e')
    | _ => none
theorem TrA.at {H : Hp} : ∀ {fp : List Addr} {vs : List V} {ds : List PyData} {n : Nat} {e : PyData}, TrA H fp vs ds → ds[n]? = some e → ∃ (v : V) (f1 f2 f3 : List Addr), vs[n]? = some v ∧ fp = f1 ++ (f2 ++ f3) ∧ Tr H f2 v e ∧ ∀ (H' : Hp) (e' : PyData), (∀ a ∈ f1, H' a = H a) → (∀ a ∈ f3, H' a = H a) → Tr H' f2 v e' → TrA H' fp vs (ds.set n e')
  | _, _, _, n, e, .nil, h => by simp at h
  | _, _, _, 0, e, .cons (v := v) (f1 := f1) (f2 := f2) t r, h => by
    cases h
    exact ⟨v, [], f1, f2, rfl, rfl, t, fun H' e' _ h3 t' => .cons t' (r.ext h3)⟩
  | _, _, _, n + 1, e, .cons (v := v) (f1 := f1) (f2 := f2) t r, h => by
    obtain ⟨u, g1, g2, g3, k1, k2, k3, k4⟩ := TrA.at (n := n) r h
    refine ⟨u, f1 ++ g1, g2, g3, k1, by rw [k2, List.append_assoc], k3, fun H' e' h1 h3 t' => ?_⟩
    exact .cons (t.ext fun a ha => h1 a (List.mem_append_left _ ha)) (k4 H' e' (fun a ha => h1 a (List.mem_append_right _ ha)) h3 t')
theorem TrA.length {H : Hp} {fp : List Addr} {vs : List V} {ds : List PyData} (t : TrA H fp vs ds) : vs.length = ds.length := t.r.length
theorem Tr.app {H : Hp} {w : V} {y : PyData} (c : scalD y = true) (hy : ∀ Hs, R Hs w y) : ∀ (is : List Int) {fp : List Addr} {v : V} {d d' : PyData}, Tr H fp v d → fp.Nodup → appAt is y d = some d' → ∃ (b : Addr) (vs : List V), vAt H is v = some (.ref b) ∧ b ∈ fp ∧ H b = some (.lst vs) ∧ vs.length + 1 ≤ 16000000 ∧ Tr (upd H b (.lst (vs ++ [w]))) fp v d'
  | [], fp, v, d, d', t, nd, h => by
    cases t with
    | sc c1 _ =>
      unfold appAt at h
      cases d <;> first | cases h | cases c1
    | tup _ _ => cases h
    | @lst a vs ds fp h1 r =>
      obtain ⟨c2, rfl⟩ := if_some (show (if catC ds.length 1 = true then some (PyData.list (ds ++ [y])) else none) = some d' from h)
      have nd := List.nodup_cons.mp nd
      refine ⟨a, vs, rfl, List.mem_cons_self .., h1, ?_, .lst upd_same ?_⟩
      · rw [r.length]
        exact of_decide_eq_true (p := ds.length + 1 ≤ 16000000) c2
      · have r2 : TrA (upd H a (.lst (vs ++ [w]))) fp vs ds := r.ext fun x hx => upd_ne (show x ≠ a from fun z => nd.1 (z ▸ hx))
        have := TrA.snoc r2 (.sc c hy)
        rw [List.append_nil] at this
        exact this
  | i :: is, fp, v, d, d', t, nd, h => by
    cases t with
    | sc c1 _ =>
      unfold appAt at h
      cases d <;> first | cases h | cases c1
    | @tup a vs ds fp h1 r =>
      have nd := List.nodup_cons.mp nd
      obtain ⟨n, hn, h⟩ := bind_some (show (ixN ds.length i).bind (fun n => (ds[n]?).bind fun e => (appAt is y e).map fun e' => PyData.tuple (ds.set n e')) = some d' from h)
      obtain ⟨e, he, h⟩ := bind_some h
      obtain ⟨e', he', rfl⟩ := Option.map_eq_some_iff.mp h
      obtain ⟨u, f1, f2, f3, k1, rfl, k3, k4⟩ := r.at he
      have n2 := List.nodup_append.mp nd.2
      have n3 := List.nodup_append.mp n2.2.1
      obtain ⟨b, ws, m1, m2, m3, m4, m5⟩ := Tr.app c hy is k3 n3.1 he'
      refine ⟨b, ws, ?_, List.mem_cons_of_mem _ (List.mem_append_right _ (List.mem_append_left _ m2)), m3, m4, .tup (vs := vs) ?_ ?_⟩
      · show (match H a with | some (.lst vs) => (atI vs i).bind fun u => vAt H is u | some (.tup vs) => (atI vs i).bind fun u => vAt H is u | _ => none) = _
        rw [h1]
        show (atI vs i).bind _ = _
        unfold atI
        rw [r.length, hn, Option.bind_some, k1, Option.bind_some, m1]
      · rw [upd_ne (show a ≠ b from fun z => nd.1 (z ▸ List.mem_append_right _ (List.mem_append_left _ m2)))]
        exact h1
      · refine k4 _ e' (fun x hx => upd_ne fun z => ?_) (fun x hx => upd_ne fun z => ?_) m5
        · exact n2.2.2 x hx b (List.mem_append_left _ m2) z
        · exact n3.2.2 b m2 x hx z.symm
    | @lst a vs ds fp h1 r =>
      have nd := List.nodup_cons.mp nd
      obtain ⟨n, hn, h⟩ := bind_some (show (ixN ds.length i).bind (fun n => (ds[n]?).bind fun e => (appAt is y e).map fun e' => PyData.list (ds.set n e')) = some d' from h)
      obtain ⟨e, he, h⟩ := bind_some h
      obtain ⟨e', he', rfl⟩ := Option.map_eq_some_iff.mp h
      obtain ⟨u, f1, f2, f3, k1, rfl, k3, k4⟩ := r.at he
      have n2 := List.nodup_append.mp nd.2
      have n3 := List.nodup_append.mp n2.2.1
      obtain ⟨b, ws, m1, m2, m3, m4, m5⟩ := Tr.app c hy is k3 n3.1 he'
      refine ⟨b, ws, ?_, List.mem_cons_of_mem _ (List.mem_append_right _ (List.mem_append_left _ m2)), m3, m4, .lst (vs := vs) ?_ ?_⟩
      · show (match H a with | some (.lst vs) => (atI vs i).bind fun u => vAt H is u | some (.tup vs) => (atI vs i).bind fun u => vAt H is u | _ => none) = _
        rw [h1]
        show (atI vs i).bind _ = _
        unfold atI
        rw [r.length, hn, Option.bind_some, k1, Option.bind_some, m1]
      · rw [upd_ne (show a ≠ b from fun z => nd.1 (z ▸ List.mem_append_right _ (List.mem_append_left _ m2)))]
        exact h1
      · refine k4 _ e' (fun x hx => upd_ne fun z => ?_) (fun x hx => upd_ne fun z => ?_) m5
        · exact n2.2.2 x hx b (List.mem_append_left _ m2) z
        · exact n3.2.2 b m2 x hx z.symm
end DL
namespace DL
open PySem PySem.Spec L2
open PyProof.Rows hiding St
variable [kf : KF]
structure MT (i : Nat) (ρ : Rho) (σ : St) (Hs0 H0 Hs H : Hp) : Prop where
  x : StOK [] ρ σ Hs0 H0 Hs H
  b : ∃ (v : V) (d : PyData) (fp : List Addr) (HsB : Hp), σ[i]? = some (some v) ∧ ρ[i]? = some (some d) ∧ Tr Hs fp v d ∧ fp.Nodup ∧ (∀ a ∈ fp, HsB a = none ∧ H0 a = none) ∧ Same HsB Hs ∧ StOK [] (ρ.set i none) σ Hs0 H0 HsB H
theorem MT.mono {i : Nat} {ρ : Rho} {σ : St} {Hs0 H0 Hs H Hs' H' : Hp} (m : MT i ρ σ Hs0 H0 Hs H) (g : Gr Hs H Hs' H') : MT i ρ σ Hs0 H0 Hs' H' := by
  obtain ⟨x, v, d, fp, HsB, k1, k2, k3, k4, k5, k6, k7⟩ := m
  exact ⟨x.mono g, v, d, fp, HsB, k1, k2, k3.mono g.s, k4, k5, k6.trans g.s, k7.keepS g.h⟩
end DL
namespace DL
open PySem PySem.Spec L2
open PyProof.Rows hiding St
variable [kf : KF]
structure DEX (X : Cx) (Wx : WX) (O : List Nat) (m : Md) (e : Expr) (te : TE) (f : F) (fx : GXs) : Prop where
  de : DE X O m e te f
  ex : ∀ (ρ : Rho) (σ : St) (Hs H : Hp) (n : Str), Slots O ρ σ Hs H → fx ρ = some n → ∀ Q : VK, (∀ (C : Addr) (Hs' H' : Hp), X.mg n = some (.ref C) → Gr Hs H Hs' H' → Wx (.ref C) none σ H') → te σ H Q
section
variable {X : Cx} {Wx : WX} {m : Md} {OB O O' W : List Nat} {e : Expr} {te : TE} {f : F} {fx : GXs} {pos : Pos}
def xCall (FX : List PyData → Option Str) (fs : FA) : GXs := fun ρ => (fs ρ).bind FX
theorem dex_call {k nn : Nat} {fa : Addr} {fd : FuncData} {ps : List Str} {Fn : List PyData → Option PyData} {FX : List PyData → Option Str} {x : Str} {p pos : Pos} {e : Expr} {es : List Expr} {t : TA} {fs : FA} (F : FnG X.prog X.w X.K X.mg X.base (L2.CX X.prog X.w) k fa fd ps (spX nn m Fn FX X.mg)) (ga : GA k X.A)
    (hm : X.mg x = some (.ref fa)) (hk : PySem.W.keepIn X.K (.ref fa) = true) (hb : Binds X.K fd ps []) (tk : Takes X Wx) (ha : DAc X O (e :: es) t fs) (hlen : (e :: es).length = nn) (hfs : ∀ ρ ds, fs ρ = some ds → ds.length = (e :: es).length) (hg : Gl X x := by rfl)
    (hdb : (x == ("__debug__" : Str)) = false := by decide) (he : starEach (e :: es) X.env = (false, eval e X.env) :: starEach es X.env := by rfl) (hpl : (backTo pos (starEach es X.env)).any (·.1) = false := by rfl) :
    DEX X Wx O m (.Call (.Name x p) (e :: es) [] pos) (tCallS (spX nn m Fn FX X.mg) (WE Wx) t) (fFn Fn fs) (xCall FX fs) :=
  ⟨⟨pe_callSG F ga hg hm hk hb (fun σ => passAt tk σ) ha.pa hdb he hpl, fun ρ σ Hs H d s h Q q => by
    obtain ⟨xs, hxs, h⟩ := bind_some h
    refine ha.ev ρ σ Hs H xs s hxs _ fun vs Hs1 H1 g1 r1 => ?_
    exact ⟨xs, Hs1, (hfs ρ xs hxs).trans hlen, g1.sub, r1, .inl ⟨d, h, fun v Hs2 H2 g2 r2 => q v Hs2 H2 (g1.trans g2) (r2.back g1.h)⟩⟩⟩, fun ρ σ Hs H n s h Q q => by
    obtain ⟨xs, hxs, h⟩ := bind_some h
    refine ha.ev ρ σ Hs H xs s hxs _ fun vs Hs1 H1 g1 r1 => ?_
    exact ⟨xs, Hs1, (hfs ρ xs hxs).trans hlen, g1.sub, r1, .inr ⟨n, h, fun C Hs2 H2 hC g2 => q C Hs2 H2 hC (g1.trans g2)⟩⟩⟩
theorem dx_drop (h : DEX X Wx O .cl e te f fx) (hs : swapsWith e none pos.line X.env = pure false := by rfl) : DX X m OB O O [] (.Expr e pos) (tDrop te) (sDrop f) Wx fx := ⟨ds_drop h.de hs, fun ρ σ Hs0 H0 Hs H D n x hg q => h.ex ρ σ Hs H n x.sl hg _ fun C Hs' H' hC g => q C σ Hs' H' hC (x.gr.trans g)⟩
theorem dx_ret (h : DEX X Wx O m e te f fx) (hd : DE X O m e te f → DS X m OB O O' [] (.Return (some e) pos) (tRet te) (sRet f)) : DX X m OB O O' [] (.Return (some e) pos) (tRet te) (sRet f) Wx fx := ⟨hd h.de, fun ρ σ Hs0 H0 Hs H D n x hg q => h.ex ρ σ Hs H n x.sl hg _ fun C Hs' H' hC g => q C σ Hs' H' hC (x.gr.trans g)⟩
end
def xLoop (k : FG) (B : FS) (BX : GXs) : List PyData → GXs
  | [], _ => none
  | d :: ds, ρ => match k d ρ with
    | none => none
    | some ρ1 => match BX ρ1 with
      | some n => some n
      | none => (B ρ1).bind fun o => match o with
        | .nx ρ2 => xLoop k B BX ds ρ2
        | .ct ρ2 => xLoop k B BX ds ρ2
        | _ => none
def xFor (src : FA) (k : FG) (B : FS) (BX : GXs) : GXs := fun ρ => (src ρ).bind fun ds => xLoop k B BX ds ρ
theorem dx_for {X : Cx} {Wx : WX} {m : Md} {OB O W : List Nat} {pos : Pos} {tg iter : Expr} {body : List Stmt} {wi : TI} {g : TG} {tb : TS} {src : FA} {k : FG} {B : FS} {BX : GXs} {js : List Nat} (hp : PassesOwn (model X.prog X.w) X.A X.env X.xe) (hc : X.calm = true) (hi : DI X O tg iter wi src) (hg : DG X O tg g k js) (hb : DXs X m O O O W body tb B Wx BX)
    (hs : ∀ x, foldedSetIterable iter X.env x = pure x := by intro _; rfl) : DX X m OB O O (js ++ W) (.For tg iter body [] pos) (tFor wi g tb) (sFor src k B) Wx (xFor src k B BX) := ⟨ds_for hp hc hi hg hb.ds hs, fun ρ σ Hs0 H0 Hs H D n x hx q => by
  obtain ⟨ds, hds, hl⟩ := bind_some hx
  refine hi.ev ρ σ Hs H ds x.sl hds _ fun J Hs1 H1 g1 giv => ?_
  refine ⟨fun i l σ' K => l = ds.length - i ∧ i ≤ ds.length ∧ ∃ (Ks : Hp) (ρ' : Rho), StOK O ρ' σ' Hs0 H0 Ks K ∧ Same Hs1 Ks ∧ xLoop k B BX (ds.drop i) ρ' = some n, ⟨ds.length, by simp, Nat.zero_le _, Hs1, ρ, x.mono g1, .refl _, hl⟩, ?_⟩
  rintro i l σ' K ⟨rfl, hle, Ks, ρ', x', e1, hl'⟩
  by_cases hlt : i < ds.length
  · have hdrop : ds.drop i = ds[i] :: ds.drop (i + 1) := List.drop_eq_getElem_cons hlt
    rw [hdrop] at hl'
    unfold xLoop at hl'
    cases hk : k ds[i] ρ' with
    | none =>
      rw [hk] at hl'
      cases hl'
    | some ρ1 =>
      rw [hk] at hl'
      dsimp only at hl'
      refine .inr ⟨giv.go i Ks K e1 x'.sl.sub hlt, fun σ2 K2 => ∃ (Ks : Hp) (ρ' : Rho), StOK O ρ' σ2 Hs0 H0 Ks K2 ∧ Same Hs1 Ks ∧ xLoop k B BX (ds.drop (i + 1)) ρ' = some n, fun σ2 K2 hN => ⟨ds.length - (i + 1), by omega, rfl, by omega, hN⟩, fun v K' hy => ?_⟩
      obtain ⟨Ks', g2, rx⟩ := giv.yld i Ks K v K' e1 x'.sl.sub hy ds[i] (List.getElem?_eq_getElem hlt)
      refine hg.ev _ v ρ' ρ1 σ' Ks' K' (x'.sl.mono g2) rx hk _ fun σ2 s2 l2 out2 => ?_
      have x2 := (x'.mono g2).tgt hg.ho s2 out2
      have gb : Gr Hs0 H0 Hs1 H1 := x.gr.trans g1
      have e2 : Same Hs1 Ks' := e1.trans g2.s
      cases hB : BX ρ1 with
      | some n' =>
        rw [hB] at hl'
        cases hl'
        exact hb.ex ρ1 σ2 Hs1 (joinH H0 Hs1) Ks' K' _ n (x2.rebase gb e2) hB fun C σ3 Hs3 H3 hC g3 => q C σ3 Hs3 H3 hC ((gr_join gb).trans g3)
      | none =>
        rw [hB] at hl'
        obtain ⟨o1, hB1, hl'⟩ := bind_some hl'
        refine hb.ds.ev ρ1 σ2 Hs1 (joinH H0 Hs1) Ks' K' _ o1 (x2.rebase gb e2) hB1 ?_
        cases o1 with
        | nx ρ2 => exact fun σ3 Hs3 H3 y f => ⟨Hs3, ρ2, StOK.unbase gb y, y.gr.s, hl'⟩
        | ct ρ2 => exact fun σ3 Hs3 H3 y f => ⟨Hs3, ρ2, StOK.unbase gb y, y.gr.s, hl'⟩
        | bk ρ2 => cases hl'
        | rt d => cases hl'
  · rw [List.drop_eq_nil_of_le (by omega)] at hl'
    cases hl'⟩
end DL
namespace DL
open PySem PySem.Spec L2
open PyProof.Rows hiding St
variable [kf : KF]
section
variable {X : Cx} {Wx : WX} {m : Md} {OB O O' W : List Nat} {e : Expr} {es : List Expr} {te : TE} {f : F} {fx : GXs} {pos : Pos} {ta : TA} {fr : FA}
theorem dx_asgG {st : Stmt} {g : TG} {k : FG} (h : DEX X Wx O .cl e te f fx) (hd : DE X O .cl e te f → DS X m OB O O' W st (tAsg te g) (sAsgG k f)) : DX X m OB O O' W st (tAsg te g) (sAsgG k f) Wx fx := ⟨hd h.de, fun ρ σ Hs0 H0 Hs H D n x hg q => h.ex ρ σ Hs H n x.sl hg _ fun C Hs' H' hC g => q C σ Hs' H' hC (x.gr.trans g)⟩
end
theorem StOK.setN {O : List Nat} {ρ : Rho} {σ : St} {Hs0 H0 Hs H : Hp} {i : Nat} {w : Option V} (s : StOK O ρ σ Hs0 H0 Hs H) (h : ρ[i]? = some none) : StOK O ρ (σ.set i w) Hs0 H0 Hs H :=
  ⟨s.sl.setN h, s.gr, fun j hj d hd => by
    obtain ⟨a, h1, h2⟩ := s.new j hj d hd
    refine ⟨a, ?_, h2⟩
    rw [List.getElem?_set_ne (fun z => by rw [← z, h] at hd; cases hd)]
    exact h1⟩
end DL
namespace DL
open PySem PySem.Spec L2
open PyProof.Rows hiding St
variable [kf : KF]
def RN (Hs : Hp) (v : V) (d : PyData) : Prop := ∃ fp : List Addr, Tr Hs fp v d ∧ fp.Nodup
theorem RN.mono {Hs Hs' : Hp} {v : V} {d : PyData} (e : Same Hs Hs') (h : RN Hs v d) : RN Hs' v d := by
  obtain ⟨fp, t, n⟩ := h
  exact ⟨fp, t.mono e, n⟩
theorem RN.r {Hs : Hp} {v : V} {d : PyData} (h : RN Hs v d) : R Hs v d := by
  obtain ⟨fp, t, n⟩ := h
  exact t.r
def UN (i : Nat) (ρ : Rho) (σ : St) (Hs : Hp) : Prop := ∃ v d, σ[i]? = some (some v) ∧ ρ[i]? = some (some d) ∧ RN Hs v d
section
variable {X : Cx} {i : Nat} {st : Stmt} {rest s1 s2 : List Stmt} {t u te : TS} {G G' : FS} {c : Expr} {tc : TT} {ft : FT} {pos : Pos}
theorem UN.len {ρ : Rho} {σ : St} {Hs : Hp} (h : UN i ρ σ Hs) : i < ρ.length := by
  obtain ⟨v, d, _, k2, _⟩ := h
  exact (List.getElem?_eq_some_iff.mp k2).1
end
theorem scalR_kS {v : V} {d : PyData} (h : scalD d = true) (r : ∀ Hs, @R kS Hs v d) : ∀ Hs, R Hs v d := fun Hs => RS.up (r Hs)
mutual
theorem Tr.up {H : Hp} : ∀ {fp : List Addr} {v : V} {d : PyData}, @Tr kS H fp v d → Tr H fp v d
  | _, _, _, @Tr.sc kS _ _ _ c h => .sc c (scalR_kS c h)
  | _, _, _, @Tr.tup kS _ _ _ _ _ h r => .tup h (TrA.up r)
  | _, _, _, @Tr.lst kS _ _ _ _ _ h r => .lst h (TrA.up r)
theorem TrA.up {H : Hp} : ∀ {fp : List Addr} {vs : List V} {ds : List PyData}, @TrA kS H fp vs ds → TrA H fp vs ds
  | _, _, _, @TrA.nil kS _ => .nil
  | _, _, _, @TrA.cons kS _ _ _ _ _ _ _ h r => .cons (Tr.up h) (TrA.up r)
end
end DL
namespace DL
open PySem PySem.Spec L2
open PyProof.Rows hiding St
variable [kf : KF]
def scRt (G : FS) : Prop := ∀ ρ d, G ρ = some (.rt d) → scalD d = true
theorem noRt.sc {G : FS} (h : noRt G) : scRt G := fun ρ d e => absurd e (h ρ d)
theorem nr_err' : noRt sErr := fun ρ d h => by cases h
end DL
namespace DL
open PySem PySem.Spec L2
open PyProof.Rows hiding St
variable [kf : KF]
open Classical in
noncomputable def addH (A H : Hp) (fp : List Addr) : Hp := fun b => if b ∈ fp then H b else A b
end DL
namespace DL
open PySem PySem.Spec L2
open PyProof.Rows hiding St
variable [kf : KF]
def MI : List Nat → List Nat → Rho → St → Hp → Hp → Hp → Prop
  | [], O, ρ, σ, Hs0, H0, H => ∃ Hs, StOK O ρ σ Hs0 H0 Hs H
  | i :: I, O, ρ, σ, Hs0, H0, H => ∃ (v : V) (d : PyData) (fp : List Addr), σ[i]? = some (some v) ∧ ρ[i]? = some (some d) ∧ Tr H fp v d ∧ fp.Nodup ∧ (∀ a ∈ fp, H0 a = none ∧ Hs0 a = none) ∧ MI I O (ρ.set i none) σ Hs0 (addH H0 H fp) H
theorem Slots.any {ρ : Rho} {σ : St} {Hs H H' : Hp} (s : Slots [] ρ σ Hs H) (e : Same Hs H') : Slots [] ρ σ Hs H' := ⟨e, s.len, fun i d h => by
  obtain ⟨v, h1, _, h3⟩ := s.val i d h
  exact ⟨v, h1, fun z => Bool.noConfusion (show false = true from z), h3⟩, s.dis⟩
section
variable {X : Cx} {i j : Nat} {I I' I1 O O' O1 W W' : List Nat} {st : Stmt} {rest s1 s2 : List Stmt} {t u : TS} {G G' : FS} {pos : Pos}
theorem MI.frz (j : Nat) : ∀ {I O : List Nat} {ρ : Rho} {σ : St} {Hs0 H0 H : Hp}, MI I O ρ σ Hs0 H0 H → MI I (del j O) ρ σ Hs0 H0 H
  | [], _, _, _, _, _, _, ⟨Hs, x⟩ => x.freeze j
  | _ :: _, _, _, _, _, _, _, ⟨v, d, fp, k1, k2, k3, k4, k5, k⟩ => ⟨v, d, fp, k1, k2, k3, k4, k5, MI.frz j k⟩
end
end DL
namespace DL
open PySem PySem.Spec L2
open PyProof.Rows hiding St
variable [kf : KF]
open Classical in
noncomputable def outF (H : Hp) (fp : List Addr) : Hp := fun b => if b ∈ fp then none else H b
omit kf in
theorem outF_in {H : Hp} {fp : List Addr} {b : Addr} (h : b ∈ fp) : outF H fp b = none := if_pos h
omit kf in
theorem outF_out {H : Hp} {fp : List Addr} {b : Addr} (h : b ∉ fp) : outF H fp b = H b := if_neg h
end DL
namespace DL
open PySem PySem.Spec L2
open PyProof.Rows hiding St
variable [kf : KF]
def lc2F (k : FG) (t : FT) (src1 : FA) (k1 : FG) (t1 : FT) (el : F) (vs1 : List Nat) (ρ : Rho) : List PyData → Option (List PyData)
  | [] => some []
  | d :: ds => (k d ρ).bind fun ρ1 => (t ρ1).bind fun b => if b = true then (src1 ρ1).bind fun es => (lcF k1 t1 el (wipeR ρ1 vs1) es).bind fun xs => (lc2F k t src1 k1 t1 el vs1 ρ ds).map (xs ++ ·) else lc2F k t src1 k1 t1 el vs1 ρ ds
def fLc2 (src : FA) (k : FG) (t : FT) (src1 : FA) (k1 : FG) (t1 : FT) (el : F) (vs vs1 : List Nat) : F := fun ρ => (src ρ).bind fun ds => (lc2F k t src1 k1 t1 el vs1 (wipeR ρ vs) ds).bind fun xs => if catC xs.length 0 = true then some (.list xs) else none
theorem Slots.later {ρ : Rho} {σ : St} {Kb Hb Ks K : Hp} (s : Slots [] ρ σ Kb Hb) (e : Same Kb Ks) (e2 : Same Ks K) : Slots [] ρ σ Ks K :=
  (s.any (.refl Kb)).mono ⟨e, e.trans e2, e2, fun a h1 h2 => absurd h1 h2⟩
theorem ev_lc2 {wi wi1 : TI} {g g1 : TG} {tt tt1 : TT} {te : TE} {vs vs1 js js1 : List Nat} {k k1 : FG} {t t1 : FT} {el : F} {src src1 : FA}
    (hi : ∀ (ρ : Rho) (σ : St) (Hs H : Hp) (ds : List PyData), Slots [] ρ σ Hs H → src ρ = some ds → ∀ Q : It → Hp → Prop, (∀ J Hs' H', Gr Hs H Hs' H' → Gives J ds Hs' → Q J H') → wi σ H Q)
    (hg : ∀ (d : PyData) (x : V) (ρ ρ' : Rho) (σ : St) (Hs H : Hp), Slots [] ρ σ Hs H → R Hs x d → k d ρ = some ρ' → ∀ Q : St → Hp → Prop, (∀ σ', Slots [] ρ' σ' Hs H → σ'.length = σ.length → (∀ j, j ∉ js → σ'[j]? = σ[j]? ∧ ρ'[j]? = ρ[j]?) → Q σ' H) → g x σ H Q)
    (ht : ∀ (ρ : Rho) (σ : St) (Hs H : Hp) (b : Bool), Slots [] ρ σ Hs H → t ρ = some b → EvT tt σ Hs H b)
    (hi1 : ∀ (ρ : Rho) (σ : St) (Hs H : Hp) (ds : List PyData), Slots [] ρ σ Hs H → src1 ρ = some ds → ∀ Q : It → Hp → Prop, (∀ J Hs' H', Gr Hs H Hs' H' → Gives J ds Hs' → Q J H') → wi1 σ H Q)
    (hg1 : ∀ (d : PyData) (x : V) (ρ ρ' : Rho) (σ : St) (Hs H : Hp), Slots [] ρ σ Hs H → R Hs x d → k1 d ρ = some ρ' → ∀ Q : St → Hp → Prop, (∀ σ', Slots [] ρ' σ' Hs H → σ'.length = σ.length → (∀ j, j ∉ js1 → σ'[j]? = σ[j]? ∧ ρ'[j]? = ρ[j]?) → Q σ' H) → g1 x σ H Q)
    (ht1 : ∀ (ρ : Rho) (σ : St) (Hs H : Hp) (b : Bool), Slots [] ρ σ Hs H → t1 ρ = some b → EvT tt1 σ Hs H b)
    (he : ∀ (ρ : Rho) (σ : St) (Hs H : Hp) (d : PyData), Slots [] ρ σ Hs H → el ρ = some d → Ev te σ Hs H .cl d) (hj : ∀ j ∈ js, j ∈ vs) (hj1 : ∀ j ∈ js1, j ∈ vs1)
    {ρ : Rho} {σ : St} {Hs H : Hp} {d : PyData} (s : Slots [] ρ σ Hs H) (h : fLc2 src k t src1 k1 t1 el vs vs1 ρ = some d) : Ev (tLc2 wi g tt wi1 g1 tt1 te vs vs1) σ Hs H .ow d := fun Q q => by
  obtain ⟨ds, hds, h⟩ := bind_some h
  obtain ⟨xs, hxs, h⟩ := bind_some h
  obtain ⟨c, rfl⟩ := if_some h
  have hc16 : xs.length ≤ 16000000 := by
    have := of_decide_eq_true (p := xs.length + 0 ≤ 16000000) c
    omega
  refine hi ρ σ Hs H ds s hds _ fun J Hs1 H1 gr1 giv D hD => ?_
  have s1 := s.mono gr1
  refine ⟨fun i m K => m = ds.length - i ∧ i ≤ ds.length ∧ ∃ (Ks : Hp) (acc : List V) (done rest : List PyData), Gr Hs1 H1 Ks K ∧ Ks D = none ∧ K D = some (.lst acc) ∧ RA Ks acc done ∧
    lc2F k t src1 k1 t1 el vs1 (wipeR ρ vs) (ds.drop i) = some rest ∧ done ++ rest = xs, ⟨ds.length, by simp, Nat.zero_le _, Hs1, [], [], xs, Gr.own gr1.sub hD, Same.free gr1.sub hD, upd_same, .nil, hxs, rfl⟩, ?_⟩
  rintro i m K ⟨rfl, hle, Ks, acc, done, rest, gr2, nD, eD, ra, hrest, hall⟩
  by_cases hlt : i < ds.length
  · have hdrop : ds.drop i = ds[i] :: ds.drop (i + 1) := List.drop_eq_getElem_cons hlt
    rw [hdrop] at hrest
    obtain ⟨ρ1, hk1, hrest⟩ := bind_some hrest
    obtain ⟨b, hb, hrest⟩ := bind_some hrest
    refine .inr ⟨giv.go i Ks K gr2.s gr2.sub hlt, fun K' => ∃ (Ks : Hp) (acc : List V) (done rest : List PyData), Gr Hs1 H1 Ks K' ∧ Ks D = none ∧ K' D = some (.lst acc) ∧ RA Ks acc done ∧
      lc2F k t src1 k1 t1 el vs1 (wipeR ρ vs) (ds.drop (i + 1)) = some rest ∧ done ++ rest = xs, fun K' hN => ⟨ds.length - (i + 1), by omega, rfl, by omega, hN⟩, fun x K' hy => ?_⟩
    obtain ⟨Ks', gr3, rx⟩ := giv.yld i Ks K x K' gr2.s gr2.sub hy ds[i] (List.getElem?_eq_getElem hlt)
    have nD3 : Ks' D = none := gr3.non D nD (by rw [eD]; simp)
    have eD3 : K' D = some (.lst acc) := gr3.h _ _ eD
    have sw : Slots [] (wipeR ρ vs) (wipe σ vs) Ks' K' := ((s1.mono gr2).mono gr3).wiped vs
    refine hg _ x (wipeR ρ vs) ρ1 (wipe σ vs) Ks' K' sw rx hk1 _ fun σ2 sl2 len2 out2 => ?_
    refine ⟨wipe_same len2 hj fun j hjn => (out2 j hjn).1, ht ρ1 σ2 Ks' K' b sl2 hb _ fun Ks4 K4 gr4 => ?_⟩
    have nD4 : Ks4 D = none := gr4.non D nD3 (by rw [eD3]; simp)
    have eD4 : K4 D = some (.lst acc) := gr4.h _ _ eD3
    cases b with
    | true =>
      rw [if_pos rfl] at hrest ⊢
      obtain ⟨es, hes, hrest⟩ := bind_some hrest
      obtain ⟨ys, hys, hrest⟩ := bind_some hrest
      obtain ⟨rest', hr1, rfl⟩ := Option.map_eq_some_iff.mp hrest
      have sl4 := sl2.mono gr4
      refine hi1 ρ1 σ2 Ks4 K4 es sl4 hes _ fun J1 Ks5 K5 gr5 giv1 => ?_
      have nD5 : Ks5 D = none := gr5.non D nD4 (by rw [eD4]; simp)
      have eD5 : K5 D = some (.lst acc) := gr5.h _ _ eD4
      have sl5 := sl4.mono gr5
      have gra : Gr Hs1 H1 Ks5 K5 := ((gr2.trans gr3).trans gr4).trans gr5
      have ra5 : RA Ks5 acc done := ra.mono ((gr3.s.trans gr4.s).trans gr5.s)
      refine ⟨fun j kk K => kk = es.length - j ∧ j ≤ es.length ∧ ∃ (Ls : Hp) (acc : List V) (done resti : List PyData), Gr Hs1 H1 Ls K ∧ Same Ks5 Ls ∧ Ls D = none ∧ K D = some (.lst acc) ∧ RA Ls acc done ∧
        lcF k1 t1 el (wipeR ρ1 vs1) (es.drop j) = some resti ∧ done ++ (resti ++ rest') = xs, ⟨es.length, by simp, Nat.zero_le _, Ks5, acc, done, ys, gra, .refl _, nD5, eD5, ra5, hys, hall⟩, ?_⟩
      rintro j kk L ⟨rfl, hle1, Ls, acc1, done1, resti, gl, sb, nL, eL, ra1, hri, hall1⟩
      by_cases hlt1 : j < es.length
      · have hdrop1 : es.drop j = es[j] :: es.drop (j + 1) := List.drop_eq_getElem_cons hlt1
        rw [hdrop1] at hri
        obtain ⟨ρ2, hk2, hri⟩ := bind_some hri
        obtain ⟨b2, hb2, hri⟩ := bind_some hri
        refine .inr ⟨giv1.go j Ls L sb gl.sub hlt1, fun K' => ∃ (Ls : Hp) (acc : List V) (done resti : List PyData), Gr Hs1 H1 Ls K' ∧ Same Ks5 Ls ∧ Ls D = none ∧ K' D = some (.lst acc) ∧ RA Ls acc done ∧
          lcF k1 t1 el (wipeR ρ1 vs1) (es.drop (j + 1)) = some resti ∧ done ++ (resti ++ rest') = xs, fun K' hN => ⟨es.length - (j + 1), by omega, rfl, by omega, hN⟩, fun y L' hy1 => ?_⟩
        obtain ⟨Ls', gl3, ry⟩ := giv1.yld j Ls L y L' sb gl.sub hy1 es[j] (List.getElem?_eq_getElem hlt1)
        have nL3 : Ls' D = none := gl3.non D nL (by rw [eL]; simp)
        have eL3 : L' D = some (.lst acc1) := gl3.h _ _ eL
        have swl : Slots [] (wipeR ρ1 vs1) (wipe σ2 vs1) Ls' L' := (sl5.later (sb.trans gl3.s) gl3.sub).wiped vs1
        refine hg1 _ y (wipeR ρ1 vs1) ρ2 (wipe σ2 vs1) Ls' L' swl ry hk2 _ fun σ3 sl3 len3 out3 => ?_
        refine ⟨wipe_same len3 hj1 fun j hjn => (out3 j hjn).1, ht1 ρ2 σ3 Ls' L' b2 sl3 hb2 _ fun Ls4 L4 gl4 => ?_⟩
        have nL4 : Ls4 D = none := gl4.non D nL3 (by rw [eL3]; simp)
        have eL4 : L4 D = some (.lst acc1) := gl4.h _ _ eL3
        cases b2 with
        | true =>
          rw [if_pos rfl] at hri ⊢
          obtain ⟨z, hz1, hri⟩ := bind_some hri
          obtain ⟨resti', hr2, rfl⟩ := Option.map_eq_some_iff.mp hri
          refine he ρ2 σ3 Ls4 L4 z (sl3.mono gl4) hz1 _ fun v Ls5 L5 gl5 r5 => ?_
          have nL5 : Ls5 D = none := gl5.non D nL4 (by rw [eL4]; simp)
          have eL5 : L5 D = some (.lst acc1) := gl5.h _ _ eL4
          have gla : Gr Hs1 H1 Ls5 L5 := ((gl.trans gl3).trans gl4).trans gl5
          have ral : RA Ls5 acc1 done1 := ra1.mono ((gl3.s.trans gl4.s).trans gl5.s)
          refine ⟨acc1, eL5, ?_, Ls5, acc1 ++ [v], done1 ++ [z], resti', ⟨gla.s, fun a o z => ?_, fun a o z => ?_, gla.non⟩, ((sb.trans gl3.s).trans gl4.s).trans gl5.s, nL5, upd_same, ral.snoc r5, hr2, ?_⟩
          · have hlen := congrArg List.length hall1
            simp only [List.length_append, List.length_cons] at hlen
            rw [ral.length]
            exact Nat.lt_of_lt_of_le (show done1.length < 16000000 by omega) (by decide)
          · rw [upd_ne (ne_of_none z hD)]
            exact gla.h a o z
          · rw [upd_ne (ne_of_none z nL5)]
            exact gla.sub a o z
          · rw [List.append_assoc]
            exact hall1
        | false =>
          rw [if_neg Bool.false_ne_true] at hri ⊢
          exact ⟨Ls4, acc1, done1, resti, (gl.trans gl3).trans gl4, (sb.trans gl3.s).trans gl4.s, nL4, eL4, ra1.mono (gl3.s.trans gl4.s), hri, hall1⟩
      · have ej : j = es.length := by omega
        subst ej
        rw [List.drop_length] at hri
        cases hri
        exact .inl ⟨giv1.stop Ls L sb gl.sub, Ls, acc1, done1, rest', gl, nL, eL, ra1, hr1, hall1⟩
    | false =>
      rw [if_neg Bool.false_ne_true] at hrest ⊢
      exact ⟨Ks4, acc, done, rest, (gr2.trans gr3).trans gr4, nD4, eD4, ra.mono (gr3.s.trans gr4.s), hrest, hall⟩
  · have ei : i = ds.length := by omega
    subst ei
    rw [List.drop_length] at hrest
    cases hrest
    rw [List.append_nil] at hall
    subst hall
    exact .inl ⟨giv.stop Ks K gr2.s gr2.sub, q _ Ks K (gr1.trans gr2) ⟨⟨D, acc, done, rfl, rfl, nD, eD, ra⟩, D, rfl, Same.free gr1.h hD⟩⟩
section
variable {X : Cx} {elt tg iter tg1 iter1 : Expr} {ifs ifs1 : List Expr} {scope : Scope} {own : List (Str × Nat)} {pos spos py : Pos} {wi wi1 : TI} {g g1 : TG} {tt tt1 : TT} {te : TE} {k k1 : FG} {t t1 : FT} {el : F} {src src1 : FA} {js js1 vs vs1 : List Nat}
structure DLc2 (X : Cx) (elt tg iter : Expr) (ifs : List Expr) (tg1 iter1 : Expr) (ifs1 : List Expr) (scope : Scope) (own : List (Str × Nat)) (vs1 : List Nat) (wi : TI) (g : TG) (tt : TT) (wi1 : TI) (g1 : TG) (tt1 : TT) (te : TE) (src : FA) (k : FG) (t : FT) (src1 : FA) (k1 : FG) (t1 : FT) (el : F) (js js1 : List Nat) : Prop where
  hi : DI X [] tg iter wi src
  ok : BlkOk X.N X.env.scope scope own
  hg : ∀ (s : Shared) (H : Hp) (C : Addr) (cl : List (Str × Addr)) (fp : List Addr), DG (X.blk s H scope (compEnvC scope cl C X.env) fp) [] tg g k js
  ht : ∀ (s : Shared) (H : Hp) (C : Addr) (cl : List (Str × Addr)) (fp : List Addr), DTs (X.blk s H scope (compEnvC scope cl C X.env) fp) [] ifs tt t
  hi1 : ∀ (s : Shared) (H : Hp) (C : Addr) (cl : List (Str × Addr)) (fp : List Addr), DI (X.blk s H scope (compEnvC scope cl C X.env) fp) [] tg1 iter1 wi1 src1
  hg1 : ∀ (s : Shared) (H : Hp) (C : Addr) (cl : List (Str × Addr)) (fp : List Addr), DG (X.blk s H scope (compEnvC scope cl C X.env) fp) [] tg1 g1 k1 js1
  ht1 : ∀ (s : Shared) (H : Hp) (C : Addr) (cl : List (Str × Addr)) (fp : List Addr), DTs (X.blk s H scope (compEnvC scope cl C X.env) fp) [] ifs1 tt1 t1
  he : ∀ (s : Shared) (H : Hp) (C : Addr) (cl : List (Str × Addr)) (fp : List Addr), DE (X.blk s H scope (compEnvC scope cl C X.env) fp) [] .cl elt te el
  h1 : vs1.all (own.map (·.2)).contains = true
  hj : js.all (own.map (·.2)).contains = true
  hj1 : js1.all vs1.contains = true
theorem dlc2_mk (own : List (Str × Nat)) (vs1 : List Nat) (hi : DI X [] tg iter wi src) (ok : BlkOk X.N X.env.scope scope own)
    (hg : ∀ (s : Shared) (H : Hp) (C : Addr) (cl : List (Str × Addr)) (fp : List Addr), DG (X.blk s H scope (compEnvC scope cl C X.env) fp) [] tg g k js)
    (ht : ∀ (s : Shared) (H : Hp) (C : Addr) (cl : List (Str × Addr)) (fp : List Addr), DTs (X.blk s H scope (compEnvC scope cl C X.env) fp) [] ifs tt t)
    (hi1 : ∀ (s : Shared) (H : Hp) (C : Addr) (cl : List (Str × Addr)) (fp : List Addr), DI (X.blk s H scope (compEnvC scope cl C X.env) fp) [] tg1 iter1 wi1 src1)
    (hg1 : ∀ (s : Shared) (H : Hp) (C : Addr) (cl : List (Str × Addr)) (fp : List Addr), DG (X.blk s H scope (compEnvC scope cl C X.env) fp) [] tg1 g1 k1 js1)
    (ht1 : ∀ (s : Shared) (H : Hp) (C : Addr) (cl : List (Str × Addr)) (fp : List Addr), DTs (X.blk s H scope (compEnvC scope cl C X.env) fp) [] ifs1 tt1 t1)
    (he : ∀ (s : Shared) (H : Hp) (C : Addr) (cl : List (Str × Addr)) (fp : List Addr), DE (X.blk s H scope (compEnvC scope cl C X.env) fp) [] .cl elt te el)
    (h1 : vs1.all (own.map (·.2)).contains = true := by rfl) (hj : js.all (own.map (·.2)).contains = true := by rfl) (hj1 : js1.all vs1.contains = true := by rfl) : DLc2 X elt tg iter ifs tg1 iter1 ifs1 scope own vs1 wi g tt wi1 g1 tt1 te src k t src1 k1 t1 el js js1 := ⟨hi, ok, hg, ht, hi1, hg1, ht1, he, h1, hj, hj1⟩
theorem de_lc2 (hc : X.calm = true) (hN : X.N.Nodup) (h : DLc2 X elt tg iter ifs tg1 iter1 ifs1 scope own vs1 wi g tt wi1 g1 tt1 te src k t src1 k1 t1 el js js1) (hv : own.map (·.2) = vs := by rfl)
    (hs : ∀ x, foldedSetIterable iter X.env x = pure x := by intro _; rfl) (hs1 : ∀ env x, foldedSetIterable iter1 env x = pure x := by intro _ _; rfl) :
    DE X [] .ow (.ListComp elt [⟨tg, iter, ifs, 0⟩, ⟨tg1, iter1, ifs1, 0⟩] scope pos) (tLc2 wi g tt wi1 g1 tt1 te (own.map (·.2)) vs1) (fLc2 src k t src1 k1 t1 el vs vs1) := by
  subst hv
  exact ⟨pe_lc2 hc hN h.hi.pi h.ok (lc_js h.h1) (fun s H C cl fp => (h.hg s H C cl fp).pg) (fun s H C cl fp => (h.ht s H C cl fp).pt) (fun s H C cl fp => (h.hi1 s H C cl fp).pi) (fun s H C cl fp => (h.hg1 s H C cl fp).pg) (fun s H C cl fp => (h.ht1 s H C cl fp).pt) (fun s H C cl fp => (h.he s H C cl fp).pe) hs hs1, fun ρ σ Hs H d s hf =>
    ev_lc2 h.hi.ev (h.hg ({} : Shared) (fun _ => none) 0 [] []).ev (h.ht ({} : Shared) (fun _ => none) 0 [] []).ev (h.hi1 ({} : Shared) (fun _ => none) 0 [] []).ev (h.hg1 ({} : Shared) (fun _ => none) 0 [] []).ev (h.ht1 ({} : Shared) (fun _ => none) 0 [] []).ev (h.he ({} : Shared) (fun _ => none) 0 [] []).ev (lc_js h.hj) (fun j hj' => by
      have := List.all_eq_true.mp h.hj1 j hj'
      simpa using this) s hf⟩
end
end DL
namespace DL
open PySem PySem.Spec L2
open PyProof.Rows hiding St
variable [kf : KF]
def ixI (n : Int) : List Int → Option Nat
  | [] => none
  | x :: r => if x = n then some 0 else (ixI n r).map (· + 1)
end DL
namespace DL
open PySem PySem.Spec L2
open PyProof.Rows hiding St
variable [kf : KF]
theorem Slots.own_at {O : List Nat} {ρ : Rho} {σ : St} {Hs H : Hp} {i : Nat} {d : PyData} (x : Slots O ρ σ Hs H) (hi : O.contains i = true) (hr : ρ[i]? = some (some d)) : ∃ a vs ds, d = .list ds ∧ σ[i]? = some (some (.ref a)) ∧ Hs a = none ∧ H a = some (.lst vs) ∧ RA Hs vs ds := by
  obtain ⟨v, k1, k2, _⟩ := x.val i _ hr
  obtain ⟨a, vs, ds, rfl, rfl, n1, n2, n3⟩ := k2 hi
  exact ⟨a, vs, ds, rfl, k1, n1, n2, n3⟩
end DL
set_option exponentiation.threshold 20000
namespace DL
open PySem PySem.Spec L2
open PyProof.Rows hiding St
variable [KF]
def bigW : Nat := 2 ^ 100
def whileF (c : FT) (B : FS) : Nat → FS
  | 0, _ => none
  | n + 1, ρ => (c ρ).bind fun b => if b = true then (B ρ).bind fun o => match o with
    | .nx ρ2 => whileF c B n ρ2
    | .ct ρ2 => whileF c B n ρ2
    | .bk ρ2 => some (.nx ρ2)
    | .rt v => some (.rt v)
    else some (.nx ρ)
def sWhile (n : Nat) (c : FT) (B : FS) : FS := fun ρ => whileF c B n ρ
end DL
namespace DL
open PySem PySem.Spec L2
open PyProof.Rows hiding St
variable [kf : KF]
def KB (K : PySem.W.Frag) (fd : FuncData) (ps ks : List Str) (a b : Nat) : Prop := ∀ (s : Shared) (us ws : List Value), K.In s.heap → us.length = a → ws.length = b → BindsTo s fd ⟨us, ks.zip ws⟩ (ps.zip (us ++ ws))
omit kf in
theorem kb_of {K : PySem.W.Frag} {x qual : Str} {st : Stmt} {f : Addr} {fd : FuncData} {ps ks : List Str} {a b : Nat} (F : Fun K x qual st f fd)
    (h : ∀ (kV doc pm : Value) (an : Option Addr) (cdv ct : Value) (us ws : List Value), us.length = a → ws.length = b → bindArgs (PySem.W.fnOf x qual (defArgs st) (defBody st) (defScope st) .none kV doc pm an cdv ct) ⟨us, ks.zip ws⟩ = pure (ps.zip (us ++ ws))) : KB K fd ps ks a b := by
  obtain ⟨oc, od, kV, doc, pm, an, cdv, ct, osl, rfl, lk, hcd⟩ := F.ex
  exact fun s us ws _ h1 h2 => .of_eq (h kV doc pm an cdv ct us ws h1 h2)
def tAppA (a b : Nat) (t tk : TA) : TA := fun σ H Q => t σ H fun vs H1 => tk σ H1 fun zs H2 => vs.length = a ∧ zs.length = b ∧ Q (vs ++ zs) H2
section
variable {X : Cx} {CX : CXT} {k a b : Nat} {f : Addr} {fd : FuncData} {ps ks : List Str} {sp : Sp} {E : St → XK} {x : Str} {p pos : Pos} {e : Expr} {es : List Expr} {kws : List Keyword} {t tk : TA}
theorem runSK {pins : List (Addr × Obj)} {σ : St} {H : Hp} {s : Shared} {Q : VK} {us ws : List Value} {vs zs : List V} (F : FnG X.prog X.w X.K X.mg X.base CX k f fd ps sp) (ga : GA k X.A) (hb : KB X.K fd ps ks a b) (hx : PassesAt CX X σ (E σ)) (inv : Inv X pins σ H s) (r : Vals vs us) (rz : Vals zs ws) (l1 : vs.length = a) (l2 : zs.length = b)
    (want : sp (vs ++ zs) H Q (E σ)) : wpAny (model X.prog X.w) X.A (call (.ref f) us (ks.zip ws)) (EP X pins σ Q) X.xe s := by
  have bind := hb s us ws inv.kIn (r.length.symm.trans l1) (rz.length.symm.trans l2)
  refine wpAny_call (codeAny_mono (F.run X.A X.stack s H ⟨us, ks.zip ws⟩ (us ++ ws) (vs ++ zs) Q (E σ) ga inv.env0 bind (r.append rz) want) fun r s' out => ?_)
  match r, out with
  | .error e, out => exact hx pins H s e s' inv out
  | .ok (.ret u), out => exact inv.after out
  | .ok .next, out => exact False.elim out
  | .ok .brk, out => exact False.elim out
  | .ok .cont, out => exact False.elim out
theorem pe_callSK (F : FnG X.prog X.w X.K X.mg X.base CX k f fd ps sp) (ga : GA k X.A) (hg : Gl X x) (hm : X.mg x = some (.ref f)) (hk : PySem.W.keepIn X.K (.ref f) = true) (hb : KB X.K fd ps ks a b) (hx : ∀ σ, PassesAt CX X σ (E σ)) (ha : PA X (e :: es) t) (hkw : PK X kws tk)
    (hall : (backToKw pos (keywordEach kws X.env)).all (·.1.isSome) = true := by rfl) (hks : (backToKw pos (keywordEach kws X.env)).filterMap (·.1) = ks := by rfl)
    (hdb : (x == ("__debug__" : Str)) = false := by decide) (he : starEach (e :: es) X.env = (false, eval e X.env) :: starEach es X.env := by rfl)
    (hpl : ((backTo pos (starEach (e :: es) X.env)).any (·.1) || (backToKw pos (keywordEach kws X.env)).any (·.1.isNone)) = false := by rfl) :
    PE X (.Call (.Name x p) (e :: es) kws pos) (tCallS sp E (tAppA a b t tk)) := by
  refine ⟨fun pins s σ H Q I h => ?_⟩
  refine wpAny_Call_Name_kw (ld_glob I hg hm ?_ hdb)
  refine PySem.W.callWith_KW (h₀ := X.base) I.ok.mod.kin hk hall (thn (ha.run pos pins s σ H _ I h) fun us s1 ⟨vs, H1, I1, r, q⟩ => ?_) hpl he
  refine thn (hkw.run pos pins s1 σ H1 _ I1 q) fun ws s2 ⟨zs, H2, I2, rz, l1, l2, q2⟩ => ⟨I2.kIn, ?_⟩
  rw [hks]
  exact runSK F ga hb (hx σ) I2 r rz l1 l2 q2
end
structure DK (X : Cx) (O : List Nat) (kws : List Keyword) (ta : TA) (f : FA) : Prop where
  pk : PK X kws ta
  ev : ∀ (ρ : Rho) (σ : St) (Hs H : Hp) (ds : List PyData), Slots O ρ σ Hs H → f ρ = some ds → ∀ Q : List V → Hp → Prop, (∀ vs Hs' H', Gr Hs H Hs' H' → RA Hs' vs ds → Q vs H') → ta σ H Q
theorem dk_nil {X : Cx} {O : List Nat} : DK X O [] tNil fNilA := ⟨pk_nil, fun ρ σ Hs H ds s h Q q => by
  cases h
  exact q [] Hs H (.refl s.sub) .nil⟩
theorem dk_cons {X : Cx} {O : List Nat} {nm : Option Str} {e : Expr} {kpos : Pos} {kws : List Keyword} {te : TE} {ta : TA} {f : F} {fr : FA} (ha : DE X O .cl e te f) (hr : DK X O kws ta fr) : DK X O (⟨nm, e, kpos⟩ :: kws) (tCons te ta) (fConsA f fr) :=
  ⟨pk_cons ha.pe hr.pk, fun ρ σ Hs H ds s h Q q => by
    obtain ⟨x, hx, h⟩ := bind_some h
    obtain ⟨xs, hxs, h⟩ := bind_some h
    cases h
    refine ha.ev ρ σ Hs H x s hx _ fun v Hs1 H1 g1 r1 => ?_
    refine hr.ev ρ σ Hs1 H1 xs (s.mono g1) hxs _ fun vs Hs2 H2 g2 r2 => ?_
    exact q _ Hs2 H2 (g1.trans g2) (.cons (R.mono g2.s r1) r2)⟩
def fAppA (fs fk : FA) : FA := fun ρ => (fs ρ).bind fun xs => (fk ρ).bind fun ys => some (xs ++ ys)
theorem app_ev {X : Cx} {O : List Nat} {es : List Expr} {kws : List Keyword} {t tk : TA} {fs fk : FA} {a b : Nat} (ha : DAc X O es t fs) (hk : DK X O kws tk fk) (l1 : ∀ ρ ds, fs ρ = some ds → ds.length = a) (l2 : ∀ ρ ds, fk ρ = some ds → ds.length = b)
    (ρ : Rho) (σ : St) (Hs H : Hp) (ds : List PyData) (s : Slots O ρ σ Hs H) (h : fAppA fs fk ρ = some ds) (Q : List V → Hp → Prop) (q : ∀ vs Hs' H', Gr Hs H Hs' H' → RA Hs' vs ds → Q vs H') : tAppA a b t tk σ H Q := by
  obtain ⟨xs, hx, h⟩ := bind_some h
  obtain ⟨ys, hy, h⟩ := bind_some h
  cases h
  refine ha.ev ρ σ Hs H xs s hx _ fun vs Hs1 H1 g1 r1 => ?_
  refine hk.ev ρ σ Hs1 H1 ys (s.mono g1) hy _ fun zs Hs2 H2 g2 r2 => ?_
  exact ⟨r1.length.trans (l1 ρ xs hx), r2.length.trans (l2 ρ ys hy), q _ Hs2 H2 (g1.trans g2) ((r1.mono g2.s).append r2)⟩
section
variable {X : Cx} {O : List Nat} {k nn a b : Nat} {fa : Addr} {fd : FuncData} {ps ks : List Str} {m : Md} {Fn : List PyData → Option PyData} {FX : List PyData → Option Str} {x : Str} {p pos : Pos} {e : Expr} {es : List Expr} {kws : List Keyword} {t tk : TA} {fs fk : FA} {Wx : WX}
theorem fApp_len (l1 : ∀ ρ ds, fs ρ = some ds → ds.length = a) (l2 : ∀ ρ ds, fk ρ = some ds → ds.length = b) {ρ : Rho} {ds : List PyData} (h : fAppA fs fk ρ = some ds) : ds.length = a + b := by
  obtain ⟨xs, hx, h⟩ := bind_some h
  obtain ⟨ys, hy, h⟩ := bind_some h
  cases h
  rw [List.length_append, l1 ρ xs hx, l2 ρ ys hy]
theorem dex_callKw (F : FnG X.prog X.w X.K X.mg X.base (L2.CX X.prog X.w) k fa fd ps (spX nn m Fn FX X.mg)) (ga : GA k X.A) (hm : X.mg x = some (.ref fa)) (hk : PySem.W.keepIn X.K (.ref fa) = true) (hb : KB X.K fd ps ks a b) (tw : Takes X Wx) (ha : DAc X O (e :: es) t fs) (hkw : DK X O kws tk fk)
    (l1 : ∀ ρ ds, fs ρ = some ds → ds.length = a) (l2 : ∀ ρ ds, fk ρ = some ds → ds.length = b) (hlen : a + b = nn := by rfl) (hg : Gl X x := by rfl)
    (hall : (backToKw pos (keywordEach kws X.env)).all (·.1.isSome) = true := by rfl) (hks : (backToKw pos (keywordEach kws X.env)).filterMap (·.1) = ks := by rfl)
    (hdb : (x == ("__debug__" : Str)) = false := by decide) (he : starEach (e :: es) X.env = (false, eval e X.env) :: starEach es X.env := by rfl)
    (hpl : ((backTo pos (starEach (e :: es) X.env)).any (·.1) || (backToKw pos (keywordEach kws X.env)).any (·.1.isNone)) = false := by rfl) :
    DEX X Wx O m (.Call (.Name x p) (e :: es) kws pos) (tCallS (spX nn m Fn FX X.mg) (WE Wx) (tAppA a b t tk)) (fFn Fn (fAppA fs fk)) (xCall FX (fAppA fs fk)) :=
  ⟨⟨pe_callSK F ga hg hm hk hb (fun σ => passAt tw σ) ha.pa hkw.pk hall hks hdb he hpl, fun ρ σ Hs H d s h Q q => by
    obtain ⟨xs, hxs, h⟩ := bind_some h
    refine app_ev ha hkw l1 l2 ρ σ Hs H xs s hxs _ fun vs Hs1 H1 g1 r1 => ?_
    exact ⟨xs, Hs1, (fApp_len l1 l2 hxs).trans hlen, g1.sub, r1, .inl ⟨d, h, fun v Hs2 H2 g2 r2 => q v Hs2 H2 (g1.trans g2) (r2.back g1.h)⟩⟩⟩, fun ρ σ Hs H n s h Q q => by
    obtain ⟨xs, hxs, h⟩ := bind_some h
    refine app_ev ha hkw l1 l2 ρ σ Hs H xs s hxs _ fun vs Hs1 H1 g1 r1 => ?_
    exact ⟨xs, Hs1, (fApp_len l1 l2 hxs).trans hlen, g1.sub, r1, .inr ⟨n, h, fun C Hs2 H2 hC g2 => q C Hs2 H2 hC (g1.trans g2)⟩⟩⟩
end
end DL
namespace DL
open PySem PySem.Spec L2
open PyProof.Rows hiding St
variable [kf : KF]
theorem fl_nil : ∀ (ρ : Rho) (ds : List PyData), fNilA ρ = some ds → ds.length = 0 := fun ρ ds h => by
  cases h
  rfl
theorem fl_cons {f : F} {fs : FA} {n : Nat} (h : ∀ (ρ : Rho) (ds : List PyData), fs ρ = some ds → ds.length = n) : ∀ (ρ : Rho) (ds : List PyData), fConsA f fs ρ = some ds → ds.length = n + 1 := fun ρ ds h2 => by
  obtain ⟨x, _, h2⟩ := bind_some h2
  obtain ⟨xs, hx, h2⟩ := bind_some h2
  cases h2
  rw [List.length_cons, h ρ xs hx]
end DL
namespace DL
open PySem PySem.Spec L2 RT
open PyProof.Rows hiding St
end DL
namespace DL
open PySem PySem.Spec L2
open PyProof.Rows hiding St
variable [kf : KF]
theorem RSA.get {H : Hp} : ∀ {vs : List V} {ds : List PyData} {n : Nat} {d : PyData}, RSA H vs ds → ds[n]? = some d → ∃ v, vs[n]? = some v ∧ RS H v d
  | _, _, n, d, @RA.nil kS _, h => by simp at h
  | _, _, 0, d, @RA.cons kS _ v _ _ _ r _, h => by
    cases h
    exact ⟨v, rfl, r⟩
  | _, _, n + 1, d, @RA.cons kS _ _ _ _ _ _ rr, h => RSA.get (n := n) rr h
end DL
namespace DL
open PySem PySem.Spec L2
open PyProof.Rows hiding St
variable [kf : KF]
def AtP (H : Hp) : V → List Nat → V → Prop
  | v, [], u => v = u
  | v, i :: r, u => ∃ (t : Addr) (xs : List V) (w : V), v = .ref t ∧ H t = some (.tup xs) ∧ xs[i]? = some w ∧ AtP H w r u
theorem AtP.mono {H H' : Hp} (e : Same H H') : ∀ {p : List Nat} {v u : V}, AtP H v p u → AtP H' v p u
  | [], _, _, h => h
  | _ :: _, _, _, ⟨t, xs, w, h1, h2, h3, h4⟩ => ⟨t, xs, w, h1, e _ _ h2, h3, AtP.mono e h4⟩
def NewP (H0 Hs : Hp) (v : V) (p : List Nat) : Prop := ∃ (a : Addr) (vs : List V), AtP Hs v p (.ref a) ∧ Hs a = some (.lst vs) ∧ H0 a = none ∧ vs.length ≤ 15000000
theorem NewP.mono {H0 Hs Hs' : Hp} {v : V} {p : List Nat} (e : Same Hs Hs') (h : NewP H0 Hs v p) : NewP H0 Hs' v p := by
  obtain ⟨a, vs, h1, h2, h3⟩ := h
  exact ⟨a, vs, h1.mono e, e _ _ h2, h3⟩
theorem NewP.base {H0 H0' Hs : Hp} {v : V} {p : List Nat} (e : Same H0' H0) (h : NewP H0 Hs v p) : NewP H0' Hs v p := by
  obtain ⟨a, vs, h1, h2, h3⟩ := h
  exact ⟨a, vs, h1, h2, Same.free e h3.1, h3.2⟩
abbrev NSl := List (Nat × List Nat)
def NOk (N : NSl) (σ : St) (H0 Hs : Hp) : Prop := ∀ q ∈ N, ∃ v, σ[q.1]? = some (some v) ∧ NewP H0 Hs v q.2
theorem NOk.mono {N : NSl} {σ : St} {H0 Hs Hs' : Hp} (e : Same Hs Hs') (h : NOk N σ H0 Hs) : NOk N σ H0 Hs' := fun q hq => by
  obtain ⟨v, h1, h2⟩ := h q hq
  exact ⟨v, h1, h2.mono e⟩
structure StY (N : NSl) (O : List Nat) (ρ : Rho) (σ : St) (Hs0 H0 Hs H : Hp) : Prop where
  x : StOK O ρ σ Hs0 H0 Hs H
  n : NOk N σ H0 Hs
structure YE (X : Cx) (N : NSl) (O : List Nat) (e : Expr) (te : TE) (f : F) (ps : List (List Nat)) : Prop where
  pe : PE X e te
  ev : ∀ (ρ : Rho) (σ : St) (H0 Hs H : Hp) (d : PyData), Slots O ρ σ Hs H → Same H0 H → NOk N σ H0 Hs → f ρ = some d → ∀ Q : VK, (∀ v Hs' H', Gr Hs H Hs' H' → R Hs' v d → (∀ p ∈ ps, NewP H0 Hs' v p) → Q v H') → te σ H Q
structure YEs (X : Cx) (N : NSl) (O : List Nat) (es : List Expr) (t : TA) (fs : FA) (pss : List (List (List Nat))) : Prop where
  pa : PA X es t
  ev : ∀ (ρ : Rho) (σ : St) (H0 Hs H : Hp) (ds : List PyData), Slots O ρ σ Hs H → Same H0 H → NOk N σ H0 Hs → fs ρ = some ds → ∀ Q : List V → Hp → Prop, (∀ (vs : List V) (Hs' H' : Hp), Gr Hs H Hs' H' → RA Hs' vs ds → (∀ (i : Nat) (ps : List (List Nat)), pss[i]? = some ps → ∀ p ∈ ps, ∃ v : V, vs[i]? = some v ∧ NewP H0 Hs' v p) → Q vs H') → t σ H Q
section
variable {X : Cx} {N : NSl} {O : List Nat} {e : Expr} {es : List Expr} {te : TE} {t : TA} {f : F} {fs : FA} {ps : List (List Nat)} {pss : List (List (List Nat))} {pos : Pos}
theorem ye_de (h : DE X O .cl e te f) : YE X N O e te f [] := ⟨h.pe, fun ρ σ H0 Hs H d s e0 n hf Q q => h.ev ρ σ Hs H d s hf Q fun v Hs' H' g r => q v Hs' H' g r fun _ z => (List.not_mem_nil z).elim⟩
theorem ye_var {x : Str} {p : Pos} {i : Nat} (hv : PE X (.Name x p) (tVar i)) (hO : O.contains i = false := by rfl) : YE X N O (.Name x p) (tVar i) (fVar i) (N.filterMap fun q => if q.1 = i then some q.2 else none) := ⟨hv, fun ρ σ H0 Hs H d s e0 n hf Q q => by
  obtain ⟨v, k1, _, k3⟩ := s.val i d (fVar_some hf)
  refine ⟨v, k1, q v Hs H (.refl s.sub) (k3 hO) fun p hp => ?_⟩
  obtain ⟨q', hq, e⟩ := List.mem_filterMap.mp hp
  by_cases c : q'.1 = i
  · rw [if_pos c] at e
    cases e
    obtain ⟨v', k4, k5⟩ := n q' hq
    rw [c, k1] at k4
    cases k4
    exact k5
  · rw [if_neg c] at e
    cases e⟩
theorem yes_nil : YEs X N O [] tNil fNilA [] := ⟨pa_nil, fun ρ σ H0 Hs H ds s e0 n hf Q q => by
  cases hf
  exact q [] Hs H (.refl s.sub) .nil fun i ps z => by simp at z⟩
theorem yes_cons (h : YE X N O e te f ps) (hr : YEs X N O es t fs pss) (hs : starEach (e :: es) X.env = (false, eval e X.env) :: starEach es X.env := by rfl) : YEs X N O (e :: es) (tCons te t) (fConsA f fs) (ps :: pss) := ⟨pa_cons h.pe hr.pa hs, fun ρ σ H0 Hs H ds s e0 n hf Q q => by
  obtain ⟨d, xs, hd, hx, rfl⟩ := fConsA_some hf
  refine h.ev ρ σ H0 Hs H d s e0 n hd _ fun v Hs1 H1 g1 r1 n1 => ?_
  refine hr.ev ρ σ H0 Hs1 H1 xs (s.mono g1) (e0.trans g1.h) (n.mono g1.s) hx _ fun vs Hs2 H2 g2 r2 n2 => ?_
  refine q (v :: vs) Hs2 H2 (g1.trans g2) (.cons (r1.mono g2.s) r2) fun i ps' hi p hp => ?_
  cases i with
  | zero =>
    cases hi
    exact ⟨v, rfl, (n1 p hp).mono g2.s⟩
  | succ i => exact n2 i ps' hi p hp⟩
def tupP (pss : List (List (List Nat))) : List (List Nat) := pss.zipIdx.flatMap fun x => x.1.map (x.2 :: ·)
theorem ye_tup {k : Nat} (h : YEs X N O es t fs pss) : YE X N O (.Tuple es k pos) (tTup t) (fFn dTup fs) (tupP pss) := ⟨pe_tup h.pa, fun ρ σ H0 Hs H d s e0 n hf Q q => by
  obtain ⟨x, hx, hf⟩ := bind_some hf
  obtain ⟨c, rfl⟩ := if_some (show (if catC x.length 0 = true then some (PyData.tuple x) else none) = some d from hf)
  refine h.ev ρ σ H0 Hs H x s e0 n hx _ fun vs Hs1 H1 g1 r1 n1 => ⟨by rw [r1.length]; exact catC_of c, fun b hb => ?_⟩
  have nb := Same.free g1.sub hb
  refine q _ (upd Hs1 b (.tup vs)) _ (g1.trans (Gr.new g1.sub hb)) (.tup (.inl (.inl upd_same)) (r1.mono (same_new nb))) fun p hp => ?_
  obtain ⟨⟨ps', i⟩, hm, hp⟩ := List.mem_flatMap.mp hp
  obtain ⟨p', hp', rfl⟩ := List.mem_map.mp hp
  have hi : pss[i]? = some ps' := by
    have := List.mem_zipIdx_iff_getElem?.mp hm
    exact this
  obtain ⟨w, hw, a, us, k1, k2, k3⟩ := n1 i ps' hi p' hp'
  exact ⟨a, us, ⟨b, vs, w, rfl, upd_same, hw, k1.mono (same_new nb)⟩, same_new nb _ _ k2, k3⟩⟩
end
def PostY (ps : PyData → List (List Nat)) (OB : List Nat) (N' : NSl) (O' W : List Nat) (σ0 : St) (ρ0 : Rho) (Hs0 H0 : Hp) (D : Ends) : Out → Prop
  | .nx ρ => ∀ σ Hs H, StY N' O' ρ σ Hs0 H0 Hs H → Fx W σ0 σ ρ0 ρ → D.nx σ H
  | .rt d => ∀ v Hs H, Gr Hs0 H0 Hs H → R Hs v d → (∀ p ∈ ps d, NewP H0 Hs v p) → D.rt v H
  | .bk ρ => ∀ σ Hs H, StOK OB ρ σ Hs0 H0 Hs H → Fx W σ0 σ ρ0 ρ → D.bk σ H
  | .ct ρ => ∀ σ Hs H, StOK OB ρ σ Hs0 H0 Hs H → Fx W σ0 σ ρ0 ρ → D.ct σ H
def SemY (ps : PyData → List (List Nat)) (OB : List Nat) (N : NSl) (O : List Nat) (N' : NSl) (O' W : List Nat) (ts : TS) (G : FS) : Prop := ∀ (ρ : Rho) (σ : St) (Hs0 H0 Hs H : Hp) (D : Ends) (o : Out), StY N O ρ σ Hs0 H0 Hs H → G ρ = some o → PostY ps OB N' O' W σ ρ Hs0 H0 D o → ts D σ H
structure YS1 (X : Cx) (ps : PyData → List (List Nat)) (OB : List Nat) (N : NSl) (O : List Nat) (N' : NSl) (O' W : List Nat) (st : Stmt) (ts : TS) (G : FS) : Prop where
  ps_ : PS X st ts
  ev : SemY ps OB N O N' O' W ts G
structure YSs (X : Cx) (ps : PyData → List (List Nat)) (OB : List Nat) (N : NSl) (O : List Nat) (N' : NSl) (O' W : List Nat) (sts : List Stmt) (ts : TS) (G : FS) : Prop where
  ps_ : PSs X sts ts
  ev : SemY ps OB N O N' O' W ts G
theorem PostY.mono {ps : PyData → List (List Nat)} {OB O' W W' : List Nat} {N' : NSl} {σ0 : St} {ρ0 : Rho} {Hs0 H0 : Hp} {D : Ends} {o : Out} (h : ∀ j ∈ W, j ∈ W') (q : PostY ps OB N' O' W' σ0 ρ0 Hs0 H0 D o) : PostY ps OB N' O' W σ0 ρ0 Hs0 H0 D o := by
  cases o with
  | nx ρ => exact fun σ Hs H x f => q σ Hs H x (f.mono h)
  | rt d => exact q
  | bk ρ => exact fun σ Hs H x f => q σ Hs H x (f.mono h)
  | ct ρ => exact fun σ Hs H x f => q σ Hs H x (f.mono h)
section
variable {X : Cx} {ps : PyData → List (List Nat)} {OB O O' O1 W W' : List Nat} {N N' N1 : NSl} {st : Stmt} {rest s1 s2 : List Stmt} {t u : TS} {G G' : FS} {c : Expr} {tc : TT} {ft : FT} {pos : Pos}
theorem y_one (h : YS1 X ps OB N O N' O' W st t G) : YSs X ps OB N O N' O' W [st] t G := ⟨pss_one h.ps_, h.ev⟩
theorem y_of (h : DS X .cl OB O O' W st t G) (hn : noRt G) (hN : N.all (fun q => !W.contains q.1) = true := by rfl) : YS1 X ps OB N O N O' W st t G := ⟨h.ps, fun ρ σ Hs0 H0 Hs H D o x hg q => by
  have g0 := x.x.gr
  refine h.ev ρ σ Hs (joinH H0 Hs) Hs H D o (x.x.rebase g0 (.refl _)) hg ?_
  cases o with
  | nx ρ' =>
    refine fun σ' Hs' H' x' fx => q σ' Hs' H' ⟨StOK.unbase g0 x', fun p hp => ?_⟩ fx
    obtain ⟨v, k1, k2⟩ := x.n p hp
    have hw : p.1 ∉ W := fun z => by
      have := List.all_eq_true.mp hN p hp
      rw [Bool.not_eq_true'] at this
      have z2 : W.contains p.1 = true := List.contains_iff_mem.mpr z
      rw [this] at z2
      cases z2
    exact ⟨v, by rw [(fx p.1 hw).1]; exact k1, k2.mono x'.gr.s⟩
  | rt d => exact absurd hg (hn _ _)
  | bk ρ' => exact fun σ' Hs' H' x' fx => q σ' Hs' H' (StOK.unbase g0 x') fx
  | ct ρ' => exact fun σ' Hs' H' x' fx => q σ' Hs' H' (StOK.unbase g0 x') fx⟩
def sRetP (ps : PyData → List (List Nat)) (ps' : List (List Nat)) (f : F) : FS := fun ρ => (f ρ).bind fun d => if ps d = ps' then some (.rt d) else none
theorem y_ret {e : Expr} {te : TE} {f : F} {ps' : List (List Nat)} (h : YE X N O e te f ps') : YS1 X ps OB N O N' O' [] (.Return (some e) pos) (tRet te) (sRetP ps ps' f) := ⟨ps_ret h.pe, fun ρ σ Hs0 H0 Hs H D o x hg q => by
  obtain ⟨d, h1, h2⟩ := bind_some hg
  obtain ⟨c, rfl⟩ : ps d = ps' ∧ o = .rt d := by
    have h2 : (if ps d = ps' then some (Out.rt d) else none) = some o := h2
    by_cases c : ps d = ps'
    · rw [if_pos c] at h2
      exact ⟨c, (Option.some.inj h2).symm⟩
    · rw [if_neg c] at h2
      cases h2
  exact h.ev ρ σ H0 Hs H d x.x.sl x.x.gr.h x.n h1 _ fun v Hs1 H1 g1 r1 n1 => q v Hs1 H1 (x.x.gr.trans g1) r1 (by rw [c]; exact n1)⟩
end
end DL
namespace DL
open PySem PySem.Spec L2
open PyProof.Rows hiding St
variable [kf : KF]
theorem RSA.at {H : Hp} {vs : List V} {ds : List PyData} {i : Int} {d : PyData} (r : RSA H vs ds) (h : atI ds i = some d) : ∃ v, atI vs i = some v ∧ RS H v d := @atI_R kS _ _ _ _ _ r h
theorem nn_retP {ps : PyData → List (List Nat)} {ps' : List (List Nat)} {f : F} : ∀ ρ ρ', sRetP ps ps' f ρ ≠ some (.nx ρ') := fun ρ ρ' h => by
  obtain ⟨d, h1, h2⟩ := bind_some h
  by_cases c : ps d = ps'
  · rw [if_pos c] at h2
    cases h2
  · rw [if_neg c] at h2
    cases h2
end DL
namespace DL
open PySem PySem.Spec L2
open PyProof.Rows hiding St
variable [kf : KF]
def TP (a : Addr) (Hs H : Hp) (es : List PyData) : Prop := Hs a = none ∧ ∃ ws, H a = some (.lst ws) ∧ RA Hs ws es
structure GT (a : Addr) (Hs H Hs' H' : Hp) : Prop where
  s : Same Hs Hs'
  h : ∀ b o, b ≠ a → H b = some o → H' b = some o
  sub : Same Hs' H'
  non : ∀ b, b ≠ a → Hs b = none → H b ≠ none → Hs' b = none
theorem GT.refl {a : Addr} {Hs H : Hp} (e : Same Hs H) : GT a Hs H Hs H := ⟨.refl _, fun _ _ _ h => h, e, fun _ _ h _ => h⟩
theorem GT.of {a : Addr} {Hs H Hs' H' : Hp} (g : Gr Hs H Hs' H') : GT a Hs H Hs' H' := ⟨g.s, fun b o _ h => g.h b o h, g.sub, fun b _ h1 h2 => g.non b h1 h2⟩
theorem GT.trans {a : Addr} {A x B y C z : Hp} (g : GT a A x B y) (k : GT a B y C z) : GT a A x C z :=
  ⟨g.s.trans k.s, fun b o n h => k.h b o n (g.h b o n h), k.sub, fun b n h1 h2 => k.non b n (g.non b n h1 h2) fun e => by
    cases q : x b with
    | none => exact h2 q
    | some o =>
      rw [g.h b o n q] at e
      cases e⟩
theorem TP.go {a : Addr} {Hs H Hs' H' : Hp} {es : List PyData} (t : TP a Hs H es) (g : Gr Hs H Hs' H') : TP a Hs' H' es := by
  obtain ⟨n, ws, h, r⟩ := t
  exact ⟨g.non a n (by rw [h]; simp), ws, g.h _ _ h, r.mono g.s⟩
structure StT (j : Nat) (a : Addr) (O : List Nat) (ρ : Rho) (σ : St) (Hs H : Hp) (es : List PyData) : Prop where
  sl : Slots O ρ σ Hs H
  hj : σ[j]? = some (some (.ref a))
  tp : TP a Hs H es
  ne : ∀ i ∈ O, ∀ d, ρ[i]? = some (some d) → σ[i]? ≠ some (some (.ref a))
theorem Slots.gt {a : Addr} {O : List Nat} {ρ : Rho} {σ : St} {Hs H Hs' H' : Hp} (x : Slots O ρ σ Hs H) (ne : ∀ i ∈ O, ∀ d, ρ[i]? = some (some d) → σ[i]? ≠ some (some (.ref a))) (g : GT a Hs H Hs' H') : Slots O ρ σ Hs' H' :=
  ⟨g.sub, x.len, fun i d h => by
    obtain ⟨v, h1, h2, h3⟩ := x.val i d h
    refine ⟨v, h1, fun o => ?_, fun o => (h3 o).mono g.s⟩
    obtain ⟨b, vs, ds, rfl, rfl, n1, n2, n3⟩ := h2 o
    have hb : b ≠ a := fun z => ne i (List.contains_iff_mem.mp o) _ h (by rw [h1, z])
    exact ⟨b, vs, ds, rfl, rfl, g.non b hb n1 (by rw [n2]; simp), g.h b _ hb n2, n3.mono g.s⟩, x.dis⟩
theorem StT.go {j : Nat} {a : Addr} {O : List Nat} {ρ : Rho} {σ : St} {Hs H Hs' H' : Hp} {es es' : List PyData} (x : StT j a O ρ σ Hs H es) (g : GT a Hs H Hs' H') (t : TP a Hs' H' es') : StT j a O ρ σ Hs' H' es' := ⟨x.sl.gt x.ne g, x.hj, t, x.ne⟩
abbrev FE := Rho → List PyData → Option (PyData × List PyData)
abbrev FEs := Rho → List PyData → Option (List PyData × List PyData)
structure TapE (X : Cx) (j : Nat) (O : List Nat) (e : Expr) (te : TE) (f : FE) : Prop where
  pe : PE X e te
  ev : ∀ (ρ : Rho) (σ : St) (Hs H : Hp) (d : PyData) (es es' : List PyData) (a : Addr), StT j a O ρ σ Hs H es → f ρ es = some (d, es') → ∀ Q : VK, (∀ v Hs' H', GT a Hs H Hs' H' → TP a Hs' H' es' → R Hs' v d → Q v H') → te σ H Q
structure TapA (X : Cx) (j : Nat) (O : List Nat) (xs : List Expr) (t : TA) (f : FEs) : Prop where
  pa : PA X xs t
  ev : ∀ (ρ : Rho) (σ : St) (Hs H : Hp) (ds es es' : List PyData) (a : Addr), StT j a O ρ σ Hs H es → f ρ es = some (ds, es') → ∀ Q : List V → Hp → Prop, (∀ vs Hs' H', GT a Hs H Hs' H' → TP a Hs' H' es' → RA Hs' vs ds → Q vs H') → t σ H Q
structure TapI (X : Cx) (j : Nat) (O : List Nat) (tg iter : Expr) (wi : TI) (f : FEs) : Prop where
  pi : PI X tg iter wi
  ev : ∀ (ρ : Rho) (σ : St) (Hs H : Hp) (ds es es' : List PyData) (a : Addr), StT j a O ρ σ Hs H es → f ρ es = some (ds, es') → ∀ Q : It → Hp → Prop, (∀ J Hs' H', GT a Hs H Hs' H' → TP a Hs' H' es' → Gives J ds Hs' → Q J H') → wi σ H Q
section
variable {X : Cx} {j : Nat} {O : List Nat} {e a b c : Expr} {es : List Expr} {te ta tb tc : TE} {t : TA} {f fa fb : FE} {fs : FEs} {pos p : Pos}
def eL (f : F) : FE := fun ρ es => (f ρ).map fun d => (d, es)
def esL (f : FA) : FEs := fun ρ es => (f ρ).map fun d => (d, es)
theorem tp_of {f : F} (h : DE X O .cl e te f) : TapE X j O e te (eL f) := ⟨h.pe, fun ρ σ Hs H d es es' a x hf Q q => by
  obtain ⟨d', h1, h2⟩ := Option.map_eq_some_iff.mp hf
  cases h2
  exact h.ev ρ σ Hs H d x.sl h1 Q fun v Hs' H' g r => q v Hs' H' (.of g) (x.tp.go g) r⟩
theorem tpi_of {tg iter : Expr} {wi : TI} {f : FA} (h : DI X O tg iter wi f) : TapI X j O tg iter wi (esL f) := ⟨h.pi, fun ρ σ Hs H d es es' a x hf Q q => by
  obtain ⟨d', h1, h2⟩ := Option.map_eq_some_iff.mp hf
  cases h2
  exact h.ev ρ σ Hs H d x.sl h1 Q fun J Hs' H' g r => q J Hs' H' (.of g) (x.tp.go g) r⟩
def eIx (k : Nat) : FE := fun _ es => (es[k]?).map fun d => (d, es)
theorem tp_ix (k : Nat) (hp : PE X e (tOp (rIx KF.K) (tVar j) (tC (.int (k : Int))))) : TapE X j O e (tOp (rIx KF.K) (tVar j) (tC (.int (k : Int)))) (eIx k) := ⟨hp, fun ρ σ Hs H d es es' a x hf Q q => by
  obtain ⟨d', h1, h2⟩ := Option.map_eq_some_iff.mp hf
  cases h2
  obtain ⟨n, ws, h, r⟩ := x.tp
  obtain ⟨w, hw, rw'⟩ := r.get h1
  exact ⟨.ref a, x.hj, .inl ⟨a, ws, (k : Int), w, rfl, rfl, .inl (.inl h), atI_nat hw, q w Hs H (.refl x.sl.sub) x.tp rw'⟩⟩⟩
def eBin (g : PyData → PyData → Option PyData) (f1 f2 : FE) : FE := fun ρ es => (f1 ρ es).bind fun p => (f2 ρ p.2).bind fun q => (g p.1 q.1).map fun z => (z, q.2)
theorem tp_ev2 {r : R2} {g : PyData → PyData → Option PyData} (hg : OpD r .cl g) (ha : TapE X j O a ta fa) (hb : TapE X j O b tb fb) {ρ : Rho} {σ : St} {Hs H : Hp} {d : PyData} {es es' : List PyData} {ad : Addr} (x : StT j ad O ρ σ Hs H es) (hf : eBin g fa fb ρ es = some (d, es')) (Q : VK) (q : ∀ v Hs' H', GT ad Hs H Hs' H' → TP ad Hs' H' es' → R Hs' v d → Q v H') : tOp r ta tb σ H Q := by
  obtain ⟨⟨d1, e1⟩, h1, hf⟩ := bind_some hf
  obtain ⟨⟨d2, e2⟩, h2, hf⟩ := bind_some hf
  obtain ⟨z, h3, h4⟩ := Option.map_eq_some_iff.mp hf
  cases h4
  refine ha.ev ρ σ Hs H d1 es e1 ad x h1 _ fun v1 Hs1 H1 g1 t1 r1 => ?_
  refine hb.ev ρ σ Hs1 H1 d2 e1 e2 ad (x.go g1 t1) h2 _ fun v2 Hs2 H2 g2 t2 r2 => ?_
  exact hg Hs2 H2 v1 v2 d1 d2 _ g2.sub (.inl (r1.mono g2.s)) (.inl r2) h3 Q fun u Hs3 H3 g3 r3 => q u Hs3 H3 ((g1.trans g2).trans (.of g3)) (t2.go g3) r3
theorem tp_op {op : Operator} {r : R2} {g : PyData → PyData → Option PyData} (ho : OpR X (binaryOp op) r) (hg : OpD r .cl g) (ha : TapE X j O a ta fa) (hb : TapE X j O b tb fb) : TapE X j O (.BinOp a op b pos) (tOp r ta tb) (eBin g fa fb) :=
  ⟨pe_op ho ha.pe hb.pe, fun _ _ _ _ _ _ _ _ x h => tp_ev2 hg ha hb x h⟩
theorem tp_add (ha : TapE X j O a ta fa) (hb : TapE X j O b tb fb) : TapE X j O (.BinOp a .Add b pos) (tOp rAddI ta tb) (eBin dAdd fa fb) := tp_op op_add opd_I0 ha hb
theorem tp_sub (ha : TapE X j O a ta fa) (hb : TapE X j O b tb fb) : TapE X j O (.BinOp a .Sub b pos) (tOp rSubI ta tb) (eBin dSub fa fb) := tp_op op_sub opd_I0 ha hb
theorem tp_mod (ha : TapE X j O a ta fa) (hb : TapE X j O b tb fb) : TapE X j O (.BinOp a .Mod b pos) (tOp rModI ta tb) (eBin dMod fa fb) := tp_op op_modN (opd_I fun i j h => (show _ from of_decide_eq_true h)) ha hb
theorem tp_div (ha : TapE X j O a ta fa) (hb : TapE X j O b tb fb) : TapE X j O (.BinOp a .FloorDiv b pos) (tOp rDivI ta tb) (eBin dDiv fa fb) := tp_op op_fdivL (opd_I fun i j h => divC_of h) ha hb
theorem tp_ixE (hK : X.K = KF.K) (ha : TapE X j O a ta fa) (hb : TapE X j O b tb fb) (hs : PlainIx b := by intro _ _; rfl) (hp : PE X a ta → PE X b tb → PE X (.Subscript a b pos) (tOp (rIx KF.K) ta tb)) (hg : OpD (rIx KF.K) .cl dIx) : TapE X j O (.Subscript a b pos) (tOp (rIx KF.K) ta tb) (eBin dIx fa fb) :=
  ⟨hp ha.pe hb.pe, fun _ _ _ _ _ _ _ _ x h => tp_ev2 hg ha hb x h⟩
def eLen (f : FE) : FE := fun ρ es => (f ρ es).bind fun p => (dLen p.1).map fun z => (z, p.2)
theorem tp_len (hK : X.K = KF.K) (gl : Gl X "len") (hm : X.mg "len" = none) (ha : TapE X j O e te f) (hs : starEach [e] X.env = [(false, eval e X.env)] := by rfl) : TapE X j O (.Call (.Name "len" p) [e] [] pos) (tCB (rLenD X.K) (tCons te tNil)) (eLen f) :=
  ⟨pe_callB call_len_seq gl hm PySem.boot_len (pa_cons ha.pe pa_nil hs) (he := hs), fun ρ σ Hs H d es es' a x hf Q q => by
    obtain ⟨⟨d1, e1⟩, h1, hf⟩ := bind_some hf
    obtain ⟨z, h3, h4⟩ := Option.map_eq_some_iff.mp hf
    cases h4
    refine ha.ev ρ σ Hs H d1 es e1 a x h1 _ fun v Hs1 H1 gg t1 r1 => ?_
    have hc : CallD (rLenD X.K) .cl (g1 dLen) := by
      rw [hK]
      exact cd_len
    exact hc Hs1 H1 [v] [d1] _ gg.sub (.cons (.inl r1) .nil) h3 Q fun u Hs2 H2 g2 r2 => q u Hs2 H2 (gg.trans (.of g2)) (t1.go g2) r2⟩
def esNil : FEs := fun _ es => some ([], es)
def esCons (f : FE) (fs : FEs) : FEs := fun ρ es => (f ρ es).bind fun p => (fs ρ p.2).map fun q => (p.1 :: q.1, q.2)
theorem tpa_nil : TapA X j O [] tNil esNil := ⟨pa_nil, fun ρ σ Hs H ds es es' a x hf Q q => by
  cases hf
  exact q [] Hs H (.refl x.sl.sub) x.tp .nil⟩
theorem tpa_cons (h : TapE X j O e te f) (hr : TapA X j O es t fs) (hs : starEach (e :: es) X.env = (false, eval e X.env) :: starEach es X.env := by rfl) : TapA X j O (e :: es) (tCons te t) (esCons f fs) := ⟨pa_cons h.pe hr.pa hs, fun ρ σ Hs H ds es es' a x hf Q q => by
  obtain ⟨⟨d1, e1⟩, h1, hf⟩ := bind_some hf
  obtain ⟨⟨d2, e2⟩, h3, h4⟩ := Option.map_eq_some_iff.mp hf
  cases h4
  refine h.ev ρ σ Hs H d1 es e1 a x h1 _ fun v Hs1 H1 g1 t1 r1 => ?_
  exact hr.ev ρ σ Hs1 H1 d2 e1 _ a (x.go g1 t1) h3 _ fun vs Hs2 H2 g2 t2 r2 => q (v :: vs) Hs2 H2 (g1.trans g2) t2 (.cons (r1.mono g2.s) r2)⟩
def eTup (fs : FEs) : FE := fun ρ es => (fs ρ es).bind fun p => if catC p.1.length 0 = true then some (.tuple p.1, p.2) else none
theorem GT.new {a b : Addr} {Hs H : Hp} {o : HO} (e : Same Hs H) (hb : H b = none) (ha : H a ≠ none) : GT a Hs H (upd Hs b o) (upd H b o) ∧ b ≠ a := by
  have g : Gr Hs H (upd Hs b o) (upd H b o) := Gr.new e hb
  exact ⟨.of g, fun z => ha (by rw [← z]; exact hb)⟩
theorem tp_tup {k : Nat} (h : TapA X j O es t fs) : TapE X j O (.Tuple es k pos) (tTup t) (eTup fs) := ⟨pe_tup h.pa, fun ρ σ Hs H d es es' a x hf Q q => by
  obtain ⟨⟨ds, e1⟩, h1, hf⟩ := bind_some hf
  obtain ⟨c, h2⟩ := if_some (show (if catC ds.length 0 = true then some (PyData.tuple ds, e1) else none) = some (d, es') from hf)
  cases h2
  refine h.ev ρ σ Hs H ds es _ a x h1 _ fun vs Hs1 H1 g1 t1 r1 => ⟨by rw [r1.length]; exact catC_of c, fun b hb => ?_⟩
  have g2 : Gr Hs1 H1 (upd Hs1 b (.tup vs)) (upd H1 b (.tup vs)) := Gr.new g1.sub hb
  exact q _ _ _ (g1.trans (.of g2)) (t1.go g2) (show R _ _ _ from .tup (.inl (.inl upd_same)) (r1.mono (same_new (Same.free g1.sub hb))))⟩
def iT1 (f : FE) : FEs := fun ρ es => (f ρ es).bind fun p => match p.1 with
  | .int k => if rgC k = true then some (rangeD 0 k.toNat, p.2) else none
  | _ => none
theorem tpi_r1 {tg : Expr} (gl : Gl X "range") (hm : X.mg "range" = none) (h : TapE X j O e te f) (hs : starEach [e] X.env = [(false, eval e X.env)] := by rfl) :
    TapI X j O tg (.Call (.Name "range" p) [e] [] pos) (iRng1 (tCons te tNil)) (iT1 f) := ⟨pi_range1 gl hm (pa_cons h.pe pa_nil hs) hs, fun ρ σ Hs H ds es es' a x hf Q q => by
  obtain ⟨⟨d1, e1⟩, h1, hf⟩ := bind_some hf
  cases d1 <;> try (cases hf; done)
  rename_i k
  obtain ⟨c, h2⟩ := if_some (show (if rgC k = true then some (rangeD 0 k.toNat, e1) else none) = some (ds, es') from hf)
  cases h2
  refine h.ev ρ σ Hs H _ es _ a x h1 _ fun v Hs1 H1 g1 t1 r1 => ?_
  exact ⟨k, by rw [rd_int (Hs := Hs1) (H0 := H1) (H := H1) (.inl r1)], (rgC_of c).1, (rgC_of c).2, q _ Hs1 H1 g1 t1 gives_range⟩⟩
def spC (n : Nat) (Fn : List PyData → List PyData → Option (PyData × List PyData)) : Sp := fun vs H Q _ => ∃ (ds es : List PyData) (d : PyData) (es' : List PyData) (Hs : Hp) (a : Addr) (us : List V), vs = .ref a :: us ∧ ds.length + 1 = n ∧ Same Hs H ∧ TP a Hs H es ∧ RA Hs us ds ∧ Fn ds es = some (d, es') ∧ ∀ v Hs' H', GT a Hs H Hs' H' → TP a Hs' H' es' → R Hs' v d → Q v H'
theorem spC_len {n : Nat} {Fn : List PyData → List PyData → Option (PyData × List PyData)} : ∀ vs H Q E, spC n Fn vs H Q E → vs.length = n := fun vs H Q E h => by
  obtain ⟨ds, es, d, es', Hs, a, us, rfl, h1, _, _, h2, _⟩ := h
  rw [List.length_cons, h2.length, h1]
def eCall (Fn : List PyData → List PyData → Option (PyData × List PyData)) (fs : FA) : FE := fun ρ es => (fs ρ).bind fun ds => Fn ds es
theorem tp_call {n : Nat} {Fn : List PyData → List PyData → Option (PyData × List PyData)} {E : XK} {xs : List Expr} {t : TA} {fs : FA} (ha : DAc X O xs t fs) (hp : PA X xs t → PE X e (tCall (spC n Fn) [] E (tCons (tVar j) t))) (hlen : ∀ ρ ds, fs ρ = some ds → ds.length + 1 = n) : TapE X j O e (tCall (spC n Fn) [] E (tCons (tVar j) t)) (eCall Fn fs) := ⟨hp ha.pa, fun ρ σ Hs H d es es' a x hf Q q => by
  obtain ⟨ds, h1, h2⟩ := bind_some hf
  refine ⟨.ref a, x.hj, ha.ev ρ σ Hs H ds x.sl h1 _ fun vs Hs1 H1 g1 r1 => ?_⟩
  exact ⟨ds, es, d, es', Hs1, a, vs ++ [], rfl, hlen ρ ds h1, g1.sub, x.tp.go g1, by rw [List.append_nil]; exact r1, h2, fun v Hs2 H2 g2 t2 r2 => q v Hs2 H2 ((GT.of g1).trans g2) t2 r2⟩⟩
def lcT (k : FG) (el : FE) (ρ : Rho) : List PyData → List PyData → Option (List PyData × List PyData)
  | [], es => some ([], es)
  | d :: ds, es => (k d ρ).bind fun ρ1 => (el ρ1 es).bind fun p => (lcT k el ρ ds p.2).map fun q => (p.1 :: q.1, q.2)
def eLc (src : FEs) (k : FG) (el : FE) (vs : List Nat) : FE := fun ρ es => (src ρ es).bind fun p => if catC p.1.length 1 = true then (lcT k el (wipeR ρ vs) p.1 p.2).map fun q => (.list q.1, q.2) else none
theorem StT.wiped {a : Addr} {ρ : Rho} {σ : St} {Hs H : Hp} {es : List PyData} (x : StT j a O ρ σ Hs H es) {vs : List Nat} (hv : j ∉ vs) : StT j a O (wipeR ρ vs) (wipe σ vs) Hs H es := by
  refine ⟨x.sl.wiped vs, ?_, x.tp, fun i hi d hd => ?_⟩
  · rw [wipe_get, if_neg hv]
    exact x.hj
  · rw [wipeR_get] at hd
    by_cases h : i ∈ vs
    · rw [if_pos h] at hd
      split at hd <;> cases hd
    · rw [if_neg h] at hd
      rw [wipe_get, if_neg h]
      exact x.ne i hi d hd
theorem tp_ev_lc {wi : TI} {g : TG} {te : TE} {vs js : List Nat} {k : FG} {el : FE} {src : FEs}
    (hi : ∀ (ρ : Rho) (σ : St) (Hs H : Hp) (ds es es' : List PyData) (a : Addr), StT j a O ρ σ Hs H es → src ρ es = some (ds, es') → ∀ Q : It → Hp → Prop, (∀ J Hs' H', GT a Hs H Hs' H' → TP a Hs' H' es' → Gives J ds Hs' → Q J H') → wi σ H Q)
    (hg : ∀ (d : PyData) (x : V) (ρ ρ' : Rho) (σ : St) (Hs H : Hp), Slots O ρ σ Hs H → R Hs x d → k d ρ = some ρ' → ∀ Q : St → Hp → Prop, (∀ σ', Slots O ρ' σ' Hs H → σ'.length = σ.length → (∀ j, j ∉ js → σ'[j]? = σ[j]? ∧ ρ'[j]? = ρ[j]?) → Q σ' H) → g x σ H Q)
    (ho : ∀ j ∈ js, O.contains j = false)
    (he : ∀ (ρ : Rho) (σ : St) (Hs H : Hp) (d : PyData) (es es' : List PyData) (a : Addr), StT j a O ρ σ Hs H es → el ρ es = some (d, es') → ∀ Q : VK, (∀ v Hs' H', GT a Hs H Hs' H' → TP a Hs' H' es' → R Hs' v d → Q v H') → te σ H Q) (hj : ∀ j ∈ js, j ∈ vs) (hv : j ∉ vs)
    {ρ : Rho} {σ : St} {Hs H : Hp} {d : PyData} {es es' : List PyData} {a : Addr} (s : StT j a O ρ σ Hs H es) (h : eLc src k el vs ρ es = some (d, es')) (Q : VK) (q : ∀ v Hs' H', GT a Hs H Hs' H' → TP a Hs' H' es' → R Hs' v d → Q v H') : tLc wi g tYes te vs σ H Q := by
  obtain ⟨⟨ds, e0⟩, hds, h⟩ := bind_some h
  obtain ⟨c, h⟩ : catC ds.length 1 = true ∧ (lcT k el (wipeR ρ vs) ds e0).map (fun q => (PyData.list q.1, q.2)) = some (d, es') := by
    by_cases c : catC ds.length 1 = true
    · rw [if_pos c] at h
      exact ⟨c, h⟩
    · rw [if_neg c] at h
      cases h
  obtain ⟨⟨xs, e9⟩, hxs, hh⟩ := Option.map_eq_some_iff.mp h
  cases hh
  refine hi ρ σ Hs H ds es e0 a s hds _ fun J Hs1 H1 gr1 t1 giv D hD => ?_
  have s1 := s.go gr1 t1
  have haH : H1 a ≠ none := by
    obtain ⟨_, ws, hw, _⟩ := t1
    rw [hw]
    simp
  have hDa : D ≠ a := fun z => haH (by rw [← z]; exact hD)
  have tup : ∀ {K K' : Hp} {Ks : Hp} {u : HO} {es : List PyData}, TP a Ks K es → K' a = K a → TP a Ks K' es := fun t e => by
    obtain ⟨n, ws, hw, r⟩ := t
    exact ⟨n, ws, by rw [e]; exact hw, r⟩
  refine ⟨fun i m K => m = ds.length - i ∧ i ≤ ds.length ∧ ∃ (Ks : Hp) (acc : List V) (done rest ei : List PyData), GT a Hs1 H1 Ks K ∧ TP a Ks K ei ∧ Ks D = none ∧ K D = some (.lst acc) ∧ RA Ks acc done ∧ done.length ≤ i ∧
    lcT k el (wipeR ρ vs) (ds.drop i) ei = some (rest, e9) ∧ done ++ rest = xs, ⟨ds.length, by simp, Nat.zero_le _, Hs1, [], [], xs, e0, ?_, tup (u := .lst []) t1 (upd_ne (fun z => hDa z.symm)), Same.free gr1.sub hD, upd_same, .nil, Nat.le_refl _, hxs, rfl⟩, ?_⟩
  · exact .of (Gr.own gr1.sub hD)
  rintro i m K ⟨rfl, hle, Ks, acc, done, rest, ei, gr2, t2, nD, eD, ra, dl, hrest, hall⟩
  by_cases hlt : i < ds.length
  · have hdrop : ds.drop i = ds[i] :: ds.drop (i + 1) := List.drop_eq_getElem_cons hlt
    rw [hdrop] at hrest
    obtain ⟨ρ1, hk1, hrest⟩ := bind_some hrest
    obtain ⟨⟨y, e2⟩, hy1, hrest⟩ := bind_some hrest
    obtain ⟨⟨rest', e3⟩, hr1, hr2⟩ := Option.map_eq_some_iff.mp hrest
    cases hr2
    refine .inr ⟨giv.go i Ks K gr2.s gr2.sub hlt, fun K' => ∃ (Ks : Hp) (acc : List V) (done rest ei : List PyData), GT a Hs1 H1 Ks K' ∧ TP a Ks K' ei ∧ Ks D = none ∧ K' D = some (.lst acc) ∧ RA Ks acc done ∧ done.length ≤ i + 1 ∧
      lcT k el (wipeR ρ vs) (ds.drop (i + 1)) ei = some (rest, e3) ∧ done ++ rest = xs, fun K' hN => ⟨ds.length - (i + 1), by omega, rfl, by omega, hN⟩, fun x K' hy => ?_⟩
    obtain ⟨Ks', gr3, rx⟩ := giv.yld i Ks K x K' gr2.s gr2.sub hy ds[i] (List.getElem?_eq_getElem hlt)
    have nD3 : Ks' D = none := gr3.non D nD (by rw [eD]; simp)
    have eD3 : K' D = some (.lst acc) := gr3.h _ _ eD
    have gt3 : GT a Hs1 H1 Ks' K' := gr2.trans (.of gr3)
    have t3 : TP a Ks' K' ei := t2.go gr3
    have sw : StT j a O (wipeR ρ vs) (wipe σ vs) Ks' K' ei := (s1.go gt3 t3).wiped hv
    refine hg _ x (wipeR ρ vs) ρ1 (wipe σ vs) Ks' K' sw.sl rx hk1 _ fun σ2 sl2 len2 out2 => ?_
    have hjs : j ∉ js := fun z => hv (hj j z)
    have st2 : StT j a O ρ1 σ2 Ks' K' ei := ⟨sl2, by rw [(out2 j hjs).1]; exact sw.hj, t3, fun i hi d hd => by
      have hij : i ∉ js := fun z => by
        have := ho i z
        rw [List.contains_iff_mem.mpr hi] at this
        cases this
      rw [(out2 i hij).2] at hd
      rw [(out2 i hij).1]
      exact sw.ne i hi d hd⟩
    refine ⟨wipe_same len2 hj fun j hjn => (out2 j hjn).1, ?_⟩
    show te σ2 K' _
    refine he ρ1 σ2 Ks' K' y ei e2 a st2 hy1 _ fun v Ks5 K5 gr5 t5 r5 => ?_
    have nD5 : Ks5 D = none := gr5.non D hDa nD3 (by rw [eD3]; simp)
    have eD5 : K5 D = some (.lst acc) := gr5.h _ _ hDa eD3
    have gra : GT a Hs1 H1 Ks5 K5 := gt3.trans gr5
    have ra5 : RA Ks5 acc done := ra.mono (gr3.s.trans gr5.s)
    refine ⟨acc, eD5, ?_, Ks5, acc ++ [v], done ++ [y], rest', e2, ⟨gra.s, fun b o hb z => ?_, fun b o z => ?_, gra.non⟩, tup (u := .lst []) t5 (upd_ne (fun z => hDa z.symm)), nD5, upd_same, ra5.snoc r5, ?_, hr1, ?_⟩
    · rw [ra5.length]
      have := of_decide_eq_true (p := ds.length + 1 ≤ 16000000) c
      exact Nat.lt_of_le_of_lt (show done.length ≤ 16000000 by omega) (by decide)
    · rw [upd_ne (ne_of_none z hD)]
      exact gra.h b o hb z
    · rw [upd_ne (ne_of_none z nD5)]
      exact gra.sub b o z
    · rw [List.length_append, List.length_singleton]
      omega
    · rw [List.append_assoc]
      exact hall
  · have ei' : i = ds.length := by omega
    subst ei'
    rw [List.drop_length] at hrest
    cases hrest
    rw [List.append_nil] at hall
    subst hall
    have sD : Same Ks (upd Ks D (.lst acc)) := same_new nD
    refine .inl ⟨giv.stop Ks K gr2.s gr2.sub, q _ (upd Ks D (.lst acc)) K ⟨(gr1.s.trans gr2.s).trans sD, fun b o hb z => gr2.h b o hb (gr1.h b o hb z), fun b o z => ?_, fun b hb z1 z2 => ?_⟩ ?_ (.lst (ls_of upd_same) (ra.mono sD))⟩
    · by_cases hb : b = D
      · subst hb
        rw [upd_same] at z
        rw [eD]
        exact z
      · rw [upd_ne hb] at z
        exact gr2.sub b o z
    · have h1b : H1 b ≠ none := fun e => by
        cases hq : H b with
        | none => exact z2 hq
        | some o =>
          rw [gr1.h b o hb hq] at e
          cases e
      have hbD : b ≠ D := fun e => h1b (by rw [e]; exact hD)
      rw [upd_ne hbD]
      exact gr2.non b hb (gr1.non b hb z1 z2) h1b
    · obtain ⟨n, ws, hw, r⟩ := t2
      exact ⟨by rw [upd_ne (fun z => hDa z.symm)]; exact n, ws, hw, r.mono sD⟩
end
section
variable {X : Cx} {j : Nat} {O : List Nat} {elt tg iter : Expr} {scope : Scope} {own : List (Str × Nat)} {pos : Pos} {wi : TI} {g : TG} {te : TE} {k : FG} {el : FE} {src : FEs} {js : List Nat}
structure TapLc (X : Cx) (j : Nat) (O : List Nat) (elt tg iter : Expr) (scope : Scope) (own : List (Str × Nat)) (wi : TI) (g : TG) (te : TE) (src : FEs) (k : FG) (el : FE) (js : List Nat) : Prop where
  hi : TapI X j O tg iter wi src
  ok : BlkOk X.N X.env.scope scope own
  hg : ∀ (s : Shared) (H : Hp) (C : Addr) (cl : List (Str × Addr)) (fp : List Addr), DG (X.blk s H scope (compEnvC scope cl C X.env) fp) O tg g k js
  he : ∀ (s : Shared) (H : Hp) (C : Addr) (cl : List (Str × Addr)) (fp : List Addr), TapE (X.blk s H scope (compEnvC scope cl C X.env) fp) j O elt te el
  hj : js.all (own.map (·.2)).contains = true
  hv : (own.map (·.2)).contains j = false
theorem tp_lc (hc : X.calm = true) (hN : X.N.Nodup) (h : TapLc X j O elt tg iter scope own wi g te src k el js) (hs : ∀ x, foldedSetIterable iter X.env x = pure x := by intro _; rfl) :
    TapE X j O (.ListComp elt [⟨tg, iter, [], 0⟩] scope pos) (tLc wi g tYes te (own.map (·.2))) (eLc src k el (own.map (·.2))) :=
  ⟨pe_lc hc hN h.hi.pi h.ok (fun s H C cl fp => (h.hg s H C cl fp).pg) (fun s H C cl fp => pts_nil) (fun s H C cl fp => (h.he s H C cl fp).pe) hs, fun ρ σ Hs H d es es' a s hf Q q =>
    tp_ev_lc h.hi.ev (h.hg ({} : Shared) (fun _ => none) 0 [] []).ev (h.hg ({} : Shared) (fun _ => none) 0 [] []).ho (h.he ({} : Shared) (fun _ => none) 0 [] []).ev (lc_js h.hj) (fun z => by
      have := h.hv
      rw [List.contains_iff_mem.mpr z] at this
      cases this) s hf Q q⟩
end
end DL
namespace DL
open PySem PySem.Spec L2
open PyProof.Rows hiding St
variable [kf : KF]
structure StK (j : Nat) (a : Addr) (O : List Nat) (ρ : Rho) (σ : St) (Hs0 H0 Hs H : Hp) (es : List PyData) : Prop where
  x : StOK O ρ σ Hs0 H0 Hs H
  n0 : H0 a = none
  hj : σ[j]? = some (some (.ref a))
  tp : TP a Hs H es
  ne : ∀ i ∈ O, ∀ d, ρ[i]? = some (some d) → σ[i]? ≠ some (some (.ref a))
section
variable {j : Nat} {a : Addr} {O O' : List Nat} {ρ ρ' : Rho} {σ σ' : St} {Hs0 H0 Hs H Hs' H' : Hp} {es es' : List PyData}
theorem StK.t (x : StK j a O ρ σ Hs0 H0 Hs H es) : StT j a O ρ σ Hs H es := ⟨x.x.sl, x.hj, x.tp, x.ne⟩
theorem StK.go (x : StK j a O ρ σ Hs0 H0 Hs H es) (g : GT a Hs H Hs' H') (t : TP a Hs' H' es') : StK j a O ρ σ Hs0 H0 Hs' H' es' :=
  ⟨⟨x.x.sl.gt x.ne g, ⟨x.x.gr.s.trans g.s, fun b o h => by
    have hb : b ≠ a := fun z => by
      rw [z, x.n0] at h
      cases h
    exact g.h b o hb (x.x.gr.h b o h), g.sub, fun b h1 h2 => by
    have hb : b ≠ a := fun z => h2 (by rw [z]; exact x.n0)
    refine g.non b hb (x.x.gr.non b h1 h2) fun e => ?_
    cases q : H0 b with
    | none => exact h2 q
    | some o =>
      rw [x.x.gr.h b o q] at e
      cases e⟩, x.x.new⟩, x.n0, x.hj, t, x.ne⟩
def plusT (H0 : Hp) (a : Addr) (H : Hp) : Hp := fun b => if b = a then H a else H0 b
theorem StK.re (x : StK j a O ρ σ Hs0 H0 Hs H es) : StOK O ρ σ Hs (plusT H0 a H) Hs H :=
  ⟨x.x.sl, ⟨.refl _, fun b o h => by
    unfold plusT at h
    by_cases hb : b = a
    · rw [if_pos hb] at h
      rw [hb]
      exact h
    · rw [if_neg hb] at h
      exact x.x.gr.h b o h, x.x.sl.sub, fun _ h _ => h⟩, fun i hi d hd => by
    obtain ⟨b, k1, k2⟩ := x.x.new i hi d hd
    have hb : b ≠ a := fun z => x.ne i hi d hd (by rw [k1, z])
    exact ⟨b, k1, by unfold plusT; rw [if_neg hb]; exact k2⟩⟩
theorem StK.un (x : StK j a O ρ σ Hs0 H0 Hs H es) (y : StOK O' ρ' σ' Hs (plusT H0 a H) Hs' H') (h : σ'[j]? = some (some (.ref a))) : StK j a O' ρ' σ' Hs0 H0 Hs' H' es := by
  have pa : plusT H0 a H a = H a := if_pos rfl
  have pb : ∀ b, b ≠ a → plusT H0 a H b = H0 b := fun b hb => if_neg hb
  obtain ⟨n, ws, hw, r⟩ := x.tp
  have ba : ∀ b o, H0 b = some o → b ≠ a := fun b o h z => by
    rw [z, x.n0] at h
    cases h
  have bn : ∀ i ∈ O', ∀ d, ρ'[i]? = some (some d) → ∃ b, σ'[i]? = some (some (.ref b)) ∧ b ≠ a ∧ H0 b = none := fun i hi d hd => by
    obtain ⟨b, k1, k2⟩ := y.new i hi d hd
    have hb : b ≠ a := fun z => by
      rw [z, pa, hw] at k2
      cases k2
    exact ⟨b, k1, hb, by rw [← pb b hb]; exact k2⟩
  refine ⟨⟨y.sl, ⟨x.x.gr.s.trans y.gr.s, fun b o hb => y.gr.h b o (by rw [pb b (ba b o hb)]; exact hb), y.gr.sub, fun b h1 h2 => ?_⟩, fun i hi d hd => ?_⟩, x.n0, h, ⟨y.gr.non a n (by rw [pa, hw]; simp), ws, y.gr.h a _ (by rw [pa]; exact hw), r.mono y.gr.s⟩, fun i hi d hd z => ?_⟩
  · have hb : b ≠ a := fun z => h2 (by rw [z]; exact x.n0)
    exact y.gr.non b (x.x.gr.non b h1 h2) (by rw [pb b hb]; exact h2)
  · obtain ⟨b, k1, k2, k3⟩ := bn i hi d hd
    exact ⟨b, k1, k3⟩
  · obtain ⟨b, k1, k2, k3⟩ := bn i hi d hd
    rw [k1] at z
    exact k2 (V.ref.inj (Option.some.inj (Option.some.inj z)))
end
abbrev FTS := Rho → List PyData → Option (Out × List PyData)
def PostT (j : Nat) (a : Addr) (O' : List Nat) (Hs0 H0 : Hp) (D : Ends) : Out → List PyData → Prop
  | .nx ρ, es => ∀ σ Hs H, StK j a O' ρ σ Hs0 H0 Hs H es → D.nx σ H
  | .rt d, es => ∀ v Hs H, Gr Hs0 H0 Hs H → TP a Hs H es → R Hs v d → D.rt v H
  | .bk _, _ => False
  | .ct _, _ => False
def SemT (j : Nat) (O O' : List Nat) (ts : TS) (G : FTS) : Prop := ∀ (ρ : Rho) (σ : St) (Hs0 H0 Hs H : Hp) (D : Ends) (o : Out) (es es' : List PyData) (a : Addr), StK j a O ρ σ Hs0 H0 Hs H es → G ρ es = some (o, es') → PostT j a O' Hs0 H0 D o es' → ts D σ H
structure Tap1 (X : Cx) (j : Nat) (O O' : List Nat) (st : Stmt) (ts : TS) (G : FTS) : Prop where
  ps : PS X st ts
  ev : SemT j O O' ts G
structure Taps (X : Cx) (j : Nat) (O O' : List Nat) (sts : List Stmt) (ts : TS) (G : FTS) : Prop where
  ps : PSs X sts ts
  ev : SemT j O O' ts G
def sqT (G G' : FTS) : FTS := fun ρ es => (G ρ es).bind fun p => match p.1 with
  | .nx ρ' => G' ρ' p.2
  | o => some (o, p.2)
def nilT : FTS := fun ρ es => some (.nx ρ, es)
section
variable {X : Cx} {j : Nat} {O O' O1 : List Nat} {st : Stmt} {rest s1 s2 : List Stmt} {t u : TS} {G G' : FTS} {c e : Expr} {tc : TT} {ft : FT} {te : TE} {f : FE} {pos : Pos}
theorem tap_nil : Taps X j O O [] tNext nilT := ⟨pss_nil, fun ρ σ Hs0 H0 Hs H D o es es' a x hg q => by
  cases hg
  exact q σ Hs H x⟩
theorem tap_one (h : Tap1 X j O O' st t G) : Taps X j O O' [st] t G := ⟨pss_one h.ps, h.ev⟩
theorem tap_cons (h : Tap1 X j O O1 st t G) (hr : Taps X j O1 O' rest u G') : Taps X j O O' (st :: rest) (tSeq t u) (sqT G G') := ⟨pss_cons h.ps hr.ps, fun ρ σ Hs0 H0 Hs H D o es es' a x hg q => by
  obtain ⟨⟨o1, e1⟩, k1, k2⟩ := bind_some hg
  refine h.ev ρ σ Hs0 H0 Hs H { D with nx := u D } o1 es e1 a x k1 ?_
  cases o1 with
  | nx ρ' => exact fun σ' Hs' H' x' => hr.ev ρ' σ' Hs0 H0 Hs' H' D o e1 es' a x' k2 q
  | rt d =>
    cases k2
    exact q
  | bk ρ' =>
    cases k2
    exact q.elim
  | ct ρ' =>
    cases k2
    exact q.elim⟩
theorem tap_frz (i : Nat) (h : Taps X j (del i O) O' rest t G) : Taps X j O O' rest t G := ⟨h.ps, fun ρ σ Hs0 H0 Hs H D o es es' a x hg q => by
  obtain ⟨Hs', y, _⟩ := x.re.freezeS i
  exact h.ev ρ σ Hs0 H0 Hs' H D o es es' a (x.un y x.hj) hg q⟩
def stL (G : FS) : FTS := fun ρ es => (G ρ).map fun o => (o, es)
theorem tap_of {W : List Nat} {G : FS} (h : DS X .cl [] O O' W st t G) (hn : noRt G) (hW : W.contains j = false := by rfl) : Tap1 X j O O' st t (stL G) := ⟨h.ps, fun ρ σ Hs0 H0 Hs H D o es es' a x hg q => by
  obtain ⟨o', h1, h2⟩ := Option.map_eq_some_iff.mp hg
  cases h2
  have hj : j ∉ W := fun z => by
    have := List.contains_iff_mem.mpr z
    rw [hW] at this
    cases this
  refine h.ev ρ σ Hs (plusT H0 a H) Hs H D o x.re h1 ?_
  cases o with
  | nx ρ' => exact fun σ' Hs' H' y fx => q σ' Hs' H' (x.un y (by rw [(fx j hj).1]; exact x.hj))
  | rt d => exact absurd h1 (hn _ _)
  | bk _ => exact q.elim
  | ct _ => exact q.elim⟩
def asgT (i : Nat) (f : FE) : FTS := fun ρ es => (f ρ es).map fun p => (.nx (ρ.set i (some p.1)), p.2)
theorem tap_asg (i : Nat) (h : TapE X j O e te f) (hp : PE X e te → PS X st (tAsg te (gName i))) (hij : i ≠ j := by decide) : Tap1 X j O (del i O) st (tAsg te (gName i)) (asgT i f) := ⟨hp h.pe, fun ρ σ Hs0 H0 Hs H D o es es' a x hg q => by
  obtain ⟨⟨d, e1⟩, h1, h2⟩ := Option.map_eq_some_iff.mp hg
  cases h2
  refine h.ev ρ σ Hs H d es _ a x.t h1 _ fun v Hs1 H1 g1 t1 r1 => ?_
  have x1 := x.go g1 t1
  exact q _ Hs1 H1 ⟨x1.x.del r1, x1.n0, by rw [List.getElem?_set_ne hij]; exact x1.hj, t1, fun k hk d hd => by
    obtain ⟨hk1, hk2⟩ := mem_del.mp hk
    have hn : i ≠ k := fun z => hk2 z.symm
    rw [List.getElem?_set_ne hn] at hd ⊢
    exact x1.ne k hk1 d hd⟩⟩
def appT' (i : Nat) (f : FE) : FTS := fun ρ es => (f ρ es).bind fun p => match ρ[i]? with
  | some (some (.list ds)) => if catC ds.length 1 = true then some (.nx (ρ.set i (some (.list (ds ++ [p.1])))), p.2) else none
  | _ => none
theorem tap_app (i : Nat) {x : Str} {p p2 p3 : Pos} (ho : O.contains i = true) (h : TapE X j O e te f) (hij : i ≠ j := by decide)
    (hp : PE X e te → PS X (.Expr (.Call (.Attribute (.Name x p) "append" p2) [e] [] p3) pos) (tDrop (tBM X.K "list" rAppend (tVar i) (tCons te tNil)))) :
    Tap1 X j O O (.Expr (.Call (.Attribute (.Name x p) "append" p2) [e] [] p3) pos) (tDrop (tBM X.K "list" rAppend (tVar i) (tCons te tNil))) (appT' i f) := ⟨hp h.pe, fun ρ σ Hs0 H0 Hs H D o es es' a x hg q => by
  obtain ⟨⟨y, e1⟩, h1, h2⟩ := bind_some hg
  cases hr : ρ[i]? with
  | none => rw [hr] at h2; cases h2
  | some w =>
    rw [hr] at h2
    cases w with
    | none => cases h2
    | some d =>
      cases d <;> try (cases h2; done)
      rename_i ds
      obtain ⟨c, h3⟩ := if_some (show (if catC ds.length 1 = true then some (Out.nx (ρ.set i (some (.list (ds ++ [y])))), e1) else none) = some (o, es') from h2)
      cases h3
      obtain ⟨b, vs, ds', z1, k1, n1, n2, n3⟩ := x.x.own_at ho hr
      cases z1
      have hba : b ≠ a := fun z => x.ne i (List.contains_iff_mem.mp ho) _ hr (by rw [k1, z])
      refine ⟨.ref b, k1, .inl ⟨rfl, _, .inl (.inl n2)⟩, ?_⟩
      refine h.ev ρ σ Hs H y es _ a x.t h1 _ fun v Hs1 H1 g1 t1 r1 => ?_
      have x1 := x.go g1 t1
      refine ⟨b, vs, v, rfl, rfl, g1.h _ _ hba n2, ?_, ?_⟩
      · rw [n3.length]
        have := of_decide_eq_true (p := ds.length + 1 ≤ 16000000) c
        exact Nat.lt_of_lt_of_le (show ds.length < 16000000 by omega) (by decide)
      · refine q σ Hs1 _ ⟨x1.x.upd ho k1 hr ((n3.mono g1.s).snoc r1), x1.n0, x1.hj, ?_, fun k hk d hd => ?_⟩
        · obtain ⟨n, ws, hw, rr⟩ := t1
          exact ⟨n, ws, by rw [upd_ne (fun z => hba z.symm)]; exact hw, rr⟩
        · by_cases hik : i = k
          · rw [← hik, k1]
            intro z
            exact hba (V.ref.inj (Option.some.inj (Option.some.inj z)))
          · rw [List.getElem?_set_ne hik] at hd
            exact x1.ne k hk d hd⟩
def setT (k : Nat) (f : FE) : FTS := fun ρ es => (f ρ es).bind fun p => if k < p.2.length then some (.nx ρ, p.2.set k p.1) else none
theorem tap_set (k : Nat) (h : TapE X j O e te f) (hp : PE X e te → PS X st (tAsg te (gSub (tVar j) (tC (.int (k : Int))) rSetL))) : Tap1 X j O O st (tAsg te (gSub (tVar j) (tC (.int (k : Int))) rSetL)) (setT k f) := ⟨hp h.pe, fun ρ σ Hs0 H0 Hs H D o es es' a x hg q => by
  obtain ⟨⟨y, e1⟩, h1, h2⟩ := bind_some hg
  by_cases hk : k < e1.length
  rotate_left
  · have h2' : (if k < e1.length then some (Out.nx ρ, e1.set k y) else none) = some (o, es') := h2
    rw [if_neg hk] at h2'
    cases h2'
  have h2' : (if k < e1.length then some (Out.nx ρ, e1.set k y) else none) = some (o, es') := h2
  rw [if_pos hk] at h2'
  cases h2'
  refine h.ev ρ σ Hs H y es e1 a x.t h1 _ fun v Hs1 H1 g1 t1 r1 => ?_
  have x1 := x.go g1 t1
  obtain ⟨n, ws, hw, rr⟩ := t1
  refine ⟨.ref a, x1.hj, a, ws, (k : Int), k, rfl, rfl, hw, ?_, ?_⟩
  · rw [rr.length]
    unfold ixN
    rw [if_pos (by omega)]
    rw [if_pos (by omega), Int.toNat_natCast]
  · refine q σ Hs1 _ (x1.go ⟨.refl _, fun b o hb z => by rw [upd_ne hb]; exact z, fun b o z => ?_, fun b hb z _ => z⟩ ⟨n, ws.set k v, upd_same, rr.set r1 k⟩)
    by_cases hb : b = a
    · rw [hb, n] at z
      cases z
    · rw [upd_ne hb]
      exact x1.x.sl.sub b o z⟩
def retT (f : FE) : FTS := fun ρ es => (f ρ es).map fun p => (.rt p.1, p.2)
theorem tap_ret (h : TapE X j O e te f) : Tap1 X j O O' (.Return (some e) pos) (tRet te) (retT f) := ⟨ps_ret h.pe, fun ρ σ Hs0 H0 Hs H D o es es' a x hg q => by
  obtain ⟨⟨d, e1⟩, h1, h2⟩ := Option.map_eq_some_iff.mp hg
  cases h2
  exact h.ev ρ σ Hs H d es _ a x.t h1 _ fun v Hs1 H1 g1 t1 r1 => q v Hs1 H1 (x.go g1 t1).x.gr t1 r1⟩
def ifT (c : FT) (G G' : FTS) : FTS := fun ρ es => (c ρ).bind fun k => if k = true then G ρ es else G' ρ es
theorem tap_if (hc : DT X O c tc ft) (ha : Taps X j O O' s1 t G) (hb : Taps X j O O' s2 u G') : Tap1 X j O O' (.If c s1 s2 pos) (tIfS tc t u) (ifT ft G G') := ⟨ps_if hc.pt ha.ps hb.ps, fun ρ σ Hs0 H0 Hs H D o es es' a x hg q => by
  obtain ⟨k, k1, k2⟩ := bind_some hg
  refine hc.ev ρ σ Hs H k x.x.sl k1 _ fun Hs1 H1 g1 => ?_
  have x1 := x.go (.of g1) (x.tp.go g1)
  cases k with
  | true => exact iteT (ha.ev ρ σ Hs0 H0 Hs1 H1 D o es es' a x1 k2 q)
  | false => exact iteF (hb.ev ρ σ Hs0 H0 Hs1 H1 D o es es' a x1 k2 q)⟩
def lpT (k : FG) (B : FTS) : List PyData → FTS
  | [], ρ, es => some (.nx ρ, es)
  | d :: ds, ρ, es => (k d ρ).bind fun ρ1 => (B ρ1 es).bind fun p => match p.1 with
    | .nx ρ2 => lpT k B ds ρ2 p.2
    | .rt v => some (.rt v, p.2)
    | _ => none
def forT (src : FEs) (k : FG) (B : FTS) : FTS := fun ρ es => (src ρ es).bind fun p => lpT k B p.1 ρ p.2
theorem tap_for {tg iter : Expr} {body : List Stmt} {wi : TI} {g : TG} {tb : TS} {src : FEs} {k : FG} {B : FTS} {js : List Nat} (hp : PassesOwn (model X.prog X.w) X.A X.env X.xe) (hc : X.calm = true) (hi : TapI X j O tg iter wi src) (hg : DG X O tg g k js) (hb : Taps X j O O body tb B)
    (hjs : js.contains j = false := by rfl) (hs : ∀ x, foldedSetIterable iter X.env x = pure x := by intro _; rfl) : Tap1 X j O O (.For tg iter body [] pos) (tFor wi g tb) (forT src k B) := ⟨ps_for hp hc hi.pi hg.pg hb.ps hs, fun ρ σ Hs0 H0 Hs H D o es es' a x hx q => by
  obtain ⟨⟨ds, e1⟩, hds, hl⟩ := bind_some hx
  have hj : j ∉ js := fun z => by
    have := List.contains_iff_mem.mpr z
    rw [hjs] at this
    cases this
  refine hi.ev ρ σ Hs H ds es e1 a x.t hds _ fun J Hs1 H1 g1 t1 giv => ?_
  refine ⟨fun i n σ' K => n = ds.length - i ∧ i ≤ ds.length ∧ ∃ (Ks : Hp) (ρ' : Rho) (ei : List PyData), StK j a O ρ' σ' Hs0 H0 Ks K ei ∧ Same Hs1 Ks ∧ lpT k B (ds.drop i) ρ' ei = some (o, es'), ⟨ds.length, by simp, Nat.zero_le _, Hs1, ρ, e1, x.go g1 t1, .refl _, hl⟩, ?_⟩
  rintro i n σ' K ⟨rfl, hle, Ks, ρ', ei, x', e2, hl'⟩
  have x1 := x.go g1 t1
  by_cases hlt : i < ds.length
  · have hdrop : ds.drop i = ds[i] :: ds.drop (i + 1) := List.drop_eq_getElem_cons hlt
    rw [hdrop] at hl'
    obtain ⟨ρ1, hk, hl'⟩ := bind_some hl'
    obtain ⟨⟨o1, e3⟩, hB, hl'⟩ := bind_some hl'
    refine .inr ⟨giv.go i Ks K e2 x'.x.sl.sub hlt, fun σ2 K2 => ∃ (Ks : Hp) (ρ' : Rho) (ei : List PyData), StK j a O ρ' σ2 Hs0 H0 Ks K2 ei ∧ Same Hs1 Ks ∧ lpT k B (ds.drop (i + 1)) ρ' ei = some (o, es'), fun σ2 K2 hN => ⟨ds.length - (i + 1), by omega, rfl, by omega, hN⟩, fun v K' hy => ?_⟩
    obtain ⟨Ks', g2, rx⟩ := giv.yld i Ks K v K' e2 x'.x.sl.sub hy ds[i] (List.getElem?_eq_getElem hlt)
    have x2 := x'.go (.of g2) (x'.tp.go g2)
    refine hg.ev _ v ρ' ρ1 σ' Ks' K' x2.x.sl rx hk _ fun σ2 s2 l2 out2 => ?_
    have x3 : StK j a O ρ1 σ2 Hs0 H0 Ks' K' ei := ⟨x2.x.tgt hg.ho s2 out2, x2.n0, by rw [(out2 j hj).1]; exact x2.hj, x2.tp, fun i hi d hd => by
      have hij : i ∉ js := fun z => by
        have := hg.ho i z
        rw [List.contains_iff_mem.mpr hi] at this
        cases this
      rw [(out2 i hij).2] at hd
      rw [(out2 i hij).1]
      exact x2.ne i hi d hd⟩
    have gb : Gr Hs0 H0 Hs1 H1 := x1.x.gr
    have e4 : Same Hs1 Ks' := e2.trans g2.s
    have nJ : joinH H0 Hs1 a = none := by
      unfold joinH
      rw [x.n0]
      exact t1.1
    have x4 : StK j a O ρ1 σ2 Hs1 (joinH H0 Hs1) Ks' K' ei := ⟨x3.x.rebase gb e4, nJ, x3.hj, x3.tp, x3.ne⟩
    refine hb.ev ρ1 σ2 Hs1 (joinH H0 Hs1) Ks' K' _ o1 ei e3 a x4 hB ?_
    cases o1 with
    | nx ρ2 => exact fun σ3 Hs H y => ⟨Hs, ρ2, e3, ⟨StOK.unbase gb y.x, x.n0, y.hj, y.tp, y.ne⟩, y.x.gr.s, hl'⟩
    | rt d =>
      cases hl'
      exact fun v Hs H gr t r => q v Hs H ((gr_join gb).trans gr) t r
    | bk _ => cases hl'
    | ct _ => cases hl'
  · have ei' : i = ds.length := by omega
    subst ei'
    rw [List.drop_length] at hl'
    cases hl'
    exact .inl ⟨giv.stop Ks K e2 x'.x.sl.sub, q σ' Ks K x'⟩⟩
end
def runT (nl : Nat) (G : FTS) (ds es : List PyData) : Option (PyData × List PyData) := (G (none :: (ds.map some ++ List.replicate (nl - (ds.length + 1)) none)) es).bind fun p => match p.1 with
  | .rt d => some (d, p.2)
  | _ => none
theorem def_t {P : Program} {w : World} {K : PySem.W.Frag} {mg : Str → Option Value} {base : Heap} {CX : CXT} {x qual : Str} {st : Stmt} {f : Addr} {fd : FuncData} {N ps : List Str} {k : Nat} {nl : Nat} {G : FTS} {O' : List Nat} {n : Nat} (F : Fun K x qual st f fd) (S : FnScope N ps (defScope st)) (hn : ps.length = n) (hnl : N.length = nl)
    (body : ∀ (cdv : Value) (A : Around) (outer : List Env) (s : Shared) (H : Hp) (E : XK), GA k (A.deeper (envOfC qual (defScope st) s.heap.objs.size f cdv)) →
      ∃ t, Taps (cxOf CX P w K mg base N qual (defScope st) f cdv A outer s H E).nox 0 [] O' (defBody st) t G) : FnG P w K mg base CX (k + 1) f fd ps (spC n (runT nl G)) := by
  subst hn
  subst hnl
  refine fnG_of F S spC_len fun cdv A outer s H vs Q E ga want => ?_
  obtain ⟨t1, h1⟩ := body cdv A outer s H E ga
  obtain ⟨ds, es, d, es', Hs, a, us, rfl, l1, e, tp, ru, hf, q⟩ := want
  refine ⟨t1, h1.ps.nox, ?_⟩
  obtain ⟨⟨o, e1⟩, ho, hd⟩ := bind_some hf
  have haH : H a ≠ none := by
    obtain ⟨_, ws, hw, _⟩ := tp
    rw [hw]
    simp
  have lu : us.length = ds.length := ru.length
  have hσ : ∀ i : Nat, (start N (.ref a :: us))[i + 1]? = (us.map some ++ List.replicate (N.length - (us.length + 1)) none)[i]? := fun i => rfl
  have sl : Slots [] (none :: (ds.map some ++ List.replicate (N.length - (ds.length + 1)) none)) (start N (.ref a :: us)) Hs H := by
    refine ⟨e, ?_, fun i d h => ?_, fun i k di dk v hn h1 _ => by simp at h1⟩
    · unfold L2.start
      simp only [List.length_append, List.length_map, List.length_replicate, List.length_cons]
      omega
    · cases i with
      | zero => cases h
      | succ i =>
        have h' : (ds.map some ++ List.replicate (N.length - (ds.length + 1)) none)[i]? = some (some d) := h
        by_cases hi : i < ds.length
        · rw [List.getElem?_append_left (by rw [List.length_map]; exact hi), List.getElem?_map] at h'
          obtain ⟨d', hd', e2⟩ := Option.map_eq_some_iff.mp h'
          cases e2
          obtain ⟨v, hv, rv⟩ := ru.get hd'
          refine ⟨v, ?_, fun z => by simp at z, fun _ => rv⟩
          rw [hσ, List.getElem?_append_left (by rw [List.length_map]; omega), List.getElem?_map, hv] <;> rfl
        · rw [List.getElem?_append_right (by rw [List.length_map]; omega), List.length_map] at h'
          have := (List.mem_replicate.mp (List.mem_of_getElem? h')).2
          cases this
  have oa : outF H [a] a = none := outF_in (List.mem_singleton.mpr rfl)
  have ob : ∀ b, b ≠ a → outF H [a] b = H b := fun b hb => outF_out (by simpa using hb)
  have x0 : StK 0 a [] (none :: (ds.map some ++ List.replicate (N.length - (ds.length + 1)) none)) (start N (.ref a :: us)) Hs (outF H [a]) Hs H es := by
    refine ⟨⟨sl, ⟨.refl _, fun b o hb => ?_, e, fun _ h _ => h⟩, fun i hi => absurd hi List.not_mem_nil⟩, oa, rfl, tp, fun i hi => absurd hi List.not_mem_nil⟩
    by_cases hb' : b = a
    · rw [hb', oa] at hb
      cases hb
    · rwa [ob b hb'] at hb
  have ho' : G (none :: (ds.map some ++ List.replicate (N.length - (ds.length + 1)) none)) es = some (o, e1) := ho
  cases o with
  | rt d' =>
    cases hd
    refine h1.ev _ _ Hs (outF H [a]) Hs H _ (.rt d) es _ a x0 ho' fun v Hs' H' g t r => q v Hs' H' ⟨g.s, fun b o hb z => g.h b o (by rw [ob b hb]; exact z), g.sub, fun b hb z1 z2 => g.non b z1 (by rw [ob b hb]; exact z2)⟩ t r
  | nx ρ' => cases hd
  | bk _ => cases hd
  | ct _ => cases hd
end DL
namespace DL
open PySem PySem.Spec L2
open PyProof.Rows hiding St
variable [kf : KF]
section
variable {X : Cx} {j : Nat} {O : List Nat} {elt tg iter : Expr} {scope : Scope} {own : List (Str × Nat)} {pos spos py : Pos} {wi : TI} {g : TG} {te : TE} {k : FG} {el : FE} {src : FEs} {js vs : List Nat}
theorem tpl_mk (own : List (Str × Nat)) (hi : TapI X j O tg iter wi src) (ok : BlkOk X.N X.env.scope scope own) (hg : ∀ (s : Shared) (H : Hp) (C : Addr) (cl : List (Str × Addr)) (fp : List Addr), DG (X.blk s H scope (compEnvC scope cl C X.env) fp) O tg g k js)
    (he : ∀ (s : Shared) (H : Hp) (C : Addr) (cl : List (Str × Addr)) (fp : List Addr), TapE (X.blk s H scope (compEnvC scope cl C X.env) fp) j O elt te el)
    (hj : js.all (own.map (·.2)).contains = true := by rfl) (hv : (own.map (·.2)).contains j = false := by rfl) : TapLc X j O elt tg iter scope own wi g te src k el js := ⟨hi, ok, hg, he, hj, hv⟩
theorem tp_lcv (hc : X.calm = true) (hN : X.N.Nodup) (h : TapLc X j O elt tg iter scope own wi g te src k el js) (hv : own.map (·.2) = vs := by rfl) (hs : ∀ x, foldedSetIterable iter X.env x = pure x := by intro _; rfl) : TapE X j O (.ListComp elt [⟨tg, iter, [], 0⟩] scope pos) (tLc wi g tYes te (own.map (·.2))) (eLc src k el vs) := by
  subst hv
  exact tp_lc hc hN h hs
theorem tap_asgLc (i : Nat) {x : Str} (hc : X.calm = true) (hN : X.N.Nodup) (h : TapLc X j O elt tg iter scope own wi g te src k el js) (hsw : swapsWith (.ListComp elt [⟨tg, iter, [], 0⟩] scope pos) (some (.Name x py)) spos.line X.env = pure true) (hv : own.map (·.2) = vs := by rfl) (hi : X.N[i]? = some x := by rfl)
    (hx : X.env.scope.names.lookup x = some .local := by rfl) (hs : ∀ x, foldedSetIterable iter X.env x = pure x := by intro _; rfl) (hij : i ≠ j := by decide) : Tap1 X j O (del i O) (.Assign [.Name x py] (.ListComp elt [⟨tg, iter, [], 0⟩] scope pos) spos) (tAsg (tLc wi g tYes te (own.map (·.2))) (gName i)) (asgT i (eLc src k el vs)) :=
  tap_asg i (tp_lcv (pos := pos) hc hN h hv hs) (fun _ => ps_setLc hc hN hi hx hsw h.hi.pi h.ok (fun s H C cl fp => (h.hg s H C cl fp).pg) (fun s H C cl fp => pts_nil) (fun s H C cl fp => (h.he s H C cl fp).pe) hs) hij
end
section
variable {X : Cx} {j : Nat} {O : List Nat} {a b e0 : Expr} {xs : List Expr} {ta tb : TE} {fa fb : FE} {t : TA} {fs : FA} {pos p : Pos}
theorem tp_ixK (hK : X.K = KF.K) (ha : TapE X j O a ta fa) (hb : TapE X j O b tb fb) (hs : PlainIx b := by intro _ _; rfl) : TapE X j O (.Subscript a b pos) (tOp (rIx KF.K) ta tb) (eBin dIx fa fb) :=
  tp_ixE hK ha hb hs (fun h1 h2 => by
    rw [← hK]
    exact pe_ix ix_seq h1 h2 hs) opd_ix
theorem tp_callF {CX : CXT} {k n : Nat} {f : Addr} {fd : FuncData} {ps : List Str} {E : XK} {x : Str} {Fn : List PyData → List PyData → Option (PyData × List PyData)} (F : FnG X.prog X.w X.K X.mg X.base CX k f fd ps (spC n Fn)) (ga : GA k X.A) (hm : X.mg x = some (.ref f)) (hk : PySem.W.keepIn X.K (.ref f) = true) (hb : Binds X.K fd ps []) (hx : Passes CX X E)
    (hv : PE X e0 (tVar j)) (ha : DAc X O xs t fs) (hlen : ∀ ρ ds, fs ρ = some ds → ds.length + 1 = n) (hg : Gl X x := by rfl) (hdb : (x == ("__debug__" : Str)) = false := by decide) (he : starEach (e0 :: xs) X.env = (false, eval e0 X.env) :: starEach xs X.env := by rfl) (hpl : (backTo pos (starEach xs X.env)).any (·.1) = false := by rfl) :
    TapE X j O (.Call (.Name x p) (e0 :: xs) [] pos) (tCall (spC n Fn) [] E (tCons (tVar j) t)) (eCall Fn fs) := tp_call ha (fun h => pe_callG F ga hg hm hk hb hx (pa_cons hv h he) hdb he hpl) hlen
end
theorem tln {fs : FA} {k : Nat} (h : ∀ ρ ds, fs ρ = some ds → ds.length = k) : ∀ ρ ds, fs ρ = some ds → ds.length + 1 = k + 1 := fun ρ ds e => congrArg (· + 1) (h ρ ds e)
end DL
namespace DL
open PySem PySem.Spec L2
open PyProof.Rows hiding St
variable [kf : KF]
def SemYG (j : Nat) (f : Addr) (ps : PyData → List (List Nat)) (OB : List Nat) (N : NSl) (O : List Nat) (N' : NSl) (O' W : List Nat) (ts : TS) (G : FS) : Prop := ∀ (ρ : Rho) (σ : St) (Hs0 H0 Hs H : Hp) (D : Ends) (o : Out), StY N O ρ σ Hs0 H0 Hs H → σ[j]? = some (some (.ref f)) → G ρ = some o → PostY ps OB N' O' W σ ρ Hs0 H0 D o → ts D σ H
structure YG1 (X : Cx) (j : Nat) (f : Addr) (ps : PyData → List (List Nat)) (OB : List Nat) (N : NSl) (O : List Nat) (N' : NSl) (O' W : List Nat) (st : Stmt) (ts : TS) (G : FS) : Prop where
  ps_ : PS X st ts
  ev : SemYG j f ps OB N O N' O' W ts G
structure YGs (X : Cx) (j : Nat) (f : Addr) (ps : PyData → List (List Nat)) (OB : List Nat) (N : NSl) (O : List Nat) (N' : NSl) (O' W : List Nat) (sts : List Stmt) (ts : TS) (G : FS) : Prop where
  ps_ : PSs X sts ts
  ev : SemYG j f ps OB N O N' O' W ts G
section
variable {X : Cx} {j : Nat} {f : Addr} {ps : PyData → List (List Nat)} {OB O O' O1 W W' : List Nat} {N N' N1 : NSl} {st : Stmt} {rest : List Stmt} {t u : TS} {G G' : FS} {pos : Pos}
theorem yg_of (h : YS1 X ps OB N O N' O' W st t G) : YG1 X j f ps OB N O N' O' W st t G := ⟨h.ps_, fun ρ σ Hs0 H0 Hs H D o x _ => h.ev ρ σ Hs0 H0 Hs H D o x⟩
theorem yg_ofs {sts : List Stmt} (h : YSs X ps OB N O N' O' W sts t G) : YGs X j f ps OB N O N' O' W sts t G := ⟨h.ps_, fun ρ σ Hs0 H0 Hs H D o x _ => h.ev ρ σ Hs0 H0 Hs H D o x⟩
theorem yg_one (h : YG1 X j f ps OB N O N' O' W st t G) : YGs X j f ps OB N O N' O' W [st] t G := ⟨pss_one h.ps_, h.ev⟩
theorem yg_cons (h : YG1 X j f ps OB N O N1 O1 W st t G) (hr : YGs X j f ps OB N1 O1 N' O' W' rest u G') (hW : W.contains j = false := by rfl) : YGs X j f ps OB N O N' O' (W ++ W') (st :: rest) (tSeq t u) (sSeq G G') := ⟨pss_cons h.ps_ hr.ps_, fun ρ σ Hs0 H0 Hs H D o x hj hg q => by
  have hn : j ∉ W := fun z => by
    have := List.contains_iff_mem.mpr z
    rw [hW] at this
    cases this
  obtain ⟨o1, h1, h2⟩ := bind_some hg
  refine h.ev ρ σ Hs0 H0 Hs H { D with nx := u D } o1 x hj h1 ?_
  cases o1 with
  | nx ρ' =>
    refine fun σ' Hs' H' x' fx => hr.ev ρ' σ' Hs0 H0 Hs' H' D o x' (by rw [(fx j hn).1]; exact hj) h2 ?_
    cases o with
    | nx ρ2 => exact fun σ2 Hs2 H2 x2 f2 => q σ2 Hs2 H2 x2 (fx.app f2)
    | rt d => exact q
    | bk ρ2 => exact fun σ2 Hs2 H2 x2 f2 => q σ2 Hs2 H2 x2 (fx.app f2)
    | ct ρ2 => exact fun σ2 Hs2 H2 x2 f2 => q σ2 Hs2 H2 x2 (fx.app f2)
  | rt d =>
    cases h2
    exact q
  | bk ρ' =>
    cases h2
    exact fun σ2 Hs2 H2 x2 f2 => q σ2 Hs2 H2 x2 (f2.mono fun _ z => List.mem_append_left _ z)
  | ct ρ' =>
    cases h2
    exact fun σ2 Hs2 H2 x2 f2 => q σ2 Hs2 H2 x2 (f2.mono fun _ z => List.mem_append_left _ z)⟩
theorem yg_while {n : Nat} {c : Expr} {tc : TT} {body : List Stmt} {tb : TS} {B : FS} {fc : FT} (hp : PassesOwn (model X.prog X.w) X.A X.env X.xe) (hc : DT X O c tc fc) (hb : YGs X j f ps O [] O N' O W body tb B) (hW : W.contains j = false := by rfl) : YG1 X j f ps OB N O [] O W (.While c body [] pos) (tWhile tc tb) (sWhile n fc B) := ⟨ps_while hp hc.pt hb.ps_, fun ρ σ Hs0 H0 Hs H D o x hj hx q => by
  have hn : j ∉ W := fun z => by
    have := List.contains_iff_mem.mpr z
    rw [hW] at this
    cases this
  refine ⟨fun i σ' K => ∃ (Ks : Hp) (ρ' : Rho), StOK O ρ' σ' Hs0 H0 Ks K ∧ Fx W σ σ' ρ ρ' ∧ whileF fc B i ρ' = some o, ⟨n, Hs, ρ, x.x, .refl _ _ _, hx⟩, ?_⟩
  rintro i σ' K ⟨Ks, ρ', x', fx, hw⟩
  have n0 : ∀ {σ : St} {Hs : Hp}, NOk [] σ H0 Hs := fun p hp => (List.not_mem_nil hp).elim
  cases i with
  | zero => cases hw
  | succ i =>
    obtain ⟨b, hb1, hw⟩ := bind_some (show ((fc ρ').bind fun b => if b = true then (B ρ').bind fun o => match o with
      | .nx ρ2 => whileF fc B i ρ2
      | .ct ρ2 => whileF fc B i ρ2
      | .bk ρ2 => some (.nx ρ2)
      | .rt v => some (.rt v)
      else some (.nx ρ')) = some o from hw)
    refine hc.ev ρ' σ' Ks K b x'.sl hb1 _ fun Ks1 K1 g1 => ?_
    cases b with
    | false =>
      rw [if_neg Bool.false_ne_true] at hw ⊢
      cases hw
      exact q σ' Ks1 K1 ⟨x'.mono g1, n0⟩ fx
    | true =>
      rw [if_pos rfl] at hw ⊢
      obtain ⟨o1, hB, hw⟩ := bind_some hw
      refine ⟨fun σ2 K2 => ∃ (Ks : Hp) (ρ' : Rho), StOK O ρ' σ2 Hs0 H0 Ks K2 ∧ Fx W σ σ2 ρ ρ' ∧ whileF fc B i ρ' = some o, fun σ2 K2 hN => ⟨i, Nat.lt_succ_self i, hN⟩, ?_⟩
      refine hb.ev ρ' σ' Hs0 H0 Ks1 K1 _ o1 ⟨x'.mono g1, n0⟩ (by rw [(fx j hn).1]; exact hj) hB ?_
      have ff : ∀ {σ3 : St} {ρ3 : Rho}, Fx W σ' σ3 ρ' ρ3 → Fx W σ σ3 ρ ρ3 := fun f => (fx.app f).mono fun j z => by
        rcases List.mem_append.mp z with z | z <;> exact z
      cases o1 with
      | nx ρ2 => exact fun σ3 Hs H y f => ⟨Hs, ρ2, y.x, ff f, hw⟩
      | ct ρ2 => exact fun σ3 Hs H y f => ⟨Hs, ρ2, y, ff f, hw⟩
      | bk ρ2 =>
        cases hw
        exact fun σ3 Hs H y f => q σ3 Hs H ⟨y, n0⟩ (ff f)
      | rt d =>
        cases hw
        exact fun v Hs H gr r nn => q v Hs H gr r nn⟩
def sFrzN (i : Nat) (G : FS) : FS := fun ρ => match ρ[i]? with
  | some (some (.list ds)) => if ds.length ≤ 15000000 then G ρ else none
  | _ => none
theorem y_frzN (i : Nat) (h : YSs X ps OB ((i, []) :: N) (del i O) N' O' W rest t G) (hi : O.contains i = true := by rfl) : YSs X ps OB N O N' O' W rest t (sFrzN i G) := ⟨h.ps_, fun ρ σ Hs0 H0 Hs H D o x hg q => by
  unfold sFrzN at hg
  cases hr : ρ[i]? with
  | none => rw [hr] at hg; cases hg
  | some w =>
  rw [hr] at hg
  cases w with
  | none => cases hg
  | some d =>
  cases d <;> try (cases hg; done)
  rename_i ds
  have hg' : (if ds.length ≤ 15000000 then G ρ else none) = some o := hg
  clear hg
  obtain ⟨l, hg⟩ : ds.length ≤ 15000000 ∧ G ρ = some o := by
    by_cases c : ds.length ≤ 15000000
    · rw [if_pos c] at hg'
      exact ⟨c, hg'⟩
    · rw [if_neg c] at hg'
      cases hg'
  have him := List.contains_iff_mem.mp hi
  obtain ⟨b, vs, ds', z1, k1, n1, n2, n3⟩ := x.x.own_at hi hr
  cases z1
  obtain ⟨b', kb, nb⟩ := x.x.new i him _ hr
  rw [k1] at kb
  obtain rfl : b = b' := V.ref.inj (Option.some.inj (Option.some.inj kb))
  obtain ⟨Hs', x', sm, hE⟩ := x.x.freezeS i
  refine h.ev ρ σ Hs0 H0 Hs' H D o ⟨x', fun p hp => ?_⟩ hg q
  rcases List.mem_cons.mp hp with rfl | hp
  · exact ⟨.ref b, k1, b, vs, rfl, by rw [hE b _ him hr k1]; exact n2, nb, by rw [n3.length]; exact l⟩
  · obtain ⟨v, k2, k3⟩ := x.n p hp
    exact ⟨v, k2, k3.mono sm⟩⟩
end
section
variable {X : Cx} {N : NSl} {O : List Nat} {ps' : List (List Nat)} {e : Expr} {te : TE} {f : F}
theorem YE.de (h : YE X [] O e te f ps') : DE X O .cl e te f := ⟨h.pe, fun ρ σ Hs H d s hf Q q => h.ev ρ σ (fun _ => none) Hs H d s (fun _ _ z => nomatch z) (fun p hp => (List.not_mem_nil hp).elim) hf Q fun v Hs' H' g r _ => q v Hs' H' g r⟩
end
end DL
namespace DL
open PySem PySem.Spec L2
open PyProof.Rows hiding St
variable [kf : KF]
theorem nn_frzN {i : Nat} {G : FS} (h : ∀ ρ ρ', G ρ ≠ some (.nx ρ')) : ∀ ρ ρ', sFrzN i G ρ ≠ some (.nx ρ') := fun ρ ρ' e => by
  unfold sFrzN at e
  split at e
  · rename_i ds _
    by_cases c : ds.length ≤ 15000000
    · rw [if_pos c] at e
      exact h _ _ e
    · rw [if_neg c] at e
      cases e
  · cases e
end DL
namespace DL
open PySem PySem.Spec L2
open PyProof.Rows hiding St
variable [kf : KF]
def tCallLS (i : Nat) (f : Addr) (sp : Sp) (E : St → XK) (t : TA) : TE := fun σ H Q => σ[i]? = some (some (.ref f)) ∧ t σ H fun vs H1 => sp vs H1 Q (E σ)
theorem pe_callLSG {X : Cx} {CX : CXT} {k i : Nat} {f : Addr} {fd : FuncData} {ps : List Str} {sp : Sp} {E : St → XK} {x : Str} {p pos : Pos} {e : Expr} {es : List Expr} {t : TA} (F : FnG X.prog X.w X.K X.mg X.base CX k f fd ps sp) (ga : GA k X.A) (hN : X.N[i]? = some x) (hv : Vis X.env.scope x) (hk : PySem.W.keepIn X.K (.ref f) = true) (hb : Binds X.K fd ps []) (hx : ∀ σ, PassesAt CX X σ (E σ)) (ha : PA X (e :: es) t)
    (hdb : (x == ("__debug__" : Str)) = false := by decide) (hcd : (x == ("__classdict__" : Str)) = false := by decide)
    (he : starEach (e :: es) X.env = (false, eval e X.env) :: starEach es X.env := by rfl) (hpl : (backTo pos (starEach es X.env)).any (·.1) = false := by rfl) : PE X (.Call (.Name x p) (e :: es) [] pos) (tCallLS i f sp E t) := by
  refine ⟨fun pins s σ H Q I h => ?_⟩
  obtain ⟨hs, ht⟩ := h
  refine wpAny_Call_Name_kw (thn ((pe_var (pos := p) hN hv hdb hcd).run pins s σ H (fun v H1 => v = .ref f ∧ H1 = H) I ⟨.ref f, hs, rfl, rfl⟩) fun u s1 ⟨v, H1, I1, r1, q1⟩ => ?_)
  obtain ⟨rfl, rfl⟩ := q1
  cases r1
  refine PySem.W.callWith_K (h₀ := X.base) I.ok.mod.kin hk (thn (ha.run pos pins s1 σ _ _ I1 ht) fun us s2 ⟨vs, H2, I2, r, q⟩ => ⟨I2.kIn, ?_⟩) he hpl
  exact runSG F ga hb (hx σ) I2 r q
def SemXG (X : Cx) (j : Nat) (f : Addr) (N : NSl) (O : List Nat) (ts : TS) (GX : GXs) (Wx : WX) : Prop := ∀ (ρ : Rho) (σ : St) (Hs0 H0 Hs H : Hp) (D : Ends) (n : Str), StY N O ρ σ Hs0 H0 Hs H → σ[j]? = some (some (.ref f)) → GX ρ = some n →
  (∀ (C : Addr) (σ' : St) (Hs' H' : Hp), X.mg n = some (.ref C) → Gr Hs0 H0 Hs' H' → Wx (.ref C) none σ' H') → ts D σ H
structure XG1 (X : Cx) (j : Nat) (f : Addr) (ps : PyData → List (List Nat)) (OB : List Nat) (N : NSl) (O : List Nat) (N' : NSl) (O' W : List Nat) (st : Stmt) (ts : TS) (G : FS) (Wx : WX) (GX : GXs) : Prop where
  y : YG1 X j f ps OB N O N' O' W st ts G
  ex : SemXG X j f N O ts GX Wx
structure XGs (X : Cx) (j : Nat) (f : Addr) (ps : PyData → List (List Nat)) (OB : List Nat) (N : NSl) (O : List Nat) (N' : NSl) (O' W : List Nat) (sts : List Stmt) (ts : TS) (G : FS) (Wx : WX) (GX : GXs) : Prop where
  y : YGs X j f ps OB N O N' O' W sts ts G
  ex : SemXG X j f N O ts GX Wx
section
variable {X : Cx} {j : Nat} {f : Addr} {ps : PyData → List (List Nat)} {OB O O' O1 W W' : List Nat} {N N' N1 : NSl} {st : Stmt} {rest : List Stmt} {t u : TS} {G G' : FS} {pos : Pos} {Wx : WX} {GX GX' : GXs}
theorem xgs_of {sts : List Stmt} (h : YGs X j f ps OB N O N' O' W sts t G) : XGs X j f ps OB N O N' O' W sts t G Wx xNo := ⟨h, fun ρ σ Hs0 H0 Hs H D n x hj hg => nomatch hg⟩
theorem xg_dx {m : Md} {OB1 O2 W2 : List Nat} (h : YG1 X j f ps OB N O N' O' W st t G) (hx : DX X m OB1 O O2 W2 st t G Wx GX) : XG1 X j f ps OB N O N' O' W st t G Wx GX := ⟨h, fun ρ σ Hs0 H0 Hs H D n x hj hg q => hx.ex ρ σ Hs0 H0 Hs H D n x.x hg q⟩
theorem xg_one (h : XG1 X j f ps OB N O N' O' W st t G Wx GX) : XGs X j f ps OB N O N' O' W [st] t G Wx GX := ⟨yg_one h.y, h.ex⟩
theorem xg_cons (h : XG1 X j f ps OB N O N1 O1 W st t G Wx GX) (hr : XGs X j f ps OB N1 O1 N' O' W' rest u G' Wx GX') (hW : W.contains j = false := by rfl) : XGs X j f ps OB N O N' O' (W ++ W') (st :: rest) (tSeq t u) (sSeq G G') Wx (xSeq GX G GX') := ⟨yg_cons h.y hr.y hW, fun ρ σ Hs0 H0 Hs H D n x hj hg q => by
  have hn : j ∉ W := fun z => by
    have := List.contains_iff_mem.mpr z
    rw [hW] at this
    cases this
  unfold xSeq at hg
  cases ha : GX ρ with
  | some n' =>
    rw [ha] at hg
    cases hg
    exact h.ex ρ σ Hs0 H0 Hs H { D with nx := u D } n x hj ha q
  | none =>
    rw [ha] at hg
    obtain ⟨o, h1, h2⟩ := bind_some hg
    refine h.y.ev ρ σ Hs0 H0 Hs H { D with nx := u D } o x hj h1 ?_
    cases o with
    | nx ρ' => exact fun σ' Hs' H' x' fx => hr.ex ρ' σ' Hs0 H0 Hs' H' D n x' (by rw [(fx j hn).1]; exact hj) h2 q
    | rt d => cases h2
    | bk _ => cases h2
    | ct _ => cases h2⟩
def xWhileF (c : FT) (B : FS) (BX : GXs) : Nat → GXs
  | 0, _ => none
  | i + 1, ρ => (c ρ).bind fun b => if b = true then (match BX ρ with
      | some n => some n
      | none => (B ρ).bind fun o => match o with
        | .nx ρ2 => xWhileF c B BX i ρ2
        | .ct ρ2 => xWhileF c B BX i ρ2
        | _ => none) else none
def xWhile (n : Nat) (c : FT) (B : FS) (BX : GXs) : GXs := xWhileF c B BX n
theorem xg_while {n : Nat} {c : Expr} {tc : TT} {body : List Stmt} {tb : TS} {B : FS} {BX : GXs} {fc : FT} (hp : PassesOwn (model X.prog X.w) X.A X.env X.xe) (hc : DT X O c tc fc) (hb : XGs X j f ps O [] O N' O W body tb B Wx BX) (hW : W.contains j = false := by rfl) : XG1 X j f ps OB N O [] O W (.While c body [] pos) (tWhile tc tb) (sWhile n fc B) Wx (xWhile n fc B BX) := ⟨yg_while hp hc hb.y hW, fun ρ σ Hs0 H0 Hs H D nm x hj hx q => by
  have hn : j ∉ W := fun z => by
    have := List.contains_iff_mem.mpr z
    rw [hW] at this
    cases this
  refine ⟨fun i σ' K => ∃ (Ks : Hp) (ρ' : Rho), StOK O ρ' σ' Hs0 H0 Ks K ∧ Fx W σ σ' ρ ρ' ∧ xWhileF fc B BX i ρ' = some nm, ⟨n, Hs, ρ, x.x, .refl _ _ _, hx⟩, ?_⟩
  rintro i σ' K ⟨Ks, ρ', x', fx, hw⟩
  have n0 : ∀ {σ : St} {Hs : Hp}, NOk [] σ H0 Hs := fun p hp => (List.not_mem_nil hp).elim
  cases i with
  | zero => cases hw
  | succ i =>
    unfold xWhileF at hw
    obtain ⟨b, hb1, hw⟩ := bind_some hw
    refine hc.ev ρ' σ' Ks K b x'.sl hb1 _ fun Ks1 K1 g1 => ?_
    cases b with
    | false =>
      rw [if_neg Bool.false_ne_true] at hw
      cases hw
    | true =>
      rw [if_pos rfl] at hw ⊢
      have ff : ∀ {σ3 : St} {ρ3 : Rho}, Fx W σ' σ3 ρ' ρ3 → Fx W σ σ3 ρ ρ3 := fun f => (fx.app f).mono fun j z => by
        rcases List.mem_append.mp z with z | z <;> exact z
      refine ⟨fun σ2 K2 => ∃ (Ks : Hp) (ρ' : Rho), StOK O ρ' σ2 Hs0 H0 Ks K2 ∧ Fx W σ σ2 ρ ρ' ∧ xWhileF fc B BX i ρ' = some nm, fun σ2 K2 hN => ⟨i, Nat.lt_succ_self i, hN⟩, ?_⟩
      cases hB : BX ρ' with
      | some n' =>
        rw [hB] at hw
        cases hw
        exact hb.ex ρ' σ' Hs0 H0 Ks1 K1 _ nm ⟨x'.mono g1, n0⟩ (by rw [(fx j hn).1]; exact hj) hB q
      | none =>
        rw [hB] at hw
        obtain ⟨o1, hB1, hw⟩ := bind_some hw
        refine hb.y.ev ρ' σ' Hs0 H0 Ks1 K1 _ o1 ⟨x'.mono g1, n0⟩ (by rw [(fx j hn).1]; exact hj) hB1 ?_
        cases o1 with
        | nx ρ2 => exact fun σ3 Hs H y f => ⟨Hs, ρ2, y.x, ff f, hw⟩
        | ct ρ2 => exact fun σ3 Hs H y f => ⟨Hs, ρ2, y, ff f, hw⟩
        | bk ρ2 => cases hw
        | rt d => cases hw⟩
theorem xg_asgL {k nn : Nat} {fd : FuncData} {prm : List Str} {Rg : List PyData → Option PyData} {FX : List PyData → Option Str} {x : Str} {p cpos : Pos} {e : Expr} {es : List Expr} {t : TA} {fs : FA} {tg : Expr} {g : TG} {kk : FG} {js : List Nat} (F : FnG X.prog X.w X.K X.mg X.base (L2.CX X.prog X.w) k f fd prm (spX nn .cl Rg FX X.mg)) (ga : GA k X.A) (hk : PySem.W.keepIn X.K (.ref f) = true) (hb : Binds X.K fd prm []) (tk : Takes X Wx)
    (ha : DAc X O (e :: es) t fs) (hfs : ∀ ρ ds, fs ρ = some ds → ds.length = nn) (hg : DG X O tg g kk js) (hN : X.N[j]? = some x := by rfl) (hv : Vis X.env.scope x := by first | exact Or.inl rfl | exact Or.inr (Or.inl rfl) | exact Or.inr (Or.inr rfl))
    (hdb : (x == ("__debug__" : Str)) = false := by decide) (hcd : (x == ("__classdict__" : Str)) = false := by decide)
    (he : starEach (e :: es) X.env = (false, eval e X.env) :: starEach es X.env := by rfl) (hpl : (backTo cpos (starEach es X.env)).any (·.1) = false := by rfl)
    (hs : swapsWithSole [tg] (.Call (.Name x p) (e :: es) [] cpos) pos.line X.env = pure false := by rfl) (hw : swappedStores [tg] (.Call (.Name x p) (e :: es) [] cpos) X.env = pure none := by rfl) (h1 : (assignEach [tg] X.env).map (·.2) = [assign tg X.env] := by rfl) :
    XG1 X j f ps OB [] O [] O js (.Assign [tg] (.Call (.Name x p) (e :: es) [] cpos) pos) (tAsg (tCallLS j f (spX nn .cl Rg FX X.mg) (WE Wx) t) g) (sAsgG kk (fFn Rg fs)) Wx (xCall FX fs) :=
  ⟨⟨ps_asg (pe_callLSG F ga hN hv hk hb (fun σ => passAt tk σ) ha.pa hdb hcd he hpl) hg.pg hs hw h1, fun ρ σ Hs0 H0 Hs H D o x hj hx q => by
    obtain ⟨d, h1, h2⟩ := bind_some hx
    obtain ⟨ρ', h3, rfl⟩ := Option.map_eq_some_iff.mp h2
    obtain ⟨xs, hxs, hF⟩ := bind_some h1
    refine ⟨hj, ha.ev ρ σ Hs H xs x.x.sl hxs _ fun vs Hs1 H1 g1 r1 => ?_⟩
    refine ⟨xs, Hs1, hfs ρ xs hxs, g1.sub, r1, .inl ⟨d, hF, fun v Hs2 H2 g2 r2 => ?_⟩⟩
    have g12 := g1.trans g2
    refine hg.ev d v ρ ρ' σ Hs2 H2 (x.x.sl.mono g12) r2 h3 _ fun σ' s' l' o' => q σ' Hs2 H2 ⟨(x.x.mono g12).tgt hg.ho s' o', fun p hp => (List.not_mem_nil hp).elim⟩ o'⟩, fun ρ σ Hs0 H0 Hs H D n x hj hx q => by
    obtain ⟨xs, hxs, hF⟩ := bind_some hx
    refine ⟨hj, ha.ev ρ σ Hs H xs x.x.sl hxs _ fun vs Hs1 H1 g1 r1 => ?_⟩
    exact ⟨xs, Hs1, hfs ρ xs hxs, g1.sub, r1, .inr ⟨n, hF, fun C Hs2 H2 hC g2 => q C σ Hs2 H2 hC (x.x.gr.trans (g1.trans g2))⟩⟩⟩
end
def spLX (g : Addr) (n : Nat) (Fn : List PyData → Option PyData) (FX : List PyData → Option Str) (ps' : List (List Nat)) (mg : Str → Option Value) : Sp := fun vs H Q E => ∃ (ds : List PyData) (Hs : Hp) (us : List V), vs = us ++ [.ref g] ∧ ds.length = n ∧ Same Hs H ∧ RA Hs us ds ∧
  ((∃ d, Fn ds = some d ∧ ∀ v Hs' H', Gr Hs H Hs' H' → R Hs' v d → (∀ p ∈ ps', NewP H Hs' v p) → Q v H') ∨ ∃ c, FX ds = some c ∧ ∀ (C : Addr) (Hs' H' : Hp), mg c = some (.ref C) → Gr Hs H Hs' H' → E (.ref C) none H')
theorem spLX_len {g : Addr} {n : Nat} {Fn : List PyData → Option PyData} {FX : List PyData → Option Str} {ps' : List (List Nat)} {mg : Str → Option Value} : ∀ vs H Q E, spLX g n Fn FX ps' mg vs H Q E → vs.length = n + 1 := fun vs H Q E h => by
  obtain ⟨ds, Hs, us, rfl, h1, _, h2, _⟩ := h
  rw [List.length_append, List.length_singleton, h2.length, h1]
theorem def_xg {P : Program} {w : World} {K : PySem.W.Frag} {mg : Str → Option Value} {base : Heap} {x qual : Str} {st : Stmt} {f gA : Addr} {fd : FuncData} {Nm prm : List Str} {k : Nat} {nl : Nat} {G : FS} {GX : GXs} {n : Nat} {ps' : List (List Nat)} {N' : NSl} {O' W : List Nat} (F : Fun K x qual st f fd) (S : FnScope Nm prm (defScope st)) (hn : prm.length = n + 1) (hnl : Nm.length = nl) (hlt : n < nl)
    (none_ok : ∀ ρ ρ', G ρ ≠ some (.nx ρ'))
    (body : ∀ (cdv : Value) (A : Around) (outer : List Env) (s : Shared) (H : Hp) (E : XK), GA k (A.deeper (envOfC qual (defScope st) s.heap.objs.size f cdv)) →
      ∃ t, XGs (cxOf (L2.CX P w) P w K mg base Nm qual (defScope st) f cdv A outer s H E) n gA (fun _ => ps') [] [] [] N' O' W (defBody st) t G (fun cls d _ H' => E cls d H') GX) : FnG P w K mg base (L2.CX P w) (k + 1) f fd prm (spLX gA n (runF nl G) (runX nl GX) ps' mg) := by
  subst hnl
  refine fnG_of F S (fun vs H Q E h => (spLX_len vs H Q E h).trans hn.symm) fun cdv A outer s H vs Q E ga want => ?_
  obtain ⟨t1, h1⟩ := body cdv A outer s H E ga
  obtain ⟨ds, Hs, us, rfl, hlen, e, ru, want⟩ := want
  refine ⟨t1, h1.y.ps_, ?_⟩
  have lu : us.length = ds.length := ru.length
  have hσ : ∀ i v, us[i]? = some v → (start Nm (us ++ [.ref gA]))[i]? = some (some v) := fun i v h => by
    have hi : i < us.length := (List.getElem?_eq_some_iff.mp h).1
    unfold L2.start
    rw [List.getElem?_append_left (by rw [List.length_map, List.length_append]; omega), List.getElem?_map, List.getElem?_append_left hi, h] <;> rfl
  have hj : (start Nm (us ++ [.ref gA]))[n]? = some (some (.ref gA)) := by
    unfold L2.start
    rw [List.getElem?_append_left (by rw [List.length_map, List.length_append, List.length_singleton]; omega), List.getElem?_map, List.getElem?_append_right (by omega), show n - us.length = 0 by omega] <;> rfl
  have sl : Slots [] (ds.map some ++ List.replicate (Nm.length - ds.length) none) (start Nm (us ++ [.ref gA])) Hs H := by
    refine ⟨e, ?_, fun i d h => ?_, fun i k di dk v hn h1 _ => by simp at h1⟩
    · unfold L2.start
      simp only [List.length_append, List.length_map, List.length_replicate, List.length_singleton]
      omega
    · by_cases hi : i < ds.length
      · rw [List.getElem?_append_left (by rw [List.length_map]; exact hi), List.getElem?_map] at h
        obtain ⟨d', hd', e2⟩ := Option.map_eq_some_iff.mp h
        cases e2
        obtain ⟨v, hv, rv⟩ := ru.get hd'
        exact ⟨v, hσ i v hv, fun z => by simp at z, fun _ => rv⟩
      · rw [List.getElem?_append_right (by rw [List.length_map]; omega), List.length_map] at h
        have := (List.mem_replicate.mp (List.mem_of_getElem? h)).2
        cases this
  have x0 : StY [] [] (ds.map some ++ List.replicate (Nm.length - ds.length) none) (start Nm (us ++ [.ref gA])) Hs H Hs H := ⟨⟨sl, .refl e, fun i hi => absurd hi List.not_mem_nil⟩, fun p hp => (List.not_mem_nil hp).elim⟩
  rcases want with ⟨d, hf, q⟩ | ⟨c, hf, q⟩
  · obtain ⟨o, ho, hd⟩ := bind_some hf
    have ho' : G (ds.map some ++ List.replicate (Nm.length - ds.length) none) = some o := ho
    cases o with
    | rt d' =>
      cases hd
      exact h1.y.ev _ _ Hs H Hs H _ (.rt d) x0 hj ho' q
    | nx ρ' => exact absurd ho' (none_ok _ _)
    | bk _ => cases hd
    | ct _ => cases hd
  · exact h1.ex _ _ Hs H Hs H _ c x0 hj hf fun C σ' Hs' H' hC g => q C Hs' H' hC g
section
variable {X : Cx} {N : NSl} {O : List Nat} {ps' : List (List Nat)} {e : Expr} {te : TE} {f : F} {Wx : WX}
theorem dex_callL {k : Nat} {fa gA : Addr} {fd : FuncData} {prm : List Str} {Fn : List PyData → Option PyData} {FX : List PyData → Option Str} {x y : Str} {p py pos : Pos} {e1 e2 : Expr} {t1 t2 : TE} {f1 f2 : F} (F : FnG X.prog X.w X.K X.mg X.base (L2.CX X.prog X.w) k fa fd prm (spLX gA 2 Fn FX ps' X.mg)) (ga : GA k X.A)
    (hm : X.mg x = some (.ref fa)) (hk : PySem.W.keepIn X.K (.ref fa) = true) (hb : Binds X.K fd prm []) (tk : Takes X Wx) (h1 : DE X O .cl e1 t1 f1) (h2 : DE X O .cl e2 t2 f2) (hy : X.mg y = some (.ref gA)) (hg : Gl X x := by rfl) (gy : Gl X y := by rfl)
    (hdb : (x == ("__debug__" : Str)) = false := by decide) (hdy : (y == ("__debug__" : Str)) = false := by decide) (s1 : starEach [e1, e2, .Name y py] X.env = (false, eval e1 X.env) :: starEach [e2, .Name y py] X.env := by rfl) (s2 : starEach [e2, .Name y py] X.env = (false, eval e2 X.env) :: starEach [.Name y py] X.env := by rfl) (s3 : starEach [.Name y py] X.env = (false, eval (.Name y py) X.env) :: starEach [] X.env := by rfl) (hpl : (backTo pos (starEach [e2, .Name y py] X.env)).any (·.1) = false := by rfl) :
    DEX X Wx O .cl (.Call (.Name x p) [e1, e2, .Name y py] [] pos) (tCallS (spLX gA 2 Fn FX ps' X.mg) (WE Wx) (tCons t1 (tCons t2 (tCons (tC (.ref gA)) tNil)))) (fFn Fn (fConsA f1 (fConsA f2 fNilA))) (xCall FX (fConsA f1 (fConsA f2 fNilA))) :=
  ⟨⟨pe_callSG F ga hg hm hk hb (fun σ => passAt tk σ) (pa_cons h1.pe (pa_cons h2.pe (pa_cons (pe_glob gy hy rfl hdy) pa_nil s3) s2) s1) hdb s1 hpl, fun ρ σ Hs H d s h Q q => by
    obtain ⟨xs, hx, hFn⟩ := bind_some h
    obtain ⟨d1, r1', k1, hx, z1⟩ := fConsA_some hx
    obtain ⟨d2, r2', k2, hx, z2⟩ := fConsA_some hx
    cases hx
    subst z2
    subst z1
    refine h1.ev ρ σ Hs H d1 s k1 _ fun v1 Hs1 H1 g1 r1 => ?_
    refine h2.ev ρ σ Hs1 H1 d2 (s.mono g1) k2 _ fun v2 Hs2 H2 g2 r2 => ?_
    exact ⟨[d1, d2], Hs2, [v1, v2], rfl, rfl, g2.sub, .cons (R.mono g2.s r1) (.cons r2 .nil), .inl ⟨d, hFn, fun v Hs3 H3 g3 r3 n3 => q v Hs3 H3 ((g1.trans g2).trans g3) r3⟩⟩⟩, fun ρ σ Hs H n s h Q q => by
    obtain ⟨xs, hx, hFn⟩ := bind_some h
    obtain ⟨d1, r1', k1, hx, z1⟩ := fConsA_some hx
    obtain ⟨d2, r2', k2, hx, z2⟩ := fConsA_some hx
    cases hx
    subst z2
    subst z1
    refine h1.ev ρ σ Hs H d1 s k1 _ fun v1 Hs1 H1 g1 r1 => ?_
    refine h2.ev ρ σ Hs1 H1 d2 (s.mono g1) k2 _ fun v2 Hs2 H2 g2 r2 => ?_
    exact ⟨[d1, d2], Hs2, [v1, v2], rfl, rfl, g2.sub, .cons (R.mono g2.s r1) (.cons r2 .nil), .inr ⟨n, hFn, fun C Hs3 H3 hC g3 => q C Hs3 H3 hC ((g1.trans g2).trans g3)⟩⟩⟩
end
end DL
namespace DL
open PySem PySem.Spec L2
open PyProof.Rows hiding St
variable [kf : KF]
theorem xg_dy {X : Cx} {j : Nat} {f : Addr} {ps : PyData → List (List Nat)} {OB O O' W : List Nat} {N : NSl} {st : Stmt} {t : TS} {G : FS} {Wx : WX} {GX : GXs} (u : DX X .cl OB O O' W st t G Wx GX) (hn : noRt G) (hN : N.all (fun q => !W.contains q.1) = true := by rfl) : XG1 X j f ps OB N O N O' W st t G Wx GX := xg_dx (yg_of (y_of u.ds hn hN)) u
structure BTT (X : Cx) (i : Nat) (a : Addr) (e : Expr) (tt : TT) (b : Bool) : Prop where
  pt : PT X e tt
  ev : ∀ (σ : St) (H : Hp) (Q : Bool → Hp → Prop), σ[i]? = some (some (.ref a)) → Q b H → tt σ H Q
structure BTW (X : Cx) (i : Nat) (a : Addr) (e : Expr) (tt : TT) (b : Bool) : Prop where
  pw : PW X e tt
  ev : ∀ (σ : St) (H : Hp) (Q : Bool → Hp → Prop), σ[i]? = some (some (.ref a)) → Q b H → tt σ H Q
section
variable {X : Cx} {i : Nat} {a : Addr} {e e2 c x y : Expr} {rest : List Expr} {te ta tb : TE} {tt tu : TT} {b b' : Bool} {pos : Pos}
theorem btt_of (h : BT X i a e te b) (he : ∀ whole, isTrue e X.env whole = (do let v ← whole; standAt e.pos; holding [v] (truthy v)) := by intro _; rfl) : BTT X i a e (tB te) b := ⟨pt_val h.pe he, fun σ H Q hs q => h.ev σ H _ hs ⟨b, rfl, q⟩⟩
theorem btt_not (h : BTT X i a e tt b) : BTT X i a (.UnaryOp .Not e pos) (tNot tt) (!b) := ⟨pt_not h.pt, fun σ H Q hs q => h.ev σ H _ hs q⟩
theorem BTW.bt (h : BTW X i a e tt b) : BTT X i a e tt b := ⟨h.pw.pt, h.ev⟩
theorem btw_one (h : BTT X i a e tt b) : BTW X i a (.BoolOp .And [e] pos) tt b := ⟨pw_and1 h.pt, h.ev⟩
theorem btw_and (h : BTT X i a e tt b) (h2 : BTW X i a (.BoolOp .And (e2 :: rest) pos) tu b') : BTW X i a (.BoolOp .And (e :: e2 :: rest) pos) (tAnd tt tu) (b && b') := ⟨pw_and h.pt h2.pw, fun σ H Q hs q => by
  refine h.ev σ H _ hs ?_
  cases b with
  | true => exact iteT (h2.ev σ H Q hs q)
  | false => exact iteF q⟩
theorem bd_if {O : List Nat} {fa fb : F} (hc : BTT X i a c tt b) (ha : DE X O .cl x ta fa) (hb : DE X O .cl y tb fb) : BD X O i a (.IfExp c x y pos) (tIf tt ta tb) (if b = true then fa else fb) := ⟨pe_ifExp hc.pt ha.pe hb.pe, fun ρ σ Hs H d s hs hf Q q => by
  refine hc.ev σ H _ hs ?_
  cases b with
  | true => exact iteT (ha.ev ρ σ Hs H d s hf Q q)
  | false => exact iteF (hb.ev ρ σ Hs H d s hf Q q)⟩
end
theorem dex_callKwT {X : Cx} {Wx : WX} {m : Md} {O : List Nat} {pn : List (Addr × Obj)} {xe : Value → Shared → Prop} {k nn a b : Nat} {fa : Addr} {fd : FuncData} {ps ks : List Str} {Fn : List PyData → Option PyData} {FX : List PyData → Option Str} {x : Str} {p pos : Pos} {e : Expr} {es : List Expr} {kws : List Keyword} {t tkk : TA} {fs fk : FA} (F : FnG X.prog X.w X.K X.mg X.base (L2.CX X.prog X.w) k fa fd ps (spX nn m Fn FX X.mg)) (ga : GA k X.A) (hm : X.mg x = some (.ref fa)) (hk : PySem.W.keepIn X.K (.ref fa) = true) (hb : KB X.K fd ps ks a b) (tw : Takes (X.tr pn xe) Wx) (ha : DAc (X.tr pn xe) O (e :: es) t fs) (hkw : DK (X.tr pn xe) O kws tkk fk)
    (l1 : ∀ ρ ds, fs ρ = some ds → ds.length = a) (l2 : ∀ ρ ds, fk ρ = some ds → ds.length = b) (hlen : a + b = nn := by rfl) (hg : Gl X x := by rfl)
    (hall : (backToKw pos (keywordEach kws X.env)).all (·.1.isSome) = true := by rfl) (hks : (backToKw pos (keywordEach kws X.env)).filterMap (·.1) = ks := by rfl)
    (hdb : (x == ("__debug__" : Str)) = false := by decide) (he : starEach (e :: es) X.env = (false, eval e X.env) :: starEach es X.env := by rfl)
    (hpl : ((backTo pos (starEach (e :: es) X.env)).any (·.1) || (backToKw pos (keywordEach kws X.env)).any (·.1.isNone)) = false := by rfl) :
    DEX (X.tr pn xe) Wx O m (.Call (.Name x p) (e :: es) kws pos) (tCallS (spX nn m Fn FX X.mg) (WE Wx) (tAppA a b t tkk)) (fFn Fn (fAppA fs fk)) (xCall FX (fAppA fs fk)) := dex_callKw (X := X.tr pn xe) F ga hm hk hb tw ha hkw l1 l2 hlen hg hall hks hdb he hpl
def sTryRA (i : Nat) (f : F) (fx : GXs) (n : Str) (g : F) : FS := fun ρ => match f ρ with
  | some d => some (.rt d)
  | none => match ρ[i]? with
    | some none => if fx ρ = some n then (g ρ).map .rt else none
    | _ => none
theorem ds_tryRetAs {X : Cx} {OB O O' : List Nat} {C : Addr} {f : F} {fx : GXs} {xc n : Str} {i : Nat} {np pos pos' rp rp2 : Pos} {e r : Expr} {te : WX → TE} {tr : Addr → TE} {g : F}
    (hs : X.stack = X.env :: X.outer) (hf : X.env.frame = some X.env.locals) (hN : X.N.Nodup) (hi : X.N[i]? = some n) (hln : X.env.kindOf n = some .local) (hc : Names X xc (.ref C)) (gC : X.mg xc = some (.ref C)) (hex : PySem.W.exmOne X.K (.ref C) (.ref C) = some true)
    (tk : Takes X fun _ _ _ _ => False)
    (hb : ∀ (W : WX) (pn : List (Addr × Obj)) (xe : Value → Shared → Prop), Takes (X.tr pn xe) W → DEX (X.tr pn xe) W O .cl e (te W) f fx)
    (hr : ∀ (a : Addr) (oe : Obj) (pn : List (Addr × Obj)), Zc (.ref C) none oe → (∃ vs, oe.data = .fields vs) → BD (X.suite a ((a, oe) :: pn)) O i a r (tr a) g) :
    DS X .cl OB O O' [] (.Try [.Return (some e) rp] [.ExceptHandler (some (.Name xc np)) (some n) [.Return (some r) rp2] pos'] [] [] pos)
      (fun D σ H => tRet (te (wAs X.K (.ref C) i (fun a cls d D σ H => cls = .ref C ∧ d = none ∧ tRet (tr a) D σ H) (fun _ _ _ _ => False) D)) D σ H) (sTryRA i f fx xc g) := by
  refine ⟨ps_try_as (tb := fun W => tRet (te W)) hs hf hN hi hln hc tk (fun W pn xe tkW _ => pss_one (ps_ret (hb W pn xe tkW).de.pe)) (fun a oe cls d pn hz hfv => ?_), fun ρ σ Hs0 H0 Hs H D o s hgo q => ?_⟩
  · refine ⟨fun pins s σ H D I h => ?_⟩
    obtain ⟨rfl, rfl, h⟩ := h
    exact (pss_one (ps_ret (hr a oe pn hz hfv).pe)).run pins s σ H D I h
  · have hB := hb (wAs X.K (.ref C) i (fun a cls d D σ H => cls = .ref C ∧ d = none ∧ tRet (tr a) D σ H) (fun _ _ _ _ => False) D) [] (fun _ _ => True) (fun _ _ _ => trivial)
    have hgo : (match f ρ with | some d => some (Out.rt d) | none => match ρ[i]? with | some none => if fx ρ = some xc then (g ρ).map Out.rt else none | _ => none) = some o := hgo
    cases hF : f ρ with
    | some d =>
      rw [hF] at hgo
      cases hgo
      exact (ds_ret (pos := rp) (O' := O') (OB := OB) hB.de).ev ρ σ Hs0 H0 Hs H D (.rt d) s (by unfold sRet; rw [hF]; rfl) q
    | none =>
      rw [hF] at hgo
      have h3 : (match ρ[i]? with | some none => if fx ρ = some xc then (g ρ).map Out.rt else none | _ => none) = some o := hgo
      cases hr0 : ρ[i]? with
      | none =>
        rw [hr0] at h3
        cases h3
      | some w =>
        cases w with
        | some _ =>
          rw [hr0] at h3
          cases h3
        | none =>
          rw [hr0] at h3
          have h3 : (if fx ρ = some xc then (g ρ).map Out.rt else none) = some o := h3
          by_cases hc : fx ρ = some xc
          case neg =>
            rw [if_neg hc] at h3
            cases h3
          rw [if_pos hc] at h3
          obtain ⟨d, hgd, rfl⟩ := Option.map_eq_some_iff.mp h3
          refine hB.ex ρ σ Hs H xc s.sl hc _ fun C' Hs' H' hC g2 => ?_
          have hC : X.mg xc = some (.ref C') := hC
          rw [gC] at hC
          cases hC
          refine ⟨true, hex, fun _ a na => ⟨rfl, rfl, ?_⟩, fun z => Bool.noConfusion z⟩
          have hl : i < σ.length := by
            rw [s.sl.len]
            exact (List.getElem?_eq_some_iff.mp hr0).1
          refine (hr a ⟨.ref C, none, .fields #[], #[]⟩ [] ⟨rfl, rfl⟩ ⟨_, rfl⟩).ev ρ (σ.set i (some (.ref a))) Hs' H' d ((s.sl.mono g2).setN hr0) (List.getElem?_set_self hl) hgd _ fun v Hs3 H3 g3 r3 => ?_
          exact q v Hs3 H3 (s.gr.trans (g2.trans g3)) r3
end DL
namespace DL
open PySem PySem.Spec L2
open PyProof.Rows hiding St
variable [kf : KF]
def sAsgC2 (i jc : Nat) (Fn : List PyData → List PyData → Option (PyData × List PyData)) (fs : FA) (Rg : List PyData → Option PyData) : FS := fun ρ => (fs ρ).bind fun ds => match ρ[jc]? with
  | some (some (.list es)) => (Fn ds es).bind fun p => (Rg [p.1]).map fun z => .nx ((ρ.set jc (some (.list p.2))).set i (some z))
  | _ => none
theorem ds_asgC2 {X : Cx} {m : Md} {OB O : List Nat} (i jc : Nat) {n : Nat} {Fn : List PyData → List PyData → Option (PyData × List PyData)} {Rg : List PyData → Option PyData} {E E2 : XK} {st : Stmt} {xs : List Expr} {t : TA} {fs : FA} (hO : O.contains jc = true) (ha : DAc X O xs t fs) (hlen : ∀ ρ ds, fs ρ = some ds → ds.length + 1 = n)
    (hp : PA X xs t → PS X st (tAsg (tCall (spF 1 .cl Rg) [] E2 (tCons (tCall (spC n Fn) [] E (tCons (tVar jc) t)) tNil)) (gName i))) :
    DS X m OB O (del i O) [i, jc] st (tAsg (tCall (spF 1 .cl Rg) [] E2 (tCons (tCall (spC n Fn) [] E (tCons (tVar jc) t)) tNil)) (gName i)) (sAsgC2 i jc Fn fs Rg) := ⟨hp ha.pa, fun ρ σ Hs0 H0 Hs H D o x hg q => by
  obtain ⟨ds, h1, h2⟩ := bind_some hg
  cases hr : ρ[jc]? with
  | none => rw [hr] at h2; cases h2
  | some w0 =>
  rw [hr] at h2
  cases w0 with
  | none => cases h2
  | some d0 =>
  cases d0 <;> try (cases h2; done)
  rename_i es
  obtain ⟨⟨d, es'⟩, h3, h4⟩ := bind_some (show ((Fn ds es).bind fun p => (Rg [p.1]).map fun z => Out.nx ((ρ.set jc (some (.list p.2))).set i (some z))) = some o from h2)
  obtain ⟨z, h5, rfl⟩ := Option.map_eq_some_iff.mp h4
  obtain ⟨a, ws, es0, z1, hσ, n1, n2, n3⟩ := x.own_at hO hr
  cases z1
  refine ⟨.ref a, hσ, ha.ev ρ σ Hs H ds x.sl h1 _ fun vs Hs2 H2 g2 r2 => ?_⟩
  have m1 : Hs2 a = none := g2.non a n1 (by rw [n2]; simp)
  have m2 : H2 a = some (.lst ws) := g2.h _ _ n2
  have m3 : RA Hs2 ws es := n3.mono g2.s
  have x2 := x.mono g2
  refine ⟨ds, es, d, es', Hs2, a, vs ++ [], rfl, hlen ρ ds h1, g2.sub, ⟨m1, ws, m2, m3⟩, by rw [List.append_nil]; exact r2, h3, fun v1 Hs3' H3' g3' t3' rv1 => ?_⟩
  refine ⟨[d], z, Hs3', rfl, g3'.sub, .cons rv1 .nil, h5, fun v Hs3 H3 g4 rv => ?_⟩
  have g3 := g3'.trans (GT.of g4)
  have t3 := t3'.go g4
  obtain ⟨nA, ws', hw, ra'⟩ := t3
  have gr' : Gr Hs2 H2 Hs3 (upd H3 a (.lst ws)) := by
    refine ⟨g3.s, fun b o hb => ?_, fun b o hb => ?_, fun b hb1 hb2 => ?_⟩
    · by_cases hq : b = a
      · subst hq
        rw [m2] at hb
        rw [upd_same]
        exact hb
      · rw [upd_ne hq]
        exact g3.h b o hq hb
    · have hq : b ≠ a := fun z => by
        rw [z, nA] at hb
        cases hb
      rw [upd_ne hq]
      exact g3.sub b o hb
    · by_cases hq : b = a
      · rw [hq]
        exact nA
      · exact g3.non b hq hb1 hb2
  have x4 := (x2.mono gr').upd hO hσ hr ra'
  have eH : upd (upd H3 a (.lst ws)) a (.lst ws') = H3 := funext fun b => by
    by_cases hq : b = a
    · subst hq
      rw [upd_same, hw]
    · rw [upd_ne hq, upd_ne hq]
  rw [eH] at x4
  refine q _ Hs3 H3 (x4.del rv) fun k hk => ?_
  have h1 : i ≠ k := fun z => hk (by rw [z]; exact List.mem_cons_self)
  have h2 : jc ≠ k := fun z => hk (by rw [z]; exact List.mem_cons_of_mem _ List.mem_cons_self)
  exact ⟨List.getElem?_set_ne h1, (List.getElem?_set_ne h1).trans (List.getElem?_set_ne h2)⟩⟩
theorem ds_asgCF2 {X : Cx} {O : List Nat} {e0 : Expr} {xs : List Expr} {t : TA} {fs : FA} {pos p pos2 p2 : Pos} {m : Md} {OB : List Nat} (i jc : Nat) {CX : CXT} {k n k2 : Nat} {f f2 : Addr} {fd fd2 : FuncData} {ps ps2 : List Str} {E : XK} {x x2 y : Str} {py spos : Pos} {Fn : List PyData → List PyData → Option (PyData × List PyData)} {Rg : List PyData → Option PyData} (hO : O.contains jc = true) (F2 : FnG X.prog X.w X.K X.mg X.base CX k2 f2 fd2 ps2 (spF 1 .cl Rg)) (ga2 : GA k2 X.A) (hm2 : X.mg x2 = some (.ref f2)) (hk2 : PySem.W.keepIn X.K (.ref f2) = true) (hb2 : Binds X.K fd2 ps2 []) (F : FnG X.prog X.w X.K X.mg X.base CX k f fd ps (spC n Fn)) (ga : GA k X.A) (hm : X.mg x = some (.ref f)) (hk : PySem.W.keepIn X.K (.ref f) = true) (hb : Binds X.K fd ps []) (hx : Passes CX X E)
    (hv : PE X e0 (tVar jc)) (ha : DAc X O xs t fs) (hlen : ∀ ρ ds, fs ρ = some ds → ds.length + 1 = n) (hN : X.N.Nodup) (hi : X.N[i]? = some y := by rfl) (hy : Loc X.env.scope y := by first | exact Or.inl rfl | exact Or.inr rfl) (hs : swapsWith (.Call (.Name x2 p2) [.Call (.Name x p) (e0 :: xs) [] pos] [] pos2) (some (.Name y py)) spos.line X.env = pure false := by rfl) (hf : X.fn y = true ∨ X.env.scope.names.lookup y = some .local := by first | exact .inl rfl | exact .inr rfl)
    (hg2 : Gl X x2 := by rfl) (hdb2 : (x2 == ("__debug__" : Str)) = false := by decide) (he2 : starEach [.Call (.Name x p) (e0 :: xs) [] pos] X.env = (false, eval (.Call (.Name x p) (e0 :: xs) [] pos) X.env) :: starEach [] X.env := by rfl) (hpl2 : (backTo pos2 (starEach [] X.env)).any (·.1) = false := by rfl)
    (hg : Gl X x := by rfl) (hdb : (x == ("__debug__" : Str)) = false := by decide) (he : starEach (e0 :: xs) X.env = (false, eval e0 X.env) :: starEach xs X.env := by rfl) (hpl : (backTo pos (starEach xs X.env)).any (·.1) = false := by rfl) :
    DS X m OB O (del i O) [i, jc] (.Assign [.Name y py] (.Call (.Name x2 p2) [.Call (.Name x p) (e0 :: xs) [] pos] [] pos2) spos) (tAsg (tCall (spF 1 .cl Rg) [] E (tCons (tCall (spC n Fn) [] E (tCons (tVar jc) t)) tNil)) (gName i)) (sAsgC2 i jc Fn fs Rg) :=
  ds_asgC2 i jc hO ha hlen fun h => ps_set hN hi hy (pe_callG F2 ga2 hg2 hm2 hk2 hb2 hx (pa_cons (pe_callG F ga hg hm hk hb hx (pa_cons hv h he) hdb he hpl) pa_nil he2) hdb2 he2 hpl2) hs hf
end DL
set_option maxHeartbeats 4000000
namespace Law
noncomputable section
open PySem PySem.Spec L2 DL
open PyProof.Rows hiding St
def topS (i : Nat) : Stmt := PySem.Challenge.pw_floodmark_k55_books_refused.main.body.getD i (.Pass ⟨0, 0, 0, 0⟩)
abbrev s_in_order : Stmt := topS 5
theorem sc_in_order : FnScope ["parts", "part", "number"] ["parts"] (defScope s_in_order) := ⟨rfl, rfl, rfl, by decide +kernel, rfl, by decide +kernel, by decide +kernel⟩
abbrev s_piece_numbers : Stmt := topS 6
theorem sc_piece_numbers : FnScope ["piece", "condition"] ["piece"] (defScope s_piece_numbers) := ⟨rfl, rfl, rfl, by decide +kernel, rfl, by decide +kernel, by decide +kernel⟩
abbrev s_claim_numbers : Stmt := topS 7
theorem sc_claim_numbers : FnScope ["claim", "index", "found", "parts", "scale", "factors"] ["claim"] (defScope s_claim_numbers) := ⟨rfl, rfl, rfl, by decide +kernel, rfl, by decide +kernel, by decide +kernel⟩
abbrev s_row_numbers : Stmt := topS 8
theorem sc_row_numbers : FnScope ["claims", "claim"] ["claims"] (defScope s_row_numbers) := ⟨rfl, rfl, rfl, by decide +kernel, rfl, by decide +kernel, by decide +kernel⟩
abbrev s_write_book : Stmt := topS 9
theorem sc_write_book : FnScope ["certificate", "pieces", "starts", "waits", "jumps", "ends", "book", "piece", "row", "rows"] ["certificate"] (defScope s_write_book) := ⟨rfl, rfl, rfl, by decide +kernel, rfl, by decide +kernel, by decide +kernel⟩
abbrev s_read_integer : Stmt := topS 10
theorem sc_read_integer : FnScope ["numbers", "place"] ["numbers", "place"] (defScope s_read_integer) := ⟨rfl, rfl, rfl, by decide +kernel, rfl, by decide +kernel, by decide +kernel⟩
abbrev s_read_list : Stmt := topS 11
theorem sc_read_list : FnScope ["numbers", "place", "read_item", "many", "found", "item"] ["numbers", "place", "read_item"] (defScope s_read_list) := ⟨rfl, rfl, rfl, by decide +kernel, rfl, by decide +kernel, by decide +kernel⟩
abbrev s_read_vector : Stmt := topS 12
theorem sc_read_vector : FnScope ["numbers", "place"] ["numbers", "place"] (defScope s_read_vector) := ⟨rfl, rfl, rfl, by decide +kernel, rfl, by decide +kernel, by decide +kernel⟩
abbrev s_read_piece : Stmt := topS 13
theorem sc_read_piece : FnScope ["numbers", "place"] ["numbers", "place"] (defScope s_read_piece) := ⟨rfl, rfl, rfl, by decide +kernel, rfl, by decide +kernel, by decide +kernel⟩
abbrev s_read_pieces : Stmt := topS 14
theorem sc_read_pieces : FnScope ["numbers", "place"] ["numbers", "place"] (defScope s_read_pieces) := ⟨rfl, rfl, rfl, by decide +kernel, rfl, by decide +kernel, by decide +kernel⟩
abbrev s_read_multipliers : Stmt := topS 15
theorem sc_read_multipliers : FnScope ["numbers", "place", "scale", "factors"] ["numbers", "place"] (defScope s_read_multipliers) := ⟨rfl, rfl, rfl, by decide +kernel, rfl, by decide +kernel, by decide +kernel⟩
abbrev s_read_claim : Stmt := topS 16
theorem sc_read_claim : FnScope ["numbers", "place", "index", "found"] ["numbers", "place"] (defScope s_read_claim) := ⟨rfl, rfl, rfl, by decide +kernel, rfl, by decide +kernel, by decide +kernel⟩
abbrev s_read_claims : Stmt := topS 17
theorem sc_read_claims : FnScope ["numbers", "place"] ["numbers", "place"] (defScope s_read_claims) := ⟨rfl, rfl, rfl, by decide +kernel, rfl, by decide +kernel, by decide +kernel⟩
abbrev s_check_pieces : Stmt := topS 18
theorem sc_check_pieces : FnScope ["pieces", "n", "row", "piece", "condition"] ["pieces", "n"] (defScope s_check_pieces) := ⟨rfl, rfl, rfl, by decide +kernel, rfl, by decide +kernel, by decide +kernel⟩
abbrev s_read_book : Stmt := topS 19
theorem sc_read_book : FnScope ["numbers", "n", "pieces", "place", "starts", "waits", "jumps", "ends"] ["numbers", "n"] (defScope s_read_book) := ⟨rfl, rfl, rfl, by decide +kernel, rfl, by decide +kernel, by decide +kernel⟩
abbrev s_law_cell : Stmt := topS 21
theorem sc_law_cell : FnScope ["script", "k"] ["script", "k"] (defScope s_law_cell) := ⟨rfl, rfl, rfl, by decide +kernel, rfl, by decide +kernel, by decide +kernel⟩
abbrev s_law_digits : Stmt := topS 22
theorem sc_law_digits : FnScope ["cell", "base", "most", "digits", "large", "k"] ["cell", "base", "most"] (defScope s_law_digits) := ⟨rfl, rfl, rfl, by decide +kernel, rfl, by decide +kernel, by decide +kernel⟩
abbrev s_law_claim : Stmt := topS 23
theorem sc_law_claim : FnScope ["tape", "n", "index", "told", "turn", "factors", "k"] ["tape", "n"] (defScope s_law_claim) := ⟨rfl, rfl, rfl, by decide +kernel, rfl, by decide +kernel, by decide +kernel⟩
abbrev s_law_number : Stmt := topS 24
theorem sc_law_number : FnScope ["tape", "way"] ["tape"] (defScope s_law_number) := ⟨rfl, rfl, rfl, by decide +kernel, rfl, by decide +kernel, by decide +kernel⟩
abbrev s_law_take : Stmt := topS 25
theorem sc_law_take : FnScope ["tape", "count", "at"] ["tape", "count"] (defScope s_law_take) := ⟨rfl, rfl, rfl, by decide +kernel, rfl, by decide +kernel, by decide +kernel⟩
abbrev s_law_certificate : Stmt := topS 26
theorem sc_law_certificate : FnScope ["tape", "n", "pieces", "turn", "part", "k", "j", "row", "starts", "groups"] ["tape", "n"] (defScope s_law_certificate) := ⟨rfl, rfl, rfl, by decide +kernel, rfl, by decide +kernel, by decide +kernel⟩
abbrev s_law_list_book : Stmt := topS 27
theorem sc_law_list_book : FnScope ["rows", "out", "row"] ["rows"] (defScope s_law_list_book) := ⟨rfl, rfl, rfl, by decide +kernel, rfl, by decide +kernel, by decide +kernel⟩
abbrev s_law_claim_book : Stmt := topS 28
theorem sc_law_claim_book : FnScope ["claim", "index", "told", "rows", "scale", "factors"] ["claim"] (defScope s_law_claim_book) := ⟨rfl, rfl, rfl, by decide +kernel, rfl, by decide +kernel, by decide +kernel⟩
abbrev s_law_book : Stmt := topS 29
theorem sc_law_book : FnScope ["certificate", "pieces", "starts", "waits", "jumps", "goals", "out", "row", "piece", "part", "claim", "groups"] ["certificate"] (defScope s_law_book) := ⟨rfl, rfl, rfl, by decide +kernel, rfl, by decide +kernel, by decide +kernel⟩
abbrev s_law_told : Stmt := topS 30
theorem sc_law_told : FnScope ["numbers", "n", "e"] ["numbers", "n"] (defScope s_law_told) := ⟨rfl, rfl, rfl, by decide +kernel, rfl, by decide +kernel, by decide +kernel⟩
abbrev s_law_is_integer : Stmt := topS 31
theorem sc_law_is_integer : FnScope ["item"] ["item"] (defScope s_law_is_integer) := ⟨rfl, rfl, rfl, by decide +kernel, rfl, by decide +kernel, by decide +kernel⟩
abbrev s_law_is_claims : Stmt := topS 32
theorem sc_law_is_claims : FnScope ["claims", "claim", "told"] ["claims"] (defScope s_law_is_claims) := ⟨rfl, rfl, rfl, by decide +kernel, rfl, by decide +kernel, by decide +kernel⟩
abbrev s_law_is_certificate : Stmt := topS 33
theorem sc_law_is_certificate : FnScope ["told", "n", "part", "piece", "row", "groups"] ["told", "n"] (defScope s_law_is_certificate) := ⟨rfl, rfl, rfl, by decide +kernel, rfl, by decide +kernel, by decide +kernel⟩
abbrev s_law_changed : Stmt := topS 34
theorem sc_law_changed : FnScope ["book", "cell", "at", "worth"] ["book", "cell"] (defScope s_law_changed) := ⟨rfl, rfl, rfl, by decide +kernel, rfl, by decide +kernel, by decide +kernel⟩
abbrev s_law : Stmt := topS 35
theorem sc_law : FnScope ["script", "k", "cell", "n", "tape", "book", "lists", "digit", "j", "numbers", "kept", "size", "told"] ["script"] (defScope s_law) := ⟨rfl, rfl, rfl, by decide +kernel, rfl, by decide +kernel, by decide +kernel⟩
variable [KF] {P : Program} {w : World} {mg : Str → Option Value} {base : Heap}
set_option genInjectivity false in
set_option genSizeOf false in
structure Txt (K : PySem.W.Frag) (mg : Str → Option Value) where
  a_in_order : Addr
  d_in_order : FuncData
  F_in_order : Fun K "in_order" "in_order" s_in_order a_in_order d_in_order
  g_in_order : mg "in_order" = some (.ref a_in_order)
  b_in_order : L2.Binds K d_in_order ["parts"] []
  a_piece_numbers : Addr
  d_piece_numbers : FuncData
  F_piece_numbers : Fun K "piece_numbers" "piece_numbers" s_piece_numbers a_piece_numbers d_piece_numbers
  g_piece_numbers : mg "piece_numbers" = some (.ref a_piece_numbers)
  b_piece_numbers : L2.Binds K d_piece_numbers ["piece"] []
  a_claim_numbers : Addr
  d_claim_numbers : FuncData
  F_claim_numbers : Fun K "claim_numbers" "claim_numbers" s_claim_numbers a_claim_numbers d_claim_numbers
  g_claim_numbers : mg "claim_numbers" = some (.ref a_claim_numbers)
  b_claim_numbers : L2.Binds K d_claim_numbers ["claim"] []
  a_row_numbers : Addr
  d_row_numbers : FuncData
  F_row_numbers : Fun K "row_numbers" "row_numbers" s_row_numbers a_row_numbers d_row_numbers
  g_row_numbers : mg "row_numbers" = some (.ref a_row_numbers)
  b_row_numbers : L2.Binds K d_row_numbers ["claims"] []
  a_write_book : Addr
  d_write_book : FuncData
  F_write_book : Fun K "write_book" "write_book" s_write_book a_write_book d_write_book
  g_write_book : mg "write_book" = some (.ref a_write_book)
  b_write_book : L2.Binds K d_write_book ["certificate"] []
  a_read_integer : Addr
  d_read_integer : FuncData
  F_read_integer : Fun K "read_integer" "read_integer" s_read_integer a_read_integer d_read_integer
  g_read_integer : mg "read_integer" = some (.ref a_read_integer)
  b_read_integer : L2.Binds K d_read_integer ["numbers", "place"] []
  a_read_list : Addr
  d_read_list : FuncData
  F_read_list : Fun K "read_list" "read_list" s_read_list a_read_list d_read_list
  g_read_list : mg "read_list" = some (.ref a_read_list)
  b_read_list : L2.Binds K d_read_list ["numbers", "place", "read_item"] []
  a_read_vector : Addr
  d_read_vector : FuncData
  F_read_vector : Fun K "read_vector" "read_vector" s_read_vector a_read_vector d_read_vector
  g_read_vector : mg "read_vector" = some (.ref a_read_vector)
  b_read_vector : L2.Binds K d_read_vector ["numbers", "place"] []
  a_read_piece : Addr
  d_read_piece : FuncData
  F_read_piece : Fun K "read_piece" "read_piece" s_read_piece a_read_piece d_read_piece
  g_read_piece : mg "read_piece" = some (.ref a_read_piece)
  b_read_piece : L2.Binds K d_read_piece ["numbers", "place"] []
  a_read_pieces : Addr
  d_read_pieces : FuncData
  F_read_pieces : Fun K "read_pieces" "read_pieces" s_read_pieces a_read_pieces d_read_pieces
  g_read_pieces : mg "read_pieces" = some (.ref a_read_pieces)
  b_read_pieces : L2.Binds K d_read_pieces ["numbers", "place"] []
  a_read_multipliers : Addr
  d_read_multipliers : FuncData
  F_read_multipliers : Fun K "read_multipliers" "read_multipliers" s_read_multipliers a_read_multipliers d_read_multipliers
  g_read_multipliers : mg "read_multipliers" = some (.ref a_read_multipliers)
  b_read_multipliers : L2.Binds K d_read_multipliers ["numbers", "place"] []
  a_read_claim : Addr
  d_read_claim : FuncData
  F_read_claim : Fun K "read_claim" "read_claim" s_read_claim a_read_claim d_read_claim
  g_read_claim : mg "read_claim" = some (.ref a_read_claim)
  b_read_claim : L2.Binds K d_read_claim ["numbers", "place"] []
  a_read_claims : Addr
  d_read_claims : FuncData
  F_read_claims : Fun K "read_claims" "read_claims" s_read_claims a_read_claims d_read_claims
  g_read_claims : mg "read_claims" = some (.ref a_read_claims)
  b_read_claims : L2.Binds K d_read_claims ["numbers", "place"] []
  a_check_pieces : Addr
  d_check_pieces : FuncData
  F_check_pieces : Fun K "check_pieces" "check_pieces" s_check_pieces a_check_pieces d_check_pieces
  g_check_pieces : mg "check_pieces" = some (.ref a_check_pieces)
  b_check_pieces : L2.Binds K d_check_pieces ["pieces", "n"] []
  a_read_book : Addr
  d_read_book : FuncData
  F_read_book : Fun K "read_book" "read_book" s_read_book a_read_book d_read_book
  g_read_book : mg "read_book" = some (.ref a_read_book)
  kb_read_book : KB K d_read_book ["numbers", "n"] ["n"] 1 1
  a_law_cell : Addr
  d_law_cell : FuncData
  F_law_cell : Fun K "_law_cell" "_law_cell" s_law_cell a_law_cell d_law_cell
  g_law_cell : mg "_law_cell" = some (.ref a_law_cell)
  b_law_cell : L2.Binds K d_law_cell ["script", "k"] []
  a_law_digits : Addr
  d_law_digits : FuncData
  F_law_digits : Fun K "_law_digits" "_law_digits" s_law_digits a_law_digits d_law_digits
  g_law_digits : mg "_law_digits" = some (.ref a_law_digits)
  b_law_digits : L2.Binds K d_law_digits ["cell", "base", "most"] []
  a_law_claim : Addr
  d_law_claim : FuncData
  F_law_claim : Fun K "_law_claim" "_law_claim" s_law_claim a_law_claim d_law_claim
  g_law_claim : mg "_law_claim" = some (.ref a_law_claim)
  b_law_claim : L2.Binds K d_law_claim ["tape", "n"] []
  a_law_number : Addr
  d_law_number : FuncData
  F_law_number : Fun K "_law_number" "_law_number" s_law_number a_law_number d_law_number
  g_law_number : mg "_law_number" = some (.ref a_law_number)
  b_law_number : L2.Binds K d_law_number ["tape"] []
  a_law_take : Addr
  d_law_take : FuncData
  F_law_take : Fun K "_law_take" "_law_take" s_law_take a_law_take d_law_take
  g_law_take : mg "_law_take" = some (.ref a_law_take)
  b_law_take : L2.Binds K d_law_take ["tape", "count"] []
  a_law_certificate : Addr
  d_law_certificate : FuncData
  F_law_certificate : Fun K "_law_certificate" "_law_certificate" s_law_certificate a_law_certificate d_law_certificate
  g_law_certificate : mg "_law_certificate" = some (.ref a_law_certificate)
  b_law_certificate : L2.Binds K d_law_certificate ["tape", "n"] []
  a_law_list_book : Addr
  d_law_list_book : FuncData
  F_law_list_book : Fun K "_law_list_book" "_law_list_book" s_law_list_book a_law_list_book d_law_list_book
  g_law_list_book : mg "_law_list_book" = some (.ref a_law_list_book)
  b_law_list_book : L2.Binds K d_law_list_book ["rows"] []
  a_law_claim_book : Addr
  d_law_claim_book : FuncData
  F_law_claim_book : Fun K "_law_claim_book" "_law_claim_book" s_law_claim_book a_law_claim_book d_law_claim_book
  g_law_claim_book : mg "_law_claim_book" = some (.ref a_law_claim_book)
  b_law_claim_book : L2.Binds K d_law_claim_book ["claim"] []
  a_law_book : Addr
  d_law_book : FuncData
  F_law_book : Fun K "_law_book" "_law_book" s_law_book a_law_book d_law_book
  g_law_book : mg "_law_book" = some (.ref a_law_book)
  b_law_book : L2.Binds K d_law_book ["certificate"] []
  a_law_told : Addr
  d_law_told : FuncData
  F_law_told : Fun K "_law_told" "_law_told" s_law_told a_law_told d_law_told
  g_law_told : mg "_law_told" = some (.ref a_law_told)
  b_law_told : L2.Binds K d_law_told ["numbers", "n"] []
  a_law_is_integer : Addr
  d_law_is_integer : FuncData
  F_law_is_integer : Fun K "_law_is_integer" "_law_is_integer" s_law_is_integer a_law_is_integer d_law_is_integer
  g_law_is_integer : mg "_law_is_integer" = some (.ref a_law_is_integer)
  b_law_is_integer : L2.Binds K d_law_is_integer ["item"] []
  a_law_is_claims : Addr
  d_law_is_claims : FuncData
  F_law_is_claims : Fun K "_law_is_claims" "_law_is_claims" s_law_is_claims a_law_is_claims d_law_is_claims
  g_law_is_claims : mg "_law_is_claims" = some (.ref a_law_is_claims)
  b_law_is_claims : L2.Binds K d_law_is_claims ["claims"] []
  a_law_is_certificate : Addr
  d_law_is_certificate : FuncData
  F_law_is_certificate : Fun K "_law_is_certificate" "_law_is_certificate" s_law_is_certificate a_law_is_certificate d_law_is_certificate
  g_law_is_certificate : mg "_law_is_certificate" = some (.ref a_law_is_certificate)
  b_law_is_certificate : L2.Binds K d_law_is_certificate ["told", "n"] []
  a_law_changed : Addr
  d_law_changed : FuncData
  F_law_changed : Fun K "_law_changed" "_law_changed" s_law_changed a_law_changed d_law_changed
  g_law_changed : mg "_law_changed" = some (.ref a_law_changed)
  b_law_changed : L2.Binds K d_law_changed ["book", "cell"] []
  a_law : Addr
  d_law : FuncData
  F_law : Fun K "law" "law" s_law a_law d_law
  g_law : mg "law" = some (.ref a_law)
  b_law : L2.Binds K d_law ["script"] []
  z_abs : mg "abs" = none
  z_bool : mg "bool" = none
  z_int : mg "int" = none
  z_isinstance : mg "isinstance" = none
  z_len : mg "len" = none
  z_list : mg "list" = none
  z_min : mg "min" = none
  z_range : mg "range" = none
  z_tuple : mg "tuple" = none
  c_BadBook : Addr
  e_BadBook : ErrC K mg "BadBook" c_BadBook
  x_BadBook : PySem.W.exmOne K (.ref c_BadBook) (.ref c_BadBook) = some true
  i_BadBook : ExcC K c_BadBook
  c_FloodError : Addr
  c_OutOfRange : Addr
  gc_FloodError : mg "FloodError" = some (.ref c_FloodError)
  gc_OutOfRange : mg "OutOfRange" = some (.ref c_OutOfRange)
  k_BadBook_FloodError : PySem.W.kitOne K (.ref c_BadBook) (.ref c_FloodError) = some true
  k_BadBook_OutOfRange : PySem.W.kitOne K (.ref c_BadBook) (.ref c_OutOfRange) = some false
def B_law_cell : FS := (sSeq (sIf (tV (fBin dLt (fVar 1) (fFn (g1 dLen) (fConsA (fVar 0) fNilA)))) (sRet (fFn (g1 dAbs) (fConsA (fFn (g1 dInt) (fConsA (fBin dIx (fVar 0) (fVar 1)) fNilA)) fNilA))) sNil) (sRet (fC (.int 0))))
def R_law_cell : List PyData → Option PyData := runF 2 B_law_cell
theorem ok_law_cell (T : Txt KF.K mg) : FnG P w KF.K mg base (L2.CX P w) 1 T.a_law_cell T.d_law_cell ["script", "k"] (spF 2 .cl R_law_cell) :=
  def_nx (k := 0) (B := B_law_cell) (O' := []) T.F_law_cell sc_law_cell rfl rfl (.inl rfl) fun cdv A outer s H E ga => ⟨_, (dss_cons (O' := []) (ds_if (dt_lt (DE.rd_ (de_var 1 rfl)) (DE.rd_ (de_lenK rfl rfl T.z_len (DE.rd_ (de_var 0 rfl))))) (dss_one (ds_ret (de_abs rfl T.z_abs (DE.rd_ (de_intc rfl T.z_int (DE.rd_ (de_ixK rfl (DE.rd_ (de_var 0 rfl)) (DE.rd_ (de_var 1 rfl))))))))) dss_nil) (dss_one (ds_ret de_int)))⟩
def B_law_digits : FS := (sSeq (sAsg 3 (fFn dList fNilA)) (sSeq (sAsg 4 (fBin dGe (fVar 0) (fBin dPow (fC (.int 10)) (fC (.int 18))))) (sSeq (sFor (iR1 (fVar 2)) (gN 5) (sSeq (sIf (tV (fVar 4)) (sSeq (sApp 3 (fBin dMod (fFn (g1 dInt) (fConsA (fVar 0) fNilA)) (fVar 1))) (sSeq (sAsg 0 (fBin dDiv (fVar 0) (fVar 1))) sNil)) (sSeq (sApp 3 (fBin dMod (fBin dMod (fFn (g1 dInt) (fConsA (fBin dAdd (fBin dAdd (fBin dMul (fVar 0) (fC (.int 48271))) (fBin dMul (fBin dMul (fBin dAdd (fVar 5) (fC (.int 1))) (fBin dAdd (fVar 5) (fC (.int 5)))) (fC (.int 69621)))) (fBin dMul (fBin dDiv (fVar 0) (fC (.int 97))) (fVar 5))) fNilA)) (fC (.int 2147483647))) (fVar 1))) sNil)) sNil)) (sRet (fVar 3)))))
def R_law_digits : List PyData → Option PyData := runF 6 B_law_digits
theorem nx_law_digits : ∀ ρ ρ', B_law_digits ρ ≠ some (.nx ρ') := (nn_seq (nn_seq (nn_seq nn_ret)))
theorem ok_law_digits (T : Txt KF.K mg) : FnG P w KF.K mg base (L2.CX P w) 1 T.a_law_digits T.d_law_digits ["cell", "base", "most"] (spF 3 .ow R_law_digits) :=
  def_nx (k := 0) (B := B_law_digits) (O' := []) T.F_law_digits sc_law_digits rfl rfl (.inr (nx_law_digits)) fun cdv A outer s H E ga => ⟨_, (dss_cons (O' := [3]) (dsnO 3 sc_law_digits.nd (de_list dac_nil)) (dss_cons (O' := [3]) (dsn 4 sc_law_digits.nd (de_ge (DE.rd_ (de_var 0 rfl)) (DE.rd_ (de_pow (DE.rd_ de_int) (DE.rd_ de_int))))) (dss_cons (O' := [3]) (ds_for PassesOwn.never rfl (di_r1 rfl T.z_range (DE.rd_ (de_var 2 rfl))) (dgn 5 sc_law_digits.nd) (dss_cons (O' := [3]) (ds_if (dt_val (DE.rd_ (de_var 4 rfl))) (dss_cons (O' := [3]) (dsapp 3 (de_mod (DE.rd_ (de_intc rfl T.z_int (DE.rd_ (de_var 0 rfl)))) (DE.rd_ (de_var 1 rfl))) (pv 3) (hb := fun ph => pe_bm PySem.F.plainAttrs_list PySem.F.slot_list_append PySem.F.type_list_append mt_append (pv 3) (pa_cons ph pa_nil))) (dss_cons (O' := [3]) (dsn 0 sc_law_digits.nd (de_div (DE.rd_ (de_var 0 rfl)) (DE.rd_ (de_var 1 rfl)))) dss_nil)) (dss_cons (O' := [3]) (dsapp 3 (de_mod (DE.rd_ (de_mod (DE.rd_ (de_intc rfl T.z_int (DE.rd_ (de_addI (DE.rd_ (de_addI (DE.rd_ (de_mulI (DE.rd_ (de_var 0 rfl)) (DE.rd_ de_int))) (DE.rd_ (de_mulI (DE.rd_ (de_mulI (DE.rd_ (de_addI (DE.rd_ (de_var 5 rfl)) (DE.rd_ de_int))) (DE.rd_ (de_addI (DE.rd_ (de_var 5 rfl)) (DE.rd_ de_int))))) (DE.rd_ de_int))))) (DE.rd_ (de_mulI (DE.rd_ (de_div (DE.rd_ (de_var 0 rfl)) (DE.rd_ de_int))) (DE.rd_ (de_var 5 rfl)))))))) (DE.rd_ de_int))) (DE.rd_ (de_var 1 rfl))) (pv 3) (hb := fun ph => pe_bm PySem.F.plainAttrs_list PySem.F.slot_list_append PySem.F.type_list_append mt_append (pv 3) (pa_cons ph pa_nil))) dss_nil)) dss_nil)) (dss_one (ds_retOwn 3 (by rfl) (pv 3))))))⟩
def GT_law_take : FTS := (sqT (asgT 2 (eIx 1)) (sqT (setT 1 (eL (fBin dAdd (fVar 2) (fC (.int 1))))) (retT (eBin dMod (eBin dDiv (eBin dIx (eIx 0) (eBin dMod (eL (fVar 2)) (eLen (eIx 0)))) (eBin dAdd (eL (fC (.int 1))) (eBin dDiv (eL (fVar 2)) (eLen (eIx 0))))) (eL (fVar 1))))))
def RT_law_take : List PyData → List PyData → Option (PyData × List PyData) := runT 3 GT_law_take
theorem okt_law_take (T : Txt KF.K mg) : FnG P w KF.K mg base (L2.CX P w) 1 T.a_law_take T.d_law_take ["tape", "count"] (spC 2 RT_law_take) :=
  def_t (k := 0) (G := GT_law_take) (O' := []) T.F_law_take sc_law_take rfl rfl fun cdv A outer s H E ga => ⟨_, (tap_cons (O1 := []) (tap_asg 2 (tp_ix 1 (DE.pe (de_ixK (O := []) rfl (DE.rd_ (de_var 0 rfl)) (DE.rd_ de_int)))) (fun h => ps_set sc_law_take.nd rfl (by first | exact Or.inl rfl | exact Or.inr rfl) h rfl (by first | exact .inl rfl | exact .inr rfl))) (tap_cons (O1 := []) (tap_set 1 (tp_of (de_addI (DE.rd_ (de_var 2 rfl)) (DE.rd_ de_int))) (fun ph => ps_asg ph (pg_sub (pv 0) (DE.pe (O := []) de_int) set_list))) (tap_one (tap_ret (tp_mod (tp_div (tp_ixK rfl (tp_ix 0 (DE.pe (de_ixK (O := []) rfl (DE.rd_ (de_var 0 rfl)) (DE.rd_ de_int)))) (tp_mod (tp_of (de_var 2 rfl)) (tp_len rfl rfl T.z_len (tp_ix 0 (DE.pe (de_ixK (O := []) rfl (DE.rd_ (de_var 0 rfl)) (DE.rd_ de_int))))))) (tp_add (tp_of de_int) (tp_div (tp_of (de_var 2 rfl)) (tp_len rfl rfl T.z_len (tp_ix 0 (DE.pe (de_ixK (O := []) rfl (DE.rd_ (de_var 0 rfl)) (DE.rd_ de_int)))))))) (tp_of (de_var 1 rfl)))))))⟩
def GT_law_number : FTS := (sqT (asgT 1 (eCall RT_law_take (fConsA (fC (.int 5)) fNilA))) (sqT (ifT (tV (fBin dEq (fVar 1) (fC (.int 0)))) (retT (eBin dAdd (eL (fBin dPow (fC (.int 10)) (fC (.int 20)))) (eCall RT_law_take (fConsA (fC (.int 1000)) fNilA)))) nilT) (retT (eBin dSub (eCall RT_law_take (fConsA (fC (.int 9)) fNilA)) (eL (fBin dIx (fFn dList (fConsA (fC (.int 4)) (fConsA (fC (.int 0)) (fConsA (fC (.int 0)) (fConsA (fC (.int 8)) fNilA))))) (fBin dSub (fVar 1) (fC (.int 1)))))))))
def RT_law_number : List PyData → List PyData → Option (PyData × List PyData) := runT 2 GT_law_number
theorem okt_law_number (T : Txt KF.K mg) : FnG P w KF.K mg base (L2.CX P w) 2 T.a_law_number T.d_law_number ["tape"] (spC 1 RT_law_number) :=
  def_t (k := 1) (G := GT_law_number) (O' := []) T.F_law_number sc_law_number rfl rfl fun cdv A outer s H E ga => ⟨_, (tap_cons (O1 := []) (tap_asg 1 (tp_callF (okt_law_take T) (ga.mono (by decide)) T.g_law_take T.F_law_take.kp T.b_law_take passL (pv 0) (dac_cons de_int dac_nil) (tln (fl_cons fl_nil))) (fun h => ps_set sc_law_number.nd rfl (by first | exact Or.inl rfl | exact Or.inr rfl) h rfl (by first | exact .inl rfl | exact .inr rfl))) (tap_cons (O1 := []) (tap_if (dt_eqK ga.u64 rfl (DE.rd_ (de_var 1 rfl)) (DE.rd_ de_int)) (tap_one (tap_ret (tp_add (tp_of (de_pow (DE.rd_ de_int) (DE.rd_ de_int))) (tp_callF (okt_law_take T) (ga.mono (by decide)) T.g_law_take T.F_law_take.kp T.b_law_take passL (pv 0) (dac_cons de_int dac_nil) (tln (fl_cons fl_nil)))))) tap_nil) (tap_one (tap_ret (tp_sub (tp_callF (okt_law_take T) (ga.mono (by decide)) T.g_law_take T.F_law_take.kp T.b_law_take passL (pv 0) (dac_cons de_int dac_nil) (tln (fl_cons fl_nil))) (tp_of (de_ixK rfl (DE.or_ (de_list (dac_cons de_int (dac_cons de_int (dac_cons de_int (dac_cons de_int dac_nil)))))) (DE.rd_ (de_sub (DE.rd_ (de_var 1 rfl)) (DE.rd_ de_int))))))))))⟩
def GT_law_claim : FTS := (sqT (asgT 2 (eBin dSub (eCall RT_law_take (fConsA (fC (.int 6)) fNilA)) (eL (fC (.int 1))))) (sqT (stL (sAsg 3 (fFn dList fNilA))) (sqT (forT (iT1 (eCall RT_law_take (fConsA (fC (.int 3)) fNilA))) (gN 4) (sqT (asgT 5 (eLc (iT1 (eCall RT_law_take (fConsA (fC (.int 4)) fNilA))) (gN 6) (eCall RT_law_number fNilA) [6])) (sqT (appT' 3 (eTup (esCons (eCall RT_law_number fNilA) (esCons (eL (fVar 5)) esNil)))) nilT))) (retT (eL (fFn dTup (fConsA (fIf (tV (fBin dLt (fVar 2) (fC (.int 0)))) (fC .none) (fVar 2)) (fConsA (fVar 3) fNilA))))))))
def RT_law_claim : List PyData → List PyData → Option (PyData × List PyData) := runT 7 GT_law_claim
theorem okt_law_claim (T : Txt KF.K mg) : FnG P w KF.K mg base (L2.CX P w) 3 T.a_law_claim T.d_law_claim ["tape", "n"] (spC 2 RT_law_claim) :=
  def_t (k := 2) (G := GT_law_claim) (O' := []) T.F_law_claim sc_law_claim rfl rfl fun cdv A outer s H E ga => ⟨_, (tap_cons (O1 := []) (tap_asg 2 (tp_sub (tp_callF (okt_law_take T) (ga.mono (by decide)) T.g_law_take T.F_law_take.kp T.b_law_take passL (pv 0) (dac_cons de_int dac_nil) (tln (fl_cons fl_nil))) (tp_of de_int)) (fun h => ps_set sc_law_claim.nd rfl (by first | exact Or.inl rfl | exact Or.inr rfl) h rfl (by first | exact .inl rfl | exact .inr rfl))) (tap_cons (O1 := [3]) (tap_of (dsnO 3 sc_law_claim.nd (de_list dac_nil)) nr_asg) (tap_cons (O1 := [3]) (tap_for PassesOwn.never rfl (tpi_r1 rfl T.z_range (tp_callF (okt_law_take T) (ga.mono (by decide)) T.g_law_take T.F_law_take.kp T.b_law_take passL (pv 0) (dac_cons de_int dac_nil) (tln (fl_cons fl_nil)))) (dgn 4 sc_law_claim.nd) (tap_cons (O1 := [3]) (tap_asgLc 5 rfl sc_law_claim.nd (tpl_mk [("k", 6)] (tpi_r1 rfl T.z_range (tp_callF (okt_law_take T) (ga.mono (by decide)) T.g_law_take T.F_law_take.kp T.b_law_take passL (pv 0) (dac_cons de_int dac_nil) (tln (fl_cons fl_nil)))) (blkOk_by (N := ["tape", "n", "index", "told", "turn", "factors", "k"]) (sc := defScope s_law_claim) (by decide +kernel)) (fun _ _ _ _ _ => (dgn 6 sc_law_claim.nd)) (fun _ _ _ _ _ => (tp_callF (okt_law_number T) (ga.mono (by decide)) T.g_law_number T.F_law_number.kp T.b_law_number passL (pv 0) dac_nil (tln fl_nil)))) (sw_true rfl rfl rfl (by decide +kernel))) (tap_cons (O1 := [3]) (tap_app 3 rfl (tp_tup (tpa_cons (tp_callF (okt_law_number T) (ga.mono (by decide)) T.g_law_number T.F_law_number.kp T.b_law_number passL (pv 0) dac_nil (tln fl_nil)) (tpa_cons (tp_of (de_var 5 rfl)) tpa_nil))) (by decide) (fun h => ps_expr (pe_bm PySem.F.plainAttrs_list PySem.F.slot_list_append PySem.F.type_list_append mt_append (pv 3) (pa_cons h pa_nil)))) tap_nil))) (tap_frz 3 (tap_one (tap_ret (tp_of (de_tup (dac_cons (de_if (dt_lt (DE.rd_ (de_var 2 rfl)) (DE.rd_ de_int)) de_non (de_var 2 rfl)) (dac_cons (de_var 3 rfl) dac_nil))))))))))⟩
def GT_law_certificate : FTS := (sqT (stL (sAsg 2 (fFn dList fNilA))) (sqT (forT (iT1 (eCall RT_law_take (fConsA (fC (.int 3)) fNilA))) (gN 3) (sqT (stL (sAsg 4 (fFn dList fNilA))) (sqT (forT (iT1 (eCall RT_law_take (fConsA (fC (.int 3)) fNilA))) (gN 5) (sqT (appT' 4 (eLc (iT1 (eCall RT_law_take (fConsA (fC (.int 3)) fNilA))) (gN 7) (eLc (esL (iR1 (fBin dAdd (fVar 1) (fC (.int 1))))) (gN 6) (eCall RT_law_number fNilA) [6]) [7])) nilT)) (sqT (stL (sApp 2 (fVar 4))) nilT)))) (sqT (asgT 8 (eLc (iT1 (eCall RT_law_take (fConsA (fC (.int 3)) fNilA))) (gN 5) (eCall RT_law_claim (fConsA (fVar 1) fNilA)) [5])) (sqT (stL (sAsg 9 (fFn dList fNilA))) (sqT (forT (esL (iR1 (fC (.int 3)))) (gN 3) (sqT (appT' 9 (eLc (iT1 (eCall RT_law_take (fConsA (fC (.int 3)) fNilA))) (gN 4) (eLc (iT1 (eCall RT_law_take (fConsA (fC (.int 3)) fNilA))) (gN 5) (eCall RT_law_claim (fConsA (fVar 1) fNilA)) [5]) [4])) nilT)) (retT (eL (fFn dTup (fConsA (fVar 2) (fConsA (fVar 8) (fConsA (fBin dIx (fVar 9) (fC (.int 0))) (fConsA (fBin dIx (fVar 9) (fC (.int 1))) (fConsA (fBin dIx (fVar 9) (fC (.int 2))) fNilA)))))))))))))
def RT_law_certificate : List PyData → List PyData → Option (PyData × List PyData) := runT 10 GT_law_certificate
theorem okt_law_certificate (T : Txt KF.K mg) : FnG P w KF.K mg base (L2.CX P w) 4 T.a_law_certificate T.d_law_certificate ["tape", "n"] (spC 2 RT_law_certificate) :=
  def_t (k := 3) (G := GT_law_certificate) (O' := []) T.F_law_certificate sc_law_certificate rfl rfl fun cdv A outer s H E ga => ⟨_, (tap_cons (O1 := [2]) (tap_of (dsnO 2 sc_law_certificate.nd (de_list dac_nil)) nr_asg) (tap_cons (O1 := [2]) (tap_for PassesOwn.never rfl (tpi_r1 rfl T.z_range (tp_callF (okt_law_take T) (ga.mono (by decide)) T.g_law_take T.F_law_take.kp T.b_law_take passL (pv 0) (dac_cons de_int dac_nil) (tln (fl_cons fl_nil)))) (dgn 3 sc_law_certificate.nd) (tap_cons (O1 := [4, 2]) (tap_of (dsnO 4 sc_law_certificate.nd (de_list dac_nil)) nr_asg) (tap_cons (O1 := [4, 2]) (tap_for PassesOwn.never rfl (tpi_r1 rfl T.z_range (tp_callF (okt_law_take T) (ga.mono (by decide)) T.g_law_take T.F_law_take.kp T.b_law_take passL (pv 0) (dac_cons de_int dac_nil) (tln (fl_cons fl_nil)))) (dgn 5 sc_law_certificate.nd) (tap_cons (O1 := [4, 2]) (tap_app 4 rfl (tp_lcv rfl sc_law_certificate.nd (tpl_mk [("row", 7)] (tpi_r1 rfl T.z_range (tp_callF (okt_law_take T) (ga.mono (by decide)) T.g_law_take T.F_law_take.kp T.b_law_take passL (pv 0) (dac_cons de_int dac_nil) (tln (fl_cons fl_nil)))) (blkOk_by (N := ["tape", "n", "pieces", "turn", "part", "k", "j", "row", "starts", "groups"]) (sc := defScope s_law_certificate) (by decide +kernel)) (fun _ _ _ _ _ => (dgn 7 sc_law_certificate.nd)) (fun _ _ _ _ _ => (tp_lcv rfl sc_law_certificate.nd (tpl_mk [("j", 6)] (tpi_of (di_r1 rfl T.z_range (DE.rd_ (de_addI (DE.rd_ (de_var 1 rfl)) (DE.rd_ de_int))))) (blkOk_by (N := ["tape", "n", "pieces", "turn", "part", "k", "j", "row", "starts", "groups"]) (sc := { kind := ScopeKind.function, names := [(".0", NameKind.local), ("row", NameKind.local), ("range", NameKind.globalImplicit), ("n", NameKind.cell), ("tape", NameKind.cell)], isGenerator := false, isCoroutine := false }) (by decide +kernel)) (fun _ _ _ _ _ => (dgn 6 sc_law_certificate.nd)) (fun _ _ _ _ _ => (tp_callF (okt_law_number T) (ga.mono (by decide)) T.g_law_number T.F_law_number.kp T.b_law_number passL (pv 0) dac_nil (tln fl_nil)))))))) (by decide) (fun h => ps_expr (pe_bm PySem.F.plainAttrs_list PySem.F.slot_list_append PySem.F.type_list_append mt_append (pv 4) (pa_cons h pa_nil)))) tap_nil)) (tap_frz 4 (tap_cons (O1 := [2]) (tap_of (dsapp 2 (de_var 4 rfl) (pv 2) (hb := fun ph => pe_bm PySem.F.plainAttrs_list PySem.F.slot_list_append PySem.F.type_list_append mt_append (pv 2) (pa_cons ph pa_nil))) nr_app) tap_nil))))) (tap_cons (O1 := [2]) (tap_asgLc 8 rfl sc_law_certificate.nd (tpl_mk [("k", 5)] (tpi_r1 rfl T.z_range (tp_callF (okt_law_take T) (ga.mono (by decide)) T.g_law_take T.F_law_take.kp T.b_law_take passL (pv 0) (dac_cons de_int dac_nil) (tln (fl_cons fl_nil)))) (blkOk_by (N := ["tape", "n", "pieces", "turn", "part", "k", "j", "row", "starts", "groups"]) (sc := defScope s_law_certificate) (by decide +kernel)) (fun _ _ _ _ _ => (dgn 5 sc_law_certificate.nd)) (fun _ _ _ _ _ => (tp_callF (okt_law_claim T) (ga.mono (by decide)) T.g_law_claim T.F_law_claim.kp T.b_law_claim passL (pv 0) (dac_cons (de_var 1 rfl) dac_nil) (tln (fl_cons fl_nil))))) (sw_true rfl rfl rfl (by decide +kernel))) (tap_cons (O1 := [9, 2]) (tap_of (dsnO 9 sc_law_certificate.nd (de_list dac_nil)) nr_asg) (tap_cons (O1 := [9, 2]) (tap_for PassesOwn.never rfl (tpi_of (di_r1 rfl T.z_range (DE.rd_ de_int))) (dgn 3 sc_law_certificate.nd) (tap_cons (O1 := [9, 2]) (tap_app 9 rfl (tp_lcv rfl sc_law_certificate.nd (tpl_mk [("part", 4)] (tpi_r1 rfl T.z_range (tp_callF (okt_law_take T) (ga.mono (by decide)) T.g_law_take T.F_law_take.kp T.b_law_take passL (pv 0) (dac_cons de_int dac_nil) (tln (fl_cons fl_nil)))) (blkOk_by (N := ["tape", "n", "pieces", "turn", "part", "k", "j", "row", "starts", "groups"]) (sc := defScope s_law_certificate) (by decide +kernel)) (fun _ _ _ _ _ => (dgn 4 sc_law_certificate.nd)) (fun _ _ _ _ _ => (tp_lcv rfl sc_law_certificate.nd (tpl_mk [("k", 5)] (tpi_r1 rfl T.z_range (tp_callF (okt_law_take T) (ga.mono (by decide)) T.g_law_take T.F_law_take.kp T.b_law_take passL (pv 0) (dac_cons de_int dac_nil) (tln (fl_cons fl_nil)))) (blkOk_by (N := ["tape", "n", "pieces", "turn", "part", "k", "j", "row", "starts", "groups"]) (sc := { kind := ScopeKind.function, names := [(".0", NameKind.local), ("part", NameKind.local), ("range", NameKind.globalImplicit), ("_law_take", NameKind.globalImplicit), ("n", NameKind.cell), ("tape", NameKind.cell)], isGenerator := false, isCoroutine := false }) (by decide +kernel)) (fun _ _ _ _ _ => (dgn 5 sc_law_certificate.nd)) (fun _ _ _ _ _ => (tp_callF (okt_law_claim T) (ga.mono (by decide)) T.g_law_claim T.F_law_claim.kp T.b_law_claim passL (pv 0) (dac_cons (de_var 1 rfl) dac_nil) (tln (fl_cons fl_nil))))))))) (by decide) (fun h => ps_expr (pe_bm PySem.F.plainAttrs_list PySem.F.slot_list_append PySem.F.type_list_append mt_append (pv 9) (pa_cons h pa_nil)))) tap_nil)) (tap_frz 9 (tap_frz 2 (tap_one (tap_ret (tp_of (de_tup (dac_cons (de_var 2 rfl) (dac_cons (de_var 8 rfl) (dac_cons (de_ixK rfl (DE.rd_ (de_var 9 rfl)) (DE.rd_ de_int)) (dac_cons (de_ixK rfl (DE.rd_ (de_var 9 rfl)) (DE.rd_ de_int)) (dac_cons (de_ixK rfl (DE.rd_ (de_var 9 rfl)) (DE.rd_ de_int)) dac_nil))))))))))))))))⟩
def B_in_order : FS := (sRet (fBin dCat (fFn dList (fConsA (fFn (g1 dLen) (fConsA (fVar 0) fNilA)) fNilA)) (fLc2 (iSeq (fVar 0)) (gN 1) tYesF (iSeq (fVar 1)) (gN 2) tYesF (fVar 2) [1, 2] [2])))
def R_in_order : List PyData → Option PyData := runF 3 B_in_order
theorem ok_in_order (T : Txt KF.K mg) : FnG P w KF.K mg base (L2.CX P w) 1 T.a_in_order T.d_in_order ["parts"] (spF 1 .cl R_in_order) :=
  def_nx (k := 0) (B := B_in_order) (O' := []) T.F_in_order sc_in_order rfl rfl (.inl rfl) fun cdv A outer s H E ga => ⟨_, (dss_one (ds_ret (DE.cl_ (de_cat rfl (DE.or_ (de_list (dac_cons (de_lenK rfl rfl T.z_len (DE.rd_ (de_var 0 rfl))) dac_nil))) (DE.or_ (de_lc2 rfl sc_in_order.nd (dlc2_mk [("part", 1), ("number", 2)] [2] (di_seqK rfl (de_var 0 rfl)) (blkOk_by (N := ["parts", "part", "number"]) (sc := defScope s_in_order) (by decide +kernel)) (fun _ _ _ _ _ => (dgn 1 sc_in_order.nd)) (fun _ _ _ _ _ => dts_nil) (fun _ _ _ _ _ => (di_seqK rfl (de_var 1 rfl))) (fun _ _ _ _ _ => (dgn 2 sc_in_order.nd)) (fun _ _ _ _ _ => dts_nil) (fun _ _ _ _ _ => (de_var 2 rfl)))))))))⟩
def B_piece_numbers : FS := (sRet (fFn R_in_order (fConsA (fLc (iSeq (fVar 0)) (gN 1) tYesF (fBin dCat (fFn dList (fConsA (fFn (g1 dLen) (fConsA (fVar 1) fNilA)) fNilA)) (fVar 1)) [1]) fNilA)))
def R_piece_numbers : List PyData → Option PyData := runF 2 B_piece_numbers
theorem ok_piece_numbers (T : Txt KF.K mg) : FnG P w KF.K mg base (L2.CX P w) 2 T.a_piece_numbers T.d_piece_numbers ["piece"] (spF 1 .cl R_piece_numbers) :=
  def_nx (k := 1) (B := B_piece_numbers) (O' := []) T.F_piece_numbers sc_piece_numbers rfl rfl (.inl rfl) fun cdv A outer s H E ga => ⟨_, (dss_one (ds_ret (de_call (ok_in_order T) (ga.mono (by decide)) T.g_in_order T.F_in_order.kp T.b_in_order passL (dac_cons (DE.cl_ (de_lcv rfl sc_piece_numbers.nd (dlc_mk [("condition", 1)] (di_seqK rfl (de_var 0 rfl)) (blkOk_by (N := ["piece", "condition"]) (sc := defScope s_piece_numbers) (by decide +kernel)) (fun _ _ _ _ _ => (dgn 1 sc_piece_numbers.nd)) (fun _ _ _ _ _ => dts_nil) (fun _ _ _ _ _ => (DE.cl_ (de_cat rfl (DE.or_ (de_list (dac_cons (de_lenK rfl rfl T.z_len (DE.rd_ (de_var 1 rfl))) dac_nil))) (DE.rd_ (de_var 1 rfl)))))))) dac_nil) rfl (fsA_cons fsA_nil))))⟩
def B_claim_numbers : FS := (sSeq (sAsgG (gT [(gN 1), (gN 2)]) (fVar 0)) (sSeq (sAsg 3 (fLc (iSeq (fVar 2)) (gT [(gN 4), (gN 5)]) tYesF (fBin dCat (fFn dList (fConsA (fVar 4) (fConsA (fFn (g1 dLen) (fConsA (fVar 5) fNilA)) fNilA))) (fVar 5)) [4, 5])) (sRet (fBin dCat (fFn dList (fConsA (fIf (tV (fBin dIs (fVar 1) (fC .none))) (fUn dNeg (fC (.int 1))) (fVar 1)) fNilA)) (fFn R_in_order (fConsA (fVar 3) fNilA))))))
def R_claim_numbers : List PyData → Option PyData := runF 6 B_claim_numbers
theorem ok_claim_numbers (T : Txt KF.K mg) : FnG P w KF.K mg base (L2.CX P w) 2 T.a_claim_numbers T.d_claim_numbers ["claim"] (spF 1 .cl R_claim_numbers) :=
  def_nx (k := 1) (B := B_claim_numbers) (O' := []) T.F_claim_numbers sc_claim_numbers rfl rfl (.inl rfl) fun cdv A outer s H E ga => ⟨_, (dss_cons (O' := []) (ds_asgG (de_var 0 rfl) (dg_tupK rfl rfl (dgs_cons (dgn 1 sc_claim_numbers.nd) (dgs_cons (dgn 2 sc_claim_numbers.nd) dgs_nil)))) (dss_cons (O' := []) (dslc 3 rfl sc_claim_numbers.nd (dlc_mk [("scale", 4), ("factors", 5)] (di_seqK rfl (de_var 2 rfl)) (blkOk_by (N := ["claim", "index", "found", "parts", "scale", "factors"]) (sc := defScope s_claim_numbers) (by decide +kernel)) (fun _ _ _ _ _ => (dg_tupK rfl rfl (dgs_cons (dgn 4 sc_claim_numbers.nd) (dgs_cons (dgn 5 sc_claim_numbers.nd) dgs_nil)))) (fun _ _ _ _ _ => dts_nil) (fun _ _ _ _ _ => (DE.cl_ (de_cat rfl (DE.or_ (de_list (dac_cons (de_var 4 rfl) (dac_cons (de_lenK rfl rfl T.z_len (DE.rd_ (de_var 5 rfl))) dac_nil)))) (DE.rd_ (de_var 5 rfl)))))) (sw_true rfl rfl rfl (by decide +kernel))) (dss_one (ds_ret (DE.cl_ (de_cat rfl (DE.or_ (de_list (dac_cons (de_if (dt_is (DE.rd_ (de_var 1 rfl)) (DE.rd_ de_non)) (de_neg (DE.rd_ de_int)) (de_var 1 rfl)) dac_nil))) (DE.rd_ (de_call (ok_in_order T) (ga.mono (by decide)) T.g_in_order T.F_in_order.kp T.b_in_order passL (dac_cons (de_var 3 rfl) dac_nil) rfl (fsA_cons fsA_nil)))))))))⟩
def B_row_numbers : FS := (sRet (fFn R_in_order (fConsA (fLc (iSeq (fVar 0)) (gN 1) tYesF (fFn R_claim_numbers (fConsA (fVar 1) fNilA)) [1]) fNilA)))
def R_row_numbers : List PyData → Option PyData := runF 2 B_row_numbers
theorem ok_row_numbers (T : Txt KF.K mg) : FnG P w KF.K mg base (L2.CX P w) 3 T.a_row_numbers T.d_row_numbers ["claims"] (spF 1 .cl R_row_numbers) :=
  def_nx (k := 2) (B := B_row_numbers) (O' := []) T.F_row_numbers sc_row_numbers rfl rfl (.inl rfl) fun cdv A outer s H E ga => ⟨_, (dss_one (ds_ret (de_call (ok_in_order T) (ga.mono (by decide)) T.g_in_order T.F_in_order.kp T.b_in_order passL (dac_cons (DE.cl_ (de_lcv rfl sc_row_numbers.nd (dlc_mk [("claim", 1)] (di_seqK rfl (de_var 0 rfl)) (blkOk_by (N := ["claims", "claim"]) (sc := defScope s_row_numbers) (by decide +kernel)) (fun _ _ _ _ _ => (dgn 1 sc_row_numbers.nd)) (fun _ _ _ _ _ => dts_nil) (fun _ _ _ _ _ => (de_call (ok_claim_numbers T) (ga.mono (by decide)) T.g_claim_numbers T.F_claim_numbers.kp T.b_claim_numbers passL (dac_cons (de_var 1 rfl) dac_nil) rfl (fsA_cons fsA_nil)))))) dac_nil) rfl (fsA_cons fsA_nil))))⟩
def B_write_book : FS := (sSeq (sAsgG (gT [(gN 1), (gN 2), (gN 3), (gN 4), (gN 5)]) (fVar 0)) (sSeq (sAsg 6 (fFn R_in_order (fConsA (fLc (iSeq (fVar 1)) (gN 8) tYesF (fFn R_in_order (fConsA (fLc (iSeq (fVar 8)) (gN 7) tYesF (fFn R_piece_numbers (fConsA (fVar 7) fNilA)) [7]) fNilA)) [8]) fNilA))) (sSeq (sAsg 6 (fBin dCat (fVar 6) (fFn R_row_numbers (fConsA (fVar 2) fNilA)))) (sSeq (sFor (iSeq (fFn dTup (fConsA (fVar 3) (fConsA (fVar 4) (fConsA (fVar 5) fNilA))))) (gN 9) (sSeq (sAsg 6 (fBin dCat (fVar 6) (fFn R_in_order (fConsA (fLc (iSeq (fVar 9)) (gN 8) tYesF (fFn R_row_numbers (fConsA (fVar 8) fNilA)) [8]) fNilA)))) sNil)) (sRet (fVar 6))))))
def R_write_book : List PyData → Option PyData := runF 10 B_write_book
theorem ok_write_book (T : Txt KF.K mg) : FnG P w KF.K mg base (L2.CX P w) 4 T.a_write_book T.d_write_book ["certificate"] (spF 1 .cl R_write_book) :=
  def_nx (k := 3) (B := B_write_book) (O' := []) T.F_write_book sc_write_book rfl rfl (.inl rfl) fun cdv A outer s H E ga => ⟨_, (dss_cons (O' := []) (ds_asgG (de_var 0 rfl) (dg_tupK rfl rfl (dgs_cons (dgn 1 sc_write_book.nd) (dgs_cons (dgn 2 sc_write_book.nd) (dgs_cons (dgn 3 sc_write_book.nd) (dgs_cons (dgn 4 sc_write_book.nd) (dgs_cons (dgn 5 sc_write_book.nd) dgs_nil))))))) (dss_cons (O' := []) (dsn 6 sc_write_book.nd (de_call (ok_in_order T) (ga.mono (by decide)) T.g_in_order T.F_in_order.kp T.b_in_order passL (dac_cons (DE.cl_ (de_lcv rfl sc_write_book.nd (dlc_mk [("row", 8)] (di_seqK rfl (de_var 1 rfl)) (blkOk_by (N := ["certificate", "pieces", "starts", "waits", "jumps", "ends", "book", "piece", "row", "rows"]) (sc := defScope s_write_book) (by decide +kernel)) (fun _ _ _ _ _ => (dgn 8 sc_write_book.nd)) (fun _ _ _ _ _ => dts_nil) (fun _ _ _ _ _ => (de_call (ok_in_order T) (ga.mono (by decide)) T.g_in_order T.F_in_order.kp T.b_in_order passL (dac_cons (DE.cl_ (de_lcv rfl sc_write_book.nd (dlc_mk [("piece", 7)] (di_seqK rfl (de_var 8 rfl)) (blkOk_by (N := ["certificate", "pieces", "starts", "waits", "jumps", "ends", "book", "piece", "row", "rows"]) (sc := { kind := ScopeKind.function, names := [(".0", NameKind.local), ("row", NameKind.local), ("in_order", NameKind.globalImplicit)], isGenerator := false, isCoroutine := false }) (by decide +kernel)) (fun _ _ _ _ _ => (dgn 7 sc_write_book.nd)) (fun _ _ _ _ _ => dts_nil) (fun _ _ _ _ _ => (de_call (ok_piece_numbers T) (ga.mono (by decide)) T.g_piece_numbers T.F_piece_numbers.kp T.b_piece_numbers passL (dac_cons (de_var 7 rfl) dac_nil) rfl (fsA_cons fsA_nil)))))) dac_nil) rfl (fsA_cons fsA_nil)))))) dac_nil) rfl (fsA_cons fsA_nil))) (dss_cons (O' := []) (dsn 6 sc_write_book.nd (DE.cl_ (de_cat rfl (DE.rd_ (de_var 6 rfl)) (DE.rd_ (de_call (ok_row_numbers T) (ga.mono (by decide)) T.g_row_numbers T.F_row_numbers.kp T.b_row_numbers passL (dac_cons (de_var 2 rfl) dac_nil) rfl (fsA_cons fsA_nil)))))) (dss_cons (O' := []) (ds_for PassesOwn.never rfl (di_seqK rfl (de_tup (dac_cons (de_var 3 rfl) (dac_cons (de_var 4 rfl) (dac_cons (de_var 5 rfl) dac_nil))))) (dgn 9 sc_write_book.nd) (dss_cons (O' := []) (dsn 6 sc_write_book.nd (DE.cl_ (de_cat rfl (DE.rd_ (de_var 6 rfl)) (DE.rd_ (de_call (ok_in_order T) (ga.mono (by decide)) T.g_in_order T.F_in_order.kp T.b_in_order passL (dac_cons (DE.cl_ (de_lcv rfl sc_write_book.nd (dlc_mk [("row", 8)] (di_seqK rfl (de_var 9 rfl)) (blkOk_by (N := ["certificate", "pieces", "starts", "waits", "jumps", "ends", "book", "piece", "row", "rows"]) (sc := defScope s_write_book) (by decide +kernel)) (fun _ _ _ _ _ => (dgn 8 sc_write_book.nd)) (fun _ _ _ _ _ => dts_nil) (fun _ _ _ _ _ => (de_call (ok_row_numbers T) (ga.mono (by decide)) T.g_row_numbers T.F_row_numbers.kp T.b_row_numbers passL (dac_cons (de_var 8 rfl) dac_nil) rfl (fsA_cons fsA_nil)))))) dac_nil) rfl (fsA_cons fsA_nil)))))) dss_nil)) (dss_one (ds_ret (de_var 6 rfl)))))))⟩
def B_law_list_book : FS := (sSeq (sAsg 1 (fFn dList (fConsA (fFn (g1 dLen) (fConsA (fVar 0) fNilA)) fNilA))) (sSeq (sFor (iSeq (fVar 0)) (gN 2) (sSeq (sAsg 1 (fBin dCat (fVar 1) (fVar 2))) sNil)) (sRet (fVar 1))))
def R_law_list_book : List PyData → Option PyData := runF 3 B_law_list_book
theorem ok_law_list_book (T : Txt KF.K mg) : FnG P w KF.K mg base (L2.CX P w) 1 T.a_law_list_book T.d_law_list_book ["rows"] (spF 1 .cl R_law_list_book) :=
  def_nx (k := 0) (B := B_law_list_book) (O' := []) T.F_law_list_book sc_law_list_book rfl rfl (.inl rfl) fun cdv A outer s H E ga => ⟨_, (dss_cons (O' := []) (dsn 1 sc_law_list_book.nd (DE.cl_ (de_list (dac_cons (de_lenK rfl rfl T.z_len (DE.rd_ (de_var 0 rfl))) dac_nil)))) (dss_cons (O' := []) (ds_for PassesOwn.never rfl (di_seqK rfl (de_var 0 rfl)) (dgn 2 sc_law_list_book.nd) (dss_cons (O' := []) (dsn 1 sc_law_list_book.nd (DE.cl_ (de_cat rfl (DE.rd_ (de_var 1 rfl)) (DE.rd_ (de_var 2 rfl))))) dss_nil)) (dss_one (ds_ret (de_var 1 rfl)))))⟩
def B_law_claim_book : FS := (sSeq (sAsgG (gT [(gN 1), (gN 2)]) (fVar 0)) (sSeq (sAsg 3 (fLc (iSeq (fVar 2)) (gT [(gN 4), (gN 5)]) tYesF (fBin dCat (fBin dCat (fFn dList (fConsA (fVar 4) fNilA)) (fFn dList (fConsA (fFn (g1 dLen) (fConsA (fVar 5) fNilA)) fNilA))) (fVar 5)) [4, 5])) (sRet (fBin dCat (fFn dList (fConsA (fIf (tV (fBin dIs (fVar 1) (fC .none))) (fUn dNeg (fC (.int 1))) (fVar 1)) fNilA)) (fFn R_law_list_book (fConsA (fVar 3) fNilA))))))
def R_law_claim_book : List PyData → Option PyData := runF 6 B_law_claim_book
theorem ok_law_claim_book (T : Txt KF.K mg) : FnG P w KF.K mg base (L2.CX P w) 2 T.a_law_claim_book T.d_law_claim_book ["claim"] (spF 1 .cl R_law_claim_book) :=
  def_nx (k := 1) (B := B_law_claim_book) (O' := []) T.F_law_claim_book sc_law_claim_book rfl rfl (.inl rfl) fun cdv A outer s H E ga => ⟨_, (dss_cons (O' := []) (ds_asgG (de_var 0 rfl) (dg_tupK rfl rfl (dgs_cons (dgn 1 sc_law_claim_book.nd) (dgs_cons (dgn 2 sc_law_claim_book.nd) dgs_nil)))) (dss_cons (O' := []) (dslc 3 rfl sc_law_claim_book.nd (dlc_mk [("scale", 4), ("factors", 5)] (di_seqK rfl (de_var 2 rfl)) (blkOk_by (N := ["claim", "index", "told", "rows", "scale", "factors"]) (sc := defScope s_law_claim_book) (by decide +kernel)) (fun _ _ _ _ _ => (dg_tupK rfl rfl (dgs_cons (dgn 4 sc_law_claim_book.nd) (dgs_cons (dgn 5 sc_law_claim_book.nd) dgs_nil)))) (fun _ _ _ _ _ => dts_nil) (fun _ _ _ _ _ => (DE.cl_ (de_cat rfl (DE.or_ (de_cat rfl (DE.or_ (de_list (dac_cons (de_var 4 rfl) dac_nil))) (DE.or_ (de_list (dac_cons (de_lenK rfl rfl T.z_len (DE.rd_ (de_var 5 rfl))) dac_nil))))) (DE.rd_ (de_var 5 rfl)))))) (sw_true rfl rfl rfl (by decide +kernel))) (dss_one (ds_ret (DE.cl_ (de_cat rfl (DE.or_ (de_list (dac_cons (de_if (dt_is (DE.rd_ (de_var 1 rfl)) (DE.rd_ de_non)) (de_neg (DE.rd_ de_int)) (de_var 1 rfl)) dac_nil))) (DE.rd_ (de_call (ok_law_list_book T) (ga.mono (by decide)) T.g_law_list_book T.F_law_list_book.kp T.b_law_list_book passL (dac_cons (de_var 3 rfl) dac_nil) rfl (fsA_cons fsA_nil)))))))))⟩
def B_law_book : FS := (sSeq (sAsgG (gT [(gN 1), (gN 2), (gN 3), (gN 4), (gN 5)]) (fVar 0)) (sSeq (sAsg 6 (fFn R_law_list_book (fConsA (fLc (iSeq (fVar 1)) (gN 9) tYesF (fFn R_law_list_book (fConsA (fLc (iSeq (fVar 9)) (gN 8) tYesF (fFn R_law_list_book (fConsA (fLc (iSeq (fVar 8)) (gN 7) tYesF (fBin dCat (fFn dList (fConsA (fFn (g1 dLen) (fConsA (fVar 7) fNilA)) fNilA)) (fVar 7)) [7]) fNilA)) [8]) fNilA)) [9]) fNilA))) (sSeq (sAsg 6 (fBin dCat (fVar 6) (fFn R_law_list_book (fConsA (fLc (iSeq (fVar 2)) (gN 10) tYesF (fFn R_law_claim_book (fConsA (fVar 10) fNilA)) [10]) fNilA)))) (sSeq (sFor (iSeq (fFn dList (fConsA (fVar 3) (fConsA (fVar 4) (fConsA (fVar 5) fNilA))))) (gN 11) (sSeq (sAsg 6 (fBin dCat (fVar 6) (fFn R_law_list_book (fConsA (fLc (iSeq (fVar 11)) (gN 9) tYesF (fFn R_law_list_book (fConsA (fLc (iSeq (fVar 9)) (gN 10) tYesF (fFn R_law_claim_book (fConsA (fVar 10) fNilA)) [10]) fNilA)) [9]) fNilA)))) sNil)) (sRet (fVar 6))))))
def R_law_book : List PyData → Option PyData := runF 12 B_law_book
theorem ok_law_book (T : Txt KF.K mg) : FnG P w KF.K mg base (L2.CX P w) 3 T.a_law_book T.d_law_book ["certificate"] (spF 1 .cl R_law_book) :=
  def_nx (k := 2) (B := B_law_book) (O' := []) T.F_law_book sc_law_book rfl rfl (.inl rfl) fun cdv A outer s H E ga => ⟨_, (dss_cons (O' := []) (ds_asgG (de_var 0 rfl) (dg_tupK rfl rfl (dgs_cons (dgn 1 sc_law_book.nd) (dgs_cons (dgn 2 sc_law_book.nd) (dgs_cons (dgn 3 sc_law_book.nd) (dgs_cons (dgn 4 sc_law_book.nd) (dgs_cons (dgn 5 sc_law_book.nd) dgs_nil))))))) (dss_cons (O' := []) (dsn 6 sc_law_book.nd (de_call (ok_law_list_book T) (ga.mono (by decide)) T.g_law_list_book T.F_law_list_book.kp T.b_law_list_book passL (dac_cons (DE.cl_ (de_lcv rfl sc_law_book.nd (dlc_mk [("part", 9)] (di_seqK rfl (de_var 1 rfl)) (blkOk_by (N := ["certificate", "pieces", "starts", "waits", "jumps", "goals", "out", "row", "piece", "part", "claim", "groups"]) (sc := defScope s_law_book) (by decide +kernel)) (fun _ _ _ _ _ => (dgn 9 sc_law_book.nd)) (fun _ _ _ _ _ => dts_nil) (fun _ _ _ _ _ => (de_call (ok_law_list_book T) (ga.mono (by decide)) T.g_law_list_book T.F_law_list_book.kp T.b_law_list_book passL (dac_cons (DE.cl_ (de_lcv rfl sc_law_book.nd (dlc_mk [("piece", 8)] (di_seqK rfl (de_var 9 rfl)) (blkOk_by (N := ["certificate", "pieces", "starts", "waits", "jumps", "goals", "out", "row", "piece", "part", "claim", "groups"]) (sc := { kind := ScopeKind.function, names := [(".0", NameKind.local), ("part", NameKind.local), ("_law_list_book", NameKind.globalImplicit)], isGenerator := false, isCoroutine := false }) (by decide +kernel)) (fun _ _ _ _ _ => (dgn 8 sc_law_book.nd)) (fun _ _ _ _ _ => dts_nil) (fun _ _ _ _ _ => (de_call (ok_law_list_book T) (ga.mono (by decide)) T.g_law_list_book T.F_law_list_book.kp T.b_law_list_book passL (dac_cons (DE.cl_ (de_lcv rfl sc_law_book.nd (dlc_mk [("row", 7)] (di_seqK rfl (de_var 8 rfl)) (blkOk_by (N := ["certificate", "pieces", "starts", "waits", "jumps", "goals", "out", "row", "piece", "part", "claim", "groups"]) (sc := { kind := ScopeKind.function, names := [(".0", NameKind.local), ("piece", NameKind.local), ("_law_list_book", NameKind.globalImplicit)], isGenerator := false, isCoroutine := false }) (by decide +kernel)) (fun _ _ _ _ _ => (dgn 7 sc_law_book.nd)) (fun _ _ _ _ _ => dts_nil) (fun _ _ _ _ _ => (DE.cl_ (de_cat rfl (DE.or_ (de_list (dac_cons (de_lenK rfl rfl T.z_len (DE.rd_ (de_var 7 rfl))) dac_nil))) (DE.rd_ (de_var 7 rfl)))))))) dac_nil) rfl (fsA_cons fsA_nil)))))) dac_nil) rfl (fsA_cons fsA_nil)))))) dac_nil) rfl (fsA_cons fsA_nil))) (dss_cons (O' := []) (dsn 6 sc_law_book.nd (DE.cl_ (de_cat rfl (DE.rd_ (de_var 6 rfl)) (DE.rd_ (de_call (ok_law_list_book T) (ga.mono (by decide)) T.g_law_list_book T.F_law_list_book.kp T.b_law_list_book passL (dac_cons (DE.cl_ (de_lcv rfl sc_law_book.nd (dlc_mk [("claim", 10)] (di_seqK rfl (de_var 2 rfl)) (blkOk_by (N := ["certificate", "pieces", "starts", "waits", "jumps", "goals", "out", "row", "piece", "part", "claim", "groups"]) (sc := defScope s_law_book) (by decide +kernel)) (fun _ _ _ _ _ => (dgn 10 sc_law_book.nd)) (fun _ _ _ _ _ => dts_nil) (fun _ _ _ _ _ => (de_call (ok_law_claim_book T) (ga.mono (by decide)) T.g_law_claim_book T.F_law_claim_book.kp T.b_law_claim_book passL (dac_cons (de_var 10 rfl) dac_nil) rfl (fsA_cons fsA_nil)))))) dac_nil) rfl (fsA_cons fsA_nil)))))) (dss_cons (O' := []) (ds_for PassesOwn.never rfl (di_seqK rfl (DE.cl_ (de_list (dac_cons (de_var 3 rfl) (dac_cons (de_var 4 rfl) (dac_cons (de_var 5 rfl) dac_nil)))))) (dgn 11 sc_law_book.nd) (dss_cons (O' := []) (dsn 6 sc_law_book.nd (DE.cl_ (de_cat rfl (DE.rd_ (de_var 6 rfl)) (DE.rd_ (de_call (ok_law_list_book T) (ga.mono (by decide)) T.g_law_list_book T.F_law_list_book.kp T.b_law_list_book passL (dac_cons (DE.cl_ (de_lcv rfl sc_law_book.nd (dlc_mk [("part", 9)] (di_seqK rfl (de_var 11 rfl)) (blkOk_by (N := ["certificate", "pieces", "starts", "waits", "jumps", "goals", "out", "row", "piece", "part", "claim", "groups"]) (sc := defScope s_law_book) (by decide +kernel)) (fun _ _ _ _ _ => (dgn 9 sc_law_book.nd)) (fun _ _ _ _ _ => dts_nil) (fun _ _ _ _ _ => (de_call (ok_law_list_book T) (ga.mono (by decide)) T.g_law_list_book T.F_law_list_book.kp T.b_law_list_book passL (dac_cons (DE.cl_ (de_lcv rfl sc_law_book.nd (dlc_mk [("claim", 10)] (di_seqK rfl (de_var 9 rfl)) (blkOk_by (N := ["certificate", "pieces", "starts", "waits", "jumps", "goals", "out", "row", "piece", "part", "claim", "groups"]) (sc := { kind := ScopeKind.function, names := [(".0", NameKind.local), ("part", NameKind.local), ("_law_list_book", NameKind.globalImplicit)], isGenerator := false, isCoroutine := false }) (by decide +kernel)) (fun _ _ _ _ _ => (dgn 10 sc_law_book.nd)) (fun _ _ _ _ _ => dts_nil) (fun _ _ _ _ _ => (de_call (ok_law_claim_book T) (ga.mono (by decide)) T.g_law_claim_book T.F_law_claim_book.kp T.b_law_claim_book passL (dac_cons (de_var 10 rfl) dac_nil) rfl (fsA_cons fsA_nil)))))) dac_nil) rfl (fsA_cons fsA_nil)))))) dac_nil) rfl (fsA_cons fsA_nil)))))) dss_nil)) (dss_one (ds_ret (de_var 6 rfl)))))))⟩
def B_read_integer : FS := (sSeq (sIf (tV (fBin dGe (fVar 1) (fFn (g1 dLen) (fConsA (fVar 0) fNilA)))) sErr sNil) (sRet (fFn dTup (fConsA (fBin dIx (fVar 0) (fVar 1)) (fConsA (fBin dAdd (fVar 1) (fC (.int 1))) fNilA)))))
def R_read_integer : List PyData → Option PyData := runF 2 B_read_integer
def GX_read_integer : GXs := (xSeq (xIf (tV (fBin dGe (fVar 1) (fFn (g1 dLen) (fConsA (fVar 0) fNilA)))) (fun _ => some "BadBook") xNo) (sIf (tV (fBin dGe (fVar 1) (fFn (g1 dLen) (fConsA (fVar 0) fNilA)))) sErr sNil) xNo)
def X_read_integer : List PyData → Option Str := runX 2 GX_read_integer
theorem okx_read_integer (T : Txt KF.K mg) : FnG P w KF.K mg base (L2.CX P w) 1 T.a_read_integer T.d_read_integer ["numbers", "place"] (spX 2 .cl R_read_integer X_read_integer mg) :=
  def_nxX (k := 0) (B := B_read_integer) (GX := GX_read_integer) (O' := []) T.F_read_integer sc_read_integer rfl rfl (.inl rfl) fun cdv A outer s H E ga => ⟨_, (dxs_cons (O' := []) (dx_if (dt_ge (DE.rd_ (de_var 1 rfl)) (DE.rd_ (de_lenK rfl rfl T.z_len (DE.rd_ (de_var 0 rfl))))) (dxs_one (dx_raise rfl (takes_of rfl rfl rfl rfl) T.e_BadBook rfl)) (dxs_of dss_nil)) (dxs_of (dss_one (ds_ret (de_tup (dac_cons (de_ixK rfl (DE.rd_ (de_var 0 rfl)) (DE.rd_ (de_var 1 rfl))) (dac_cons (de_addI (DE.rd_ (de_var 1 rfl)) (DE.rd_ de_int)) dac_nil)))))))⟩
def BL_read_list (Rg : List PyData → Option PyData) : FS := (sSeq (sAsgG (gT [(gN 3), (gN 1)]) (fFn R_read_integer (fConsA (fVar 0) (fConsA (fVar 1) fNilA)))) (sSeq (sIf (tV (fBin dLt (fVar 3) (fC (.int 0)))) sErr sNil) (sSeq (sAsg 4 (fFn dList fNilA)) (sSeq (sWhile bigW (tV (fBin dLt (fFn (g1 dLen) (fConsA (fVar 4) fNilA)) (fVar 3))) (sSeq (sAsgG (gT [(gN 5), (gN 1)]) (fFn Rg (fConsA (fVar 0) (fConsA (fVar 1) fNilA)))) (sApp 4 (fVar 5)))) (sFrzN 4 (sRetP (fun _ => [[0]]) [[0]] (fFn dTup (fConsA (fVar 4) (fConsA (fVar 1) fNilA)))))))))
def RL_read_list (Rg : List PyData → Option PyData) : List PyData → Option PyData := runF 6 (BL_read_list Rg)
def GXL_read_list (Rg : List PyData → Option PyData) (FXg : List PyData → Option Str) : GXs := (xSeq (xCall X_read_integer (fConsA (fVar 0) (fConsA (fVar 1) fNilA))) (sAsgG (gT [(gN 3), (gN 1)]) (fFn R_read_integer (fConsA (fVar 0) (fConsA (fVar 1) fNilA)))) (xSeq (xIf (tV (fBin dLt (fVar 3) (fC (.int 0)))) (fun _ => some "BadBook") xNo) (sIf (tV (fBin dLt (fVar 3) (fC (.int 0)))) sErr sNil) (xSeq xNo (sAsg 4 (fFn dList fNilA)) (xSeq (xWhile bigW (tV (fBin dLt (fFn (g1 dLen) (fConsA (fVar 4) fNilA)) (fVar 3))) (sSeq (sAsgG (gT [(gN 5), (gN 1)]) (fFn Rg (fConsA (fVar 0) (fConsA (fVar 1) fNilA)))) (sApp 4 (fVar 5))) (xSeq (xCall FXg (fConsA (fVar 0) (fConsA (fVar 1) fNilA))) (sAsgG (gT [(gN 5), (gN 1)]) (fFn Rg (fConsA (fVar 0) (fConsA (fVar 1) fNilA)))) xNo)) (sWhile bigW (tV (fBin dLt (fFn (g1 dLen) (fConsA (fVar 4) fNilA)) (fVar 3))) (sSeq (sAsgG (gT [(gN 5), (gN 1)]) (fFn Rg (fConsA (fVar 0) (fConsA (fVar 1) fNilA)))) (sApp 4 (fVar 5)))) xNo))))
def XL_read_list (Rg : List PyData → Option PyData) (FXg : List PyData → Option Str) : List PyData → Option Str := runX 6 (GXL_read_list Rg FXg)
theorem oklx_read_list (T : Txt KF.K mg) {kg : Nat} {gA : Addr} {fdg : FuncData} {prm : List Str} {Rg : List PyData → Option PyData} {FXg : List PyData → Option Str} (F : FnG P w KF.K mg base (L2.CX P w) kg gA fdg prm (spX 2 .cl Rg FXg mg)) (hkg : 1 ≤ kg) (hk : PySem.W.keepIn KF.K (.ref gA) = true) (hb : L2.Binds KF.K fdg prm []) : FnG P w KF.K mg base (L2.CX P w) (kg + 1) T.a_read_list T.d_read_list ["numbers", "place", "read_item"] (spLX gA 2 (RL_read_list Rg) (XL_read_list Rg FXg) [[0]] mg) :=
  def_xg (k := kg) (G := BL_read_list Rg) (GX := GXL_read_list Rg FXg) (N' := []) (O' := []) T.F_read_list sc_read_list rfl rfl (by decide) (nn_seq' (nn_seq' (nn_seq' (nn_seq' (nn_frzN nn_retP))))) fun cdv A outer s H E ga => ⟨_, (xg_cons (O1 := []) (N1 := []) (xg_dy (dx_asgG (dex_call (okx_read_integer T) (ga.mono (by omega)) T.g_read_integer T.F_read_integer.kp T.b_read_integer (takes_of rfl rfl rfl rfl) (dac_cons (de_var 0 rfl) (dac_cons (de_var 1 rfl) dac_nil)) rfl (fsA_cons (fsA_cons fsA_nil))) (fun h => ds_asgG h (dg_tupK rfl rfl (dgs_cons (dgn 3 sc_read_list.nd) (dgs_cons (dgn 1 sc_read_list.nd) dgs_nil))))) nr_asgG) (xg_cons (O1 := []) (N1 := []) (xg_dy (dx_if (dt_lt (DE.rd_ (de_var 3 rfl)) (DE.rd_ de_int)) (dxs_one (dx_raise rfl (takes_of rfl rfl rfl rfl) T.e_BadBook rfl)) (dxs_of dss_nil)) (nr_if nr_err' nr_nil)) (xg_cons (O1 := [4]) (N1 := []) (xg_dy (dx_of (dsnO 4 sc_read_list.nd (de_list dac_nil))) nr_asg) (xg_cons (O1 := [4]) (N1 := []) (xg_while (n := bigW) (passes_of rfl) (dt_lt (DE.rd_ (de_lenK rfl rfl T.z_len (de_varR 4))) (DE.rd_ (de_var 3 rfl))) (xg_cons (O1 := [4]) (N1 := []) (xg_asgL F (ga.mono (by omega)) hk hb (takes_of rfl rfl rfl rfl) (dac_cons (de_var 0 rfl) (dac_cons (de_var 1 rfl) dac_nil)) (fl_cons (fl_cons fl_nil)) (dg_tupK rfl rfl (dgs_cons (dgn 5 sc_read_list.nd) (dgs_cons (dgn 1 sc_read_list.nd) dgs_nil)))) (xg_one (xg_dy (dx_of (dsapp 4 (de_var 5 rfl) (pv 4) (hb := fun ph => pe_bm PySem.F.plainAttrs_list PySem.F.slot_list_append PySem.F.type_list_append mt_append (pv 4) (pa_cons ph pa_nil)))) nr_app)))) (xgs_of (yg_ofs (y_frzN 4 (y_one (y_ret (ps' := [[0]]) (ye_tup (yes_cons (ye_var (i := 4) (pv 4)) (yes_cons (ye_de (de_var 1 rfl)) yes_nil))))))))))))⟩
def B_read_vector : FS := (sRet (fFn (RL_read_list R_read_integer) (fConsA (fVar 0) (fConsA (fVar 1) fNilA))))
def R_read_vector : List PyData → Option PyData := runF 2 B_read_vector
def GX_read_vector : GXs := (xCall (XL_read_list R_read_integer X_read_integer) (fConsA (fVar 0) (fConsA (fVar 1) fNilA)))
def X_read_vector : List PyData → Option Str := runX 2 GX_read_vector
theorem okx_read_vector (T : Txt KF.K mg) : FnG P w KF.K mg base (L2.CX P w) 3 T.a_read_vector T.d_read_vector ["numbers", "place"] (spX 2 .cl R_read_vector X_read_vector mg) :=
  def_nxX (k := 2) (B := B_read_vector) (GX := GX_read_vector) (O' := []) T.F_read_vector sc_read_vector rfl rfl (.inl rfl) fun cdv A outer s H E ga => ⟨_, (dxs_one (dx_ret (dex_callL (oklx_read_list T (okx_read_integer T) (by decide) T.F_read_integer.kp T.b_read_integer) (ga.mono (by decide)) T.g_read_list T.F_read_list.kp T.b_read_list (takes_of rfl rfl rfl rfl) (de_var 0 rfl) (de_var 1 rfl) T.g_read_integer) (fun h => ds_ret h)))⟩
def B_read_piece : FS := (sRet (fFn (RL_read_list R_read_vector) (fConsA (fVar 0) (fConsA (fVar 1) fNilA))))
def R_read_piece : List PyData → Option PyData := runF 2 B_read_piece
def GX_read_piece : GXs := (xCall (XL_read_list R_read_vector X_read_vector) (fConsA (fVar 0) (fConsA (fVar 1) fNilA)))
def X_read_piece : List PyData → Option Str := runX 2 GX_read_piece
theorem okx_read_piece (T : Txt KF.K mg) : FnG P w KF.K mg base (L2.CX P w) 5 T.a_read_piece T.d_read_piece ["numbers", "place"] (spX 2 .cl R_read_piece X_read_piece mg) :=
  def_nxX (k := 4) (B := B_read_piece) (GX := GX_read_piece) (O' := []) T.F_read_piece sc_read_piece rfl rfl (.inl rfl) fun cdv A outer s H E ga => ⟨_, (dxs_one (dx_ret (dex_callL (oklx_read_list T (okx_read_vector T) (by decide) T.F_read_vector.kp T.b_read_vector) (ga.mono (by decide)) T.g_read_list T.F_read_list.kp T.b_read_list (takes_of rfl rfl rfl rfl) (de_var 0 rfl) (de_var 1 rfl) T.g_read_vector) (fun h => ds_ret h)))⟩
def B_read_pieces : FS := (sRet (fFn (RL_read_list R_read_piece) (fConsA (fVar 0) (fConsA (fVar 1) fNilA))))
def R_read_pieces : List PyData → Option PyData := runF 2 B_read_pieces
def GX_read_pieces : GXs := (xCall (XL_read_list R_read_piece X_read_piece) (fConsA (fVar 0) (fConsA (fVar 1) fNilA)))
def X_read_pieces : List PyData → Option Str := runX 2 GX_read_pieces
theorem okx_read_pieces (T : Txt KF.K mg) : FnG P w KF.K mg base (L2.CX P w) 7 T.a_read_pieces T.d_read_pieces ["numbers", "place"] (spX 2 .cl R_read_pieces X_read_pieces mg) :=
  def_nxX (k := 6) (B := B_read_pieces) (GX := GX_read_pieces) (O' := []) T.F_read_pieces sc_read_pieces rfl rfl (.inl rfl) fun cdv A outer s H E ga => ⟨_, (dxs_one (dx_ret (dex_callL (oklx_read_list T (okx_read_piece T) (by decide) T.F_read_piece.kp T.b_read_piece) (ga.mono (by decide)) T.g_read_list T.F_read_list.kp T.b_read_list (takes_of rfl rfl rfl rfl) (de_var 0 rfl) (de_var 1 rfl) T.g_read_piece) (fun h => ds_ret h)))⟩
def B_read_multipliers : FS := (sSeq (sAsgG (gT [(gN 2), (gN 1)]) (fFn R_read_integer (fConsA (fVar 0) (fConsA (fVar 1) fNilA)))) (sSeq (sAsgG (gT [(gN 3), (gN 1)]) (fFn R_read_vector (fConsA (fVar 0) (fConsA (fVar 1) fNilA)))) (sRet (fFn dTup (fConsA (fFn dTup (fConsA (fVar 2) (fConsA (fVar 3) fNilA))) (fConsA (fVar 1) fNilA))))))
def R_read_multipliers : List PyData → Option PyData := runF 4 B_read_multipliers
def GX_read_multipliers : GXs := (xSeq (xCall X_read_integer (fConsA (fVar 0) (fConsA (fVar 1) fNilA))) (sAsgG (gT [(gN 2), (gN 1)]) (fFn R_read_integer (fConsA (fVar 0) (fConsA (fVar 1) fNilA)))) (xSeq (xCall X_read_vector (fConsA (fVar 0) (fConsA (fVar 1) fNilA))) (sAsgG (gT [(gN 3), (gN 1)]) (fFn R_read_vector (fConsA (fVar 0) (fConsA (fVar 1) fNilA)))) xNo))
def X_read_multipliers : List PyData → Option Str := runX 4 GX_read_multipliers
theorem okx_read_multipliers (T : Txt KF.K mg) : FnG P w KF.K mg base (L2.CX P w) 4 T.a_read_multipliers T.d_read_multipliers ["numbers", "place"] (spX 2 .cl R_read_multipliers X_read_multipliers mg) :=
  def_nxX (k := 3) (B := B_read_multipliers) (GX := GX_read_multipliers) (O' := []) T.F_read_multipliers sc_read_multipliers rfl rfl (.inl rfl) fun cdv A outer s H E ga => ⟨_, (dxs_cons (O' := []) (dx_asgG (dex_call (okx_read_integer T) (ga.mono (by decide)) T.g_read_integer T.F_read_integer.kp T.b_read_integer (takes_of rfl rfl rfl rfl) (dac_cons (de_var 0 rfl) (dac_cons (de_var 1 rfl) dac_nil)) rfl (fsA_cons (fsA_cons fsA_nil))) (fun h => ds_asgG h (dg_tupK rfl rfl (dgs_cons (dgn 2 sc_read_multipliers.nd) (dgs_cons (dgn 1 sc_read_multipliers.nd) dgs_nil))))) (dxs_cons (O' := []) (dx_asgG (dex_call (okx_read_vector T) (ga.mono (by decide)) T.g_read_vector T.F_read_vector.kp T.b_read_vector (takes_of rfl rfl rfl rfl) (dac_cons (de_var 0 rfl) (dac_cons (de_var 1 rfl) dac_nil)) rfl (fsA_cons (fsA_cons fsA_nil))) (fun h => ds_asgG h (dg_tupK rfl rfl (dgs_cons (dgn 3 sc_read_multipliers.nd) (dgs_cons (dgn 1 sc_read_multipliers.nd) dgs_nil))))) (dxs_of (dss_one (ds_ret (de_tup (dac_cons (de_tup (dac_cons (de_var 2 rfl) (dac_cons (de_var 3 rfl) dac_nil))) (dac_cons (de_var 1 rfl) dac_nil))))))))⟩
def B_read_claim : FS := (sSeq (sAsgG (gT [(gN 2), (gN 1)]) (fFn R_read_integer (fConsA (fVar 0) (fConsA (fVar 1) fNilA)))) (sSeq (sIf (tV (fBin dLt (fVar 2) (fUn dNeg (fC (.int 1))))) sErr sNil) (sSeq (sAsgG (gT [(gN 3), (gN 1)]) (fFn (RL_read_list R_read_multipliers) (fConsA (fVar 0) (fConsA (fVar 1) fNilA)))) (sRet (fFn dTup (fConsA (fFn dTup (fConsA (fIf (tV (fBin dEq (fVar 2) (fUn dNeg (fC (.int 1))))) (fC .none) (fVar 2)) (fConsA (fVar 3) fNilA))) (fConsA (fVar 1) fNilA)))))))
def R_read_claim : List PyData → Option PyData := runF 4 B_read_claim
def GX_read_claim : GXs := (xSeq (xCall X_read_integer (fConsA (fVar 0) (fConsA (fVar 1) fNilA))) (sAsgG (gT [(gN 2), (gN 1)]) (fFn R_read_integer (fConsA (fVar 0) (fConsA (fVar 1) fNilA)))) (xSeq (xIf (tV (fBin dLt (fVar 2) (fUn dNeg (fC (.int 1))))) (fun _ => some "BadBook") xNo) (sIf (tV (fBin dLt (fVar 2) (fUn dNeg (fC (.int 1))))) sErr sNil) (xSeq (xCall (XL_read_list R_read_multipliers X_read_multipliers) (fConsA (fVar 0) (fConsA (fVar 1) fNilA))) (sAsgG (gT [(gN 3), (gN 1)]) (fFn (RL_read_list R_read_multipliers) (fConsA (fVar 0) (fConsA (fVar 1) fNilA)))) xNo)))
def X_read_claim : List PyData → Option Str := runX 4 GX_read_claim
theorem okx_read_claim (T : Txt KF.K mg) : FnG P w KF.K mg base (L2.CX P w) 6 T.a_read_claim T.d_read_claim ["numbers", "place"] (spX 2 .cl R_read_claim X_read_claim mg) :=
  def_nxX (k := 5) (B := B_read_claim) (GX := GX_read_claim) (O' := []) T.F_read_claim sc_read_claim rfl rfl (.inl rfl) fun cdv A outer s H E ga => ⟨_, (dxs_cons (O' := []) (dx_asgG (dex_call (okx_read_integer T) (ga.mono (by decide)) T.g_read_integer T.F_read_integer.kp T.b_read_integer (takes_of rfl rfl rfl rfl) (dac_cons (de_var 0 rfl) (dac_cons (de_var 1 rfl) dac_nil)) rfl (fsA_cons (fsA_cons fsA_nil))) (fun h => ds_asgG h (dg_tupK rfl rfl (dgs_cons (dgn 2 sc_read_claim.nd) (dgs_cons (dgn 1 sc_read_claim.nd) dgs_nil))))) (dxs_cons (O' := []) (dx_if (dt_lt (DE.rd_ (de_var 2 rfl)) (DE.rd_ (de_neg (DE.rd_ de_int)))) (dxs_one (dx_raise rfl (takes_of rfl rfl rfl rfl) T.e_BadBook rfl)) (dxs_of dss_nil)) (dxs_cons (O' := []) (dx_asgG (dex_callL (oklx_read_list T (okx_read_multipliers T) (by decide) T.F_read_multipliers.kp T.b_read_multipliers) (ga.mono (by decide)) T.g_read_list T.F_read_list.kp T.b_read_list (takes_of rfl rfl rfl rfl) (de_var 0 rfl) (de_var 1 rfl) T.g_read_multipliers) (fun h => ds_asgG h (dg_tupK rfl rfl (dgs_cons (dgn 3 sc_read_claim.nd) (dgs_cons (dgn 1 sc_read_claim.nd) dgs_nil))))) (dxs_of (dss_one (ds_ret (de_tup (dac_cons (de_tup (dac_cons (de_if (dt_eqK ga.u64 rfl (DE.rd_ (de_var 2 rfl)) (DE.rd_ (de_neg (DE.rd_ de_int)))) de_non (de_var 2 rfl)) (dac_cons (de_var 3 rfl) dac_nil))) (dac_cons (de_var 1 rfl) dac_nil)))))))))⟩
def B_read_claims : FS := (sRet (fFn (RL_read_list R_read_claim) (fConsA (fVar 0) (fConsA (fVar 1) fNilA))))
def R_read_claims : List PyData → Option PyData := runF 2 B_read_claims
def GX_read_claims : GXs := (xCall (XL_read_list R_read_claim X_read_claim) (fConsA (fVar 0) (fConsA (fVar 1) fNilA)))
def X_read_claims : List PyData → Option Str := runX 2 GX_read_claims
theorem okx_read_claims (T : Txt KF.K mg) : FnG P w KF.K mg base (L2.CX P w) 8 T.a_read_claims T.d_read_claims ["numbers", "place"] (spX 2 .cl R_read_claims X_read_claims mg) :=
  def_nxX (k := 7) (B := B_read_claims) (GX := GX_read_claims) (O' := []) T.F_read_claims sc_read_claims rfl rfl (.inl rfl) fun cdv A outer s H E ga => ⟨_, (dxs_one (dx_ret (dex_callL (oklx_read_list T (okx_read_claim T) (by decide) T.F_read_claim.kp T.b_read_claim) (ga.mono (by decide)) T.g_read_list T.F_read_list.kp T.b_read_list (takes_of rfl rfl rfl rfl) (de_var 0 rfl) (de_var 1 rfl) T.g_read_claim) (fun h => ds_ret h)))⟩
def B_check_pieces : FS := (sFor (iSeq (fVar 0)) (gN 2) (sFor (iSeq (fVar 2)) (gN 3) (sFor (iSeq (fVar 3)) (gN 4) (sIf (tV (fBin dNe (fFn (g1 dLen) (fConsA (fVar 4) fNilA)) (fBin dAdd (fVar 1) (fC (.int 1))))) sErr sNil))))
def R_check_pieces : List PyData → Option PyData := runF 5 B_check_pieces
def GX_check_pieces : GXs := (xFor (iSeq (fVar 0)) (gN 2) (sFor (iSeq (fVar 2)) (gN 3) (sFor (iSeq (fVar 3)) (gN 4) (sIf (tV (fBin dNe (fFn (g1 dLen) (fConsA (fVar 4) fNilA)) (fBin dAdd (fVar 1) (fC (.int 1))))) sErr sNil))) (xFor (iSeq (fVar 2)) (gN 3) (sFor (iSeq (fVar 3)) (gN 4) (sIf (tV (fBin dNe (fFn (g1 dLen) (fConsA (fVar 4) fNilA)) (fBin dAdd (fVar 1) (fC (.int 1))))) sErr sNil)) (xFor (iSeq (fVar 3)) (gN 4) (sIf (tV (fBin dNe (fFn (g1 dLen) (fConsA (fVar 4) fNilA)) (fBin dAdd (fVar 1) (fC (.int 1))))) sErr sNil) (xIf (tV (fBin dNe (fFn (g1 dLen) (fConsA (fVar 4) fNilA)) (fBin dAdd (fVar 1) (fC (.int 1))))) (fun _ => some "BadBook") xNo))))
def X_check_pieces : List PyData → Option Str := runX 5 GX_check_pieces
theorem okx_check_pieces (T : Txt KF.K mg) : FnG P w KF.K mg base (L2.CX P w) 1 T.a_check_pieces T.d_check_pieces ["pieces", "n"] (spX 2 .cl R_check_pieces X_check_pieces mg) :=
  def_nxX (k := 0) (B := B_check_pieces) (GX := GX_check_pieces) (O' := []) T.F_check_pieces sc_check_pieces rfl rfl (.inl rfl) fun cdv A outer s H E ga => ⟨_, (dxs_one (dx_for (passes_of rfl) rfl (di_seqK rfl (de_var 0 rfl)) (dgn 2 sc_check_pieces.nd) (dxs_one (dx_for (passes_of rfl) rfl (di_seqK rfl (de_var 2 rfl)) (dgn 3 sc_check_pieces.nd) (dxs_one (dx_for (passes_of rfl) rfl (di_seqK rfl (de_var 3 rfl)) (dgn 4 sc_check_pieces.nd) (dxs_one (dx_if (dt_neK ga.u64 rfl (DE.rd_ (de_lenK rfl rfl T.z_len (DE.rd_ (de_var 4 rfl)))) (DE.rd_ (de_addI (DE.rd_ (de_var 1 rfl)) (DE.rd_ de_int)))) (dxs_one (dx_raise rfl (takes_of rfl rfl rfl rfl) T.e_BadBook rfl)) (dxs_of dss_nil)))))))))⟩
def B_read_book : FS := (sSeq (sAsgG (gT [(gN 2), (gN 3)]) (fFn (RL_read_list R_read_pieces) (fConsA (fVar 0) (fConsA (fC (.int 0)) fNilA)))) (sSeq (sDrop (fFn R_check_pieces (fConsA (fVar 2) (fConsA (fVar 1) fNilA)))) (sSeq (sAsgG (gT [(gN 4), (gN 3)]) (fFn R_read_claims (fConsA (fVar 0) (fConsA (fVar 3) fNilA)))) (sSeq (sAsgG (gT [(gN 5), (gN 3)]) (fFn (RL_read_list R_read_claims) (fConsA (fVar 0) (fConsA (fVar 3) fNilA)))) (sSeq (sAsgG (gT [(gN 6), (gN 3)]) (fFn (RL_read_list R_read_claims) (fConsA (fVar 0) (fConsA (fVar 3) fNilA)))) (sSeq (sAsgG (gT [(gN 7), (gN 3)]) (fFn (RL_read_list R_read_claims) (fConsA (fVar 0) (fConsA (fVar 3) fNilA)))) (sSeq (sIf (tV (fBin dNe (fVar 3) (fFn (g1 dLen) (fConsA (fVar 0) fNilA)))) sErr sNil) (sRet (fFn dTup (fConsA (fVar 2) (fConsA (fVar 4) (fConsA (fVar 5) (fConsA (fVar 6) (fConsA (fVar 7) fNilA))))))))))))))
def R_read_book : List PyData → Option PyData := runF 8 B_read_book
def GX_read_book : GXs := (xSeq (xCall (XL_read_list R_read_pieces X_read_pieces) (fConsA (fVar 0) (fConsA (fC (.int 0)) fNilA))) (sAsgG (gT [(gN 2), (gN 3)]) (fFn (RL_read_list R_read_pieces) (fConsA (fVar 0) (fConsA (fC (.int 0)) fNilA)))) (xSeq (xCall X_check_pieces (fConsA (fVar 2) (fConsA (fVar 1) fNilA))) (sDrop (fFn R_check_pieces (fConsA (fVar 2) (fConsA (fVar 1) fNilA)))) (xSeq (xCall X_read_claims (fConsA (fVar 0) (fConsA (fVar 3) fNilA))) (sAsgG (gT [(gN 4), (gN 3)]) (fFn R_read_claims (fConsA (fVar 0) (fConsA (fVar 3) fNilA)))) (xSeq (xCall (XL_read_list R_read_claims X_read_claims) (fConsA (fVar 0) (fConsA (fVar 3) fNilA))) (sAsgG (gT [(gN 5), (gN 3)]) (fFn (RL_read_list R_read_claims) (fConsA (fVar 0) (fConsA (fVar 3) fNilA)))) (xSeq (xCall (XL_read_list R_read_claims X_read_claims) (fConsA (fVar 0) (fConsA (fVar 3) fNilA))) (sAsgG (gT [(gN 6), (gN 3)]) (fFn (RL_read_list R_read_claims) (fConsA (fVar 0) (fConsA (fVar 3) fNilA)))) (xSeq (xCall (XL_read_list R_read_claims X_read_claims) (fConsA (fVar 0) (fConsA (fVar 3) fNilA))) (sAsgG (gT [(gN 7), (gN 3)]) (fFn (RL_read_list R_read_claims) (fConsA (fVar 0) (fConsA (fVar 3) fNilA)))) (xSeq (xIf (tV (fBin dNe (fVar 3) (fFn (g1 dLen) (fConsA (fVar 0) fNilA)))) (fun _ => some "BadBook") xNo) (sIf (tV (fBin dNe (fVar 3) (fFn (g1 dLen) (fConsA (fVar 0) fNilA)))) sErr sNil) xNo)))))))
def X_read_book : List PyData → Option Str := runX 8 GX_read_book
theorem okx_read_book (T : Txt KF.K mg) : FnG P w KF.K mg base (L2.CX P w) 10 T.a_read_book T.d_read_book ["numbers", "n"] (spX 2 .cl R_read_book X_read_book mg) :=
  def_nxX (k := 9) (B := B_read_book) (GX := GX_read_book) (O' := []) T.F_read_book sc_read_book rfl rfl (.inl rfl) fun cdv A outer s H E ga => ⟨_, (dxs_cons (O' := []) (dx_asgG (dex_callL (oklx_read_list T (okx_read_pieces T) (by decide) T.F_read_pieces.kp T.b_read_pieces) (ga.mono (by decide)) T.g_read_list T.F_read_list.kp T.b_read_list (takes_of rfl rfl rfl rfl) (de_var 0 rfl) de_int T.g_read_pieces) (fun h => ds_asgG h (dg_tupK rfl rfl (dgs_cons (dgn 2 sc_read_book.nd) (dgs_cons (dgn 3 sc_read_book.nd) dgs_nil))))) (dxs_cons (O' := []) (dx_drop (dex_call (okx_check_pieces T) (ga.mono (by decide)) T.g_check_pieces T.F_check_pieces.kp T.b_check_pieces (takes_of rfl rfl rfl rfl) (dac_cons (de_var 2 rfl) (dac_cons (de_var 1 rfl) dac_nil)) rfl (fsA_cons (fsA_cons fsA_nil)))) (dxs_cons (O' := []) (dx_asgG (dex_call (okx_read_claims T) (ga.mono (by decide)) T.g_read_claims T.F_read_claims.kp T.b_read_claims (takes_of rfl rfl rfl rfl) (dac_cons (de_var 0 rfl) (dac_cons (de_var 3 rfl) dac_nil)) rfl (fsA_cons (fsA_cons fsA_nil))) (fun h => ds_asgG h (dg_tupK rfl rfl (dgs_cons (dgn 4 sc_read_book.nd) (dgs_cons (dgn 3 sc_read_book.nd) dgs_nil))))) (dxs_cons (O' := []) (dx_asgG (dex_callL (oklx_read_list T (okx_read_claims T) (by decide) T.F_read_claims.kp T.b_read_claims) (ga.mono (by decide)) T.g_read_list T.F_read_list.kp T.b_read_list (takes_of rfl rfl rfl rfl) (de_var 0 rfl) (de_var 3 rfl) T.g_read_claims) (fun h => ds_asgG h (dg_tupK rfl rfl (dgs_cons (dgn 5 sc_read_book.nd) (dgs_cons (dgn 3 sc_read_book.nd) dgs_nil))))) (dxs_cons (O' := []) (dx_asgG (dex_callL (oklx_read_list T (okx_read_claims T) (by decide) T.F_read_claims.kp T.b_read_claims) (ga.mono (by decide)) T.g_read_list T.F_read_list.kp T.b_read_list (takes_of rfl rfl rfl rfl) (de_var 0 rfl) (de_var 3 rfl) T.g_read_claims) (fun h => ds_asgG h (dg_tupK rfl rfl (dgs_cons (dgn 6 sc_read_book.nd) (dgs_cons (dgn 3 sc_read_book.nd) dgs_nil))))) (dxs_cons (O' := []) (dx_asgG (dex_callL (oklx_read_list T (okx_read_claims T) (by decide) T.F_read_claims.kp T.b_read_claims) (ga.mono (by decide)) T.g_read_list T.F_read_list.kp T.b_read_list (takes_of rfl rfl rfl rfl) (de_var 0 rfl) (de_var 3 rfl) T.g_read_claims) (fun h => ds_asgG h (dg_tupK rfl rfl (dgs_cons (dgn 7 sc_read_book.nd) (dgs_cons (dgn 3 sc_read_book.nd) dgs_nil))))) (dxs_cons (O' := []) (dx_if (dt_neK ga.u64 rfl (DE.rd_ (de_var 3 rfl)) (DE.rd_ (de_lenK rfl rfl T.z_len (DE.rd_ (de_var 0 rfl))))) (dxs_one (dx_raise rfl (takes_of rfl rfl rfl rfl) T.e_BadBook rfl)) (dxs_of dss_nil)) (dxs_of (dss_one (ds_ret (de_tup (dac_cons (de_var 2 rfl) (dac_cons (de_var 4 rfl) (dac_cons (de_var 5 rfl) (dac_cons (de_var 6 rfl) (dac_cons (de_var 7 rfl) dac_nil))))))))))))))))⟩
def B_law_told : FS := (sTryRA 2 (fFn R_read_book (fAppA (fConsA (fVar 0) fNilA) (fConsA (fVar 1) fNilA))) (xCall X_read_book (fAppA (fConsA (fVar 0) fNilA) (fConsA (fVar 1) fNilA))) "BadBook" (if (true && (!false)) = true then (fC .none) else (fC (.str "wrong"))))
def R_law_told : List PyData → Option PyData := runF 3 B_law_told
theorem ok_law_told (T : Txt KF.K mg) : FnG P w KF.K mg base (L2.CX P w) 11 T.a_law_told T.d_law_told ["numbers", "n"] (spF 2 .cl R_law_told) :=
  def_nx (k := 10) (B := B_law_told) (O' := []) T.F_law_told sc_law_told rfl rfl (.inl rfl) fun cdv A outer s H E ga => ⟨_, (dss_one (ds_tryRetAs rfl rfl sc_law_told.nd rfl rfl ⟨rfl, by decide, Or.inl T.e_BadBook.g⟩ T.e_BadBook.g T.x_BadBook takes0 (fun W pn xe tkW => (dex_callKwT (okx_read_book T) (ga.mono (by decide)) T.g_read_book T.F_read_book.kp T.kb_read_book tkW (dac_cons (de_var 0 rfl) dac_nil) (dk_cons (de_var 1 rfl) dk_nil) (fl_cons fl_nil) (fl_cons fl_nil))) (fun a oe pn hz hf => (bd_if (BTW.bt (btw_and (btt_of (bt_is (v := (V.ref T.c_FloodError)) (cv := (.ref T.c_FloodError)) T.i_BadBook hz hf rfl T.z_isinstance (pv 2) (pe_glob rfl T.gc_FloodError rfl) (fun _ h => h) T.k_BadBook_FloodError)) (btw_one (btt_not (btt_of (bt_is (v := (V.ref T.c_OutOfRange)) (cv := (.ref T.c_OutOfRange)) T.i_BadBook hz hf rfl T.z_isinstance (pv 2) (pe_glob rfl T.gc_OutOfRange rfl) (fun _ h => h) T.k_BadBook_OutOfRange)))))) de_non de_str))))⟩
def B_law_is_integer : FS := (sRet (fAnd (fUn (isTy "int") (fVar 0)) (fUn gNot (fUn (isTy "bool") (fVar 0)))))
def R_law_is_integer : List PyData → Option PyData := runF 1 B_law_is_integer
theorem ok_law_is_integer (T : Txt KF.K mg) : FnG P w KF.K mg base (L2.CX P w) 1 T.a_law_is_integer T.d_law_is_integer ["item"] (spF 1 .cl R_law_is_integer) :=
  def_nx (k := 0) (B := B_law_is_integer) (O' := []) T.F_law_is_integer sc_law_is_integer rfl rfl (.inl rfl) fun cdv A outer s H E ga => ⟨_, (dss_one (ds_ret (de_and (DE.rd_ (de_isiK rfl (T := "int") rfl T.z_isinstance (DE.rd_ (de_var 0 rfl)) (pe_bltn (by rfl) T.z_int (by decide +kernel) rfl))) (de_one (de_not (DE.rd_ (de_isiK rfl (T := "bool") rfl T.z_isinstance (DE.rd_ (de_var 0 rfl)) (pe_bltn (by rfl) T.z_bool (by decide +kernel) rfl))))))))⟩
def B_law_is_claims : FS := (sSeq (sFor (iSeq (fVar 0)) (gN 1) (sSeq (sIf (tO (tN (tV (fUn (isTy "tuple") (fVar 1)))) (tO (tV (fBin dNe (fFn (g1 dLen) (fConsA (fVar 1) fNilA)) (fC (.int 2)))) (tN (tV (fUn (isTy "list") (fBin dIx (fVar 1) (fC (.int 1)))))))) (sRet (fC (.bool false))) sNil) (sSeq (sIf (tA (tV (fBin dIsNot (fBin dIx (fVar 1) (fC (.int 0))) (fC .none))) (tN (tA (tTr (fFn R_law_is_integer (fConsA (fBin dIx (fVar 1) (fC (.int 0))) fNilA))) (tV (fBin dNe (fBin dIx (fVar 1) (fC (.int 0))) (fUn dNeg (fC (.int 1)))))))) (sRet (fC (.bool false))) sNil) (sSeq (sFor (iSeq (fBin dIx (fVar 1) (fC (.int 1)))) (gN 2) (sSeq (sIf (tO (tN (tV (fUn (isTy "tuple") (fVar 2)))) (tO (tV (fBin dNe (fFn (g1 dLen) (fConsA (fVar 2) fNilA)) (fC (.int 2)))) (tO (tN (tTr (fFn R_law_is_integer (fConsA (fBin dIx (fVar 2) (fC (.int 0))) fNilA)))) (tN (tV (fUn (isTy "list") (fBin dIx (fVar 2) (fC (.int 1))))))))) (sRet (fC (.bool false))) sNil) sNil)) sNil)))) (sRet (fC (.bool true))))
def R_law_is_claims : List PyData → Option PyData := runF 3 B_law_is_claims
theorem ok_law_is_claims (T : Txt KF.K mg) : FnG P w KF.K mg base (L2.CX P w) 2 T.a_law_is_claims T.d_law_is_claims ["claims"] (spF 1 .cl R_law_is_claims) :=
  def_nx (k := 1) (B := B_law_is_claims) (O' := []) T.F_law_is_claims sc_law_is_claims rfl rfl (.inl rfl) fun cdv A outer s H E ga => ⟨_, (dss_cons (O' := []) (ds_for PassesOwn.never rfl (di_seqK rfl (de_var 0 rfl)) (dgn 1 sc_law_is_claims.nd) (dss_cons (O' := []) (ds_if (DW.dt (dw_or (dt_not (dt_val (DE.rd_ (de_isiK rfl (T := "tuple") rfl T.z_isinstance (DE.rd_ (de_var 1 rfl)) (pe_bltn (by rfl) T.z_tuple (by decide +kernel) rfl))))) (dw_or (dt_neK ga.u64 rfl (DE.rd_ (de_lenK rfl rfl T.z_len (DE.rd_ (de_var 1 rfl)))) (DE.rd_ de_int)) (dw_or1 (dt_not (dt_val (DE.rd_ (de_isiK rfl (T := "list") rfl T.z_isinstance (DE.rd_ (de_ixK rfl (DE.rd_ (de_var 1 rfl)) (DE.rd_ de_int))) (pe_bltn (by rfl) T.z_list (by decide +kernel) rfl))))))))) (dss_one (ds_ret de_bl)) dss_nil) (dss_cons (O' := []) (ds_if (DW.dt (dw_and (dt_isnot (DE.rd_ (de_ixK rfl (DE.rd_ (de_var 1 rfl)) (DE.rd_ de_int))) (DE.rd_ de_non)) (dw_and1 (dt_not (DW.dt (dw_and (dt_truK rfl (DE.rd_ (de_call (ok_law_is_integer T) (ga.mono (by decide)) T.g_law_is_integer T.F_law_is_integer.kp T.b_law_is_integer passL (dac_cons (de_ixK rfl (DE.rd_ (de_var 1 rfl)) (DE.rd_ de_int)) dac_nil) rfl (fsA_cons fsA_nil)))) (dw_and1 (dt_neK ga.u64 rfl (DE.rd_ (de_ixK rfl (DE.rd_ (de_var 1 rfl)) (DE.rd_ de_int))) (DE.rd_ (de_neg (DE.rd_ de_int))))))))))) (dss_one (ds_ret de_bl)) dss_nil) (dss_cons (O' := []) (ds_for PassesOwn.never rfl (di_seqK rfl (de_ixK rfl (DE.rd_ (de_var 1 rfl)) (DE.rd_ de_int))) (dgn 2 sc_law_is_claims.nd) (dss_cons (O' := []) (ds_if (DW.dt (dw_or (dt_not (dt_val (DE.rd_ (de_isiK rfl (T := "tuple") rfl T.z_isinstance (DE.rd_ (de_var 2 rfl)) (pe_bltn (by rfl) T.z_tuple (by decide +kernel) rfl))))) (dw_or (dt_neK ga.u64 rfl (DE.rd_ (de_lenK rfl rfl T.z_len (DE.rd_ (de_var 2 rfl)))) (DE.rd_ de_int)) (dw_or (dt_not (dt_truK rfl (DE.rd_ (de_call (ok_law_is_integer T) (ga.mono (by decide)) T.g_law_is_integer T.F_law_is_integer.kp T.b_law_is_integer passL (dac_cons (de_ixK rfl (DE.rd_ (de_var 2 rfl)) (DE.rd_ de_int)) dac_nil) rfl (fsA_cons fsA_nil))))) (dw_or1 (dt_not (dt_val (DE.rd_ (de_isiK rfl (T := "list") rfl T.z_isinstance (DE.rd_ (de_ixK rfl (DE.rd_ (de_var 2 rfl)) (DE.rd_ de_int))) (pe_bltn (by rfl) T.z_list (by decide +kernel) rfl)))))))))) (dss_one (ds_ret de_bl)) dss_nil) dss_nil)) dss_nil)))) (dss_one (ds_ret de_bl)))⟩
def B_law_is_certificate : FS := (sSeq (sIf (tO (tN (tV (fUn (isTy "tuple") (fVar 0)))) (tO (tV (fBin dNe (fFn (g1 dLen) (fConsA (fVar 0) fNilA)) (fC (.int 5)))) (tV (fBin dGt (fFn (g1 dLen) (fConsA (fLc (iSeq (fVar 0)) (gN 2) (tN (tV (fUn (isTy "list") (fVar 2)))) (fVar 2) [2]) fNilA)) (fC (.int 0)))))) (sRet (fC (.bool false))) sNil) (sSeq (sFor (iSeq (fBin dIx (fVar 0) (fC (.int 0)))) (gN 2) (sSeq (sFor (iSeq (fVar 2)) (gN 3) (sSeq (sFor (iSeq (fVar 3)) (gN 4) (sSeq (sIf (tO (tN (tV (fUn (isTy "list") (fVar 4)))) (tV (fBin dNe (fFn (g1 dLen) (fConsA (fVar 4) fNilA)) (fBin dAdd (fVar 1) (fC (.int 1)))))) (sRet (fC (.bool false))) sNil) sNil)) sNil)) sNil)) (sSeq (sAsg 5 (fBin dCat (fBin dCat (fBin dCat (fFn dList (fConsA (fBin dIx (fVar 0) (fC (.int 1))) fNilA)) (fBin dIx (fVar 0) (fC (.int 2)))) (fBin dIx (fVar 0) (fC (.int 3)))) (fBin dIx (fVar 0) (fC (.int 4))))) (sRet (fBin dEq (fFn (g1 dLen) (fConsA (fLc (iSeq (fVar 5)) (gN 2) (tN (tTr (fFn R_law_is_claims (fConsA (fVar 2) fNilA)))) (fVar 2) [2]) fNilA)) (fC (.int 0)))))))
def R_law_is_certificate : List PyData → Option PyData := runF 6 B_law_is_certificate
theorem ok_law_is_certificate (T : Txt KF.K mg) : FnG P w KF.K mg base (L2.CX P w) 3 T.a_law_is_certificate T.d_law_is_certificate ["told", "n"] (spF 2 .cl R_law_is_certificate) :=
  def_nx (k := 2) (B := B_law_is_certificate) (O' := []) T.F_law_is_certificate sc_law_is_certificate rfl rfl (.inl rfl) fun cdv A outer s H E ga => ⟨_, (dss_cons (O' := []) (ds_if (DW.dt (dw_or (dt_not (dt_val (DE.rd_ (de_isiK rfl (T := "tuple") rfl T.z_isinstance (DE.rd_ (de_var 0 rfl)) (pe_bltn (by rfl) T.z_tuple (by decide +kernel) rfl))))) (dw_or (dt_neK ga.u64 rfl (DE.rd_ (de_lenK rfl rfl T.z_len (DE.rd_ (de_var 0 rfl)))) (DE.rd_ de_int)) (dw_or1 (dt_gt (DE.rd_ (de_lenK rfl rfl T.z_len (DE.or_ (de_lcv rfl sc_law_is_certificate.nd (dlc_mk [("part", 2)] (di_seqK rfl (de_var 0 rfl)) (blkOk_by (N := ["told", "n", "part", "piece", "row", "groups"]) (sc := defScope s_law_is_certificate) (by decide +kernel)) (fun _ _ _ _ _ => (dgn 2 sc_law_is_certificate.nd)) (fun _ _ _ _ _ => (dts_one (dt_not (dt_val (DE.rd_ (de_isiK rfl (T := "list") rfl T.z_isinstance (DE.rd_ (de_var 2 rfl)) (pe_bltn (by rfl) T.z_list (by decide +kernel) rfl))))))) (fun _ _ _ _ _ => (de_var 2 rfl))))))) (DE.rd_ de_int)))))) (dss_one (ds_ret de_bl)) dss_nil) (dss_cons (O' := []) (ds_for PassesOwn.never rfl (di_seqK rfl (de_ixK rfl (DE.rd_ (de_var 0 rfl)) (DE.rd_ de_int))) (dgn 2 sc_law_is_certificate.nd) (dss_cons (O' := []) (ds_for PassesOwn.never rfl (di_seqK rfl (de_var 2 rfl)) (dgn 3 sc_law_is_certificate.nd) (dss_cons (O' := []) (ds_for PassesOwn.never rfl (di_seqK rfl (de_var 3 rfl)) (dgn 4 sc_law_is_certificate.nd) (dss_cons (O' := []) (ds_if (DW.dt (dw_or (dt_not (dt_val (DE.rd_ (de_isiK rfl (T := "list") rfl T.z_isinstance (DE.rd_ (de_var 4 rfl)) (pe_bltn (by rfl) T.z_list (by decide +kernel) rfl))))) (dw_or1 (dt_neK ga.u64 rfl (DE.rd_ (de_lenK rfl rfl T.z_len (DE.rd_ (de_var 4 rfl)))) (DE.rd_ (de_addI (DE.rd_ (de_var 1 rfl)) (DE.rd_ de_int))))))) (dss_one (ds_ret de_bl)) dss_nil) dss_nil)) dss_nil)) dss_nil)) (dss_cons (O' := []) (dsn 5 sc_law_is_certificate.nd (DE.cl_ (de_cat rfl (DE.or_ (de_cat rfl (DE.or_ (de_cat rfl (DE.or_ (de_list (dac_cons (de_ixK rfl (DE.rd_ (de_var 0 rfl)) (DE.rd_ de_int)) dac_nil))) (DE.rd_ (de_ixK rfl (DE.rd_ (de_var 0 rfl)) (DE.rd_ de_int))))) (DE.rd_ (de_ixK rfl (DE.rd_ (de_var 0 rfl)) (DE.rd_ de_int))))) (DE.rd_ (de_ixK rfl (DE.rd_ (de_var 0 rfl)) (DE.rd_ de_int)))))) (dss_one (ds_ret (de_eqK ga.u64 rfl (DE.rd_ (de_lenK rfl rfl T.z_len (DE.or_ (de_lcv rfl sc_law_is_certificate.nd (dlc_mk [("part", 2)] (di_seqK rfl (de_var 5 rfl)) (blkOk_by (N := ["told", "n", "part", "piece", "row", "groups"]) (sc := defScope s_law_is_certificate) (by decide +kernel)) (fun _ _ _ _ _ => (dgn 2 sc_law_is_certificate.nd)) (fun _ _ _ _ _ => (dts_one (dt_not (dt_truK rfl (DE.rd_ (de_call (ok_law_is_claims T) (ga.mono (by decide)) T.g_law_is_claims T.F_law_is_claims.kp T.b_law_is_claims passL (dac_cons (de_var 2 rfl) dac_nil) rfl (fsA_cons fsA_nil))))))) (fun _ _ _ _ _ => (de_var 2 rfl))))))) (DE.rd_ de_int)))))))⟩
def B_law_changed : FS := (sSeq (sAsg 2 (fBin dMod (fBin dDiv (fVar 1) (fC (.int 5))) (fFn (g1 dLen) (fConsA (fVar 0) fNilA)))) (sSeq (sAsg 3 (fBin dIx (fFn dList (fConsA (fBin dSub (fBin dMod (fBin dDiv (fVar 1) (fC (.int 7))) (fC (.int 6))) (fC (.int 2))) (fConsA (fUn dNeg (fC (.int 1))) (fConsA (fBin dAdd (fBin dIx (fVar 0) (fVar 2)) (fC (.int 1))) (fConsA (fBin dPow (fC (.int 10)) (fC (.int 18))) fNilA))))) (fBin dMod (fBin dDiv (fVar 1) (fC (.int 3))) (fC (.int 4))))) (sSeq (sIf (tV (fBin dEq (fBin dMod (fVar 1) (fC (.int 5))) (fC (.int 0)))) (sRet (fBin dCat (fBin dCat (fSl (fVar 0) oNone (oSome (fVar 2))) (fFn dList (fConsA (fVar 3) fNilA))) (fSl (fVar 0) (oSome (fBin dAdd (fVar 2) (fC (.int 1)))) oNone))) sNil) (sSeq (sIf (tV (fBin dEq (fBin dMod (fVar 1) (fC (.int 5))) (fC (.int 1)))) (sRet (fBin dCat (fSl (fVar 0) oNone (oSome (fVar 2))) (fSl (fVar 0) (oSome (fBin dAdd (fVar 2) (fC (.int 1)))) oNone))) sNil) (sSeq (sIf (tV (fBin dEq (fBin dMod (fVar 1) (fC (.int 5))) (fC (.int 2)))) (sRet (fBin dCat (fBin dCat (fSl (fVar 0) oNone (oSome (fVar 2))) (fFn dList (fConsA (fVar 3) fNilA))) (fSl (fVar 0) (oSome (fVar 2)) oNone))) sNil) (sSeq (sIf (tV (fBin dEq (fBin dMod (fVar 1) (fC (.int 5))) (fC (.int 3)))) (sRet (fSl (fVar 0) oNone (oSome (fVar 2)))) sNil) (sRet (fBin dCat (fVar 0) (fFn dList (fConsA (fVar 3) fNilA))))))))))
def R_law_changed : List PyData → Option PyData := runF 4 B_law_changed
theorem ok_law_changed (T : Txt KF.K mg) : FnG P w KF.K mg base (L2.CX P w) 1 T.a_law_changed T.d_law_changed ["book", "cell"] (spF 2 .cl R_law_changed) :=
  def_nx (k := 0) (B := B_law_changed) (O' := []) T.F_law_changed sc_law_changed rfl rfl (.inl rfl) fun cdv A outer s H E ga => ⟨_, (dss_cons (O' := []) (dsn 2 sc_law_changed.nd (de_mod (DE.rd_ (de_div (DE.rd_ (de_var 1 rfl)) (DE.rd_ de_int))) (DE.rd_ (de_lenK rfl rfl T.z_len (DE.rd_ (de_var 0 rfl)))))) (dss_cons (O' := []) (dsn 3 sc_law_changed.nd (de_ixK rfl (DE.or_ (de_list (dac_cons (de_sub (DE.rd_ (de_mod (DE.rd_ (de_div (DE.rd_ (de_var 1 rfl)) (DE.rd_ de_int))) (DE.rd_ de_int))) (DE.rd_ de_int)) (dac_cons (de_neg (DE.rd_ de_int)) (dac_cons (de_addI (DE.rd_ (de_ixK rfl (DE.rd_ (de_var 0 rfl)) (DE.rd_ (de_var 2 rfl)))) (DE.rd_ de_int)) (dac_cons (de_pow (DE.rd_ de_int) (DE.rd_ de_int)) dac_nil)))))) (DE.rd_ (de_mod (DE.rd_ (de_div (DE.rd_ (de_var 1 rfl)) (DE.rd_ de_int))) (DE.rd_ de_int))))) (dss_cons (O' := []) (ds_if (dt_eqK ga.u64 rfl (DE.rd_ (de_mod (DE.rd_ (de_var 1 rfl)) (DE.rd_ de_int))) (DE.rd_ de_int)) (dss_one (ds_ret (DE.cl_ (de_cat rfl (DE.or_ (de_cat rfl (DE.or_ (de_sliceK rfl (DE.rd_ (de_var 0 rfl)) do_none (do_some (DE.rd_ (de_var 2 rfl))))) (DE.or_ (de_list (dac_cons (de_var 3 rfl) dac_nil))))) (DE.or_ (de_sliceK rfl (DE.rd_ (de_var 0 rfl)) (do_some (DE.rd_ (de_addI (DE.rd_ (de_var 2 rfl)) (DE.rd_ de_int)))) do_none)))))) dss_nil) (dss_cons (O' := []) (ds_if (dt_eqK ga.u64 rfl (DE.rd_ (de_mod (DE.rd_ (de_var 1 rfl)) (DE.rd_ de_int))) (DE.rd_ de_int)) (dss_one (ds_ret (DE.cl_ (de_cat rfl (DE.or_ (de_sliceK rfl (DE.rd_ (de_var 0 rfl)) do_none (do_some (DE.rd_ (de_var 2 rfl))))) (DE.or_ (de_sliceK rfl (DE.rd_ (de_var 0 rfl)) (do_some (DE.rd_ (de_addI (DE.rd_ (de_var 2 rfl)) (DE.rd_ de_int)))) do_none)))))) dss_nil) (dss_cons (O' := []) (ds_if (dt_eqK ga.u64 rfl (DE.rd_ (de_mod (DE.rd_ (de_var 1 rfl)) (DE.rd_ de_int))) (DE.rd_ de_int)) (dss_one (ds_ret (DE.cl_ (de_cat rfl (DE.or_ (de_cat rfl (DE.or_ (de_sliceK rfl (DE.rd_ (de_var 0 rfl)) do_none (do_some (DE.rd_ (de_var 2 rfl))))) (DE.or_ (de_list (dac_cons (de_var 3 rfl) dac_nil))))) (DE.or_ (de_sliceK rfl (DE.rd_ (de_var 0 rfl)) (do_some (DE.rd_ (de_var 2 rfl))) do_none)))))) dss_nil) (dss_cons (O' := []) (ds_if (dt_eqK ga.u64 rfl (DE.rd_ (de_mod (DE.rd_ (de_var 1 rfl)) (DE.rd_ de_int))) (DE.rd_ de_int)) (dss_one (ds_ret (DE.cl_ (de_sliceK rfl (DE.rd_ (de_var 0 rfl)) do_none (do_some (DE.rd_ (de_var 2 rfl))))))) dss_nil) (dss_one (ds_ret (DE.cl_ (de_cat rfl (DE.rd_ (de_var 0 rfl)) (DE.or_ (de_list (dac_cons (de_var 3 rfl) dac_nil)))))))))))))⟩
def B_law : FS := (sSeq (sFor (iR1 (fFn (g2 dMin2) (fConsA (fBin dAdd (fC (.int 1)) (fFn (g1 dLen) (fConsA (fVar 0) fNilA))) (fConsA (fC (.int 6)) fNilA)))) (gN 1) (sSeq (sAsg 2 (fBin dAdd (fFn R_law_cell (fConsA (fVar 0) (fConsA (fVar 1) fNilA))) (fBin dMul (fC (.int 3)) (fVar 1)))) (sSeq (sAsg 3 (fBin dMod (fVar 2) (fC (.int 4)))) (sSeq (sAsg 4 (fFn dList (fConsA (fFn R_law_digits (fConsA (fBin dDiv (fVar 2) (fC (.int 4))) (fConsA (fC (.int 27720)) (fConsA (fC (.int 60)) fNilA)))) (fConsA (fC (.int 0)) fNilA)))) (sSeq (sAsgC2 5 4 RT_law_certificate (fConsA (fVar 3) fNilA) R_law_book) (sSeq (sAsg 6 (fFn dList (fConsA (fVar 5) (fConsA (fFn R_law_changed (fConsA (fVar 5) (fConsA (fBin dDiv (fVar 2) (fC (.int 4))) fNilA))) (fConsA (fFn R_law_changed (fConsA (fVar 5) (fConsA (fBin dAdd (fBin dDiv (fVar 2) (fC (.int 11))) (fC (.int 1))) fNilA))) fNilA))))) (sSeq (sApp 6 (fLc (iSeq (fFn R_law_digits (fConsA (fBin dAdd (fBin dDiv (fVar 2) (fC (.int 9))) (fC (.int 1))) (fConsA (fC (.int 27720)) (fConsA (fBin dMod (fBin dDiv (fVar 2) (fC (.int 3))) (fC (.int 41))) fNilA))))) (gN 7) tYesF (fBin dSub (fBin dMod (fVar 7) (fC (.int 5))) (fBin dMul (fBin dDiv (fBin dMod (fBin dDiv (fVar 7) (fC (.int 5))) (fC (.int 9))) (fC (.int 8))) (fC (.int 6)))) [7])) (sSeq (sApp 6 (fBin dRep (fFn dList (fConsA (fC (.int 0)) fNilA)) (fBin dMod (fBin dDiv (fVar 2) (fC (.int 5))) (fC (.int 8))))) (sSeq (sFor (iR1 (fFn (g1 dLen) (fConsA (fVar 6) fNilA))) (gN 8) (sSeq (sAsg 9 (fBin dIx (fVar 6) (fVar 8))) (sSeq (sAsg 10 (fFn (g1 dListOf) (fConsA (fVar 9) fNilA))) (sSeq (sFor (iSeq (fFn dList (fConsA (fVar 3) (fConsA (fBin dMod (fBin dAdd (fBin dAdd (fVar 3) (fC (.int 1))) (fBin dMod (fBin dDiv (fVar 2) (fC (.int 13))) (fC (.int 3)))) (fC (.int 4))) fNilA)))) (gN 11) (sSeq (sAsg 12 (fFn R_law_told (fConsA (fVar 9) (fConsA (fVar 11) fNilA)))) (sSeq (sIf (tO (tV (fBin dNe (fVar 9) (fVar 10))) (tA (tV (fBin dEq (fVar 8) (fC (.int 0)))) (tA (tV (fBin dEq (fVar 11) (fVar 3))) (tV (fBin dIs (fVar 12) (fC .none)))))) (sRet (fC (.bool false))) sNil) (sSeq (sIf (tA (tV (fBin dIsNot (fVar 12) (fC .none))) (tO (tN (tTr (fFn R_law_is_certificate (fConsA (fVar 12) (fConsA (fVar 11) fNilA))))) (tV (fBin dNe (fFn R_law_book (fConsA (fVar 12) fNilA)) (fVar 9))))) (sRet (fC (.bool false))) sNil) (sSeq (sIf (tA (tV (fBin dIsNot (fVar 12) (fC .none))) (tV (fBin dNe (fFn R_write_book (fConsA (fVar 12) fNilA)) (fVar 9)))) (sRet (fC (.bool false))) sNil) sNil))))) sNil)))) sNil))))))))) (sRet (fC (.bool true))))
def R_law : List PyData → Option PyData := runF 13 B_law
theorem ok_law (T : Txt KF.K mg) : FnG P w KF.K mg base (L2.CX P w) 12 T.a_law T.d_law ["script"] (spF 1 .cl R_law) :=
  def_nx (k := 11) (B := B_law) (O' := []) T.F_law sc_law rfl rfl (.inl rfl) fun cdv A outer s H E ga => ⟨_, (dss_cons (O' := []) (ds_for PassesOwn.never rfl (di_r1 rfl T.z_range (DE.rd_ (de_min2 rfl rfl T.z_min (DE.rd_ (de_addI (DE.rd_ de_int) (DE.rd_ (de_lenK rfl rfl T.z_len (DE.rd_ (de_var 0 rfl)))))) (DE.rd_ de_int)))) (dgn 1 sc_law.nd) (dss_cons (O' := []) (dsn 2 sc_law.nd (de_addI (DE.rd_ (de_call (ok_law_cell T) (ga.mono (by decide)) T.g_law_cell T.F_law_cell.kp T.b_law_cell passL (dac_cons (de_var 0 rfl) (dac_cons (de_var 1 rfl) dac_nil)) rfl (fsA_cons (fsA_cons fsA_nil)))) (DE.rd_ (de_mulI (DE.rd_ de_int) (DE.rd_ (de_var 1 rfl)))))) (dss_cons (O' := []) (dsn 3 sc_law.nd (de_mod (DE.rd_ (de_var 2 rfl)) (DE.rd_ de_int))) (dss_cons (O' := [4]) (dsnO 4 sc_law.nd (de_list (dac_cons (DE.cl_ (de_call (ok_law_digits T) (ga.mono (by decide)) T.g_law_digits T.F_law_digits.kp T.b_law_digits passL (dac_cons (de_div (DE.rd_ (de_var 2 rfl)) (DE.rd_ de_int)) (dac_cons de_int (dac_cons de_int dac_nil))) rfl (fsA_cons (fsA_cons (fsA_cons fsA_nil))))) (dac_cons de_int dac_nil)))) (dss_cons (O' := [4]) (ds_asgCF2 5 4 rfl (ok_law_book T) (ga.mono (by decide)) T.g_law_book T.F_law_book.kp T.b_law_book (okt_law_certificate T) (ga.mono (by decide)) T.g_law_certificate T.F_law_certificate.kp T.b_law_certificate passL (pv 4) (dac_cons (de_var 3 rfl) dac_nil) (tln (fl_cons fl_nil)) sc_law.nd) (dss_cons (O' := [6, 4]) (dsnO 6 sc_law.nd (de_list (dac_cons (de_var 5 rfl) (dac_cons (de_call (ok_law_changed T) (ga.mono (by decide)) T.g_law_changed T.F_law_changed.kp T.b_law_changed passL (dac_cons (de_var 5 rfl) (dac_cons (de_div (DE.rd_ (de_var 2 rfl)) (DE.rd_ de_int)) dac_nil)) rfl (fsA_cons (fsA_cons fsA_nil))) (dac_cons (de_call (ok_law_changed T) (ga.mono (by decide)) T.g_law_changed T.F_law_changed.kp T.b_law_changed passL (dac_cons (de_var 5 rfl) (dac_cons (de_addI (DE.rd_ (de_div (DE.rd_ (de_var 2 rfl)) (DE.rd_ de_int))) (DE.rd_ de_int)) dac_nil)) rfl (fsA_cons (fsA_cons fsA_nil))) dac_nil))))) (dss_cons (O' := [6, 4]) (dsapp 6 (DE.cl_ (de_lcv rfl sc_law.nd (dlc_mk [("digit", 7)] (di_seqK rfl (DE.cl_ (de_call (ok_law_digits T) (ga.mono (by decide)) T.g_law_digits T.F_law_digits.kp T.b_law_digits passL (dac_cons (de_addI (DE.rd_ (de_div (DE.rd_ (de_var 2 rfl)) (DE.rd_ de_int))) (DE.rd_ de_int)) (dac_cons de_int (dac_cons (de_mod (DE.rd_ (de_div (DE.rd_ (de_var 2 rfl)) (DE.rd_ de_int))) (DE.rd_ de_int)) dac_nil))) rfl (fsA_cons (fsA_cons (fsA_cons fsA_nil)))))) (blkOk_by (N := ["script", "k", "cell", "n", "tape", "book", "lists", "digit", "j", "numbers", "kept", "size", "told"]) (sc := defScope s_law) (by decide +kernel)) (fun _ _ _ _ _ => (dgn 7 sc_law.nd)) (fun _ _ _ _ _ => dts_nil) (fun _ _ _ _ _ => (de_sub (DE.rd_ (de_mod (DE.rd_ (de_var 7 rfl)) (DE.rd_ de_int))) (DE.rd_ (de_mulI (DE.rd_ (de_div (DE.rd_ (de_mod (DE.rd_ (de_div (DE.rd_ (de_var 7 rfl)) (DE.rd_ de_int))) (DE.rd_ de_int))) (DE.rd_ de_int))) (DE.rd_ de_int)))))))) (pv 6) (hb := fun ph => pe_bm PySem.F.plainAttrs_list PySem.F.slot_list_append PySem.F.type_list_append mt_append (pv 6) (pa_cons ph pa_nil))) (dss_cons (O' := [6, 4]) (dsapp 6 (DE.cl_ (de_rep (de_list (dac_cons de_int dac_nil)) (DE.rd_ (de_mod (DE.rd_ (de_div (DE.rd_ (de_var 2 rfl)) (DE.rd_ de_int))) (DE.rd_ de_int))))) (pv 6) (hb := fun ph => pe_bm PySem.F.plainAttrs_list PySem.F.slot_list_append PySem.F.type_list_append mt_append (pv 6) (pa_cons ph pa_nil))) (DSs.frz 6 (dss_cons (O' := [4]) (ds_for PassesOwn.never rfl (di_r1 rfl T.z_range (DE.rd_ (de_lenK rfl rfl T.z_len (DE.rd_ (de_var 6 rfl))))) (dgn 8 sc_law.nd) (dss_cons (O' := [4]) (dsn 9 sc_law.nd (de_ixK rfl (DE.rd_ (de_var 6 rfl)) (DE.rd_ (de_var 8 rfl)))) (dss_cons (O' := [4]) (dsn 10 sc_law.nd (DE.cl_ (de_listcK rfl rfl T.z_list (DE.rd_ (de_var 9 rfl))))) (dss_cons (O' := [4]) (ds_for PassesOwn.never rfl (di_seqK rfl (DE.cl_ (de_list (dac_cons (de_var 3 rfl) (dac_cons (de_mod (DE.rd_ (de_addI (DE.rd_ (de_addI (DE.rd_ (de_var 3 rfl)) (DE.rd_ de_int))) (DE.rd_ (de_mod (DE.rd_ (de_div (DE.rd_ (de_var 2 rfl)) (DE.rd_ de_int))) (DE.rd_ de_int))))) (DE.rd_ de_int)) dac_nil))))) (dgn 11 sc_law.nd) (dss_cons (O' := [4]) (dsn 12 sc_law.nd (de_call (ok_law_told T) (ga.mono (by decide)) T.g_law_told T.F_law_told.kp T.b_law_told passL (dac_cons (de_var 9 rfl) (dac_cons (de_var 11 rfl) dac_nil)) rfl (fsA_cons (fsA_cons fsA_nil)))) (dss_cons (O' := [4]) (ds_if (DW.dt (dw_or (dt_neK ga.u64 rfl (DE.rd_ (de_var 9 rfl)) (DE.rd_ (de_var 10 rfl))) (dw_or1 (DW.dt (dw_and (dt_eqK ga.u64 rfl (DE.rd_ (de_var 8 rfl)) (DE.rd_ de_int)) (dw_and (dt_eqK ga.u64 rfl (DE.rd_ (de_var 11 rfl)) (DE.rd_ (de_var 3 rfl))) (dw_and1 (dt_is (DE.rd_ (de_var 12 rfl)) (DE.rd_ de_non))))))))) (dss_one (ds_ret de_bl)) dss_nil) (dss_cons (O' := [4]) (ds_if (DW.dt (dw_and (dt_isnot (DE.rd_ (de_var 12 rfl)) (DE.rd_ de_non)) (dw_and1 (DW.dt (dw_or (dt_not (dt_truK rfl (DE.rd_ (de_call (ok_law_is_certificate T) (ga.mono (by decide)) T.g_law_is_certificate T.F_law_is_certificate.kp T.b_law_is_certificate passL (dac_cons (de_var 12 rfl) (dac_cons (de_var 11 rfl) dac_nil)) rfl (fsA_cons (fsA_cons fsA_nil)))))) (dw_or1 (dt_neK ga.u64 rfl (DE.rd_ (de_call (ok_law_book T) (ga.mono (by decide)) T.g_law_book T.F_law_book.kp T.b_law_book passL (dac_cons (de_var 12 rfl) dac_nil) rfl (fsA_cons fsA_nil))) (DE.rd_ (de_var 9 rfl))))))))) (dss_one (ds_ret de_bl)) dss_nil) (dss_cons (O' := [4]) (ds_if (DW.dt (dw_and (dt_isnot (DE.rd_ (de_var 12 rfl)) (DE.rd_ de_non)) (dw_and1 (dt_neK ga.u64 rfl (DE.rd_ (de_call (ok_write_book T) (ga.mono (by decide)) T.g_write_book T.F_write_book.kp T.b_write_book passL (dac_cons (de_var 12 rfl) dac_nil) rfl (fsA_cons fsA_nil))) (DE.rd_ (de_var 9 rfl)))))) (dss_one (ds_ret de_bl)) dss_nil) dss_nil))))) dss_nil)))) (DSs.weak 4 dss_nil))))))))))) (dss_one (ds_ret de_bl)))⟩
end
end Law
set_option maxHeartbeats 2000000
namespace Law
open PySem PySem.Spec L2 DL
open PyProof.Rows hiding St
theorem fFn_c {G : List PyData → Option PyData} {d : PyData} {fs : FA} {ds : List PyData} {ρ : Rho} (h1 : fs ρ = some ds) (h2 : G ds = some d) : fFn G fs ρ = some d := by
  unfold fFn
  rw [h1, Option.bind_some, h2]
section
variable {α : Type} {h : α → PyData} {f g fx fy : F} {ρ : Rho}
theorem cat_d {a b : List α} (hl : a.length + b.length ≤ 15000000) : dCat (.list (a.map h)) (.list (b.map h)) = some (.list ((a ++ b).map h)) := by
  show (if catC (a.map h).length (b.map h).length = true then _ else _) = _
  rw [if_pos (catC_le (by rw [List.length_map, List.length_map]; omega)), List.map_append] <;> rfl
theorem tail_e {xs : List α} {k : Nat} (hf : f ρ = some (.list (xs.map h))) : fSl f (oSome (fC (.int (k : Int)))) oNone ρ = some (.list ((xs.drop k).map h)) := by
  unfold fSl
  rw [hf]
  show some (PyData.list (DL.cutD (xs.map h) (some (k : Int)) none)) = _
  unfold DL.cutD
  rw [HT.sIx_nat, HT.sIx_none, List.length_map, ← List.map_drop]
  congr 2
  by_cases hk : k ≤ xs.length
  · rw [Nat.min_eq_left hk, ← List.map_take, List.take_of_length_le (by rw [List.length_drop]; omega)]
  · rw [Nat.min_eq_right (by omega), ← List.map_take, List.drop_eq_nil_of_le (show xs.length ≤ k by omega), List.drop_eq_nil_of_le (Nat.le_refl _), List.take_nil] <;> rfl
theorem head_e {xs : List α} {k : Nat} (hf : f ρ = some (.list (xs.map h))) : fSl f oNone (oSome (fC (.int (k : Int)))) ρ = some (.list ((xs.take k).map h)) := by
  unfold fSl
  rw [hf]
  show some (PyData.list (DL.cutD (xs.map h) none (some (k : Int)))) = _
  unfold DL.cutD
  rw [HT.sIx_nat, HT.sIx_none, List.length_map, List.drop_zero, Nat.sub_zero, ← List.map_take]
  congr 3
  by_cases hk : k ≤ xs.length
  · rw [Nat.min_eq_left hk]
  · rw [Nat.min_eq_right (by omega), List.take_of_length_le (Nat.le_refl _), List.take_of_length_le (by omega)]
theorem vec1_e {a : Int} (hf : f ρ = some (.int a)) : fFn dList (fConsA f fNilA) ρ = some (vecD [a]) := fn1 hf rfl
theorem vcat_e {a b : Vc} (hf : f ρ = some (vecD a)) (hg : g ρ = some (vecD b)) (hl : a.length + b.length ≤ 15000000) : fBin dCat f g ρ = some (vecD (a ++ b)) := (fBin_eq hf hg).trans (cat_v hl)
end
def Nx (a : FS) (ρ : Rho) (I : Rho → Prop) : Prop := ∃ ρ', a ρ = some (.nx ρ') ∧ I ρ'
def Rt (a : FS) (ρ : Rho) (P : PyData → Prop) : Prop := ∃ d, a ρ = some (.rt d) ∧ P d
section
variable {a b : FS} {ρ ρ' : Rho} {I J : Rho → Prop} {P : PyData → Prop}
theorem Nx.of (h : a ρ = some (.nx ρ')) (i : I ρ') : Nx a ρ I := ⟨ρ', h, i⟩
theorem Nx.rt (h : Nx a ρ I) (h2 : ∀ ρ', I ρ' → Rt b ρ' P) : Rt (sSeq a b) ρ P := by
  obtain ⟨ρ', e, i⟩ := h
  obtain ⟨d, e2, p⟩ := h2 ρ' i
  exact ⟨d, seq_nx e e2, p⟩
theorem Nx.seq (h : Nx a ρ I) (h2 : ∀ ρ', I ρ' → Nx b ρ' J) : Nx (sSeq a b) ρ J := by
  obtain ⟨ρ', e, i⟩ := h
  obtain ⟨d, e2, p⟩ := h2 ρ' i
  exact ⟨d, seq_nx e e2, p⟩
theorem Nx.nil (i : I ρ) : Nx sNil ρ I := ⟨ρ, rfl, i⟩
theorem Nx.up (h : Nx a ρ I) (h2 : ∀ ρ', I ρ' → J ρ') : Nx a ρ J := by
  obtain ⟨ρ', e, i⟩ := h
  exact ⟨ρ', e, h2 ρ' i⟩
theorem Nx.ite {c : FT} {k : Bool} (hc : c ρ = some k) (h1 : k = true → Nx a ρ I) (h2 : k = false → Nx b ρ I) : Nx (sIf c a b) ρ I := by
  cases k with
  | true =>
    obtain ⟨ρ', e, i⟩ := h1 rfl
    exact ⟨ρ', (if_t hc).trans e, i⟩
  | false =>
    obtain ⟨ρ', e, i⟩ := h2 rfl
    exact ⟨ρ', (if_f hc).trans e, i⟩
end
theorem nx_loop {k : FG} {B : FS} {I : Nat → Rho → Prop} {α : Type} {h : α → PyData} : ∀ (xs : List α) (i : Nat) (ρ : Rho), I i ρ → (∀ x ∈ xs, ∀ j, i ≤ j → j < i + xs.length → ∀ ρ, I j ρ → ∃ ρ1, k (h x) ρ = some ρ1 ∧ Nx B ρ1 (I (j + 1))) → Nx (loopF k B (xs.map h)) ρ (I (i + xs.length))
  | [], i, ρ, hi, _ => ⟨ρ, rfl, hi⟩
  | x :: xs, i, ρ, hi, st => by
    obtain ⟨ρ1, e1, ρ2, e2, i2⟩ := st x List.mem_cons_self i (Nat.le_refl _) (by rw [List.length_cons]; omega) ρ hi
    obtain ⟨ρ', e3, i3⟩ := nx_loop xs (i + 1) ρ2 i2 fun y hy j h1 h2 => st y (List.mem_cons_of_mem _ hy) j (by omega) (by rw [List.length_cons]; omega)
    refine ⟨ρ', ?_, by rw [List.length_cons, show i + (xs.length + 1) = i + 1 + xs.length by omega]; exact i3⟩
    rw [List.map_cons]
    show (k (h x) ρ).bind _ = _
    rw [e1, Option.bind_some]
    show (B ρ1).bind _ = _
    rw [e2, Option.bind_some]
    exact e3
theorem nx_for {src : FA} {k : FG} {B : FS} {I : Nat → Rho → Prop} {α : Type} {h : α → PyData} {xs : List α} {i : Nat} {ρ : Rho} (hs : src ρ = some (xs.map h)) (hi : I i ρ) (st : ∀ x ∈ xs, ∀ j, i ≤ j → j < i + xs.length → ∀ ρ, I j ρ → ∃ ρ1, k (h x) ρ = some ρ1 ∧ Nx B ρ1 (I (j + 1))) : Nx (sFor src k B) ρ (I (i + xs.length)) := by
  obtain ⟨ρ', e, j⟩ := nx_loop xs i ρ hi st
  exact ⟨ρ', (for_eq hs).trans e, j⟩
theorem ls_ix {α : Type} {h : α → PyData} {xs : List α} {j : Nat} {a : α} (e : xs[j]? = some a) : dIx (.list (xs.map h)) (.int (j : Int)) = some (h a) := by
  show atI (xs.map h) (j : Int) = _
  exact atI_nat (by rw [List.getElem?_map, e] <;> rfl)
theorem iseq_e {f : F} {ρ : Rho} {xs : List PyData} (h : f ρ = some (.list xs)) : iSeq f ρ = some xs := by
  unfold iSeq
  rw [h] <;> rfl
theorem sub1_e {f : F} {ρ : Rho} {n : Nat} (h : f ρ = some (.int (n : Int))) (hn : 1 ≤ n) : fBin dSub f (fC (.int 1)) ρ = some (.int ((n - 1 : Nat) : Int)) := (fBin_eq h rfl).trans ((dSub_i ..).trans (by rw [show (n : Int) - 1 = ((n - 1 : Nat) : Int) by omega]))
theorem app_d {α : Type} {h : α → PyData} {i : Nat} {f : F} {ρ : Rho} {a : α} {xs : List α} (hf : f ρ = some (h a)) (h2 : ρ[i]? = some (some (.list (xs.map h)))) (hl : xs.length ≤ 15000000) : sApp i f ρ = some (.nx (ρ.set i (some (.list ((xs ++ [a]).map h))))) := by
  rw [app_l hf h2 (by rw [List.length_map]; exact hl), List.map_append]
  rfl
section
variable {n : Nat}
theorem suc_v {f0 : F} {ρ : Rho} (h : f0 ρ = some (.int (n : Int))) : fBin dAdd f0 (fC (.int 1)) ρ = some (.int ((n + 1 : Nat) : Int)) := (fBin_eq h rfl).trans ((dAdd_i ..).trans (by rw [show ((n : Int) + 1) = ((n + 1 : Nat) : Int) by omega]))
end
theorem lst_len' {α : Type} (h : α → PyData) (xs : List α) : dLen (.list (xs.map h)) = some (.int (xs.length : Int)) := by
  show some (PyData.int _) = _
  rw [List.length_map]
end Law
set_option maxHeartbeats 4000000
namespace Law
open PySem PySem.Spec L2 DL
open PyProof.Rows hiding St
section
variable {f g : F} {ρ : Rho} {x y : Int}
theorem i_add (hf : f ρ = some (.int x)) (hg : g ρ = some (.int y)) : fBin dAdd f g ρ = some (.int (x + y)) := (fBin_eq hf hg).trans (dAdd_i ..)
theorem i_mul (hf : f ρ = some (.int x)) (hg : g ρ = some (.int y)) (hx : x.natAbs < 2 ^ 100) (hy : y.natAbs < 2 ^ 100) : fBin dMul f g ρ = some (.int (x * y)) := (fBin_eq hf hg).trans (dMul_b hx hy (by decide))
theorem i_mod (hf : f ρ = some (.int x)) (hg : g ρ = some (.int y)) (h : 0 < y) : fBin dMod f g ρ = some (.int (x % y)) := (fBin_eq hf hg).trans (dMod_p h)
theorem i_div (hf : f ρ = some (.int x)) (hg : g ρ = some (.int y)) (h : 0 < y) (h2 : y.natAbs < 2 ^ 100) : fBin dDiv f g ρ = some (.int (x / y)) := (fBin_eq hf hg).trans (dDiv_p (n := 100) h h2 (by decide) (by decide))
theorem t_lt (hf : f ρ = some (.int x)) (hg : g ρ = some (.int y)) : tV (fBin dLt f g) ρ = some (decide (x < y)) := tV_b ((fBin_eq hf hg).trans (dLt_i ..))
theorem t_eq (hf : f ρ = some (.int x)) (hg : g ρ = some (.int y)) : tV (fBin dEq f g) ρ = some (x == y) := tV_b ((fBin_eq hf hg).trans (dEq_i ..))
theorem rng1 {n : Nat} (hf : f ρ = some (.int (n : Int))) (hn : n ≤ 100000) : iR1 f ρ = some ((List.range' 0 n).map fun (i : Nat) => PyData.int (i : Int)) := by
  rw [iR1_ok (j := (n : Int)) hf (rgC_ok (by omega) (by omega)), Int.toNat_natCast, rangeD_idx] <;> rfl
end
def Dg (b : Int) (ds : List Int) : Prop := ∀ d ∈ ds, 0 ≤ d ∧ d < b
theorem Dg.av {b : Int} {ds : List Int} (h : Dg b ds) (hb : 0 < b) (i : Nat) : 0 ≤ av ds i ∧ av ds i < b := by
  unfold Law.av
  rw [List.getD_eq_getElem?_getD]
  cases e : ds[i]? with
  | none => exact ⟨Int.le_refl 0, hb⟩
  | some d => exact h d (List.mem_of_getElem? e)
theorem R_cell2 (ns : List Int) (k : Nat) : ∃ c : Int, 0 ≤ c ∧ R_law_cell [vecD ns, .int (k : Int)] = some (.int c) := by
  have t : tV (fBin dLt (fVar 1) (fFn (g1 dLen) (fConsA (fVar 0) fNilA))) [some (vecD ns), some (.int (k : Int))] = some (decide ((k : Int) < (ns.length : Int))) := t_lt rfl (fn1 (x := vecD ns) rfl (dLen_v ns))
  unfold R_law_cell B_law_cell
  by_cases h : k < ns.length
  · have hi : fBin dIx (fVar 0) (fVar 1) [some (vecD ns), some (.int (k : Int))] = some (.int (av ns k)) := ix_v (i := k) rfl rfl h
    refine ⟨((av ns k).natAbs : Int), by omega, runF_rt (seq_rt ((if_t (t.trans (by rw [decide_eq_true (by omega)]))).trans (ret_rt (fn1 (fn1 hi rfl) (dAbs_i _)))))⟩
  · exact ⟨0, by decide, runF_rt (seq_nx ((if_f (t.trans (by rw [decide_eq_false (by omega)]))).trans rfl) (ret_rt rfl))⟩
theorem pow18 (ρ : Rho) : fBin dPow (fC (.int 10)) (fC (.int 18)) ρ = some (.int 1000000000000000000) := by
  refine (fBin_eq rfl rfl).trans ?_
  exact gI_pos (by decide +kernel)
theorem R_digits {c base : Int} {most : Nat} (hc : 0 ≤ c) (hb : 0 < base) (hb2 : base < 2 ^ 30) (hm : most ≤ 100) : ∃ ds : List Int, R_law_digits [.int c, .int base, .int (most : Int)] = some (vecD ds) ∧ ds.length = most ∧ Dg base ds := by
  have key : Rt B_law_digits [some (.int c), some (.int base), some (.int (most : Int)), none, none, none] (fun d => ∃ ds : List Int, d = vecD ds ∧ ds.length = most ∧ Dg base ds) := by
    unfold B_law_digits
    refine Nx.rt (I := fun ρ => ρ = [some (.int c), some (.int base), some (.int (most : Int)), some (vecD []), none, none]) (.of (asg_nx (d := vecD []) rfl) rfl) fun ρ e => ?_
    subst e
    refine Nx.rt (I := fun ρ => ρ = [some (.int c), some (.int base), some (.int (most : Int)), some (vecD []), some (.bool (decide (1000000000000000000 ≤ c))), none]) (.of (asg_nx ((fBin_eq rfl (pow18 _)).trans (dGe_i ..))) rfl) fun ρ e => ?_
    subst e
    refine Nx.rt (nx_for (i := 0) (I := fun j ρ => ∃ (ds : List Int) (cc : Int) (x5 : Option PyData), ρ = [some (.int cc), some (.int base), some (.int (most : Int)), some (vecD ds), some (.bool (decide (1000000000000000000 ≤ c))), x5] ∧ ds.length = j ∧ Dg base ds ∧ (c < 1000000000000000000 → cc = c)) (rng1 rfl (by omega)) ⟨[], c, none, rfl, rfl, (fun _ h => nomatch h), fun _ => rfl⟩ fun k hk j _ hj ρ e => ?_) fun ρ e => ?_
    · obtain ⟨ds, cc, x5, rfl, l1, l2, l3⟩ := e
      rw [List.mem_range'_1] at hk
      rw [List.length_range'] at hj
      have snoc : ∀ d : Int, 0 ≤ d → d < base → Dg base (ds ++ [d]) := fun d h1 h2 x hx => (List.mem_append.mp hx).elim (l2 x) fun h => by
        rw [List.mem_singleton.mp h]
        exact ⟨h1, h2⟩
      have hjl : ds.length ≤ 15000000 := by omega
      refine ⟨_, rfl, Nx.seq (Nx.ite (tV_b rfl) (fun hl => ?_) fun hl => ?_) fun ρ e => .nil e⟩
      · have hd := i_mod (f := fFn (g1 dInt) (fConsA (fVar 0) fNilA)) (g := fVar 1) (ρ := [some (.int cc), some (.int base), some (.int (most : Int)), some (vecD ds), some (.bool (decide (1000000000000000000 ≤ c))), some (.int (k : Int))]) (x := cc) (y := base) (fn1 rfl rfl) rfl hb
        refine Nx.seq (I := fun ρ => ρ = [some (.int cc), some (.int base), some (.int (most : Int)), some (vecD (ds ++ [cc % base])), some (.bool (decide (1000000000000000000 ≤ c))), some (.int (k : Int))]) (.of ((app_d (h := PyData.int) hd rfl hjl).trans rfl) rfl) fun ρ e => ?_
        subst e
        refine Nx.seq (.of (asg_nx (i_div (x := cc) (y := base) rfl rfl hb (by omega))) ⟨ds ++ [cc % base], cc / base, some (.int (k : Int)), rfl, by rw [List.length_append, List.length_singleton, l1], snoc _ (Int.emod_nonneg _ (by omega)) (Int.emod_lt_of_pos _ hb), fun h => by
          have := of_decide_eq_true hl
          omega⟩) fun ρ e => .nil e
      · have hc' : c < 1000000000000000000 := by
          have := of_decide_eq_false hl
          omega
        obtain rfl := l3 hc'
        have hk2 : k ≤ 100 := by omega
        have m1 := i_mul (f := fVar 0) (g := fC (.int 48271)) (ρ := [some (.int cc), some (.int base), some (.int (most : Int)), some (vecD ds), some (.bool (decide (1000000000000000000 ≤ cc))), some (.int (k : Int))]) (x := cc) (y := 48271) rfl rfl (by omega) (by decide)
        have m2 := i_mul (i_add (f := fVar 5) (g := fC (.int 1)) (ρ := [some (.int cc), some (.int base), some (.int (most : Int)), some (vecD ds), some (.bool (decide (1000000000000000000 ≤ cc))), some (.int (k : Int))]) (x := (k : Int)) (y := 1) rfl rfl) (i_add (f := fVar 5) (g := fC (.int 5)) (x := (k : Int)) (y := 5) rfl rfl) (by omega) (by omega)
        have hq : ((k : Int) + 1) * ((k : Int) + 5) ≤ 101 * 105 := Int.mul_le_mul (by omega) (by omega) (by omega) (by omega)
        have hq0 : 0 ≤ ((k : Int) + 1) * ((k : Int) + 5) := Int.mul_nonneg (by omega) (by omega)
        have m3 := i_mul m2 (g := fC (.int 69621)) (y := 69621) rfl (by omega) (by decide)
        have m4 := i_mul (i_div (f := fVar 0) (g := fC (.int 97)) (ρ := [some (.int cc), some (.int base), some (.int (most : Int)), some (vecD ds), some (.bool (decide (1000000000000000000 ≤ cc))), some (.int (k : Int))]) (x := cc) (y := 97) rfl rfl (by decide) (by decide)) (g := fVar 5) (y := (k : Int)) rfl (by omega) (by omega)
        have hd := i_mod (i_mod (fn1 (G := g1 dInt) (i_add (i_add m1 m3) m4) rfl) (g := fC (.int 2147483647)) (y := 2147483647) rfl (by decide)) (g := fVar 1) (y := base) rfl hb
        refine Nx.seq (.of ((app_d (h := PyData.int) hd rfl hjl).trans rfl) ⟨ds ++ [_], cc, some (.int (k : Int)), rfl, by rw [List.length_append, List.length_singleton, l1], snoc _ (Int.emod_nonneg _ (by omega)) (Int.emod_lt_of_pos _ hb), fun _ => rfl⟩) fun ρ e => .nil e
    obtain ⟨ds, cc, x5, rfl, l1, l2, l3⟩ := e
    rw [List.length_range'] at l1
    exact ⟨_, ret_rt rfl, ds, rfl, by omega, l2⟩
  obtain ⟨d, e, ds, rfl, h1, h2⟩ := key
  exact ⟨ds, runF_rt e, h1, h2⟩
end Law
set_option maxHeartbeats 2000000
namespace Law
open PySem PySem.Spec L2 DL
open PyProof.Rows hiding St
structure Pl (D N : Nat) (d : PyData) : Prop where
  p : plainB 479 d = true
  dp : d.depth ≤ D
  n : nodesD d ≤ N
theorem Pl.up {D N D' N' : Nat} {d : PyData} (h : Pl D N d) (h1 : D ≤ D') (h2 : N ≤ N') : Pl D' N' d := ⟨h.p, Nat.le_trans h.dp h1, Nat.le_trans h.n h2⟩
theorem pl_all {D N : Nat} : ∀ {xs : List PyData}, (∀ x ∈ xs, Pl D N x) → plainAll 479 xs = true ∧ PyData.depthAll xs ≤ D ∧ nodesAll xs ≤ xs.length * N
  | [], _ => ⟨by unfold plainAll; rfl, Nat.zero_le _, by unfold nodesAll; simp⟩
  | x :: xs, h => by
    obtain ⟨h1, h2, h3⟩ := pl_all (xs := xs) fun y hy => h y (List.mem_cons_of_mem _ hy)
    have hx := h x (List.mem_cons_self ..)
    refine ⟨?_, ?_, ?_⟩
    · unfold plainAll
      rw [hx.p, h1] <;> rfl
    · have := hx.dp
      show max x.depth (PyData.depthAll xs) ≤ D
      omega
    · have := hx.n
      unfold nodesAll
      rw [List.length_cons, Nat.add_mul]
      omega
theorem Pl.tup {D N : Nat} {xs : List PyData} (h : ∀ x ∈ xs, Pl D N x) : Pl (D + 1) (1 + xs.length * N) (.tuple xs) := by
  obtain ⟨h1, h2, h3⟩ := pl_all h
  refine ⟨?_, ?_, ?_⟩
  · unfold plainB
    exact h1
  · show PyData.depthAll xs + 1 ≤ D + 1
    omega
  · unfold nodesD
    omega
theorem Pl.lst {D N : Nat} {xs : List PyData} (h : ∀ x ∈ xs, Pl D N x) : Pl (D + 1) (1 + xs.length * N) (.list xs) := by
  obtain ⟨h1, h2, h3⟩ := pl_all h
  refine ⟨?_, ?_, ?_⟩
  · unfold plainB
    exact h1
  · show PyData.depthAll xs + 1 ≤ D + 1
    omega
  · unfold nodesD
    omega
theorem p1500 : 2 ^ 1500 ≤ 10 ^ 479 := by decide +kernel
theorem Pl.int {M : Nat} {i : Int} (hM : M ≤ 1500) (h : i.natAbs < 2 ^ M) : Pl 1 1 (.int i) := by
  refine ⟨?_, by show 0 ≤ 1; omega, by unfold nodesD; omega⟩
  unfold plainB
  exact decide_eq_true (Nat.lt_of_lt_of_le (Nat.lt_of_lt_of_le h (Nat.pow_le_pow_right (by decide) hM)) p1500)
theorem Pl.non : Pl 1 1 .none := ⟨by unfold plainB; rfl, by show 0 ≤ 1; omega, by unfold nodesD; omega⟩
section
variable {D N : Nat} {d : PyData}
theorem Pl.ne (h : Pl D N d) (hD : D ≤ 60) : dNe d d = some (.bool false) := dNe_self (plain_lay _ h.p) (Nat.le_trans h.dp hD)
end
structure Pw (D N : Nat) (d : PyData) : Prop where
  sh : d.showable = true
  nd : d.hasDict = false
  dp : d.depth ≤ D
  ln : d.shown.length + 2 ≤ 487 * N
  ok : PyData.strOk d.shown = true
  ly : d.canLay0 = true
structure PwA (D N : Nat) (xs : List PyData) : Prop where
  sh : PyData.showableAll xs = true
  nd : PyData.hasDictAll xs = false
  dp : PyData.depthAll xs ≤ D
  ln : lenAll (PyData.shownAll xs) ≤ 487 * N
  ok : okAll (PyData.shownAll xs)
  ly : PyData.canLayAll0 xs = true
theorem Pl.w {D N : Nat} {d : PyData} (h : Pl D N d) : Pw D N d := ⟨plain_showable (by decide) d h.p, plain_nodict d h.p, h.dp, by
  have h1 := plain_len (k := 479) (by decide) d h.p
  have h2 := h.n
  omega, plain_strOk d h.p, plain_lay d h.p⟩
theorem Pw.up {D N D' N' : Nat} {d : PyData} (h : Pw D N d) (h1 : D ≤ D') (h2 : N ≤ N') : Pw D' N' d := ⟨h.sh, h.nd, Nat.le_trans h.dp h1, by have := h.ln; omega, h.ok, h.ly⟩
theorem PwA.nil {D : Nat} : PwA D 0 [] := ⟨rfl, rfl, Nat.zero_le _, by rw [PyData.shownAll_nil]; exact Nat.zero_le _, by rw [PyData.shownAll_nil]; exact (fun _ h => nomatch h), rfl⟩
theorem PwA.cons {D N M : Nat} {d : PyData} {xs : List PyData} (h : Pw D N d) (r : PwA D M xs) : PwA D (N + M) (d :: xs) := ⟨by
  unfold PyData.showableAll
  rw [h.sh, r.sh] <;> rfl, by
  unfold PyData.hasDictAll
  rw [h.nd, r.nd] <;> rfl, by
  show max d.depth (PyData.depthAll xs) ≤ D
  exact Nat.max_le.mpr ⟨h.dp, r.dp⟩, by
  rw [PyData.shownAll_cons]
  have h1 := h.ln
  have h2 := r.ln
  show (PyData.shown d).length + 2 + lenAll (PyData.shownAll xs) ≤ _
  rw [Nat.mul_add]
  omega, by
  rw [PyData.shownAll_cons]
  intro t ht
  rcases List.mem_cons.mp ht with rfl | ht
  · exact h.ok
  · exact r.ok t ht, by
  unfold PyData.canLayAll0
  rw [h.ly, r.ly] <;> rfl⟩
section
variable {D N : Nat} {xs : List PyData}
theorem PwA.lst (h : PwA D N xs) : Pw (D + 1) (1 + N) (.list xs) := ⟨by
  unfold PyData.showable
  exact h.sh, by
  unfold PyData.hasDict
  exact h.nd, by
  show PyData.depthAll xs + 1 ≤ D + 1
  exact Nat.succ_le_succ h.dp, by
  rw [PyData.shown_list, strLen_append, strLen_append]
  have h1 := join_len (PyData.shownAll xs)
  have h2 := h.ln
  have : ((("[" : String) : Str)).length = 1 := by decide +kernel
  have : ((("]" : String) : Str)).length = 1 := by decide +kernel
  omega, by
  rw [PyData.shown_list]
  exact strOk_append _ _ (strOk_append _ _ (strOk_of _) (join_ok _ h.ok)) (strOk_of _), by
  unfold PyData.canLay0
  exact h.ly⟩
theorem PwA.tup (h : PwA D N xs) : Pw (D + 1) (1 + N) (.tuple xs) := ⟨by
  unfold PyData.showable
  exact h.sh, by
  unfold PyData.hasDict
  exact h.nd, by
  show PyData.depthAll xs + 1 ≤ D + 1
  exact Nat.succ_le_succ h.dp, by
  rw [PyData.shown_tuple, strLen_append, strLen_append]
  have h1 := join_len (PyData.shownAll xs)
  have h2 := h.ln
  have : ((("(" : String) : Str)).length = 1 := by decide +kernel
  have : (((if xs.length == 1 then ",)" else ")" : String) : Str)).length ≤ 2 := by split <;> decide +kernel
  omega, by
  rw [PyData.shown_tuple]
  exact strOk_append _ _ (strOk_append _ _ (strOk_of _) (join_ok _ h.ok)) (strOk_of _), by
  unfold PyData.canLay0
  exact h.ly⟩
end
section
variable {D N : Nat} {d : PyData}
theorem Pw.ne (h : Pw D N d) (hD : D ≤ 60) : dNe d d = some (.bool false) := dNe_self h.ly (Nat.le_trans h.dp hD)
end
theorem PwA.up {D N D' N' : Nat} {xs : List PyData} (h : PwA D N xs) (h1 : D ≤ D') (h2 : N ≤ N') : PwA D' N' xs := ⟨h.sh, h.nd, Nat.le_trans h.dp h1, by have := h.ln; omega, h.ok, h.ly⟩
theorem PwA.app {D M : Nat} {ys : List PyData} (hy : PwA D M ys) : ∀ {xs : List PyData} {N : Nat}, (∀ x ∈ xs, Pw D N x) → PwA D (xs.length * N + M) (xs ++ ys)
  | [], N, _ => by
    rw [List.length_nil, Nat.zero_mul, Nat.zero_add]
    exact hy
  | x :: xs, N, hx => by
    have := PwA.cons (hx x List.mem_cons_self) (PwA.app hy (xs := xs) (N := N) fun y hy => hx y (List.mem_cons_of_mem _ hy))
    refine this.up (Nat.le_refl _) ?_
    rw [List.length_cons, Nat.succ_mul]
    omega
theorem lcF_fil {k : FG} {t : FT} {el : F} {ρ : Rho} {α : Type} {h g : α → PyData} {P : α → Bool} : ∀ {xs : List α}, (∀ x ∈ xs, ∃ ρ1, k (h x) ρ = some ρ1 ∧ t ρ1 = some (P x) ∧ (P x = true → el ρ1 = some (g x))) → lcF k t el ρ (xs.map h) = some ((xs.filter P).map g)
  | [], _ => rfl
  | x :: xs, hx => by
    obtain ⟨ρ1, e1, e2, e3⟩ := hx x List.mem_cons_self
    have ih := lcF_fil (xs := xs) fun y hy => hx y (List.mem_cons_of_mem _ hy)
    show (k (h x) ρ).bind _ = _
    rw [e1, Option.bind_some, e2, Option.bind_some]
    cases q : P x with
    | true =>
      rw [if_pos rfl, e3 q, Option.bind_some, ih, List.filter_cons, q, if_pos rfl]
      rfl
    | false =>
      rw [if_neg Bool.false_ne_true, ih, List.filter_cons, q, if_neg Bool.false_ne_true]
theorem lc2F_fil {k : FG} {t : FT} {src1 : FA} {k1 : FG} {t1 : FT} {el : F} {vs1 : List Nat} {ρ : Rho} {α β : Type} {h : α → PyData} {h1 : β → PyData} {ys : α → List β} {g : α → β → PyData} {P : α → Bool} {P1 : α → β → Bool} : ∀ {xs : List α}, (∀ x ∈ xs, ∃ ρ1, k (h x) ρ = some ρ1 ∧ t ρ1 = some (P x) ∧ (P x = true → src1 ρ1 = some ((ys x).map h1) ∧ ∀ y ∈ ys x, ∃ ρ2, k1 (h1 y) (wipeR ρ1 vs1) = some ρ2 ∧ t1 ρ2 = some (P1 x y) ∧ (P1 x y = true → el ρ2 = some (g x y)))) →
    lc2F k t src1 k1 t1 el vs1 ρ (xs.map h) = some ((xs.filter P).flatMap fun x => ((ys x).filter (P1 x)).map (g x))
  | [], _ => rfl
  | x :: xs, hx => by
    obtain ⟨ρ1, e1, e2, e3⟩ := hx x List.mem_cons_self
    have ih := lc2F_fil (xs := xs) fun y hy => hx y (List.mem_cons_of_mem _ hy)
    show (k (h x) ρ).bind _ = _
    rw [e1, Option.bind_some, e2, Option.bind_some]
    cases q : P x with
    | true =>
      obtain ⟨s1, s2⟩ := e3 q
      rw [if_pos rfl, s1, Option.bind_some, lcF_fil (P := P1 x) (g := g x) s2, Option.bind_some, ih, List.filter_cons, q, if_pos rfl, List.flatMap_cons]
      rfl
    | false =>
      rw [if_neg Bool.false_ne_true, ih, List.filter_cons, q, if_neg Bool.false_ne_true]
theorem fLc2_fil {src : FA} {k : FG} {t : FT} {src1 : FA} {k1 : FG} {t1 : FT} {el : F} {vs vs1 : List Nat} {ρ : Rho} {α β : Type} {h : α → PyData} {h1 : β → PyData} {ys : α → List β} {g : α → β → PyData} {P : α → Bool} {P1 : α → β → Bool} {xs : List α} (hs : src ρ = some (xs.map h)) (hx : ∀ x ∈ xs, ∃ ρ1, k (h x) (wipeR ρ vs) = some ρ1 ∧ t ρ1 = some (P x) ∧ (P x = true → src1 ρ1 = some ((ys x).map h1) ∧ ∀ y ∈ ys x, ∃ ρ2, k1 (h1 y) (wipeR ρ1 vs1) = some ρ2 ∧ t1 ρ2 = some (P1 x y) ∧ (P1 x y = true → el ρ2 = some (g x y))))
    (hl : ((xs.filter P).flatMap fun x => ((ys x).filter (P1 x)).map (g x)).length ≤ 15000000) : fLc2 src k t src1 k1 t1 el vs vs1 ρ = some (.list ((xs.filter P).flatMap fun x => ((ys x).filter (P1 x)).map (g x))) := by
  unfold fLc2
  rw [hs, Option.bind_some, lc2F_fil hx, Option.bind_some, if_pos (catC_le (by omega))]
end Law
set_option maxHeartbeats 4000000
namespace Law
open PySem PySem.Spec L2 DL
open PyProof.Rows hiding St
def encL (ps : List Vc) : Vc := (ps.length : Int) :: ps.flatten
def encV (v : Vc) : Vc := (v.length : Int) :: v
def encP (p : List Vc) : Vc := encL (p.map encV)
def encR (r : List (List Vc)) : Vc := encL (r.map encP)
def encPs (P : List (List (List Vc))) : Vc := encL (P.map encR)
abbrev Ml := Int × Vc
def mlD (m : Ml) : PyData := .tuple [.int m.1, vecD m.2]
def encM (m : Ml) : Vc := m.1 :: (m.2.length : Int) :: m.2
abbrev Cl := Option Nat × List Ml
def ixI : Option Nat → Int
  | none => -1
  | some k => (k : Int)
def ixD : Option Nat → PyData
  | none => .none
  | some k => .int (k : Int)
def clD (c : Cl) : PyData := .tuple [ixD c.1, .list (c.2.map mlD)]
def encC (c : Cl) : Vc := ixI c.1 :: encL (c.2.map encM)
def clsD (cs : List Cl) : PyData := .list (cs.map clD)
def encCs (cs : List Cl) : Vc := encL (cs.map encC)
def grD (g : List (List Cl)) : PyData := .list (g.map clsD)
def encG (g : List (List Cl)) : Vc := encL (g.map encCs)
def rowD (r : List (List Vc)) : PyData := .list (r.map matD)
def pcsD (P : List (List (List Vc))) : PyData := .list (P.map rowD)
structure Ct where
  P : List (List (List Vc))
  S : List Cl
  W : List (List Cl)
  J : List (List Cl)
  E : List (List Cl)
def ctD (c : Ct) : PyData := .tuple [pcsD c.P, clsD c.S, grD c.W, grD c.J, grD c.E]
def enc (c : Ct) : Vc := encPs c.P ++ encCs c.S ++ encG c.W ++ encG c.J ++ encG c.E
def Lz {α : Type} (k m : Nat) (f : α → Vc) (xs : List α) : Prop := xs.length ≤ k ∧ ∀ x ∈ xs, (f x).length ≤ m
theorem flat_len {α : Type} {k m : Nat} {f : α → Vc} : ∀ {xs : List α}, Lz k m f xs → (xs.map f).flatten.length ≤ xs.length * m
  | [], _ => Nat.zero_le _
  | x :: xs, h => by
    have h1 := h.2 x List.mem_cons_self
    have ih := flat_len (k := k) (m := m) (f := f) (xs := xs) ⟨by have := h.1; rw [List.length_cons] at this; omega, fun y hy => h.2 y (List.mem_cons_of_mem _ hy)⟩
    rw [List.map_cons, List.flatten_cons, List.length_append, List.length_cons, Nat.add_mul]
    omega
theorem encL_len {α : Type} {k m : Nat} {f : α → Vc} {xs : List α} (h : Lz k m f xs) : (encL (xs.map f)).length ≤ 1 + k * m := by
  have h1 := flat_len h
  have h2 : xs.length * m ≤ k * m := Nat.mul_le_mul_right _ h.1
  unfold encL
  rw [List.length_cons]
  omega
structure CtZ (c : Ct) : Prop where
  p : c.P.length ≤ 10 ∧ ∀ r ∈ c.P, r.length ≤ 10 ∧ ∀ q ∈ r, q.length ≤ 10 ∧ ∀ v ∈ q, v.length ≤ 10
  s : c.S.length ≤ 10 ∧ ∀ x ∈ c.S, x.2.length ≤ 10 ∧ ∀ m ∈ x.2, m.2.length ≤ 10
  w : c.W.length ≤ 10 ∧ ∀ g ∈ c.W, g.length ≤ 10 ∧ ∀ x ∈ g, x.2.length ≤ 10 ∧ ∀ m ∈ x.2, m.2.length ≤ 10
  j : c.J.length ≤ 10 ∧ ∀ g ∈ c.J, g.length ≤ 10 ∧ ∀ x ∈ g, x.2.length ≤ 10 ∧ ∀ m ∈ x.2, m.2.length ≤ 10
  e : c.E.length ≤ 10 ∧ ∀ g ∈ c.E, g.length ≤ 10 ∧ ∀ x ∈ g, x.2.length ≤ 10 ∧ ∀ m ∈ x.2, m.2.length ≤ 10
theorem lenL_e {α : Type} {h : α → PyData} {f : F} {ρ : Rho} {xs : List α} (hf : f ρ = some (.list (xs.map h))) : fFn (g1 dLen) (fConsA f fNilA) ρ = some (.int (xs.length : Int)) := fn1 hf (lst_len' h xs)
theorem R_order' {ps : List Vc} (h1 : ps.length ≤ 100000) (h2 : ps.flatten.length ≤ 100000) : R_in_order [matD ps] = some (vecD (encL ps)) := by
  have e1 : fFn dList (fConsA (fFn (g1 dLen) (fConsA (fVar 0) fNilA)) fNilA) [some (matD ps), none, none] = some (vecD [(ps.length : Int)]) := vec1_e (lenL_e (h := vecD) (xs := ps) rfl)
  have el : ((ps.filter fun _ => true).flatMap fun v => ((v.filter fun _ => true).map fun i => PyData.int i)) = ps.flatten.map PyData.int := by
    rw [List.filter_eq_self.mpr (fun _ _ => rfl), List.map_flatten, ← List.flatMap_def]
    refine congrArg (fun g => List.flatMap g _) (funext fun L => ?_)
    rw [List.filter_eq_self.mpr (fun _ _ => rfl)]
  have e2 : fLc2 (iSeq (fVar 0)) (gN 1) tYesF (iSeq (fVar 1)) (gN 2) tYesF (fVar 2) [1, 2] [2] [some (matD ps), none, none] = some (vecD ps.flatten) := by
    show _ = some (PyData.list (ps.flatten.map PyData.int))
    rw [← el]
    exact fLc2_fil (α := Vc) (β := Int) (h := vecD) (h1 := PyData.int) (ys := fun v => v) (g := fun _ i => PyData.int i) (P := fun _ => true) (P1 := fun _ _ => true) (xs := ps) rfl (fun v hv => ⟨[some (matD ps), some (vecD v), none], rfl, rfl, fun _ => ⟨rfl, fun i hi => ⟨_, rfl, rfl, fun _ => rfl⟩⟩⟩) (by rw [el, List.length_map]; omega)
  unfold R_in_order B_in_order
  exact runF_rt (ret_rt (vcat_e e1 e2 (by rw [List.length_singleton]; omega)))
def lbB : FS := (sSeq (sAsg 1 (fBin dCat (fVar 1) (fVar 2))) sNil)
theorem lb_loop (d0 : Option PyData) : ∀ (ps : List Vc) (acc : Vc) (x2 : Option PyData), acc.length + ps.flatten.length ≤ 1000000 → ∃ y2 : Option PyData, loopF (gN 2) lbB (ps.map vecD) [d0, some (vecD acc), x2] = some (.nx [d0, some (vecD (acc ++ ps.flatten)), y2])
  | [], acc, x2, _ => ⟨x2, by rw [List.flatten_nil, List.append_nil]; rfl⟩
  | v :: ps, acc, x2, h => by
    rw [List.flatten_cons, List.length_append] at h
    obtain ⟨y2, e⟩ := lb_loop d0 ps (acc ++ v) (some (vecD v)) (by rw [List.length_append]; omega)
    refine ⟨y2, ?_⟩
    have hb : lbB [d0, some (vecD acc), some (vecD v)] = some (.nx [d0, some (vecD (acc ++ v)), some (vecD v)]) := seq_nx (asg_nx (vcat_e (a := acc) (b := v) rfl rfl (by omega))) rfl
    show (lbB [d0, some (vecD acc), some (vecD v)]).bind _ = _
    rw [hb, Option.bind_some, List.flatten_cons, ← List.append_assoc]
    exact e
theorem ix_e {ρ : Rho} {i : Option Nat} {f : F} (h : f ρ = some (ixD i)) : fFn dList (fConsA (fIf (tV (fBin dIs f (fC .none))) (fUn dNeg (fC (.int 1))) f) fNilA) ρ = some (vecD [ixI i]) := by
  refine vec1_e ?_
  cases i with
  | none => exact (fIf_t (tV_b ((fBin_eq h rfl).trans rfl))).trans rfl
  | some k => exact (fIf_f (tV_b ((fBin_eq h rfl).trans rfl))).trans h
theorem iseq_t {f : F} {ρ : Rho} {xs : List PyData} (h : f ρ = some (.tuple xs)) : iSeq f ρ = some xs := by
  unfold iSeq
  rw [h] <;> rfl
theorem sz_list {α : Type} {f : α → Vc} (hp : ∀ x, 1 ≤ (f x).length) : ∀ {xs : List α}, (encL (xs.map f)).length ≤ 1000 → xs.length ≤ 1000 ∧ (xs.map f).flatten.length ≤ 1000 ∧ ∀ x ∈ xs, (f x).length ≤ 1000 := fun {xs} h => by
  have key : ∀ xs : List α, xs.length ≤ (xs.map f).flatten.length ∧ ∀ x ∈ xs, (f x).length ≤ (xs.map f).flatten.length := fun xs => by
    induction xs with
    | nil => exact ⟨Nat.le_refl _, fun _ h => nomatch h⟩
    | cons x xs ih =>
      rw [List.map_cons, List.flatten_cons, List.length_append, List.length_cons]
      have := hp x
      refine ⟨by omega, fun y hy => ?_⟩
      rcases List.mem_cons.mp hy with rfl | hy
      · omega
      · have := ih.2 y hy
        omega
  obtain ⟨k1, k2⟩ := key xs
  have hl : (xs.map f).flatten.length ≤ 1000 := by
    unfold encL at h
    rw [List.length_cons] at h
    omega
  exact ⟨by omega, hl, fun x hx => by have := k2 x hx; omega⟩
theorem hpL {α : Type} (f : α → Vc) (xs : List α) : 1 ≤ (encL (xs.map f)).length := by
  unfold encL
  rw [List.length_cons]
  omega
theorem hpV (v : Vc) : 1 ≤ (encV v).length := by
  unfold encV
  rw [List.length_cons]
  omega
theorem hpM (m : Ml) : 1 ≤ (encM m).length := by
  unfold encM
  rw [List.length_cons]
  omega
theorem hpC (c : Cl) : 1 ≤ (encC c).length := by
  unfold encC
  rw [List.length_cons]
  omega
theorem lV {v : Vc} (h : (encV v).length ≤ 1000) : v.length ≤ 1000 := by
  unfold encV at h
  rw [List.length_cons] at h
  omega
theorem lM {m : Ml} (h : (encM m).length ≤ 1000) : m.2.length ≤ 1000 := by
  unfold encM at h
  rw [List.length_cons, List.length_cons] at h
  omega
theorem lC {c : Cl} (h : (encC c).length ≤ 1000) : (encL (c.2.map encM)).length ≤ 1000 := by
  unfold encC at h
  rw [List.length_cons] at h
  omega
section
variable {α : Type} {f : α → Vc} {xs : List α}
theorem R_orderS (hp : ∀ x, 1 ≤ (f x).length) (h : (encL (xs.map f)).length ≤ 1000) : R_in_order [matD (xs.map f)] = some (vecD (encL (xs.map f))) := by
  obtain ⟨h1, h2, _⟩ := sz_list hp h
  exact R_order' (by rw [List.length_map]; omega) (by omega)
theorem R_lbookS (hp : ∀ x, 1 ≤ (f x).length) (h : (encL (xs.map f)).length ≤ 1000) : R_law_list_book [matD (xs.map f)] = some (vecD (encL (xs.map f))) := by
  obtain ⟨h1, h2, _⟩ := sz_list hp h
  obtain ⟨y2, e⟩ := lb_loop (some (matD (xs.map f))) (xs.map f) [((xs.map f).length : Int)] none (by rw [List.length_singleton]; omega)
  unfold R_law_list_book B_law_list_book
  exact runF_rt (seq_nx (asg_nx (vec1_e (lenL_e (h := vecD) (xs := xs.map f) rfl))) (seq_nx ((for_eq (ds := (xs.map f).map vecD) rfl).trans e) (ret_rt rfl)))
end
theorem pnS {f : F} {ρ : Rho} {v : Vc} (hf : f ρ = some (vecD v)) (hl : v.length ≤ 1000) : fBin dCat (fFn dList (fConsA (fFn (g1 dLen) (fConsA f fNilA)) fNilA)) f ρ = some (vecD (encV v)) := vcat_e (vec1_e (lenL_e (h := PyData.int) (xs := v) hf)) hf (by rw [List.length_singleton]; omega)
theorem R_pnumS {p : List Vc} (hh : (encP p).length ≤ 1000) : R_piece_numbers [matD p] = some (vecD (encP p)) := by
  obtain ⟨h1, h2, h3⟩ := sz_list hpV hh
  have e : fLc (iSeq (fVar 0)) (gN 1) tYesF (fBin dCat (fFn dList (fConsA (fFn (g1 dLen) (fConsA (fVar 1) fNilA)) fNilA)) (fVar 1)) [1] [some (matD p), none] = some (matD (p.map encV)) := by
    unfold matD
    rw [List.map_map]
    exact fLc_map (α := Vc) (h := vecD) (g := vecD ∘ encV) (xs := p) rfl (by omega) fun v hv => ⟨_, rfl, rfl, pnS rfl (lV (h3 v hv))⟩
  unfold R_piece_numbers B_piece_numbers
  exact runF_rt (ret_rt (fn1 e (R_orderS hpV hh)))
theorem mlS {f4 f5 : F} {ρ : Rho} {m : Ml} (h4 : f4 ρ = some (.int m.1)) (h5 : f5 ρ = some (vecD m.2)) (hl : m.2.length ≤ 1000) : fBin dCat (fFn dList (fConsA f4 (fConsA (fFn (g1 dLen) (fConsA f5 fNilA)) fNilA))) f5 ρ = some (vecD (encM m)) := vcat_e (a := [m.1, (m.2.length : Int)]) (fnn2 h4 (lenL_e (h := PyData.int) (xs := m.2) h5) rfl) h5 (by show 2 + _ ≤ _; omega)
theorem mlS2 {f4 f5 : F} {ρ : Rho} {m : Ml} (h4 : f4 ρ = some (.int m.1)) (h5 : f5 ρ = some (vecD m.2)) (hl : m.2.length ≤ 1000) : fBin dCat (fBin dCat (fFn dList (fConsA f4 fNilA)) (fFn dList (fConsA (fFn (g1 dLen) (fConsA f5 fNilA)) fNilA))) f5 ρ = some (vecD (encM m)) := vcat_e (a := [m.1, (m.2.length : Int)]) (vcat_e (a := [m.1]) (b := [(m.2.length : Int)]) (vec1_e h4) (vec1_e (lenL_e (h := PyData.int) (xs := m.2) h5)) (by show 1 + 1 ≤ 15000000; decide)) h5 (by show 2 + _ ≤ _; omega)
theorem R_cnumS {c : Cl} (hh : (encC c).length ≤ 1000) : R_claim_numbers [clD c] = some (vecD (encC c)) := by
  obtain ⟨h1, h2, h3⟩ := sz_list hpM (lC hh)
  have e0 : sAsgG (gT [(gN 1), (gN 2)]) (fVar 0) [some (clD c), none, none, none, none, none] = some (.nx [some (clD c), some (ixD c.1), some (.list (c.2.map mlD)), none, none, none]) := asgG_nx rfl rfl
  have e : fLc (iSeq (fVar 2)) (gT [(gN 4), (gN 5)]) tYesF (fBin dCat (fFn dList (fConsA (fVar 4) (fConsA (fFn (g1 dLen) (fConsA (fVar 5) fNilA)) fNilA))) (fVar 5)) [4, 5] [some (clD c), some (ixD c.1), some (.list (c.2.map mlD)), none, none, none] = some (matD (c.2.map encM)) := by
    unfold matD
    rw [List.map_map]
    exact fLc_map (α := Ml) (h := mlD) (g := vecD ∘ encM) (xs := c.2) rfl (by omega) fun m hm => ⟨_, rfl, rfl, mlS rfl rfl (lM (h3 m hm))⟩
  have hz := lC hh
  unfold R_claim_numbers B_claim_numbers
  exact runF_rt (seq_nx e0 (seq_nx (asg_nx e) (ret_rt (vcat_e (a := [ixI c.1]) (b := encL (c.2.map encM)) (ix_e rfl) (fn1 rfl (R_orderS hpM (lC hh))) (by rw [List.length_singleton]; omega)))))
theorem R_lcbookS {c : Cl} (hh : (encC c).length ≤ 1000) : R_law_claim_book [clD c] = some (vecD (encC c)) := by
  obtain ⟨h1, h2, h3⟩ := sz_list hpM (lC hh)
  have e0 : sAsgG (gT [(gN 1), (gN 2)]) (fVar 0) [some (clD c), none, none, none, none, none] = some (.nx [some (clD c), some (ixD c.1), some (.list (c.2.map mlD)), none, none, none]) := asgG_nx rfl rfl
  have e : fLc (iSeq (fVar 2)) (gT [(gN 4), (gN 5)]) tYesF (fBin dCat (fBin dCat (fFn dList (fConsA (fVar 4) fNilA)) (fFn dList (fConsA (fFn (g1 dLen) (fConsA (fVar 5) fNilA)) fNilA))) (fVar 5)) [4, 5] [some (clD c), some (ixD c.1), some (.list (c.2.map mlD)), none, none, none] = some (matD (c.2.map encM)) := by
    unfold matD
    rw [List.map_map]
    exact fLc_map (α := Ml) (h := mlD) (g := vecD ∘ encM) (xs := c.2) rfl (by omega) fun m hm => ⟨_, rfl, rfl, mlS2 rfl rfl (lM (h3 m hm))⟩
  have hz := lC hh
  unfold R_law_claim_book B_law_claim_book
  exact runF_rt (seq_nx e0 (seq_nx (asg_nx e) (ret_rt (vcat_e (a := [ixI c.1]) (b := encL (c.2.map encM)) (ix_e rfl) (fn1 rfl (R_lbookS hpM (lC hh))) (by rw [List.length_singleton]; omega)))))
theorem partsS {α : Type} {h : α → PyData} {f : α → Vc} {src : F} {p : Nat} {el : F} {ρ : Rho} {xs : List α} (hs : src ρ = some (.list (xs.map h))) (hl : xs.length ≤ 1000) (hx : ∀ x ∈ xs, el ((wipeR ρ [p]).set p (some (h x))) = some (vecD (f x))) : fLc (iSeq src) (gN p) tYesF el [p] ρ = some (matD (xs.map f)) := by
  unfold matD
  rw [List.map_map]
  exact fLc_map (α := α) (h := h) (g := vecD ∘ f) (xs := xs) (iseq_e hs) (by omega) fun x hx' => ⟨_, rfl, rfl, hx x hx'⟩
theorem R_rnumS {cs : List Cl} (hh : (encCs cs).length ≤ 1000) : R_row_numbers [clsD cs] = some (vecD (encCs cs)) := by
  obtain ⟨h1, h2, h3⟩ := sz_list hpC hh
  unfold R_row_numbers B_row_numbers
  exact runF_rt (ret_rt (fn1 (partsS (h := clD) (f := encC) rfl h1 fun x hx => fn1 rfl (R_cnumS (h3 x hx))) (R_orderS hpC hh)))
theorem hpP (p : List Vc) : 1 ≤ (encP p).length := hpL encV p
theorem hpR (r : List (List Vc)) : 1 ≤ (encR r).length := hpL encP r
theorem hpCs (cs : List Cl) : 1 ≤ (encCs cs).length := hpL encC cs
theorem szP {p : List Vc} (h : (encP p).length ≤ 1000) : p.length ≤ 1000 ∧ ∀ v ∈ p, (encV v).length ≤ 1000 := by
  obtain ⟨a, _, b⟩ := sz_list (f := encV) hpV h
  exact ⟨a, b⟩
theorem szR {r : List (List Vc)} (h : (encR r).length ≤ 1000) : r.length ≤ 1000 ∧ ∀ q ∈ r, (encP q).length ≤ 1000 := by
  obtain ⟨a, _, b⟩ := sz_list (f := encP) hpP h
  exact ⟨a, b⟩
theorem szPs {P : List (List (List Vc))} (h : (encPs P).length ≤ 1000) : P.length ≤ 1000 ∧ ∀ r ∈ P, (encR r).length ≤ 1000 := by
  obtain ⟨a, _, b⟩ := sz_list (f := encR) hpR h
  exact ⟨a, b⟩
theorem szCs {cs : List Cl} (h : (encCs cs).length ≤ 1000) : cs.length ≤ 1000 ∧ ∀ x ∈ cs, (encC x).length ≤ 1000 := by
  obtain ⟨a, _, b⟩ := sz_list (f := encC) hpC h
  exact ⟨a, b⟩
theorem szG {g : List (List Cl)} (h : (encG g).length ≤ 1000) : g.length ≤ 1000 ∧ ∀ cs ∈ g, (encCs cs).length ≤ 1000 := by
  obtain ⟨a, _, b⟩ := sz_list (f := encCs) hpCs h
  exact ⟨a, b⟩
theorem ctS {c : Ct} (h : (enc c).length ≤ 1000) : (encPs c.P).length ≤ 1000 ∧ (encCs c.S).length ≤ 1000 ∧ (encG c.W).length ≤ 1000 ∧ (encG c.J).length ≤ 1000 ∧ (encG c.E).length ≤ 1000 := by
  unfold enc at h
  simp only [List.length_append] at h
  exact ⟨by omega, by omega, by omega, by omega, by omega⟩
theorem wb_rowS {r : List (List Vc)} (h : (encR r).length ≤ 1000) {f : F} {ρ : Rho} (hf : f ρ = some (rowD r)) (hρ : 7 < ρ.length) : fFn R_in_order (fConsA (fLc (iSeq f) (gN 7) tYesF (fFn R_piece_numbers (fConsA (fVar 7) fNilA)) [7]) fNilA) ρ = some (vecD (encR r)) := by
  refine fn1 (partsS (h := matD) (f := encP) (xs := r) hf (szR h).1 fun q hq => fn1 (x := matD q) ?_ (R_pnumS ((szR h).2 q hq))) (R_orderS hpP h)
  unfold fVar
  rw [List.getElem?_set_self (by rw [wipeR_length]; exact hρ)] <;> rfl
theorem wb_grpS {g : List (List Cl)} (h : (encG g).length ≤ 1000) {f : F} {ρ : Rho} (hf : f ρ = some (grD g)) (hρ : 8 < ρ.length) : fFn R_in_order (fConsA (fLc (iSeq f) (gN 8) tYesF (fFn R_row_numbers (fConsA (fVar 8) fNilA)) [8]) fNilA) ρ = some (vecD (encG g)) := by
  refine fn1 (partsS (h := clsD) (f := encCs) (xs := g) hf (szG h).1 fun q hq => fn1 (x := clsD q) ?_ (R_rnumS ((szG h).2 q hq))) (R_orderS hpCs h)
  unfold fVar
  rw [List.getElem?_set_self (by rw [wipeR_length]; exact hρ)] <;> rfl
theorem R_writeBS {c : Ct} (hh : (enc c).length ≤ 1000) : R_write_book [ctD c] = some (vecD (enc c)) := by
  have e0 : sAsgG (gT [(gN 1), (gN 2), (gN 3), (gN 4), (gN 5)]) (fVar 0) [some (ctD c), none, none, none, none, none, none, none, none, none] = some (.nx [some (ctD c), some (pcsD c.P), some (clsD c.S), some (grD c.W), some (grD c.J), some (grD c.E), none, none, none, none]) := asgG_nx rfl rfl
  obtain ⟨hp, hs, hw, hj, he⟩ := ctS hh
  have l1 : (encL (c.P.map encR)).length ≤ 1000 := hp
  have l2 : (encL (c.S.map encC)).length ≤ 1000 := hs
  have l3 : (encL (c.W.map encCs)).length ≤ 1000 := hw
  have l4 : (encL (c.J.map encCs)).length ≤ 1000 := hj
  have l5 : (encL (c.E.map encCs)).length ≤ 1000 := he
  have e1 : fFn R_in_order (fConsA (fLc (iSeq (fVar 1)) (gN 8) tYesF (fFn R_in_order (fConsA (fLc (iSeq (fVar 8)) (gN 7) tYesF (fFn R_piece_numbers (fConsA (fVar 7) fNilA)) [7]) fNilA)) [8]) fNilA) [some (ctD c), some (pcsD c.P), some (clsD c.S), some (grD c.W), some (grD c.J), some (grD c.E), none, none, none, none] = some (vecD (encPs c.P)) :=
    fn1 (partsS (h := rowD) (f := encR) (xs := c.P) rfl (szPs hp).1 fun r hr => wb_rowS ((szPs hp).2 r hr) rfl (by rw [List.length_set, wipeR_length]; show 7 < 10; decide)) (R_orderS hpR hp)
  have e2 : fBin dCat (fVar 6) (fFn R_row_numbers (fConsA (fVar 2) fNilA)) [some (ctD c), some (pcsD c.P), some (clsD c.S), some (grD c.W), some (grD c.J), some (grD c.E), some (vecD (encPs c.P)), none, none, none] = some (vecD (encPs c.P ++ encCs c.S)) := vcat_e (a := encPs c.P) (b := encCs c.S) rfl (fn1 rfl (R_rnumS hs)) (by unfold encPs encCs; omega)
  have step : ∀ (g : List (List Cl)), (encG g).length ≤ 1000 → ∀ (acc : Vc) (x7 x8 x9 : Option PyData), acc.length ≤ 1000000 → sSeq (sAsg 6 (fBin dCat (fVar 6) (fFn R_in_order (fConsA (fLc (iSeq (fVar 9)) (gN 8) tYesF (fFn R_row_numbers (fConsA (fVar 8) fNilA)) [8]) fNilA)))) sNil [some (ctD c), some (pcsD c.P), some (clsD c.S), some (grD c.W), some (grD c.J), some (grD c.E), some (vecD acc), x7, x8, some (grD g)] = some (.nx [some (ctD c), some (pcsD c.P), some (clsD c.S), some (grD c.W), some (grD c.J), some (grD c.E), some (vecD (acc ++ encG g)), x7, x8, some (grD g)]) := fun g hg acc x7 x8 x9 ha => by
    have lg : (encL (g.map encCs)).length ≤ 1000 := hg
    exact seq_nx (asg_nx (vcat_e (a := acc) (b := encG g) rfl (wb_grpS hg rfl (by show 8 < 10; decide)) (by unfold encG; omega))) rfl
  have lp : loopF (gN 9) (sSeq (sAsg 6 (fBin dCat (fVar 6) (fFn R_in_order (fConsA (fLc (iSeq (fVar 9)) (gN 8) tYesF (fFn R_row_numbers (fConsA (fVar 8) fNilA)) [8]) fNilA)))) sNil) [grD c.W, grD c.J, grD c.E] [some (ctD c), some (pcsD c.P), some (clsD c.S), some (grD c.W), some (grD c.J), some (grD c.E), some (vecD (encPs c.P ++ encCs c.S)), none, none, none] = some (.nx [some (ctD c), some (pcsD c.P), some (clsD c.S), some (grD c.W), some (grD c.J), some (grD c.E), some (vecD (enc c)), none, none, some (grD c.E)]) := by
    have s1 := step c.W hw (encPs c.P ++ encCs c.S) none none none (by rw [List.length_append]; unfold encPs encCs; omega)
    have s2 := step c.J hj (encPs c.P ++ encCs c.S ++ encG c.W) none none none (by rw [List.length_append, List.length_append]; unfold encPs encCs encG; omega)
    have s3 := step c.E he (encPs c.P ++ encCs c.S ++ encG c.W ++ encG c.J) none none none (by rw [List.length_append, List.length_append, List.length_append]; unfold encPs encCs encG; omega)
    generalize (sSeq (sAsg 6 (fBin dCat (fVar 6) (fFn R_in_order (fConsA (fLc (iSeq (fVar 9)) (gN 8) tYesF (fFn R_row_numbers (fConsA (fVar 8) fNilA)) [8]) fNilA)))) sNil) = B at s1 s2 s3 ⊢
    show (B [some (ctD c), some (pcsD c.P), some (clsD c.S), some (grD c.W), some (grD c.J), some (grD c.E), some (vecD (encPs c.P ++ encCs c.S)), none, none, some (grD c.W)]).bind _ = _
    rw [s1, Option.bind_some]
    show (B [some (ctD c), some (pcsD c.P), some (clsD c.S), some (grD c.W), some (grD c.J), some (grD c.E), some (vecD (encPs c.P ++ encCs c.S ++ encG c.W)), none, none, some (grD c.J)]).bind _ = _
    rw [s2, Option.bind_some]
    show (B [some (ctD c), some (pcsD c.P), some (clsD c.S), some (grD c.W), some (grD c.J), some (grD c.E), some (vecD (encPs c.P ++ encCs c.S ++ encG c.W ++ encG c.J)), none, none, some (grD c.E)]).bind _ = _
    rw [s3, Option.bind_some]
    rfl
  unfold R_write_book B_write_book
  refine runF_rt (seq_nx e0 (seq_nx (asg_nx e1) (seq_nx (asg_nx e2) (seq_nx ((for_eq (ds := [grD c.W, grD c.J, grD c.E]) (iseq_t (fnn3 rfl rfl rfl rfl))).trans lp) (ret_rt rfl)))))
theorem lb_rowS {r : List (List Vc)} (h : (encR r).length ≤ 1000) {f : F} {ρ : Rho} (hf : f ρ = some (rowD r)) (hρ : ρ.length = 12) : fFn R_law_list_book (fConsA (fLc (iSeq f) (gN 8) tYesF (fFn R_law_list_book (fConsA (fLc (iSeq (fVar 8)) (gN 7) tYesF (fBin dCat (fFn dList (fConsA (fFn (g1 dLen) (fConsA (fVar 7) fNilA)) fNilA)) (fVar 7)) [7]) fNilA)) [8]) fNilA) ρ = some (vecD (encR r)) := by
  refine fn1 (partsS (h := matD) (f := encP) (xs := r) hf (szR h).1 fun q hq => fn1 (partsS (h := vecD) (f := encV) (xs := q) ?_ (szP ((szR h).2 q hq)).1 fun v hv => pnS ?_ (lV ((szP ((szR h).2 q hq)).2 v hv))) (R_lbookS hpV ((szR h).2 q hq))) (R_lbookS hpP h)
  · unfold fVar
    rw [List.getElem?_set_self (by rw [wipeR_length, hρ]; decide)] <;> rfl
  · unfold fVar
    rw [List.getElem?_set_self (by rw [wipeR_length, List.length_set, wipeR_length, hρ]; decide)] <;> rfl
theorem lb_clsS {cs : List Cl} (h : (encCs cs).length ≤ 1000) {f : F} {ρ : Rho} (hf : f ρ = some (clsD cs)) (hρ : 10 < ρ.length) : fFn R_law_list_book (fConsA (fLc (iSeq f) (gN 10) tYesF (fFn R_law_claim_book (fConsA (fVar 10) fNilA)) [10]) fNilA) ρ = some (vecD (encCs cs)) := by
  refine fn1 (partsS (h := clD) (f := encC) (xs := cs) hf (szCs h).1 fun x hx => fn1 (x := clD x) ?_ (R_lcbookS ((szCs h).2 x hx))) (R_lbookS hpC h)
  unfold fVar
  rw [List.getElem?_set_self (by rw [wipeR_length]; exact hρ)] <;> rfl
theorem lb_grpS {g : List (List Cl)} (h : (encG g).length ≤ 1000) {f : F} {ρ : Rho} (hf : f ρ = some (grD g)) (hρ : ρ.length = 12) : fFn R_law_list_book (fConsA (fLc (iSeq f) (gN 9) tYesF (fFn R_law_list_book (fConsA (fLc (iSeq (fVar 9)) (gN 10) tYesF (fFn R_law_claim_book (fConsA (fVar 10) fNilA)) [10]) fNilA)) [9]) fNilA) ρ = some (vecD (encG g)) := by
  refine fn1 (partsS (h := clsD) (f := encCs) (xs := g) hf (szG h).1 fun q hq => lb_clsS ((szG h).2 q hq) ?_ (by rw [List.length_set, wipeR_length, hρ]; decide)) (R_lbookS hpCs h)
  unfold fVar
  rw [List.getElem?_set_self (by rw [wipeR_length, hρ]; decide)] <;> rfl
theorem R_lawBS {c : Ct} (hh : (enc c).length ≤ 1000) : R_law_book [ctD c] = some (vecD (enc c)) := by
  have e0 : sAsgG (gT [(gN 1), (gN 2), (gN 3), (gN 4), (gN 5)]) (fVar 0) [some (ctD c), none, none, none, none, none, none, none, none, none, none, none] = some (.nx [some (ctD c), some (pcsD c.P), some (clsD c.S), some (grD c.W), some (grD c.J), some (grD c.E), none, none, none, none, none, none]) := asgG_nx rfl rfl
  obtain ⟨hp, hs, hw, hj, he⟩ := ctS hh
  have l1 : (encL (c.P.map encR)).length ≤ 1000 := hp
  have l2 : (encL (c.S.map encC)).length ≤ 1000 := hs
  have l3 : (encL (c.W.map encCs)).length ≤ 1000 := hw
  have l4 : (encL (c.J.map encCs)).length ≤ 1000 := hj
  have l5 : (encL (c.E.map encCs)).length ≤ 1000 := he
  have e1 : fFn R_law_list_book (fConsA (fLc (iSeq (fVar 1)) (gN 9) tYesF (fFn R_law_list_book (fConsA (fLc (iSeq (fVar 9)) (gN 8) tYesF (fFn R_law_list_book (fConsA (fLc (iSeq (fVar 8)) (gN 7) tYesF (fBin dCat (fFn dList (fConsA (fFn (g1 dLen) (fConsA (fVar 7) fNilA)) fNilA)) (fVar 7)) [7]) fNilA)) [8]) fNilA)) [9]) fNilA) [some (ctD c), some (pcsD c.P), some (clsD c.S), some (grD c.W), some (grD c.J), some (grD c.E), none, none, none, none, none, none] = some (vecD (encPs c.P)) :=
    fn1 (partsS (h := rowD) (f := encR) (xs := c.P) rfl (szPs hp).1 fun r hr => lb_rowS ((szPs hp).2 r hr) rfl rfl) (R_lbookS hpR hp)
  have e2 : fBin dCat (fVar 6) (fFn R_law_list_book (fConsA (fLc (iSeq (fVar 2)) (gN 10) tYesF (fFn R_law_claim_book (fConsA (fVar 10) fNilA)) [10]) fNilA)) [some (ctD c), some (pcsD c.P), some (clsD c.S), some (grD c.W), some (grD c.J), some (grD c.E), some (vecD (encPs c.P)), none, none, none, none, none] = some (vecD (encPs c.P ++ encCs c.S)) := vcat_e (a := encPs c.P) (b := encCs c.S) rfl (lb_clsS hs rfl (by show 10 < 12; decide)) (by unfold encPs encCs; omega)
  have step : ∀ (g : List (List Cl)), (encG g).length ≤ 1000 → ∀ (acc : Vc), acc.length ≤ 1000000 → sSeq (sAsg 6 (fBin dCat (fVar 6) (fFn R_law_list_book (fConsA (fLc (iSeq (fVar 11)) (gN 9) tYesF (fFn R_law_list_book (fConsA (fLc (iSeq (fVar 9)) (gN 10) tYesF (fFn R_law_claim_book (fConsA (fVar 10) fNilA)) [10]) fNilA)) [9]) fNilA)))) sNil [some (ctD c), some (pcsD c.P), some (clsD c.S), some (grD c.W), some (grD c.J), some (grD c.E), some (vecD acc), none, none, none, none, some (grD g)] = some (.nx [some (ctD c), some (pcsD c.P), some (clsD c.S), some (grD c.W), some (grD c.J), some (grD c.E), some (vecD (acc ++ encG g)), none, none, none, none, some (grD g)]) := fun g hg acc ha => by
    have lg : (encL (g.map encCs)).length ≤ 1000 := hg
    exact seq_nx (asg_nx (vcat_e (a := acc) (b := encG g) rfl (lb_grpS hg rfl rfl) (by unfold encG; omega))) rfl
  have lp : loopF (gN 11) (sSeq (sAsg 6 (fBin dCat (fVar 6) (fFn R_law_list_book (fConsA (fLc (iSeq (fVar 11)) (gN 9) tYesF (fFn R_law_list_book (fConsA (fLc (iSeq (fVar 9)) (gN 10) tYesF (fFn R_law_claim_book (fConsA (fVar 10) fNilA)) [10]) fNilA)) [9]) fNilA)))) sNil) [grD c.W, grD c.J, grD c.E] [some (ctD c), some (pcsD c.P), some (clsD c.S), some (grD c.W), some (grD c.J), some (grD c.E), some (vecD (encPs c.P ++ encCs c.S)), none, none, none, none, none] = some (.nx [some (ctD c), some (pcsD c.P), some (clsD c.S), some (grD c.W), some (grD c.J), some (grD c.E), some (vecD (enc c)), none, none, none, none, some (grD c.E)]) := by
    have s1 := step c.W hw (encPs c.P ++ encCs c.S) (by rw [List.length_append]; unfold encPs encCs; omega)
    have s2 := step c.J hj (encPs c.P ++ encCs c.S ++ encG c.W) (by rw [List.length_append, List.length_append]; unfold encPs encCs encG; omega)
    have s3 := step c.E he (encPs c.P ++ encCs c.S ++ encG c.W ++ encG c.J) (by rw [List.length_append, List.length_append, List.length_append]; unfold encPs encCs encG; omega)
    generalize (sSeq (sAsg 6 (fBin dCat (fVar 6) (fFn R_law_list_book (fConsA (fLc (iSeq (fVar 11)) (gN 9) tYesF (fFn R_law_list_book (fConsA (fLc (iSeq (fVar 9)) (gN 10) tYesF (fFn R_law_claim_book (fConsA (fVar 10) fNilA)) [10]) fNilA)) [9]) fNilA)))) sNil) = B at s1 s2 s3 ⊢
    show (B [some (ctD c), some (pcsD c.P), some (clsD c.S), some (grD c.W), some (grD c.J), some (grD c.E), some (vecD (encPs c.P ++ encCs c.S)), none, none, none, none, some (grD c.W)]).bind _ = _
    rw [s1, Option.bind_some]
    show (B [some (ctD c), some (pcsD c.P), some (clsD c.S), some (grD c.W), some (grD c.J), some (grD c.E), some (vecD (encPs c.P ++ encCs c.S ++ encG c.W)), none, none, none, none, some (grD c.J)]).bind _ = _
    rw [s2, Option.bind_some]
    show (B [some (ctD c), some (pcsD c.P), some (clsD c.S), some (grD c.W), some (grD c.J), some (grD c.E), some (vecD (encPs c.P ++ encCs c.S ++ encG c.W ++ encG c.J)), none, none, none, none, some (grD c.E)]).bind _ = _
    rw [s3, Option.bind_some]
    rfl
  unfold R_law_book B_law_book
  refine runF_rt (seq_nx e0 (seq_nx (asg_nx e1) (seq_nx (asg_nx e2) (seq_nx ((for_eq (ds := [grD c.W, grD c.J, grD c.E]) (iseq_e (fnn3 rfl rfl rfl rfl))).trans lp) (ret_rt rfl)))))
def Reads {α : Type} (Rg : List PyData → Option PyData) (g : α → PyData) (e : α → Vc) (a : α) : Prop := ∀ (N rest : Vc) (p : Nat), N.drop p = e a ++ rest → Rg [vecD N, .int (p : Int)] = some (.tuple [g a, .int ((p + (e a).length : Nat) : Int)])
theorem drop_add {N a rest : Vc} {p : Nat} (h : N.drop p = a ++ rest) : N.drop (p + a.length) = rest := by
  rw [← List.drop_drop, h, List.drop_left]
theorem drop_get {N rest : Vc} {x : Int} {p : Nat} (h : N.drop p = x :: rest) : N[p]? = some x := by
  have := congrArg (fun l => l[0]?) h
  simpa [List.getElem?_drop] using this
theorem rd_int1 (x : Int) : Reads R_read_integer PyData.int (fun x => [x]) x := fun N rest p h => by
  have hg := drop_get (rest := rest) (h.trans rfl)
  have hl : p < N.length := (List.getElem?_eq_some_iff.mp hg).1
  have t : tV (fBin dGe (fVar 1) (fFn (g1 dLen) (fConsA (fVar 0) fNilA))) [some (vecD N), some (.int (p : Int))] = some false := by
    have e1 : fFn (g1 dLen) (fConsA (fVar 0) fNilA) [some (vecD N), some (.int (p : Int))] = some (.int (N.length : Int)) := lenL_e (h := PyData.int) (xs := N) rfl
    refine (tV_b ((fBin_eq rfl e1).trans (dGe_i ..))).trans ?_
    rw [decide_eq_false (by omega)]
  have e2 : fBin dIx (fVar 0) (fVar 1) [some (vecD N), some (.int (p : Int))] = some (.int x) := (fBin_eq (x := vecD N) (y := .int (p : Int)) rfl rfl).trans (ls_ix (h := PyData.int) (xs := N) hg)
  have e3 : fBin dAdd (fVar 1) (fC (.int 1)) [some (vecD N), some (.int (p : Int))] = some (.int ((p + 1 : Nat) : Int)) := suc_v rfl
  unfold R_read_integer B_read_integer
  exact runF_rt (seq_nx ((if_f t).trans rfl) (ret_rt (fnn2 e2 e3 rfl)))
def rlC : FT := tV (fBin dLt (fFn (g1 dLen) (fConsA (fVar 4) fNilA)) (fVar 3))
def rlB (Rg : List PyData → Option PyData) : FS := (sSeq (sAsgG (gT [(gN 5), (gN 1)]) (fFn Rg (fConsA (fVar 0) (fConsA (fVar 1) fNilA)))) (sApp 4 (fVar 5)))
section
variable {α : Type} {Rg : List PyData → Option PyData} {g : α → PyData} {e : α → Vc}
theorem rl_loop {N : Vc} {many : Nat} : ∀ (xs done : List α) (rest : Vc) (p n : Nat) (x5 : Option PyData), (∀ a ∈ xs, Reads Rg g e a) → N.drop p = (xs.map e).flatten ++ rest → done.length + xs.length = many → many ≤ 1000 → xs.length < n →
    ∃ y5 : Option PyData, whileF rlC (rlB Rg) n [some (vecD N), some (.int (p : Int)), none, some (.int (many : Int)), some (.list (done.map g)), x5] = some (.nx [some (vecD N), some (.int ((p + (xs.map e).flatten.length : Nat) : Int)), none, some (.int (many : Int)), some (.list ((done ++ xs).map g)), y5])
  | [], done, rest, p, n + 1, x5, _, hd, hm, hl, hn => by
    have t : rlC [some (vecD N), some (.int (p : Int)), none, some (.int (many : Int)), some (.list (done.map g)), x5] = some false := by
      refine (tV_b ((fBin_eq (lenL_e (h := g) (xs := done) rfl) rfl).trans (dLt_i ..))).trans ?_
      rw [List.length_nil] at hm
      rw [decide_eq_false (by omega)]
    refine ⟨x5, ?_⟩
    show (rlC _).bind _ = _
    rw [t, Option.bind_some, if_neg Bool.false_ne_true, List.append_nil]
    rfl
  | a :: xs, done, rest, p, n + 1, x5, ha, hd, hm, hl, hn => by
    rw [List.length_cons] at hm hn
    rw [List.map_cons, List.flatten_cons, List.append_assoc] at hd
    have t : rlC [some (vecD N), some (.int (p : Int)), none, some (.int (many : Int)), some (.list (done.map g)), x5] = some true := by
      refine (tV_b ((fBin_eq (lenL_e (h := g) (xs := done) rfl) rfl).trans (dLt_i ..))).trans ?_
      rw [decide_eq_true (by omega)]
    have er := ha a List.mem_cons_self N _ p hd
    have hb : rlB Rg [some (vecD N), some (.int (p : Int)), none, some (.int (many : Int)), some (.list (done.map g)), x5] = some (.nx [some (vecD N), some (.int ((p + (e a).length : Nat) : Int)), none, some (.int (many : Int)), some (.list ((done ++ [a]).map g)), some (g a)]) :=
      seq_nx (asgG_nx (ρ' := [some (vecD N), some (.int ((p + (e a).length : Nat) : Int)), none, some (.int (many : Int)), some (.list (done.map g)), some (g a)]) (fnn2 rfl rfl er) rfl) (app_d (h := g) (a := a) (xs := done) rfl rfl (by omega))
    obtain ⟨y5, ih⟩ := rl_loop xs (done ++ [a]) rest (p + (e a).length) n (some (g a)) (fun b hb => ha b (List.mem_cons_of_mem _ hb)) (drop_add hd) (by rw [List.length_append, List.length_singleton]; omega) hl (by omega)
    refine ⟨y5, ?_⟩
    show (rlC _).bind _ = _
    rw [t, Option.bind_some, if_pos rfl]
    show (rlB Rg _).bind _ = _
    rw [hb, Option.bind_some]
    show whileF rlC (rlB Rg) n _ = _
    rw [ih, List.append_assoc, List.map_cons, List.flatten_cons, List.length_append, Nat.add_assoc] <;> rfl
theorem frzN_rt {i : Nat} {G : FS} {ρ : Rho} {ds : List PyData} {o : Out} (h : ρ[i]? = some (some (.list ds))) (hl : ds.length ≤ 15000000) (hG : G ρ = some o) : sFrzN i G ρ = some o := by
  unfold sFrzN
  rw [h]
  exact (if_pos hl).trans hG
theorem retP1 {ps : PyData → List (List Nat)} {ps' : List (List Nat)} {f : F} {ρ : Rho} {d : PyData} (h : f ρ = some d) (e : ps d = ps') : sRetP ps ps' f ρ = some (.rt d) := by
  unfold sRetP
  rw [h, Option.bind_some]
  exact if_pos e
theorem rd_list {xs : List α} (ha : ∀ a ∈ xs, Reads Rg g e a) (hl : xs.length ≤ 1000) : Reads (RL_read_list Rg) (fun xs => .list (xs.map g)) (fun xs => encL (xs.map e)) xs := fun N rest p h => by
  have h0 : N.drop p = [(xs.length : Int)] ++ ((xs.map e).flatten ++ rest) := by
    rw [h]
    show (((xs.map e).length : Nat) : Int) :: (xs.map e).flatten ++ rest = _
    rw [List.length_map] <;> rfl
  have e1 := rd_int1 (xs.length : Int) N _ p h0
  have h1 : N.drop (p + 1) = (xs.map e).flatten ++ rest := drop_add h0
  obtain ⟨W, hW⟩ : ∃ W : Nat, W = bigW := ⟨_, rfl⟩
  have hw : xs.length < W := by
    have : 1001 ≤ W := by
      rw [hW]
      exact Nat.le_trans (show 1001 ≤ 2 ^ 10 by decide) (Nat.pow_le_pow_right (by decide) (by decide))
    omega
  obtain ⟨y5, e2⟩ := rl_loop (N := N) (many := xs.length) xs [] rest (p + 1) W none ha h1 (by simp) hl hw
  have t : tV (fBin dLt (fVar 3) (fC (.int 0))) [some (vecD N), some (.int ((p + 1 : Nat) : Int)), none, some (.int (xs.length : Int)), none, none] = some false := (tV_b ((fBin_eq (x := .int (xs.length : Int)) (y := .int 0) rfl rfl).trans (dLt_i ..))).trans (by rw [decide_eq_false (by omega)])
  rw [List.nil_append] at e2
  have el : (encL (xs.map e)).length = 1 + (xs.map e).flatten.length := by
    unfold encL
    rw [List.length_cons]
    omega
  unfold RL_read_list BL_read_list
  rw [← hW]
  refine runF_rt (seq_nx (asgG_nx (ρ' := [some (vecD N), some (.int ((p + 1 : Nat) : Int)), none, some (.int (xs.length : Int)), none, none]) (fnn2 rfl rfl e1) rfl) (seq_nx ((if_f t).trans rfl) (seq_nx (asg_nx (d := .list ([].map g)) rfl) (seq_nx e2 (frzN_rt (ds := xs.map g) rfl (by rw [List.length_map]; omega) (retP1 ?_ rfl))))))
  refine (fnn2 (x := .list (xs.map g)) (y := .int ((p + 1 + (xs.map e).flatten.length : Nat) : Int)) rfl rfl rfl).trans ?_
  show some (PyData.tuple [.list (xs.map g), .int ((p + 1 + (xs.map e).flatten.length : Nat) : Int)]) = some (PyData.tuple [.list (xs.map g), .int ((p + (encL (xs.map e)).length : Nat) : Int)])
  rw [el, Nat.add_assoc]
end
theorem encV_list (v : Vc) : encL (v.map fun x => [x]) = encV v := by
  unfold encL encV
  rw [List.length_map]
  congr 1
  induction v with
  | nil => rfl
  | cons x v ih => rw [List.map_cons, List.flatten_cons, ih] <;> rfl
theorem rd_listV {v : Vc} (hl : v.length ≤ 1000) : Reads (RL_read_list R_read_integer) vecD encV v := fun N rest p h => by
  rw [← encV_list] at h ⊢
  exact rd_list (fun a _ => rd_int1 a) hl N rest p h
theorem pass1 {α : Type} {Rg R2 : List PyData → Option PyData} {g : α → PyData} {e : α → Vc} {a : α} (h : Reads Rg g e a) (h2 : ∀ x y, R2 [x, y] = runF 2 (sRet (fFn Rg (fConsA (fVar 0) (fConsA (fVar 1) fNilA)))) [x, y]) : Reads R2 g e a := fun N rest p hd => by
  rw [h2]
  exact runF_rt (ret_rt (fnn2 rfl rfl (h N rest p hd)))
theorem rd_vec {v : Vc} (hl : v.length ≤ 10) : Reads R_read_vector vecD encV v := pass1 (rd_listV (by omega)) fun _ _ => rfl
theorem rd_piece {p : List Vc} (h : p.length ≤ 10 ∧ ∀ v ∈ p, v.length ≤ 10) : Reads R_read_piece matD encP p := pass1 (rd_list (g := vecD) (e := encV) (fun v hv => rd_vec (h.2 v hv)) (by omega)) fun _ _ => rfl
theorem rd_pieces {r : List (List Vc)} (h : r.length ≤ 10 ∧ ∀ q ∈ r, q.length ≤ 10 ∧ ∀ v ∈ q, v.length ≤ 10) : Reads R_read_pieces rowD encR r := pass1 (rd_list (g := matD) (e := encP) (fun v hv => rd_piece (h.2 v hv)) (by omega)) fun _ _ => rfl
theorem rd_all {P : List (List (List Vc))} (h : P.length ≤ 10 ∧ ∀ r ∈ P, r.length ≤ 10 ∧ ∀ q ∈ r, q.length ≤ 10 ∧ ∀ v ∈ q, v.length ≤ 10) : Reads (RL_read_list R_read_pieces) pcsD encPs P := rd_list (g := rowD) (e := encR) (fun v hv => rd_pieces (h.2 v hv)) (by omega)
theorem rd_mul {m : Ml} (h : m.2.length ≤ 10) : Reads R_read_multipliers mlD encM m := fun N rest p hd => by
  have h0 : N.drop p = [m.1] ++ (encV m.2 ++ rest) := hd
  have e1 := rd_int1 m.1 N _ p h0
  have e2 := rd_vec h N rest (p + 1) (drop_add h0)
  have el : p + (encM m).length = p + 1 + (encV m.2).length := by
    unfold encM encV
    simp only [List.length_cons]
    omega
  rw [el]
  unfold R_read_multipliers B_read_multipliers
  exact runF_rt (seq_nx (asgG_nx (ρ' := [some (vecD N), some (.int ((p + 1 : Nat) : Int)), some (.int m.1), none]) (fnn2 rfl rfl e1) rfl) (seq_nx (asgG_nx (ρ' := [some (vecD N), some (.int ((p + 1 + (encV m.2).length : Nat) : Int)), some (.int m.1), some (vecD m.2)]) (fnn2 rfl rfl e2) rfl) (ret_rt (fnn2 (x := mlD m) (fnn2 rfl rfl rfl) rfl rfl))))
theorem rd_claim {c : Cl} (h : c.2.length ≤ 10 ∧ ∀ m ∈ c.2, m.2.length ≤ 10) : Reads R_read_claim clD encC c := fun N rest p hd => by
  have h0 : N.drop p = [ixI c.1] ++ (encL (c.2.map encM) ++ rest) := hd
  have e1 := rd_int1 (ixI c.1) N _ p h0
  have e2 := rd_list (Rg := R_read_multipliers) (g := mlD) (e := encM) (xs := c.2) (fun m hm => rd_mul (h.2 m hm)) (by omega) N rest (p + 1) (drop_add h0)
  have el : p + (encC c).length = p + 1 + (encL (c.2.map encM)).length := by
    unfold encC
    rw [List.length_cons]
    omega
  rw [el]
  have hx : -1 ≤ ixI c.1 := by
    cases c.1 with
    | none => exact Int.le_refl _
    | some k => show -1 ≤ (k : Int); omega
  have t : tV (fBin dLt (fVar 2) (fUn dNeg (fC (.int 1)))) [some (vecD N), some (.int ((p + 1 : Nat) : Int)), some (.int (ixI c.1)), none] = some false := (tV_b ((fBin_eq (x := .int (ixI c.1)) (y := .int (-1)) rfl rfl).trans (dLt_i ..))).trans (by rw [decide_eq_false (by omega)])
  have ei : fIf (tV (fBin dEq (fVar 2) (fUn dNeg (fC (.int 1))))) (fC .none) (fVar 2) [some (vecD N), some (.int ((p + 1 + (encL (c.2.map encM)).length : Nat) : Int)), some (.int (ixI c.1)), some (.list (c.2.map mlD))] = some (ixD c.1) := by
    have tt : tV (fBin dEq (fVar 2) (fUn dNeg (fC (.int 1)))) [some (vecD N), some (.int ((p + 1 + (encL (c.2.map encM)).length : Nat) : Int)), some (.int (ixI c.1)), some (.list (c.2.map mlD))] = some (ixI c.1 == -1) := t_eq rfl rfl
    cases hc : c.1 with
    | none =>
      rw [hc] at tt
      exact (fIf_t (tt.trans rfl)).trans rfl
    | some k =>
      rw [hc] at tt
      refine (fIf_f (tt.trans ?_)).trans rfl
      show some ((k : Int) == -1) = some false
      rw [beq_eq_false_iff_ne.mpr (by omega)]
  unfold R_read_claim B_read_claim
  exact runF_rt (seq_nx (asgG_nx (ρ' := [some (vecD N), some (.int ((p + 1 : Nat) : Int)), some (.int (ixI c.1)), none]) (fnn2 rfl rfl e1) rfl) (seq_nx ((if_f t).trans rfl) (seq_nx (asgG_nx (ρ' := [some (vecD N), some (.int ((p + 1 + (encL (c.2.map encM)).length : Nat) : Int)), some (.int (ixI c.1)), some (.list (c.2.map mlD))]) (fnn2 rfl rfl e2) rfl) (ret_rt (fnn2 (x := clD c) (fnn2 ei rfl rfl) rfl rfl)))))
theorem rd_claims {cs : List Cl} (h : cs.length ≤ 10 ∧ ∀ x ∈ cs, x.2.length ≤ 10 ∧ ∀ m ∈ x.2, m.2.length ≤ 10) : Reads R_read_claims clsD encCs cs := pass1 (rd_list (g := clD) (e := encC) (fun x hx => rd_claim (h.2 x hx)) (by omega)) fun _ _ => rfl
theorem rd_grp {g : List (List Cl)} (h : g.length ≤ 10 ∧ ∀ cs ∈ g, cs.length ≤ 10 ∧ ∀ x ∈ cs, x.2.length ≤ 10 ∧ ∀ m ∈ x.2, m.2.length ≤ 10) : Reads (RL_read_list R_read_claims) grD encG g := rd_list (g := clsD) (e := encCs) (fun x hx => rd_claims (h.2 x hx)) (by omega)
theorem drop_nx {f : F} {ρ : Rho} {d : PyData} (h : f ρ = some d) : sDrop f ρ = some (.nx ρ) := by
  unfold sDrop
  rw [h] <;> rfl
theorem R_readB {c : Ct} {n : Nat} (h : CtZ c) (ck : R_check_pieces [pcsD c.P, .int (n : Int)] = some .none) : R_read_book [vecD (enc c), .int (n : Int)] = some (ctD c) := by
  have d0 : (enc c).drop 0 = encPs c.P ++ (encCs c.S ++ (encG c.W ++ (encG c.J ++ (encG c.E ++ [])))) := by
    unfold enc
    simp only [List.drop_zero, List.append_assoc, List.append_nil]
  have d1 := drop_add d0
  have d2 := drop_add d1
  have d3 := drop_add d2
  have d4 := drop_add d3
  have e1 := rd_all h.p _ _ 0 d0
  have e2 := rd_claims h.s _ _ _ d1
  have e3 := rd_grp h.w _ _ _ d2
  have e4 := rd_grp h.j _ _ _ d3
  have e5 := rd_grp h.e _ _ _ d4
  have hlen : 0 + (encPs c.P).length + (encCs c.S).length + (encG c.W).length + (encG c.J).length + (encG c.E).length = (enc c).length := by
    unfold enc
    simp only [List.length_append]
    omega
  rw [hlen] at e5
  generalize 0 + (encPs c.P).length + (encCs c.S).length + (encG c.W).length + (encG c.J).length = p4 at e4 e5
  generalize 0 + (encPs c.P).length + (encCs c.S).length + (encG c.W).length = p3 at e3 e4
  generalize 0 + (encPs c.P).length + (encCs c.S).length = p2 at e2 e3
  generalize 0 + (encPs c.P).length = p1 at e1 e2
  have t : ∀ x2 x4 x5 x6 x7 : Option PyData, tV (fBin dNe (fVar 3) (fFn (g1 dLen) (fConsA (fVar 0) fNilA))) [some (vecD (enc c)), some (.int (n : Int)), x2, some (.int ((enc c).length : Int)), x4, x5, x6, x7] = some false := fun _ _ _ _ _ => (tV_b ((fBin_eq rfl (lenL_e (h := PyData.int) (xs := enc c) rfl)).trans (dNe_i ..))).trans (by simp)
  unfold R_read_book B_read_book
  exact runF_rt (seq_nx (asgG_nx (ρ' := [some (vecD (enc c)), some (.int (n : Int)), some (pcsD c.P), some (.int (p1 : Int)), none, none, none, none]) (fnn2 rfl rfl e1) rfl) (seq_nx (drop_nx (fnn2 rfl rfl ck)) (seq_nx (asgG_nx (ρ' := [some (vecD (enc c)), some (.int (n : Int)), some (pcsD c.P), some (.int (p2 : Int)), some (clsD c.S), none, none, none]) (fnn2 rfl rfl e2) rfl) (seq_nx (asgG_nx (ρ' := [some (vecD (enc c)), some (.int (n : Int)), some (pcsD c.P), some (.int (p3 : Int)), some (clsD c.S), some (grD c.W), none, none]) (fnn2 rfl rfl e3) rfl) (seq_nx (asgG_nx (ρ' := [some (vecD (enc c)), some (.int (n : Int)), some (pcsD c.P), some (.int (p4 : Int)), some (clsD c.S), some (grD c.W), some (grD c.J), none]) (fnn2 rfl rfl e4) rfl) (seq_nx (asgG_nx (ρ' := [some (vecD (enc c)), some (.int (n : Int)), some (pcsD c.P), some (.int ((enc c).length : Int)), some (clsD c.S), some (grD c.W), some (grD c.J), some (grD c.E)]) (fnn2 rfl rfl e5) rfl) (seq_nx ((if_f (t _ _ _ _ _)).trans rfl) (ret_rt (fFn_c (ds := [pcsD c.P, clsD c.S, grD c.W, grD c.J, grD c.E]) rfl rfl)))))))))
abbrev bbk : Str := "BadBook"
section
variable {a b : GXs} {g : FS} {c : FT} {ρ ρ' : Rho} {n : Str} {o : Option Str}
theorem xif_t (h : c ρ = some true) : xIf c a b ρ = a ρ := by
  unfold xIf
  rw [h, Option.bind_some, if_pos rfl]
theorem xif_f (h : c ρ = some false) : xIf c a b ρ = b ρ := by
  unfold xIf
  rw [h, Option.bind_some, if_neg Bool.false_ne_true]
theorem xseq_x (h : a ρ = some n) : xSeq a g b ρ = some n := by
  unfold xSeq
  rw [h]
theorem xseq_n (h : a ρ = none) (h2 : g ρ = some (.nx ρ')) (h3 : b ρ' = o) : xSeq a g b ρ = o := by
  unfold xSeq
  rw [h]
  show (g ρ).bind _ = _
  rw [h2, Option.bind_some]
  exact h3
theorem xcall_e {FX : List PyData → Option Str} {fs : FA} {ds : List PyData} (h : fs ρ = some ds) (h2 : FX ds = o) : xCall FX fs ρ = o := by
  unfold xCall
  rw [h, Option.bind_some, h2]
theorem runF_no {nl : Nat} {B : FS} {ds : List PyData} (h : B (ds.map some ++ List.replicate (nl - ds.length) none) = none) : runF nl B ds = none := by
  unfold runF
  rw [h] <;> rfl
theorem seq_no {a b : FS} (h : a ρ = none) : sSeq a b ρ = none := by
  show (a ρ).bind _ = none
  rw [h] <;> rfl
theorem asgG_no {k : FG} {f : F} (h : f ρ = none) : sAsgG k f ρ = none := by
  unfold sAsgG
  rw [h] <;> rfl
theorem fn_no {Fn : List PyData → Option PyData} {fs : FA} {ds : List PyData} (h : fs ρ = some ds) (h2 : Fn ds = none) : fFn Fn fs ρ = none := by
  unfold fFn
  rw [h, Option.bind_some, h2]
theorem ret_no {f : F} (h : f ρ = none) : sRet f ρ = none := by
  unfold sRet
  rw [h] <;> rfl
theorem drop_no {f : F} (h : f ρ = none) : sDrop f ρ = none := by
  unfold sDrop
  rw [h] <;> rfl
end
def Prs {α : Type} (Rg : List PyData → Option PyData) (FX : List PyData → Option Str) (g : α → PyData) (e : α → Vc) : Prop := ∀ (N : Vc) (p : Nat), N.length ≤ 1000 → p ≤ N.length →
  (∃ (a : α) (rest : Vc), N.drop p = e a ++ rest ∧ Rg [vecD N, .int (p : Int)] = some (.tuple [g a, .int ((p + (e a).length : Nat) : Int)]) ∧ FX [vecD N, .int (p : Int)] = none) ∨ (Rg [vecD N, .int (p : Int)] = none ∧ FX [vecD N, .int (p : Int)] = some bbk)
theorem drop_le {N a rest : Vc} {p : Nat} (hp : p ≤ N.length) (h : N.drop p = a ++ rest) : p + a.length ≤ N.length := by
  have := congrArg List.length h
  rw [List.length_drop, List.length_append] at this
  omega
theorem prs_int : Prs R_read_integer X_read_integer PyData.int (fun x => [x]) := fun N p hN hp => by
  have tt : tV (fBin dGe (fVar 1) (fFn (g1 dLen) (fConsA (fVar 0) fNilA))) [some (vecD N), some (.int (p : Int))] = some (decide ((N.length : Int) ≤ (p : Int))) := by
    have e1 : fFn (g1 dLen) (fConsA (fVar 0) fNilA) [some (vecD N), some (.int (p : Int))] = some (.int (N.length : Int)) := lenL_e (h := PyData.int) (xs := N) rfl
    exact tV_b ((fBin_eq rfl e1).trans (dGe_i ..))
  by_cases h : p < N.length
  · left
    have t := tt.trans (by rw [decide_eq_false (by omega)] : _ = some false)
    have hd : N.drop p = [N[p]] ++ N.drop (p + 1) := List.drop_eq_getElem_cons h
    refine ⟨N[p], N.drop (p + 1), hd, rd_int1 N[p] N _ p hd, ?_⟩
    show GX_read_integer [some (vecD N), some (.int (p : Int))] = none
    unfold GX_read_integer
    exact xseq_n ((xif_f t).trans rfl) ((if_f t).trans rfl) rfl
  · right
    have t := tt.trans (by rw [decide_eq_true (by omega)] : _ = some true)
    constructor
    · refine runF_no ?_
      show B_read_integer [some (vecD N), some (.int (p : Int))] = none
      unfold B_read_integer
      exact seq_no ((if_t t).trans rfl)
    · show GX_read_integer [some (vecD N), some (.int (p : Int))] = _
      unfold GX_read_integer
      exact xseq_x ((xif_t t).trans rfl)
section
variable {α : Type} {Rg : List PyData → Option PyData} {FX : List PyData → Option Str} {g : α → PyData} {e : α → Vc}
def rlX (Rg : List PyData → Option PyData) (FX : List PyData → Option Str) : GXs := (xSeq (xCall FX (fConsA (fVar 0) (fConsA (fVar 1) fNilA))) (sAsgG (gT [(gN 5), (gN 1)]) (fFn Rg (fConsA (fVar 0) (fConsA (fVar 1) fNilA)))) xNo)
theorem pl_loop (hP : Prs Rg FX g e) (hpos : ∀ a, 1 ≤ (e a).length) {N : Vc} {many : Nat} (hN : N.length ≤ 1000) : ∀ (fuel : Nat) (done : List α) (p : Nat) (x5 : Option PyData), p ≤ N.length → N.length - p + 1 ≤ fuel → done.length ≤ many → done.length + (N.length - p) ≤ 1000 →
    (∃ (xs : List α) (rest : Vc) (y5 : Option PyData), N.drop p = (xs.map e).flatten ++ rest ∧ done.length + xs.length = many ∧ many ≤ 1000 ∧ whileF rlC (rlB Rg) fuel [some (vecD N), some (.int (p : Int)), none, some (.int (many : Int)), some (.list (done.map g)), x5] = some (.nx [some (vecD N), some (.int ((p + (xs.map e).flatten.length : Nat) : Int)), none, some (.int (many : Int)), some (.list ((done ++ xs).map g)), y5]) ∧ xWhileF rlC (rlB Rg) (rlX Rg FX) fuel [some (vecD N), some (.int (p : Int)), none, some (.int (many : Int)), some (.list (done.map g)), x5] = none) ∨
    (whileF rlC (rlB Rg) fuel [some (vecD N), some (.int (p : Int)), none, some (.int (many : Int)), some (.list (done.map g)), x5] = none ∧ xWhileF rlC (rlB Rg) (rlX Rg FX) fuel [some (vecD N), some (.int (p : Int)), none, some (.int (many : Int)), some (.list (done.map g)), x5] = some bbk) := by
  intro fuel
  induction fuel with
  | zero => intro done p x5 hp hf; omega
  | succ n ih =>
    intro done p x5 hp hf hd hl
    have tt : rlC [some (vecD N), some (.int (p : Int)), none, some (.int (many : Int)), some (.list (done.map g)), x5] = some (decide (((done.length : Nat) : Int) < ((many : Nat) : Int))) := tV_b ((fBin_eq (lenL_e (h := g) (xs := done) rfl) rfl).trans (dLt_i ..))
    by_cases hm : done.length < many
    · have t := tt.trans (by rw [decide_eq_true (by omega)] : _ = some true)
      have wE : ∀ (o : Option Out), ((rlB Rg [some (vecD N), some (.int (p : Int)), none, some (.int (many : Int)), some (.list (done.map g)), x5]).bind fun o => match o with | .nx ρ2 => whileF rlC (rlB Rg) n ρ2 | .ct ρ2 => whileF rlC (rlB Rg) n ρ2 | .bk ρ2 => some (.nx ρ2) | .rt v => some (.rt v)) = o → whileF rlC (rlB Rg) (n + 1) [some (vecD N), some (.int (p : Int)), none, some (.int (many : Int)), some (.list (done.map g)), x5] = o := fun o h => by
        show (rlC _).bind _ = _
        rw [t, Option.bind_some, if_pos rfl]
        exact h
      have xE : ∀ (o : Option Str), (match rlX Rg FX [some (vecD N), some (.int (p : Int)), none, some (.int (many : Int)), some (.list (done.map g)), x5] with | some n => some n | none => (rlB Rg [some (vecD N), some (.int (p : Int)), none, some (.int (many : Int)), some (.list (done.map g)), x5]).bind fun o => match o with | .nx ρ2 => xWhileF rlC (rlB Rg) (rlX Rg FX) n ρ2 | .ct ρ2 => xWhileF rlC (rlB Rg) (rlX Rg FX) n ρ2 | _ => none) = o → xWhileF rlC (rlB Rg) (rlX Rg FX) (n + 1) [some (vecD N), some (.int (p : Int)), none, some (.int (many : Int)), some (.list (done.map g)), x5] = o := fun o h => by
        show (rlC _).bind _ = _
        rw [t, Option.bind_some, if_pos rfl]
        exact h
      rcases hP N p hN hp with ⟨a, rest, e0, e1, e2⟩ | ⟨e1, e2⟩
      · have pq := drop_le hp e0
        have pa := hpos a
        have aA : sAsgG (gT [(gN 5), (gN 1)]) (fFn Rg (fConsA (fVar 0) (fConsA (fVar 1) fNilA))) [some (vecD N), some (.int (p : Int)), none, some (.int (many : Int)), some (.list (done.map g)), x5] = some (.nx [some (vecD N), some (.int ((p + (e a).length : Nat) : Int)), none, some (.int (many : Int)), some (.list (done.map g)), some (g a)]) := asgG_nx (fnn2 rfl rfl e1) rfl
        have hB : rlB Rg [some (vecD N), some (.int (p : Int)), none, some (.int (many : Int)), some (.list (done.map g)), x5] = some (.nx [some (vecD N), some (.int ((p + (e a).length : Nat) : Int)), none, some (.int (many : Int)), some (.list ((done ++ [a]).map g)), some (g a)]) := seq_nx aA (app_d (h := g) (a := a) (xs := done) rfl rfl (by omega))
        have hX : rlX Rg FX [some (vecD N), some (.int (p : Int)), none, some (.int (many : Int)), some (.list (done.map g)), x5] = none := xseq_n (xcall_e rfl e2) aA rfl
        have hq : N.drop (p + (e a).length) = rest := drop_add e0
        rcases ih (done ++ [a]) (p + (e a).length) (some (g a)) pq (by omega) (by rw [List.length_append, List.length_singleton]; omega) (by rw [List.length_append, List.length_singleton]; omega) with ⟨xs, rest', y5, f1, f2, f3, f4, f5⟩ | ⟨f4, f5⟩
        · left
          refine ⟨a :: xs, rest', y5, ?_, by rw [List.length_append, List.length_singleton] at f2; rw [List.length_cons]; omega, f3, wE _ ?_, xE _ ?_⟩
          · rw [e0, ← hq, f1, List.map_cons, List.flatten_cons, List.append_assoc]
          · rw [hB, Option.bind_some]
            show whileF rlC (rlB Rg) n _ = _
            rw [f4, List.append_assoc, List.map_cons, List.flatten_cons, List.length_append, Nat.add_assoc] <;> rfl
          · rw [hX]
            show (rlB Rg _).bind _ = _
            rw [hB, Option.bind_some]
            exact f5
        · right
          constructor
          · refine wE _ ?_
            rw [hB, Option.bind_some]
            exact f4
          · refine xE _ ?_
            rw [hX]
            show (rlB Rg _).bind _ = _
            rw [hB, Option.bind_some]
            exact f5
      · right
        have hB : rlB Rg [some (vecD N), some (.int (p : Int)), none, some (.int (many : Int)), some (.list (done.map g)), x5] = none := seq_no (asgG_no (fn_no rfl e1))
        have hX : rlX Rg FX [some (vecD N), some (.int (p : Int)), none, some (.int (many : Int)), some (.list (done.map g)), x5] = some bbk := xseq_x (xcall_e rfl e2)
        constructor
        · refine wE _ ?_
          rw [hB] <;> rfl
        · refine xE _ ?_
          rw [hX] <;> rfl
    · left
      have t := tt.trans (by rw [decide_eq_false (by omega)] : _ = some false)
      refine ⟨[], N.drop p, x5, rfl, by rw [List.length_nil]; omega, by omega, ?_, ?_⟩
      · show (rlC _).bind _ = _
        rw [t, Option.bind_some, if_neg Bool.false_ne_true, List.append_nil]
        rfl
      · show (rlC _).bind _ = _
        rw [t, Option.bind_some, if_neg Bool.false_ne_true]
theorem prs_list (hP : Prs Rg FX g e) (hpos : ∀ a, 1 ≤ (e a).length) : Prs (RL_read_list Rg) (XL_read_list Rg FX) (fun (xs : List α) => PyData.list (xs.map g)) (fun (xs : List α) => encL (xs.map e)) := fun N p hN hp => by
  obtain ⟨W, hW⟩ : ∃ W : Nat, W = bigW := ⟨_, rfl⟩
  have hw : 1001 ≤ W := by
    rw [hW]
    exact Nat.le_trans (show 1001 ≤ 2 ^ 10 by decide) (Nat.pow_le_pow_right (by decide) (by decide))
  have rB : ∀ o : Option PyData, runF 6 (BL_read_list Rg) [vecD N, .int (p : Int)] = o → RL_read_list Rg [vecD N, .int (p : Int)] = o := fun o h => h
  have rX : ∀ o : Option Str, GXL_read_list Rg FX [some (vecD N), some (.int (p : Int)), none, none, none, none] = o → XL_read_list Rg FX [vecD N, .int (p : Int)] = o := fun o h => h
  rcases prs_int N p hN hp with ⟨z, rest, e0, e1, e2⟩ | ⟨e1, e2⟩
  · have pq : p + 1 ≤ N.length := drop_le hp e0
    have hq : N.drop (p + 1) = rest := drop_add e0
    have aA : sAsgG (gT [(gN 3), (gN 1)]) (fFn R_read_integer (fConsA (fVar 0) (fConsA (fVar 1) fNilA))) [some (vecD N), some (.int (p : Int)), none, none, none, none] = some (.nx [some (vecD N), some (.int ((p + 1 : Nat) : Int)), none, some (.int z), none, none]) := asgG_nx (fnn2 rfl rfl e1) rfl
    have aX : xCall X_read_integer (fConsA (fVar 0) (fConsA (fVar 1) fNilA)) [some (vecD N), some (.int (p : Int)), none, none, none, none] = none := xcall_e rfl e2
    have tt : tV (fBin dLt (fVar 3) (fC (.int 0))) [some (vecD N), some (.int ((p + 1 : Nat) : Int)), none, some (.int z), none, none] = some (decide (z < 0)) := (tV_b ((fBin_eq (x := .int z) (y := .int 0) rfl rfl).trans (dLt_i ..)))
    by_cases hz : z < 0
    · right
      have t := tt.trans (by rw [decide_eq_true hz] : _ = some true)
      constructor
      · refine rB _ (runF_no ?_)
        show BL_read_list Rg [some (vecD N), some (.int (p : Int)), none, none, none, none] = none
        unfold BL_read_list
        exact (seq_nx aA (seq_no ((if_t t).trans rfl)))
      · refine rX _ ?_
        unfold GXL_read_list
        exact xseq_n aX aA (xseq_x ((xif_t t).trans rfl))
    · obtain ⟨m, rfl⟩ : ∃ m : Nat, z = (m : Int) := ⟨z.toNat, by omega⟩
      have t := tt.trans (by rw [decide_eq_false hz] : _ = some false)
      have aF : sAsg 4 (fFn dList fNilA) [some (vecD N), some (.int ((p + 1 : Nat) : Int)), none, some (.int (m : Int)), none, none] = some (.nx [some (vecD N), some (.int ((p + 1 : Nat) : Int)), none, some (.int (m : Int)), some (.list (([] : List α).map g)), none]) := asg_nx (d := .list ([].map g)) rfl
      rcases pl_loop hP hpos (many := m) hN W [] (p + 1) none pq (by omega) (Nat.zero_le _) (by rw [List.length_nil]; omega) with ⟨xs, rest', y5, f1, f2, f3, f4, f5⟩ | ⟨f4, f5⟩
      · left
        rw [List.length_nil, Nat.zero_add] at f2
        rw [List.nil_append] at f4
        have el : (encL (xs.map e)).length = 1 + (xs.map e).flatten.length := by
          unfold encL
          rw [List.length_cons]
          omega
        refine ⟨xs, rest', ?_, ?_, rX _ ?_⟩
        · rw [e0, ← hq, f1]
          show _ = ((xs.map e).length : Int) :: (xs.map e).flatten ++ rest'
          rw [List.length_map, f2] <;> rfl
        · unfold RL_read_list BL_read_list
          rw [← hW]
          refine runF_rt (seq_nx aA (seq_nx ((if_f t).trans rfl) (seq_nx aF (seq_nx f4 (frzN_rt (ds := xs.map g) rfl (by rw [List.length_map]; omega) (retP1 ?_ rfl))))))
          refine (fnn2 (x := .list (xs.map g)) (y := .int ((p + 1 + (xs.map e).flatten.length : Nat) : Int)) rfl rfl rfl).trans ?_
          show some (PyData.tuple [.list (xs.map g), .int ((p + 1 + (xs.map e).flatten.length : Nat) : Int)]) = some (PyData.tuple [.list (xs.map g), .int ((p + (encL (xs.map e)).length : Nat) : Int)])
          rw [el, Nat.add_assoc]
        · unfold GXL_read_list
          rw [← hW]
          exact xseq_n aX aA (xseq_n ((xif_f t).trans rfl) ((if_f t).trans rfl) (xseq_n rfl aF (xseq_n f5 f4 rfl)))
      · right
        constructor
        · refine rB _ (runF_no ?_)
          show BL_read_list Rg [some (vecD N), some (.int (p : Int)), none, none, none, none] = none
          unfold BL_read_list
          rw [← hW]
          exact (seq_nx aA (seq_nx ((if_f t).trans rfl) (seq_nx aF (seq_no f4))))
        · refine rX _ ?_
          unfold GXL_read_list
          rw [← hW]
          exact xseq_n aX aA (xseq_n ((xif_f t).trans rfl) ((if_f t).trans rfl) (xseq_n rfl aF (xseq_x f5)))
  · right
    constructor
    · refine rB _ (runF_no ?_)
      show BL_read_list Rg [some (vecD N), some (.int (p : Int)), none, none, none, none] = none
      unfold BL_read_list
      exact seq_no (asgG_no (fn_no rfl e1))
    · refine rX _ ?_
      unfold GXL_read_list
      exact xseq_x (xcall_e rfl e2)
theorem prs_pass {R2 : List PyData → Option PyData} {X2 : List PyData → Option Str} (h : Prs Rg FX g e) (h2 : ∀ x y, R2 [x, y] = runF 2 (sRet (fFn Rg (fConsA (fVar 0) (fConsA (fVar 1) fNilA)))) [x, y]) (h3 : ∀ x y, X2 [x, y] = FX [x, y]) : Prs R2 X2 g e := fun N p hN hp => by
  rcases h N p hN hp with ⟨a, rest, e0, e1, e2⟩ | ⟨e1, e2⟩
  · left
    exact ⟨a, rest, e0, (h2 _ _).trans (runF_rt (ret_rt (fnn2 rfl rfl e1))), (h3 _ _).trans e2⟩
  · right
    exact ⟨(h2 _ _).trans (runF_no (ret_no (fn_no rfl e1))), (h3 _ _).trans e2⟩
end
theorem prs_vec : Prs R_read_vector X_read_vector vecD encV := by
  have h : Prs (RL_read_list R_read_integer) (XL_read_list R_read_integer X_read_integer) vecD encV := fun N p hN hp => by
    rcases prs_list prs_int (fun _ => Nat.le_refl _) N p hN hp with ⟨a, rest, e0, e1, e2⟩ | h
    · left
      simp only [encV_list] at e0 e1
      exact ⟨a, rest, e0, e1, e2⟩
    · exact .inr h
  exact prs_pass h (fun _ _ => rfl) (fun _ _ => rfl)
theorem prs_piece : Prs R_read_piece X_read_piece matD encP := prs_pass (prs_list (g := vecD) (e := encV) prs_vec hpV) (fun _ _ => rfl) (fun _ _ => rfl)
theorem prs_pieces : Prs R_read_pieces X_read_pieces rowD encR := prs_pass (prs_list (g := matD) (e := encP) prs_piece hpP) (fun _ _ => rfl) (fun _ _ => rfl)
theorem prs_all : Prs (RL_read_list R_read_pieces) (XL_read_list R_read_pieces X_read_pieces) pcsD encPs := prs_list (g := rowD) (e := encR) prs_pieces hpR
theorem prs_mul : Prs R_read_multipliers X_read_multipliers mlD encM := fun N p hN hp => by
  have rX : ∀ o : Option Str, GX_read_multipliers [some (vecD N), some (.int (p : Int)), none, none] = o → X_read_multipliers [vecD N, .int (p : Int)] = o := fun o h => h
  rcases prs_int N p hN hp with ⟨z, rest, e0, e1, e2⟩ | ⟨e1, e2⟩
  · have pq : p + 1 ≤ N.length := drop_le hp e0
    have hq : N.drop (p + 1) = rest := drop_add e0
    have aA : sAsgG (gT [(gN 2), (gN 1)]) (fFn R_read_integer (fConsA (fVar 0) (fConsA (fVar 1) fNilA))) [some (vecD N), some (.int (p : Int)), none, none] = some (.nx [some (vecD N), some (.int ((p + 1 : Nat) : Int)), some (.int z), none]) := asgG_nx (fnn2 rfl rfl e1) rfl
    have aX : xCall X_read_integer (fConsA (fVar 0) (fConsA (fVar 1) fNilA)) [some (vecD N), some (.int (p : Int)), none, none] = none := xcall_e rfl e2
    rcases prs_vec N (p + 1) hN pq with ⟨v, rest', f0, f1, f2⟩ | ⟨f1, f2⟩
    · left
      have bA : sAsgG (gT [(gN 3), (gN 1)]) (fFn R_read_vector (fConsA (fVar 0) (fConsA (fVar 1) fNilA))) [some (vecD N), some (.int ((p + 1 : Nat) : Int)), some (.int z), none] = some (.nx [some (vecD N), some (.int ((p + 1 + (encV v).length : Nat) : Int)), some (.int z), some (vecD v)]) := asgG_nx (fnn2 rfl rfl f1) rfl
      have el : p + (encM (z, v)).length = p + 1 + (encV v).length := by
        unfold encM encV
        simp only [List.length_cons]
        omega
      refine ⟨(z, v), rest', ?_, ?_, rX _ ?_⟩
      · rw [e0, ← hq, f0] <;> rfl
      · rw [el]
        unfold R_read_multipliers B_read_multipliers
        exact runF_rt (seq_nx aA (seq_nx bA (ret_rt (fnn2 (x := mlD (z, v)) (fnn2 rfl rfl rfl) rfl rfl))))
      · unfold GX_read_multipliers
        exact xseq_n aX aA (xseq_n (xcall_e rfl f2) bA rfl)
    · right
      constructor
      · refine runF_no ?_
        show B_read_multipliers [some (vecD N), some (.int (p : Int)), none, none] = none
        unfold B_read_multipliers
        exact seq_nx aA (seq_no (asgG_no (fn_no rfl f1)))
      · refine rX _ ?_
        unfold GX_read_multipliers
        exact xseq_n aX aA (xseq_x (xcall_e rfl f2))
  · right
    constructor
    · refine runF_no ?_
      show B_read_multipliers [some (vecD N), some (.int (p : Int)), none, none] = none
      unfold B_read_multipliers
      exact seq_no (asgG_no (fn_no rfl e1))
    · refine rX _ ?_
      unfold GX_read_multipliers
      exact xseq_x (xcall_e rfl e2)
theorem ixD_e {ρ : Rho} {f : F} {ix : Option Nat} (h : f ρ = some (.int (ixI ix))) : fIf (tV (fBin dEq f (fUn dNeg (fC (.int 1))))) (fC .none) f ρ = some (ixD ix) := by
  have tt : tV (fBin dEq f (fUn dNeg (fC (.int 1)))) ρ = some (ixI ix == -1) := t_eq h rfl
  cases ix with
  | none => exact (fIf_t (tt.trans rfl)).trans rfl
  | some k =>
    refine (fIf_f (tt.trans ?_)).trans h
    show some ((k : Int) == -1) = some false
    rw [beq_eq_false_iff_ne.mpr (by omega)]
theorem prs_claim : Prs R_read_claim X_read_claim clD encC := fun N p hN hp => by
  have rX : ∀ o : Option Str, GX_read_claim [some (vecD N), some (.int (p : Int)), none, none] = o → X_read_claim [vecD N, .int (p : Int)] = o := fun o h => h
  rcases prs_int N p hN hp with ⟨z, rest, e0, e1, e2⟩ | ⟨e1, e2⟩
  · have pq : p + 1 ≤ N.length := drop_le hp e0
    have hq : N.drop (p + 1) = rest := drop_add e0
    have aA : sAsgG (gT [(gN 2), (gN 1)]) (fFn R_read_integer (fConsA (fVar 0) (fConsA (fVar 1) fNilA))) [some (vecD N), some (.int (p : Int)), none, none] = some (.nx [some (vecD N), some (.int ((p + 1 : Nat) : Int)), some (.int z), none]) := asgG_nx (fnn2 rfl rfl e1) rfl
    have aX : xCall X_read_integer (fConsA (fVar 0) (fConsA (fVar 1) fNilA)) [some (vecD N), some (.int (p : Int)), none, none] = none := xcall_e rfl e2
    have tt : tV (fBin dLt (fVar 2) (fUn dNeg (fC (.int 1)))) [some (vecD N), some (.int ((p + 1 : Nat) : Int)), some (.int z), none] = some (decide (z < -1)) := (tV_b ((fBin_eq (x := .int z) (y := .int (-1)) rfl rfl).trans (dLt_i ..)))
    by_cases hz : z < -1
    · right
      have t := tt.trans (by rw [decide_eq_true hz] : _ = some true)
      constructor
      · refine runF_no ?_
        show B_read_claim [some (vecD N), some (.int (p : Int)), none, none] = none
        unfold B_read_claim
        exact seq_nx aA (seq_no ((if_t t).trans rfl))
      · refine rX _ ?_
        unfold GX_read_claim
        exact xseq_n aX aA (xseq_x ((xif_t t).trans rfl))
    · have t := tt.trans (by rw [decide_eq_false hz] : _ = some false)
      obtain ⟨ix, rfl⟩ : ∃ ix : Option Nat, z = ixI ix := by
        by_cases h : z = -1
        · exact ⟨none, h⟩
        · exact ⟨some z.toNat, by show z = ((z.toNat : Nat) : Int); omega⟩
      rcases prs_list (g := mlD) (e := encM) prs_mul hpM N (p + 1) hN pq with ⟨ms, rest', f0, f1, f2⟩ | ⟨f1, f2⟩
      · left
        have bA : sAsgG (gT [(gN 3), (gN 1)]) (fFn (RL_read_list R_read_multipliers) (fConsA (fVar 0) (fConsA (fVar 1) fNilA))) [some (vecD N), some (.int ((p + 1 : Nat) : Int)), some (.int (ixI ix)), none] = some (.nx [some (vecD N), some (.int ((p + 1 + (encL (ms.map encM)).length : Nat) : Int)), some (.int (ixI ix)), some (.list (ms.map mlD))]) := asgG_nx (fnn2 rfl rfl f1) rfl
        have el : p + (encC (ix, ms)).length = p + 1 + (encL (ms.map encM)).length := by
          unfold encC
          rw [List.length_cons]
          show p + ((encL (ms.map encM)).length + 1) = _
          omega
        refine ⟨(ix, ms), rest', ?_, ?_, rX _ ?_⟩
        · rw [e0, ← hq, f0] <;> rfl
        · rw [el]
          unfold R_read_claim B_read_claim
          exact runF_rt (seq_nx aA (seq_nx ((if_f t).trans rfl) (seq_nx bA (ret_rt (fnn2 (x := clD (ix, ms)) (fnn2 (ixD_e rfl) rfl rfl) rfl rfl)))))
        · unfold GX_read_claim
          exact xseq_n aX aA (xseq_n ((xif_f t).trans rfl) ((if_f t).trans rfl) (xseq_n (xcall_e rfl f2) bA rfl))
      · right
        constructor
        · refine runF_no ?_
          show B_read_claim [some (vecD N), some (.int (p : Int)), none, none] = none
          unfold B_read_claim
          exact seq_nx aA (seq_nx ((if_f t).trans rfl) (seq_no (asgG_no (fn_no rfl f1))))
        · refine rX _ ?_
          unfold GX_read_claim
          exact xseq_n aX aA (xseq_n ((xif_f t).trans rfl) ((if_f t).trans rfl) (xseq_x (xcall_e rfl f2)))
  · right
    constructor
    · refine runF_no ?_
      show B_read_claim [some (vecD N), some (.int (p : Int)), none, none] = none
      unfold B_read_claim
      exact seq_no (asgG_no (fn_no rfl e1))
    · refine rX _ ?_
      unfold GX_read_claim
      exact xseq_x (xcall_e rfl e2)
theorem prs_claims : Prs R_read_claims X_read_claims clsD encCs := prs_pass (prs_list (g := clD) (e := encC) prs_claim hpC) (fun _ _ => rfl) (fun _ _ => rfl)
theorem prs_grp : Prs (RL_read_list R_read_claims) (XL_read_list R_read_claims X_read_claims) grD encG := prs_list (g := clsD) (e := encCs) prs_claims hpCs
theorem loopX {α : Type} {h : α → PyData} {k : FG} {B : FS} {BX : GXs} {n : Str} {I : Rho → Prop} {Good : α → Prop} : ∀ (xs : List α) (ρ : Rho), I ρ → (∀ x ∈ xs, ∀ ρ, I ρ → ∃ ρ1, k (h x) ρ = some ρ1 ∧ ((Good x ∧ ∃ ρ2, B ρ1 = some (.nx ρ2) ∧ BX ρ1 = none ∧ I ρ2) ∨ (¬ Good x ∧ B ρ1 = none ∧ BX ρ1 = some n))) →
    ((∀ x ∈ xs, Good x) ∧ ∃ ρ2, loopF k B (xs.map h) ρ = some (.nx ρ2) ∧ xLoop k B BX (xs.map h) ρ = none ∧ I ρ2) ∨ ((¬ ∀ x ∈ xs, Good x) ∧ loopF k B (xs.map h) ρ = none ∧ xLoop k B BX (xs.map h) ρ = some n) := by
  intro xs
  induction xs with
  | nil => exact fun ρ hi _ => .inl ⟨fun _ h => (nomatch h), ρ, rfl, rfl, hi⟩
  | cons x xs ih =>
    intro ρ hi st
    obtain ⟨ρ1, k1, hx⟩ := st x List.mem_cons_self ρ hi
    have fE : ∀ o, ((B ρ1).bind fun o => match o with | .nx ρ2 => loopF k B (xs.map h) ρ2 | .ct ρ2 => loopF k B (xs.map h) ρ2 | .bk ρ2 => some (.nx ρ2) | .rt v => some (.rt v)) = o → loopF k B ((x :: xs).map h) ρ = o := fun o e => by
      show (k (h x) ρ).bind _ = _
      rw [k1, Option.bind_some]
      exact e
    have xE : ∀ o, (match BX ρ1 with | some n => some n | none => (B ρ1).bind fun o => match o with | .nx ρ2 => xLoop k B BX (xs.map h) ρ2 | .ct ρ2 => xLoop k B BX (xs.map h) ρ2 | _ => none) = o → xLoop k B BX ((x :: xs).map h) ρ = o := fun o e => by
      rw [List.map_cons]
      unfold xLoop
      rw [k1]
      exact e
    rcases hx with ⟨hg, ρ2, e1, e2, i2⟩ | ⟨hg, e1, e2⟩
    · rcases ih ρ2 i2 (fun y hy => st y (List.mem_cons_of_mem _ hy)) with ⟨g2, ρ3, f1, f2, i3⟩ | ⟨g2, f1, f2⟩
      · refine .inl ⟨fun y hy => ?_, ρ3, fE _ ?_, xE _ ?_, i3⟩
        · rcases List.mem_cons.mp hy with rfl | hy
          · exact hg
          · exact g2 y hy
        · rw [e1, Option.bind_some]
          exact f1
        · rw [e2]
          show (B ρ1).bind _ = _
          rw [e1, Option.bind_some]
          exact f2
      · refine .inr ⟨fun z => g2 fun y hy => z y (List.mem_cons_of_mem _ hy), fE _ ?_, xE _ ?_⟩
        · rw [e1, Option.bind_some]
          exact f1
        · rw [e2]
          show (B ρ1).bind _ = _
          rw [e1, Option.bind_some]
          exact f2
    · refine .inr ⟨fun z => hg (z x List.mem_cons_self), fE _ ?_, xE _ ?_⟩
      · rw [e1] <;> rfl
      · rw [e2] <;> rfl
theorem xfor_eq {src : FA} {k : FG} {B : FS} {BX : GXs} {ρ : Rho} {ds : List PyData} (h : src ρ = some ds) : xFor src k B BX ρ = xLoop k B BX ds ρ := by
  unfold xFor
  rw [h, Option.bind_some]
def ckB1 : FS := (sIf (tV (fBin dNe (fFn (g1 dLen) (fConsA (fVar 4) fNilA)) (fBin dAdd (fVar 1) (fC (.int 1))))) sErr sNil)
def ckX1 : GXs := (xIf (tV (fBin dNe (fFn (g1 dLen) (fConsA (fVar 4) fNilA)) (fBin dAdd (fVar 1) (fC (.int 1))))) (fun _ => some bbk) xNo)
def ckB2 : FS := sFor (iSeq (fVar 3)) (gN 4) ckB1
def ckX2 : GXs := xFor (iSeq (fVar 3)) (gN 4) ckB1 ckX1
def ckB3 : FS := sFor (iSeq (fVar 2)) (gN 3) ckB2
def ckX3 : GXs := xFor (iSeq (fVar 2)) (gN 3) ckB2 ckX2
def GdP (n : Nat) (P : List (List (List Vc))) : Prop := ∀ r ∈ P, ∀ q ∈ r, ∀ v ∈ q, v.length = n + 1
theorem ck_all {n : Nat} {P : List (List (List Vc))} : (GdP n P ∧ R_check_pieces [pcsD P, .int (n : Int)] = some .none ∧ X_check_pieces [pcsD P, .int (n : Int)] = none) ∨ (¬ GdP n P ∧ R_check_pieces [pcsD P, .int (n : Int)] = none ∧ X_check_pieces [pcsD P, .int (n : Int)] = some bbk) := by
  have key := loopX (h := rowD) (k := gN 2) (B := ckB3) (BX := ckX3) (n := bbk) (I := fun ρ => ∃ x2 x3 x4 : Option PyData, ρ = [some (pcsD P), some (.int (n : Int)), x2, x3, x4]) (Good := fun r => ∀ q ∈ r, ∀ v ∈ q, v.length = n + 1) P [some (pcsD P), some (.int (n : Int)), none, none, none] ⟨_, _, _, rfl⟩ (fun r hr ρ hρ => by
    obtain ⟨x2, x3, x4, rfl⟩ := hρ
    refine ⟨_, rfl, ?_⟩
    show (_ ∧ ∃ ρ2, ckB3 [some (pcsD P), some (.int (n : Int)), some (rowD r), x3, x4] = some (.nx ρ2) ∧ ckX3 [some (pcsD P), some (.int (n : Int)), some (rowD r), x3, x4] = none ∧ _) ∨ (_ ∧ ckB3 [some (pcsD P), some (.int (n : Int)), some (rowD r), x3, x4] = none ∧ ckX3 [some (pcsD P), some (.int (n : Int)), some (rowD r), x3, x4] = some bbk)
    have e3 : ckB3 [some (pcsD P), some (.int (n : Int)), some (rowD r), x3, x4] = loopF (gN 3) ckB2 (r.map matD) [some (pcsD P), some (.int (n : Int)), some (rowD r), x3, x4] := for_eq rfl
    have y3 : ckX3 [some (pcsD P), some (.int (n : Int)), some (rowD r), x3, x4] = xLoop (gN 3) ckB2 ckX2 (r.map matD) [some (pcsD P), some (.int (n : Int)), some (rowD r), x3, x4] := xfor_eq rfl
    rw [e3, y3]
    have key2 := loopX (h := matD) (k := gN 3) (B := ckB2) (BX := ckX2) (n := bbk) (I := fun ρ => ∃ x3 x4 : Option PyData, ρ = [some (pcsD P), some (.int (n : Int)), some (rowD r), x3, x4]) (Good := fun q => ∀ v ∈ q, v.length = n + 1) r [some (pcsD P), some (.int (n : Int)), some (rowD r), x3, x4] ⟨_, _, rfl⟩ (fun q hq ρ hρ => by
      obtain ⟨x3, x4, rfl⟩ := hρ
      refine ⟨_, rfl, ?_⟩
      show (_ ∧ ∃ ρ2, ckB2 [some (pcsD P), some (.int (n : Int)), some (rowD r), some (matD q), x4] = some (.nx ρ2) ∧ ckX2 [some (pcsD P), some (.int (n : Int)), some (rowD r), some (matD q), x4] = none ∧ _) ∨ (_ ∧ ckB2 [some (pcsD P), some (.int (n : Int)), some (rowD r), some (matD q), x4] = none ∧ ckX2 [some (pcsD P), some (.int (n : Int)), some (rowD r), some (matD q), x4] = some bbk)
      have e2 : ckB2 [some (pcsD P), some (.int (n : Int)), some (rowD r), some (matD q), x4] = loopF (gN 4) ckB1 (q.map vecD) [some (pcsD P), some (.int (n : Int)), some (rowD r), some (matD q), x4] := for_eq rfl
      have y2 : ckX2 [some (pcsD P), some (.int (n : Int)), some (rowD r), some (matD q), x4] = xLoop (gN 4) ckB1 ckX1 (q.map vecD) [some (pcsD P), some (.int (n : Int)), some (rowD r), some (matD q), x4] := xfor_eq rfl
      rw [e2, y2]
      have key3 := loopX (h := vecD) (k := gN 4) (B := ckB1) (BX := ckX1) (n := bbk) (I := fun ρ => ∃ x4 : Option PyData, ρ = [some (pcsD P), some (.int (n : Int)), some (rowD r), some (matD q), x4]) (Good := fun v => v.length = n + 1) q [some (pcsD P), some (.int (n : Int)), some (rowD r), some (matD q), x4] ⟨_, rfl⟩ (fun v hv ρ hρ => by
        obtain ⟨x4, rfl⟩ := hρ
        refine ⟨_, rfl, ?_⟩
        have tt : tV (fBin dNe (fFn (g1 dLen) (fConsA (fVar 4) fNilA)) (fBin dAdd (fVar 1) (fC (.int 1)))) [some (pcsD P), some (.int (n : Int)), some (rowD r), some (matD q), some (vecD v)] = some (!((v.length : Int) == ((n + 1 : Nat) : Int))) := tV_b ((fBin_eq (lenL_e (h := PyData.int) (xs := v) rfl) (suc_v (n := n) rfl)).trans (dNe_i ..))
        by_cases hl : v.length = n + 1
        · have t := tt.trans (by rw [hl]; simp : _ = some false)
          exact .inl ⟨hl, _, (if_f t).trans rfl, (xif_f t).trans rfl, _, rfl⟩
        · have t := tt.trans (by rw [beq_eq_false_iff_ne.mpr (by omega)]; rfl : _ = some true)
          exact .inr ⟨hl, (if_t t).trans rfl, (xif_t t).trans rfl⟩)
      rcases key3 with ⟨g1, ρ2, f1, f2, x4', rfl⟩ | ⟨g1, f1, f2⟩
      · exact .inl ⟨g1, _, f1, f2, _, _, rfl⟩
      · exact .inr ⟨g1, f1, f2⟩)
    rcases key2 with ⟨g1, ρ2, f1, f2, x3', x4', rfl⟩ | ⟨g1, f1, f2⟩
    · exact .inl ⟨g1, _, f1, f2, _, _, _, rfl⟩
    · exact .inr ⟨g1, f1, f2⟩)
  have eB : B_check_pieces [some (pcsD P), some (.int (n : Int)), none, none, none] = loopF (gN 2) ckB3 (P.map rowD) [some (pcsD P), some (.int (n : Int)), none, none, none] := for_eq rfl
  have eX0 : GX_check_pieces [some (pcsD P), some (.int (n : Int)), none, none, none] = xLoop (gN 2) ckB3 ckX3 (P.map rowD) [some (pcsD P), some (.int (n : Int)), none, none, none] := xfor_eq rfl
  have eX : X_check_pieces [pcsD P, .int (n : Int)] = xLoop (gN 2) ckB3 ckX3 (P.map rowD) [some (pcsD P), some (.int (n : Int)), none, none, none] := eX0
  rcases key with ⟨g1, ρ2, f1, f2, _⟩ | ⟨g1, f1, f2⟩
  · refine .inl ⟨g1, ?_, eX.trans f2⟩
    unfold R_check_pieces runF
    have e' : B_check_pieces (([pcsD P, .int (n : Int)] : List PyData).map some ++ List.replicate (5 - ([pcsD P, .int (n : Int)] : List PyData).length) none) = some (.nx ρ2) := eB.trans f1
    rw [e'] <;> rfl
  · exact .inr ⟨g1, runF_no (eB.trans f1), eX.trans f2⟩
def Bk (N : Vc) (n : Nat) (o : Option PyData) (x : Option Str) : Prop := (∃ c : Ct, N = enc c ∧ GdP n c.P ∧ o = some (ctD c) ∧ x = none) ∨ (o = none ∧ x = some bbk)
theorem book_all {N : Vc} {n : Nat} (hN : N.length ≤ 1000) : Bk N n (R_read_book [vecD N, .int (n : Int)]) (X_read_book [vecD N, .int (n : Int)]) := by
  have rN : B_read_book [some (vecD N), some (.int (n : Int)), none, none, none, none, none, none] = none → R_read_book [vecD N, .int (n : Int)] = none := fun h => runF_no h
  have rX : ∀ o : Option Str, GX_read_book [some (vecD N), some (.int (n : Int)), none, none, none, none, none, none] = o → X_read_book [vecD N, .int (n : Int)] = o := fun o h => h
  rcases prs_all N 0 hN (Nat.zero_le _) with ⟨P, r1, d1, e1, y1⟩ | ⟨e1, y1⟩
  rotate_left
  · refine .inr ⟨rN ?_, rX _ ?_⟩
    · unfold B_read_book
      exact seq_no (asgG_no (fn_no rfl e1))
    · unfold GX_read_book
      exact xseq_x (xcall_e rfl y1)
  have q1 := drop_le (Nat.zero_le _) d1
  have z1 := drop_add d1
  have aA : sAsgG (gT [(gN 2), (gN 3)]) (fFn (RL_read_list R_read_pieces) (fConsA (fVar 0) (fConsA (fC (.int 0)) fNilA))) [some (vecD N), some (.int (n : Int)), none, none, none, none, none, none] = some (.nx [some (vecD N), some (.int (n : Int)), some (pcsD P), some (.int ((0 + (encPs P).length : Nat) : Int)), none, none, none, none]) := asgG_nx (fnn2 rfl rfl e1) rfl
  have aX : xCall (XL_read_list R_read_pieces X_read_pieces) (fConsA (fVar 0) (fConsA (fC (.int 0)) fNilA)) [some (vecD N), some (.int (n : Int)), none, none, none, none, none, none] = none := xcall_e rfl y1
  generalize 0 + (encPs P).length = p1 at q1 z1 aA
  rcases ck_all (n := n) (P := P) with ⟨hg, c1, c2⟩ | ⟨_, c1, c2⟩
  rotate_left
  · refine .inr ⟨rN ?_, rX _ ?_⟩
    · unfold B_read_book
      exact seq_nx aA (seq_no (drop_no (fn_no rfl c1)))
    · unfold GX_read_book
      exact xseq_n aX aA (xseq_x (xcall_e rfl c2))
  have bA : sDrop (fFn R_check_pieces (fConsA (fVar 2) (fConsA (fVar 1) fNilA))) [some (vecD N), some (.int (n : Int)), some (pcsD P), some (.int (p1 : Int)), none, none, none, none] = some (.nx [some (vecD N), some (.int (n : Int)), some (pcsD P), some (.int (p1 : Int)), none, none, none, none]) := drop_nx (fnn2 rfl rfl c1)
  have bX : xCall X_check_pieces (fConsA (fVar 2) (fConsA (fVar 1) fNilA)) [some (vecD N), some (.int (n : Int)), some (pcsD P), some (.int (p1 : Int)), none, none, none, none] = none := xcall_e rfl c2
  rcases prs_claims N p1 hN q1 with ⟨S, r2, d2, e2, y2⟩ | ⟨e2, y2⟩
  rotate_left
  · refine .inr ⟨rN ?_, rX _ ?_⟩
    · unfold B_read_book
      exact seq_nx aA (seq_nx bA (seq_no (asgG_no (fn_no rfl e2))))
    · unfold GX_read_book
      exact xseq_n aX aA (xseq_n bX bA (xseq_x (xcall_e rfl y2)))
  have q2 := drop_le q1 d2
  have z2 := drop_add d2
  have cA : sAsgG (gT [(gN 4), (gN 3)]) (fFn R_read_claims (fConsA (fVar 0) (fConsA (fVar 3) fNilA))) [some (vecD N), some (.int (n : Int)), some (pcsD P), some (.int (p1 : Int)), none, none, none, none] = some (.nx [some (vecD N), some (.int (n : Int)), some (pcsD P), some (.int ((p1 + (encCs S).length : Nat) : Int)), some (clsD S), none, none, none]) := asgG_nx (fnn2 rfl rfl e2) rfl
  have cX : xCall X_read_claims (fConsA (fVar 0) (fConsA (fVar 3) fNilA)) [some (vecD N), some (.int (n : Int)), some (pcsD P), some (.int (p1 : Int)), none, none, none, none] = none := xcall_e rfl y2
  generalize p1 + (encCs S).length = p2 at q2 z2 cA
  rcases prs_grp N p2 hN q2 with ⟨W, r3, d3, e3, y3⟩ | ⟨e3, y3⟩
  rotate_left
  · refine .inr ⟨rN ?_, rX _ ?_⟩
    · unfold B_read_book
      exact seq_nx aA (seq_nx bA (seq_nx cA (seq_no (asgG_no (fn_no rfl e3)))))
    · unfold GX_read_book
      exact xseq_n aX aA (xseq_n bX bA (xseq_n cX cA (xseq_x (xcall_e rfl y3))))
  have q3 := drop_le q2 d3
  have z3 := drop_add d3
  have dA : sAsgG (gT [(gN 5), (gN 3)]) (fFn (RL_read_list R_read_claims) (fConsA (fVar 0) (fConsA (fVar 3) fNilA))) [some (vecD N), some (.int (n : Int)), some (pcsD P), some (.int (p2 : Int)), some (clsD S), none, none, none] = some (.nx [some (vecD N), some (.int (n : Int)), some (pcsD P), some (.int ((p2 + (encG W).length : Nat) : Int)), some (clsD S), some (grD W), none, none]) := asgG_nx (fnn2 rfl rfl e3) rfl
  have dX : xCall (XL_read_list R_read_claims X_read_claims) (fConsA (fVar 0) (fConsA (fVar 3) fNilA)) [some (vecD N), some (.int (n : Int)), some (pcsD P), some (.int (p2 : Int)), some (clsD S), none, none, none] = none := xcall_e rfl y3
  generalize p2 + (encG W).length = p3 at q3 z3 dA
  rcases prs_grp N p3 hN q3 with ⟨J, r4, d4, e4, y4⟩ | ⟨e4, y4⟩
  rotate_left
  · refine .inr ⟨rN ?_, rX _ ?_⟩
    · unfold B_read_book
      exact seq_nx aA (seq_nx bA (seq_nx cA (seq_nx dA (seq_no (asgG_no (fn_no rfl e4))))))
    · unfold GX_read_book
      exact xseq_n aX aA (xseq_n bX bA (xseq_n cX cA (xseq_n dX dA (xseq_x (xcall_e rfl y4)))))
  have q4 := drop_le q3 d4
  have z4 := drop_add d4
  have fA : sAsgG (gT [(gN 6), (gN 3)]) (fFn (RL_read_list R_read_claims) (fConsA (fVar 0) (fConsA (fVar 3) fNilA))) [some (vecD N), some (.int (n : Int)), some (pcsD P), some (.int (p3 : Int)), some (clsD S), some (grD W), none, none] = some (.nx [some (vecD N), some (.int (n : Int)), some (pcsD P), some (.int ((p3 + (encG J).length : Nat) : Int)), some (clsD S), some (grD W), some (grD J), none]) := asgG_nx (fnn2 rfl rfl e4) rfl
  have fX : xCall (XL_read_list R_read_claims X_read_claims) (fConsA (fVar 0) (fConsA (fVar 3) fNilA)) [some (vecD N), some (.int (n : Int)), some (pcsD P), some (.int (p3 : Int)), some (clsD S), some (grD W), none, none] = none := xcall_e rfl y4
  generalize p3 + (encG J).length = p4 at q4 z4 fA
  rcases prs_grp N p4 hN q4 with ⟨E, r5, d5, e5, y5⟩ | ⟨e5, y5⟩
  rotate_left
  · refine .inr ⟨rN ?_, rX _ ?_⟩
    · unfold B_read_book
      exact seq_nx aA (seq_nx bA (seq_nx cA (seq_nx dA (seq_nx fA (seq_no (asgG_no (fn_no rfl e5)))))))
    · unfold GX_read_book
      exact xseq_n aX aA (xseq_n bX bA (xseq_n cX cA (xseq_n dX dA (xseq_n fX fA (xseq_x (xcall_e rfl y5))))))
  have q5 := drop_le q4 d5
  have z5 := drop_add d5
  have gA : sAsgG (gT [(gN 7), (gN 3)]) (fFn (RL_read_list R_read_claims) (fConsA (fVar 0) (fConsA (fVar 3) fNilA))) [some (vecD N), some (.int (n : Int)), some (pcsD P), some (.int (p4 : Int)), some (clsD S), some (grD W), some (grD J), none] = some (.nx [some (vecD N), some (.int (n : Int)), some (pcsD P), some (.int ((p4 + (encG E).length : Nat) : Int)), some (clsD S), some (grD W), some (grD J), some (grD E)]) := asgG_nx (fnn2 rfl rfl e5) rfl
  have gX : xCall (XL_read_list R_read_claims X_read_claims) (fConsA (fVar 0) (fConsA (fVar 3) fNilA)) [some (vecD N), some (.int (n : Int)), some (pcsD P), some (.int (p4 : Int)), some (clsD S), some (grD W), some (grD J), none] = none := xcall_e rfl y5
  generalize p4 + (encG E).length = p5 at q5 z5 gA
  have tt : tV (fBin dNe (fVar 3) (fFn (g1 dLen) (fConsA (fVar 0) fNilA))) [some (vecD N), some (.int (n : Int)), some (pcsD P), some (.int (p5 : Int)), some (clsD S), some (grD W), some (grD J), some (grD E)] = some (!((p5 : Int) == (N.length : Int))) := tV_b ((fBin_eq rfl (lenL_e (h := PyData.int) (xs := N) rfl)).trans (dNe_i ..))
  by_cases hp : p5 = N.length
  · have t := tt.trans (by rw [hp]; simp : _ = some false)
    refine .inl ⟨⟨P, S, W, J, E⟩, ?_, hg, ?_, rX _ ?_⟩
    · have w5 : r5 = [] := by
        rw [← z5, hp]
        exact List.drop_eq_nil_of_le (Nat.le_refl _)
      have k0 : N = encPs P ++ r1 := d1
      have k1 : r1 = encCs S ++ r2 := z1.symm.trans d2
      have k2 : r2 = encG W ++ r3 := z2.symm.trans d3
      have k3 : r3 = encG J ++ r4 := z3.symm.trans d4
      have k4 : r4 = encG E ++ r5 := z4.symm.trans d5
      show N = encPs P ++ encCs S ++ encG W ++ encG J ++ encG E
      rw [k0, k1, k2, k3, k4, w5, List.append_nil]
      simp only [List.append_assoc]
    · unfold R_read_book B_read_book
      exact runF_rt (seq_nx aA (seq_nx bA (seq_nx cA (seq_nx dA (seq_nx fA (seq_nx gA (seq_nx ((if_f t).trans rfl) (ret_rt (fFn_c (ds := [pcsD P, clsD S, grD W, grD J, grD E]) rfl rfl)))))))))
    · unfold GX_read_book
      exact xseq_n aX aA (xseq_n bX bA (xseq_n cX cA (xseq_n dX dA (xseq_n fX fA (xseq_n gX gA (xseq_n ((xif_f t).trans rfl) ((if_f t).trans rfl) rfl))))))
  · have t := tt.trans (by rw [beq_eq_false_iff_ne.mpr (by omega)]; rfl : _ = some true)
    refine .inr ⟨rN ?_, rX _ ?_⟩
    · unfold B_read_book
      exact seq_nx aA (seq_nx bA (seq_nx cA (seq_nx dA (seq_nx fA (seq_nx gA (seq_no ((if_t t).trans rfl)))))))
    · unfold GX_read_book
      exact xseq_n aX aA (xseq_n bX bA (xseq_n cX cA (xseq_n dX dA (xseq_n fX fA (xseq_n gX gA (xseq_x ((xif_t t).trans rfl)))))))
theorem told_all {N : Vc} {n : Nat} (hN : N.length ≤ 1000) : (∃ c : Ct, N = enc c ∧ GdP n c.P ∧ R_law_told [vecD N, .int (n : Int)] = some (ctD c)) ∨ (R_law_told [vecD N, .int (n : Int)] = some .none ∧ R_read_book [vecD N, .int (n : Int)] = none) := by
  have hs : ∀ o : Option PyData, fFn R_read_book (fAppA (fConsA (fVar 0) fNilA) (fConsA (fVar 1) fNilA)) [some (vecD N), some (.int (n : Int)), none] = o → fFn R_read_book (fAppA (fConsA (fVar 0) fNilA) (fConsA (fVar 1) fNilA)) [some (vecD N), some (.int (n : Int)), none] = o := fun _ h => h
  rcases book_all (n := n) hN with ⟨c, h1, h2, h3, h4⟩ | ⟨h3, h4⟩
  · left
    refine ⟨c, h1, h2, ?_⟩
    unfold R_law_told B_law_told
    refine runF_rt ?_
    have e : fFn R_read_book (fAppA (fConsA (fVar 0) fNilA) (fConsA (fVar 1) fNilA)) [some (vecD N), some (.int (n : Int)), none] = some (ctD c) := fFn_c (ds := [vecD N, .int (n : Int)]) rfl h3
    show sTryRA 2 _ _ _ _ [some (vecD N), some (.int (n : Int)), none] = _
    unfold sTryRA
    rw [e]
  · right
    refine ⟨?_, h3⟩
    unfold R_law_told B_law_told
    refine runF_rt ?_
    have e : fFn R_read_book (fAppA (fConsA (fVar 0) fNilA) (fConsA (fVar 1) fNilA)) [some (vecD N), some (.int (n : Int)), none] = none := fn_no (ds := [vecD N, .int (n : Int)]) rfl h3
    have x : xCall X_read_book (fAppA (fConsA (fVar 0) fNilA) (fConsA (fVar 1) fNilA)) [some (vecD N), some (.int (n : Int)), none] = some bbk := xcall_e (ds := [vecD N, .int (n : Int)]) rfl h4
    show sTryRA 2 _ _ _ _ [some (vecD N), some (.int (n : Int)), none] = _
    unfold sTryRA
    rw [e]
    show (if xCall X_read_book (fAppA (fConsA (fVar 0) fNilA) (fConsA (fVar 1) fNilA)) [some (vecD N), some (.int (n : Int)), none] = some bbk then _ else none) = _
    rw [if_pos x] <;> rfl
def tS (D : Vc) (n : Nat) : List PyData := [vecD D, .int (n : Int)]
def DOk (D : Vc) : Prop := D.length = 60 ∧ Dg 27720 D
section
variable {ρ : Rho} {es es1 es2 : List PyData} {f fa fb : FE} {x y z : PyData}
theorem eL_e {g : F} {d : PyData} (h : g ρ = some d) : eL g ρ es = some (d, es) := by
  unfold eL
  rw [h] <;> rfl
theorem eIx_e {k : Nat} {d : PyData} (h : es[k]? = some d) : eIx k ρ es = some (d, es) := by
  unfold eIx
  rw [h] <;> rfl
theorem eBin_e {g : PyData → PyData → Option PyData} (ha : fa ρ es = some (x, es1)) (hb : fb ρ es1 = some (y, es2)) (hg : g x y = some z) : eBin g fa fb ρ es = some (z, es2) := by
  unfold eBin
  rw [ha, Option.bind_some, hb, Option.bind_some, hg] <;> rfl
theorem eLen_e (ha : f ρ es = some (x, es1)) (hg : dLen x = some z) : eLen f ρ es = some (z, es1) := by
  unfold eLen
  rw [ha, Option.bind_some, hg] <;> rfl
theorem iT1_e {v : Nat} (ha : f ρ es = some (.int (v : Int), es1)) (hv : v ≤ 1000) : iT1 f ρ es = some (rangeD 0 v, es1) := by
  unfold iT1
  rw [ha, Option.bind_some]
  have c : rgC (v : Int) = true := decide_eq_true (by omega)
  show (if rgC (v : Int) = true then some (rangeD 0 (v : Int).toNat, es1) else none) = _
  rw [if_pos c, Int.toNat_natCast]
theorem sqT_nx {G G' : FTS} {ρ' : Rho} {o : Option (Out × List PyData)} (h : G ρ es = some (.nx ρ', es1)) (h2 : G' ρ' es1 = o) : sqT G G' ρ es = o := by
  unfold sqT
  rw [h, Option.bind_some]
  exact h2
theorem sqT_rt {G G' : FTS} {d : PyData} (h : G ρ es = some (.rt d, es1)) : sqT G G' ρ es = some (.rt d, es1) := by
  unfold sqT
  rw [h, Option.bind_some]
theorem asgT_e {i : Nat} (h : f ρ es = some (x, es1)) : asgT i f ρ es = some (.nx (ρ.set i (some x)), es1) := by
  unfold asgT
  rw [h] <;> rfl
theorem retT_e (h : f ρ es = some (x, es1)) : retT f ρ es = some (.rt x, es1) := by
  unfold retT
  rw [h] <;> rfl
theorem stL_e {G : FS} {o : Out} (h : G ρ = some o) : stL G ρ es = some (o, es) := by
  unfold stL
  rw [h] <;> rfl
theorem ifT_t {c : FT} {G G' : FTS} (h : c ρ = some true) : ifT c G G' ρ es = G ρ es := by
  unfold ifT
  rw [h, Option.bind_some, if_pos rfl]
theorem ifT_f {c : FT} {G G' : FTS} (h : c ρ = some false) : ifT c G G' ρ es = G' ρ es := by
  unfold ifT
  rw [h, Option.bind_some, if_neg Bool.false_ne_true]
theorem appT_e {i : Nat} {α : Type} {h : α → PyData} {a : α} {xs : List α} (hf : f ρ es = some (h a, es1)) (h2 : ρ[i]? = some (some (.list (xs.map h)))) (hl : xs.length ≤ 1000) : appT' i f ρ es = some (.nx (ρ.set i (some (.list ((xs ++ [a]).map h)))), es1) := by
  unfold appT'
  rw [hf, Option.bind_some, h2]
  have c : catC (xs.map h).length 1 = true := catC_le (by rw [List.length_map]; omega)
  show (if catC (xs.map h).length 1 = true then some (Out.nx (ρ.set i (some (.list (xs.map h ++ [h a])))), es1) else none) = _
  rw [if_pos c, List.map_append] <;> rfl
theorem runT_e {nl : Nat} {G : FTS} {ds : List PyData} (h : G (none :: (ds.map some ++ List.replicate (nl - (ds.length + 1)) none)) es = some (.rt x, es1)) : runT nl G ds es = some (x, es1) := by
  unfold runT
  rw [h] <;> rfl
theorem eCall_e {Fn : List PyData → List PyData → Option (PyData × List PyData)} {fs : FA} {ds : List PyData} (h : fs ρ = some ds) : eCall Fn fs ρ es = Fn ds es := by
  unfold eCall
  rw [h] <;> rfl
theorem eTup2_e (ha : fa ρ es = some (x, es1)) (hb : fb ρ es1 = some (y, es2)) : eTup (esCons fa (esCons fb esNil)) ρ es = some (.tuple [x, y], es2) := by
  have e : esCons fa (esCons fb esNil) ρ es = some ([x, y], es2) := by
    unfold esCons esNil
    rw [ha, Option.bind_some, hb, Option.bind_some] <;> rfl
  unfold eTup
  rw [e] <;> rfl
end
section
variable {D : Vc}
theorem lcT_ex {α : Type} {k : FG} {el : FE} {ρ : Rho} {g : α → PyData} {P : α → Prop} {M c : Nat} : ∀ (ds : List PyData) (n : Nat), (∀ d ∈ ds, ∀ n, n ≤ M → ∃ ρ1, k d ρ = some ρ1 ∧ ∃ a n', el ρ1 (tS D n) = some (g a, tS D n') ∧ n' ≤ n + c ∧ P a) → n + c * ds.length ≤ M →
    ∃ (xs : List α) (n' : Nat), lcT k el ρ ds (tS D n) = some (xs.map g, tS D n') ∧ xs.length = ds.length ∧ n' ≤ n + c * ds.length ∧ ∀ x ∈ xs, P x
  | [], n, _, _ => ⟨[], n, rfl, rfl, Nat.le_add_right _ _, fun _ h => nomatch h⟩
  | d :: ds, n, h, hM => by
    rw [List.length_cons, Nat.mul_add, Nat.mul_one] at hM
    obtain ⟨ρ1, e1, a, n1, e2, l1, pa⟩ := h d List.mem_cons_self n (by omega)
    obtain ⟨xs, n2, e3, l2, l3, px⟩ := lcT_ex ds n1 (fun d hd => h d (List.mem_cons_of_mem _ hd)) (by omega)
    refine ⟨a :: xs, n2, ?_, by rw [List.length_cons, l2, List.length_cons], by rw [List.length_cons, Nat.mul_add, Nat.mul_one]; omega, fun x hx => ?_⟩
    · rw [lcT, e1, Option.bind_some, e2, Option.bind_some, e3] <;> rfl
    · rcases List.mem_cons.mp hx with rfl | hx
      · exact pa
      · exact px x hx
theorem lpT_ex {k : FG} {B : FTS} {I : Nat → Rho → Prop} {M c L : Nat} : ∀ (ds : List PyData) (i n : Nat) (ρ : Rho), I i ρ → (∀ d ∈ ds, ∀ i n ρ, I i ρ → i < L → n ≤ M → ∃ ρ1, k d ρ = some ρ1 ∧ ∃ ρ2 n', B ρ1 (tS D n) = some (.nx ρ2, tS D n') ∧ n' ≤ n + c ∧ I (i + 1) ρ2) → n + c * ds.length ≤ M → i + ds.length ≤ L →
    ∃ (ρ2 : Rho) (n' : Nat), lpT k B ds ρ (tS D n) = some (.nx ρ2, tS D n') ∧ n' ≤ n + c * ds.length ∧ I (i + ds.length) ρ2
  | [], i, n, ρ, hi, _, _, _ => ⟨ρ, n, rfl, Nat.le_add_right _ _, hi⟩
  | d :: ds, i, n, ρ, hi, h, hM, hL => by
    rw [List.length_cons, Nat.mul_add, Nat.mul_one] at hM
    rw [List.length_cons] at hL
    obtain ⟨ρ1, e1, ρ2, n1, e2, l1, i2⟩ := h d List.mem_cons_self i n ρ hi (by omega) (by omega)
    obtain ⟨ρ3, n2, e3, l3, i3⟩ := lpT_ex ds (i + 1) n1 ρ2 i2 (fun d hd => h d (List.mem_cons_of_mem _ hd)) (by omega) (by omega)
    refine ⟨ρ3, n2, ?_, by rw [List.length_cons, Nat.mul_add, Nat.mul_one]; omega, by rw [List.length_cons, show i + (ds.length + 1) = i + 1 + ds.length by omega]; exact i3⟩
    rw [lpT, e1, Option.bind_some, e2, Option.bind_some]
    exact e3
theorem eLc_e {α : Type} {g : α → PyData} {src : FEs} {k : FG} {el : FE} {vs : List Nat} {ρ : Rho} {ds es es1 es2 : List PyData} {xs : List α} (hs : src ρ es = some (ds, es1)) (hl : ds.length ≤ 1000) (h : lcT k el (wipeR ρ vs) ds es1 = some (xs.map g, es2)) : eLc src k el vs ρ es = some (.list (xs.map g), es2) := by
  unfold eLc
  rw [hs, Option.bind_some]
  have c : catC ds.length 1 = true := catC_le (by omega)
  show (if catC ds.length 1 = true then (lcT k el (wipeR ρ vs) ds es1).map (fun q => (PyData.list q.1, q.2)) else none) = _
  rw [if_pos c, h] <;> rfl
theorem forT_e {src : FEs} {k : FG} {B : FTS} {ρ : Rho} {ds es es1 : List PyData} {o : Option (Out × List PyData)} (hs : src ρ es = some (ds, es1)) (h : lpT k B ds ρ es1 = o) : forT src k B ρ es = o := by
  unfold forT
  rw [hs, Option.bind_some]
  exact h
def MM : Nat := 100000
theorem take_e (hD : DOk D) {count n : Nat} (hc : 0 < count) (hc2 : count ≤ 100000) (hn : n ≤ MM) : ∃ v : Nat, v < count ∧ RT_law_take [.int (count : Int)] (tS D n) = some (.int (v : Int), tS D (n + 1)) := by
  obtain ⟨hl, hd⟩ := hD
  unfold MM at hn
  obtain ⟨w0, w1⟩ := hd.av (by decide) (n % 60)
  obtain ⟨w, hw⟩ : ∃ w : Int, D[n % 60]? = some w := ⟨_, List.getElem?_eq_getElem (by omega)⟩
  have hav : av D (n % 60) = w := by
    unfold av
    rw [List.getD_eq_getElem?_getD, hw] <;> rfl
  rw [hav] at w0 w1
  have q0 : (0 : Int) ≤ w / (1 + (n : Int) / 60) := Int.ediv_nonneg w0 (by omega)
  have m0 : (0 : Int) ≤ w / (1 + (n : Int) / 60) % (count : Int) := Int.emod_nonneg _ (by omega)
  have m1 : w / (1 + (n : Int) / 60) % (count : Int) < (count : Int) := Int.emod_lt_of_pos _ (by omega)
  refine ⟨(w / (1 + (n : Int) / 60) % (count : Int)).toNat, by omega, ?_⟩
  rw [Int.toNat_of_nonneg m0]
  have e1 : eIx 1 [none, some (.int (count : Int)), none] (tS D n) = some (.int (n : Int), tS D n) := eIx_e rfl
  have e2 : setT 1 (eL (fBin dAdd (fVar 2) (fC (.int 1)))) [none, some (.int (count : Int)), some (.int (n : Int))] (tS D n) = some (.nx [none, some (.int (count : Int)), some (.int (n : Int))], tS D (n + 1)) := by
    have e : eL (fBin dAdd (fVar 2) (fC (.int 1))) [none, some (.int (count : Int)), some (.int (n : Int))] (tS D n) = some (.int ((n + 1 : Nat) : Int), tS D n) := eL_e (suc_v rfl)
    unfold setT
    rw [e] <;> rfl
  have len : ∀ ρ m, eLen (eIx 0) ρ (tS D m) = some (.int 60, tS D m) := fun ρ m => eLen_e (x := vecD D) (eIx_e rfl) ((lst_len' PyData.int D).trans (by rw [hl] <;> rfl))
  have vn : ∀ m, eL (fVar 2) [none, some (.int (count : Int)), some (.int (n : Int))] (tS D m) = some (.int (n : Int), tS D m) := fun m => eL_e rfl
  have i1 : eBin dMod (eL (fVar 2)) (eLen (eIx 0)) [none, some (.int (count : Int)), some (.int (n : Int))] (tS D (n + 1)) = some (.int ((n % 60 : Nat) : Int), tS D (n + 1)) := eBin_e (vn _) (len _ _) ((dMod_p (by decide)).trans (by rw [show (n : Int) % 60 = ((n % 60 : Nat) : Int) by omega]))
  have i2 : eBin dIx (eIx 0) (eBin dMod (eL (fVar 2)) (eLen (eIx 0))) [none, some (.int (count : Int)), some (.int (n : Int))] (tS D (n + 1)) = some (.int w, tS D (n + 1)) := eBin_e (x := vecD D) (eIx_e rfl) i1 (ls_ix (h := PyData.int) (xs := D) hw)
  have i3 : eBin dAdd (eL (fC (.int 1))) (eBin dDiv (eL (fVar 2)) (eLen (eIx 0))) [none, some (.int (count : Int)), some (.int (n : Int))] (tS D (n + 1)) = some (.int (1 + (n : Int) / 60), tS D (n + 1)) := eBin_e (x := .int 1) (eL_e rfl) (eBin_e (vn _) (len _ _) (dDiv_p (n := 100) (by decide) (by decide) (by decide) (by decide))) (dAdd_i ..)
  have i4 : eBin dDiv (eBin dIx (eIx 0) (eBin dMod (eL (fVar 2)) (eLen (eIx 0)))) (eBin dAdd (eL (fC (.int 1))) (eBin dDiv (eL (fVar 2)) (eLen (eIx 0)))) [none, some (.int (count : Int)), some (.int (n : Int))] (tS D (n + 1)) = some (.int (w / (1 + (n : Int) / 60)), tS D (n + 1)) := eBin_e i2 i3 (dDiv_p (n := 100) (by omega) (by omega) (by decide) (by decide))
  unfold RT_law_take
  refine runT_e ?_
  unfold GT_law_take
  exact sqT_nx (asgT_e e1) (sqT_nx e2 (retT_e (eBin_e i4 (eL_e rfl) (dMod_p (by omega)))))
theorem takeC (hD : DOk D) {count n : Nat} (hc : 0 < count) (hc2 : count ≤ 100000) (hn : n ≤ MM) (ρ : Rho) : ∃ v : Nat, v < count ∧ eCall RT_law_take (fConsA (fC (.int (count : Int))) fNilA) ρ (tS D n) = some (.int (v : Int), tS D (n + 1)) := by
  obtain ⟨v, hv, e⟩ := take_e hD hc hc2 hn
  exact ⟨v, hv, (eCall_e (ds := [.int (count : Int)]) rfl).trans e⟩
theorem pow20 (ρ : Rho) : fBin dPow (fC (.int 10)) (fC (.int 20)) ρ = some (.int 100000000000000000000) := by
  refine (fBin_eq rfl rfl).trans ?_
  exact gI_pos (by decide +kernel)
theorem num_e (hD : DOk D) {n : Nat} (hn : n + 2 ≤ MM) (ρ : Rho) : ∃ (z : Int) (n' : Nat), eCall RT_law_number fNilA ρ (tS D n) = some (.int z, tS D n') ∧ n' ≤ n + 2 ∧ z.natAbs < 2 ^ 70 := by
  obtain ⟨w, hw, e1⟩ := takeC hD (count := 5) (n := n) (by decide) (by decide) (by omega) [none, none]
  have key : ∃ (z : Int) (n' : Nat), GT_law_number [none, none] (tS D n) = some (.rt (.int z), tS D n') ∧ n' ≤ n + 2 ∧ z.natAbs < 2 ^ 70 := by
    unfold GT_law_number
    by_cases h0 : w = 0
    · subst h0
      obtain ⟨v, hv, e2⟩ := takeC hD (count := 1000) (n := n + 1) (by decide) (by decide) (by omega) [none, some (.int ((0 : Nat) : Int))]
      refine ⟨100000000000000000000 + (v : Int), n + 1 + 1, sqT_nx (asgT_e e1) (sqT_rt ((ifT_t rfl).trans (retT_e (eBin_e (eL_e (pow20 _)) e2 (dAdd_i ..))))), by omega, ?_⟩
      have : (100000000000000000000 + (v : Int)).natAbs ≤ 100000000000000001000 := by omega
      exact Nat.lt_of_le_of_lt this (by decide)
    · obtain ⟨v, hv, e2⟩ := takeC hD (count := 9) (n := n + 1) (by decide) (by decide) (by omega) [none, some (.int (w : Int))]
      have t : tV (fBin dEq (fVar 1) (fC (.int 0))) [none, some (.int (w : Int))] = some false := (t_eq (x := (w : Int)) (y := 0) rfl rfl).trans (by rw [beq_eq_false_iff_ne.mpr (by omega)])
      obtain ⟨u, hu, hu2⟩ : ∃ u : Int, ([4, 0, 0, 8] : Vc)[w - 1]? = some u ∧ u.natAbs ≤ 8 := by
        match w, h0, hw with
        | 1, _, _ => exact ⟨4, rfl, by decide⟩
        | 2, _, _ => exact ⟨0, rfl, by decide⟩
        | 3, _, _ => exact ⟨0, rfl, by decide⟩
        | 4, _, _ => exact ⟨8, rfl, by decide⟩
        | 0, h, _ => exact absurd rfl h
        | w + 5, _, h => omega
      have e3 : fBin dIx (fFn dList (fConsA (fC (.int 4)) (fConsA (fC (.int 0)) (fConsA (fC (.int 0)) (fConsA (fC (.int 8)) fNilA))))) (fBin dSub (fVar 1) (fC (.int 1))) [none, some (.int (w : Int))] = some (.int u) := (fBin_eq (x := vecD [4, 0, 0, 8]) (y := .int ((w - 1 : Nat) : Int)) rfl (sub1_e rfl (by omega))).trans (ls_ix (h := PyData.int) (xs := [4, 0, 0, 8]) hu)
      refine ⟨(v : Int) - u, n + 1 + 1, sqT_nx (asgT_e e1) (sqT_nx ((ifT_f t).trans rfl) (retT_e (eBin_e e2 (eL_e e3) (dSub_i ..)))), by omega, ?_⟩
      have : ((v : Int) - u).natAbs ≤ 20 := by omega
      exact Nat.lt_of_le_of_lt this (by decide)
  obtain ⟨z, n', e, l, hz⟩ := key
  refine ⟨z, n', (eCall_e (ds := []) rfl).trans ?_, l, hz⟩
  unfold RT_law_number
  exact runT_e e
theorem nums_e (hD : DOk D) {src : FEs} {p m n : Nat} {ρ : Rho} {es : List PyData} {ds : List PyData} (hs : src ρ es = some (ds, tS D n)) (hl : ds.length ≤ m) (hm : m ≤ 10) (hn : n + 2 * m + 2 ≤ MM) : ∃ (v : Vc) (n' : Nat), eLc src (gN p) (eCall RT_law_number fNilA) [p] ρ es = some (vecD v, tS D n') ∧ v.length = ds.length ∧ n' ≤ n + 2 * m ∧ Small 70 v := by
  have h2 : 2 * ds.length ≤ 2 * m := Nat.mul_le_mul_left _ hl
  obtain ⟨xs, n', e, l1, l2, px⟩ := lcT_ex (D := D) (α := Int) (k := gN p) (el := eCall RT_law_number fNilA) (ρ := wipeR ρ [p]) (g := PyData.int) (P := fun z => z.natAbs < 2 ^ 70) (M := n + 2 * m) (c := 2) ds n (fun d hd n1 hn1 => by
    obtain ⟨z, n2, e, l, hz⟩ := num_e hD (n := n1) (by omega) ((wipeR ρ [p]).set p (some d))
    exact ⟨_, rfl, z, n2, e, l, hz⟩) (by omega)
  exact ⟨xs, n', eLc_e (g := PyData.int) hs (by omega) e, l1, by omega, px⟩
theorem rangeD_len (v : Nat) : (rangeD 0 v).length = v := rangeD_length 0 v
theorem lst_e (hD : DOk D) {α : Type} {g : α → PyData} {P : α → Prop} {p n c : Nat} {ρ : Rho} {el : FE} (hn : n + 1 + 2 * c ≤ MM) (h : ∀ (d : PyData) (n1 : Nat), n1 ≤ n + 1 + 2 * c → ∃ a n', el ((wipeR ρ [p]).set p (some d)) (tS D n1) = some (g a, tS D n') ∧ n' ≤ n1 + c ∧ P a) :
    ∃ (xs : List α) (n' : Nat), eLc (iT1 (eCall RT_law_take (fConsA (fC (.int 3)) fNilA))) (gN p) el [p] ρ (tS D n) = some (.list (xs.map g), tS D n') ∧ xs.length ≤ 2 ∧ n' ≤ n + (1 + 2 * c) ∧ ∀ x ∈ xs, P x := by
  obtain ⟨v, hv, e1⟩ := takeC hD (count := 3) (n := n) (by decide) (by decide) (by omega) ρ
  have hc : c * v ≤ c * 2 := Nat.mul_le_mul_left _ (by omega)
  obtain ⟨xs, n', e, l1, l2, px⟩ := lcT_ex (D := D) (α := α) (k := gN p) (el := el) (ρ := wipeR ρ [p]) (g := g) (P := P) (M := n + 1 + 2 * c) (c := c) (rangeD 0 v) (n + 1) (fun d hd n1 hn1 => by
    obtain ⟨a, n2, e, l, hz⟩ := h d n1 hn1
    exact ⟨_, rfl, a, n2, e, l, hz⟩) (by rw [rangeD_len]; omega)
  rw [rangeD_len] at l1 l2
  exact ⟨xs, n', eLc_e (iT1_e e1 (by omega)) (by rw [rangeD_len]; omega) e, by omega, by omega, px⟩
def ClB (c : Cl) : Prop := (c.1 = none ∨ ∃ k : Nat, k < 5 ∧ c.1 = some k) ∧ c.2.length ≤ 2 ∧ ∀ m ∈ c.2, m.1.natAbs < 2 ^ 70 ∧ m.2.length ≤ 3 ∧ Small 70 m.2
def MlB (m : Ml) : Prop := m.1.natAbs < 2 ^ 70 ∧ m.2.length ≤ 3 ∧ Small 70 m.2
def clT : FTS := (sqT (asgT 5 (eLc (iT1 (eCall RT_law_take (fConsA (fC (.int 4)) fNilA))) (gN 6) (eCall RT_law_number fNilA) [6])) (sqT (appT' 3 (eTup (esCons (eCall RT_law_number fNilA) (esCons (eL (fVar 5)) esNil)))) nilT))
theorem clT_e (hD : DOk D) {n : Nat} (hn : n + 20 ≤ MM) {a1 a2 a4 a5 a6 : Option PyData} {ms : List Ml} (hl : ms.length ≤ 1000) (hm : ∀ m ∈ ms, MlB m) : ∃ (m : Ml) (x5 x6 : Option PyData) (n' : Nat), clT [none, a1, a2, some (.list (ms.map mlD)), a4, a5, a6] (tS D n) = some (.nx [none, a1, a2, some (.list ((ms ++ [m]).map mlD)), a4, x5, x6], tS D n') ∧ n' ≤ n + 9 ∧ MlB m := by
  obtain ⟨u, hu, f1⟩ := takeC hD (count := 4) (n := n) (by decide) (by decide) (by omega) [none, a1, a2, some (.list (ms.map mlD)), a4, a5, a6]
  obtain ⟨fs, n3, f2, g1', g2', g3'⟩ := nums_e hD (p := 6) (m := 3) (iT1_e f1 (by omega)) (by rw [rangeD_len]; omega) (by decide) (by omega)
  rw [rangeD_len] at g1'
  obtain ⟨z, n4, f3, l4, hz⟩ := num_e hD (n := n3) (by omega) [none, a1, a2, some (.list (ms.map mlD)), a4, some (vecD fs), a6]
  exact ⟨(z, fs), some (vecD fs), a6, n4, sqT_nx (asgT_e f2) (sqT_nx (appT_e (h := mlD) (a := (z, fs)) (xs := ms) (eTup2_e f3 (eL_e rfl)) rfl hl) rfl), by omega, hz, by show fs.length ≤ 3; omega, g3'⟩
theorem claim_e (hD : DOk D) {n : Nat} (hn : n + 50 ≤ MM) {x : PyData} {ρ : Rho} (hx : fVar 1 ρ = some x) : ∃ (c : Cl) (n' : Nat), eCall RT_law_claim (fConsA (fVar 1) fNilA) ρ (tS D n) = some (clD c, tS D n') ∧ n' ≤ n + 20 ∧ ClB c := by
  obtain ⟨w, hw, e1⟩ := takeC hD (count := 6) (n := n) (by decide) (by decide) (by omega) [none, some x, none, none, none, none, none]
  have ei : eBin dSub (eCall RT_law_take (fConsA (fC (.int 6)) fNilA)) (eL (fC (.int 1))) [none, some x, none, none, none, none, none] (tS D n) = some (.int ((w : Int) - 1), tS D (n + 1)) := eBin_e e1 (eL_e rfl) (dSub_i ..)
  obtain ⟨v, hv, e2⟩ := takeC hD (count := 3) (n := n + 1) (by decide) (by decide) (by omega) [none, some x, some (.int ((w : Int) - 1)), some (.list (([] : List Ml).map mlD)), none, none, none]
  obtain ⟨ρ2, n2, e3, l3, ms, x4, x5, x6, rfl, lm, hm⟩ := lpT_ex (D := D) (k := gN 4) (B := clT) (I := fun i ρ => ∃ (ms : List Ml) (x4 x5 x6 : Option PyData), ρ = [none, some x, some (.int ((w : Int) - 1)), some (.list (ms.map mlD)), x4, x5, x6] ∧ ms.length ≤ i ∧ ∀ m ∈ ms, MlB m) (M := n + 2 + 9 * 2) (c := 9) (L := 2) (rangeD 0 v) 0 (n + 1 + 1) [none, some x, some (.int ((w : Int) - 1)), some (.list (([] : List Ml).map mlD)), none, none, none] ⟨[], _, _, _, rfl, Nat.le_refl _, fun _ h => nomatch h⟩ (fun d hd i n1 ρ hρ hi hn1 => by
    obtain ⟨ms, x4, x5, x6, rfl, lm, hm⟩ := hρ
    obtain ⟨m, y5, y6, n4, f, l, hmm⟩ := clT_e hD (n := n1) (by omega) (a1 := some x) (a2 := some (.int ((w : Int) - 1))) (a4 := some d) (a5 := x5) (a6 := x6) (ms := ms) (by omega) hm
    refine ⟨_, rfl, _, n4, f, l, ms ++ [m], _, _, _, rfl, by rw [List.length_append, List.length_singleton]; omega, fun m' hm' => ?_⟩
    rcases List.mem_append.mp hm' with hm' | hm'
    · exact hm m' hm'
    · rw [List.mem_singleton.mp hm']
      exact hmm) (by rw [rangeD_len]; omega) (by rw [rangeD_len]; omega)
  rw [rangeD_len] at l3 lm
  obtain ⟨ix, hix, hv2⟩ : ∃ ix : Option Nat, (ix = none ∨ ∃ k : Nat, k < 5 ∧ ix = some k) ∧ fIf (tV (fBin dLt (fVar 2) (fC (.int 0)))) (fC .none) (fVar 2) [none, some x, some (.int ((w : Int) - 1)), some (.list (ms.map mlD)), x4, x5, x6] = some (ixD ix) := by
    have t : tV (fBin dLt (fVar 2) (fC (.int 0))) [none, some x, some (.int ((w : Int) - 1)), some (.list (ms.map mlD)), x4, x5, x6] = some (decide ((w : Int) - 1 < 0)) := t_lt rfl rfl
    by_cases h0 : w = 0
    · exact ⟨none, .inl rfl, (fIf_t (t.trans (by rw [decide_eq_true (by omega)]))).trans rfl⟩
    · refine ⟨some (w - 1), .inr ⟨w - 1, by omega, rfl⟩, (fIf_f (t.trans (by rw [decide_eq_false (by omega)]))).trans ?_⟩
      show some (PyData.int ((w : Int) - 1)) = some (.int ((w - 1 : Nat) : Int))
      rw [show ((w - 1 : Nat) : Int) = (w : Int) - 1 by omega]
  refine ⟨(ix, ms), n2, (eCall_e (ds := [x]) (by unfold fConsA; rw [hx] <;> rfl)).trans ?_, by omega, hix, by show ms.length ≤ 2; omega, hm⟩
  unfold RT_law_claim
  refine runT_e ?_
  unfold GT_law_claim
  exact sqT_nx (asgT_e ei) (sqT_nx (stL_e (asg_nx (d := .list (([] : List Ml).map mlD)) rfl)) (sqT_nx (forT_e (iT1_e e2 (by omega)) e3) (retT_e (eL_e (fnn2 hv2 rfl rfl)))))
structure CtB (n : Nat) (c : Ct) : Prop where
  p : c.P.length ≤ 2 ∧ ∀ r ∈ c.P, r.length ≤ 2 ∧ ∀ q ∈ r, q.length ≤ 2 ∧ ∀ v ∈ q, v.length = n + 1 ∧ Small 70 v
  s : c.S.length ≤ 2 ∧ ∀ x ∈ c.S, ClB x
  w : c.W.length ≤ 2 ∧ ∀ g ∈ c.W, g.length ≤ 2 ∧ ∀ x ∈ g, ClB x
  j : c.J.length ≤ 2 ∧ ∀ g ∈ c.J, g.length ≤ 2 ∧ ∀ x ∈ g, ClB x
  e : c.E.length ≤ 2 ∧ ∀ g ∈ c.E, g.length ≤ 2 ∧ ∀ x ∈ g, ClB x
abbrev PcB (n : Nat) (q : List Vc) : Prop := q.length ≤ 2 ∧ ∀ v ∈ q, v.length = n + 1 ∧ Small 70 v
abbrev RwB (n : Nat) (r : List (List Vc)) : Prop := r.length ≤ 2 ∧ ∀ q ∈ r, PcB n q
abbrev GsB (g : List (List Cl)) : Prop := g.length ≤ 2 ∧ ∀ cs ∈ g, cs.length ≤ 2 ∧ ∀ x ∈ cs, ClB x
def pcE : FE := (eLc (iT1 (eCall RT_law_take (fConsA (fC (.int 3)) fNilA))) (gN 7) (eLc (esL (iR1 (fBin dAdd (fVar 1) (fC (.int 1))))) (gN 6) (eCall RT_law_number fNilA) [6]) [7])
theorem pcE_e (hD : DOk D) {m n : Nat} (hm : m ≤ 3) (hn : n + 40 ≤ MM) {a2 a3 a4 a5 a6 a7 a8 a9 : Option PyData} : ∃ (q : List Vc) (n' : Nat), pcE [none, some (.int (m : Int)), a2, a3, a4, a5, a6, a7, a8, a9] (tS D n) = some (matD q, tS D n') ∧ n' ≤ n + 21 ∧ PcB m q := by
  obtain ⟨q, n', e, l1, l2, px⟩ := lst_e hD (α := Vc) (g := vecD) (P := fun v => v.length = m + 1 ∧ Small 70 v) (p := 7) (n := n) (c := 10) (ρ := [none, some (.int (m : Int)), a2, a3, a4, a5, a6, a7, a8, a9]) (el := (eLc (esL (iR1 (fBin dAdd (fVar 1) (fC (.int 1))))) (gN 6) (eCall RT_law_number fNilA) [6])) (by omega) (fun d n1 hn1 => by
    have e0 : esL (iR1 (fBin dAdd (fVar 1) (fC (.int 1)))) [none, some (.int (m : Int)), a2, a3, a4, a5, a6, some d, a8, a9] (tS D n1) = some (rangeD 0 (m + 1), tS D n1) := by
      unfold esL
      rw [iR1_ok (suc_v (n := m) rfl) (decide_eq_true (by omega)), Int.toNat_natCast] <;> rfl
    obtain ⟨v, n', e, l1, l2, hs⟩ := nums_e hD (p := 6) (m := 5) e0 (by rw [rangeD_len]; omega) (by decide) (by omega)
    rw [rangeD_len] at l1
    exact ⟨v, n', e, by omega, l1, hs⟩)
  exact ⟨q, n', e, by omega, l1, px⟩
def tpB : FTS := sqT (appT' 4 pcE) nilT
def ouB : FTS := (sqT (stL (sAsg 4 (fFn dList fNilA))) (sqT (forT (iT1 (eCall RT_law_take (fConsA (fC (.int 3)) fNilA))) (gN 5) tpB) (sqT (stL (sApp 2 (fVar 4))) nilT)))
theorem ouB_e (hD : DOk D) {m n : Nat} (hm : m ≤ 3) (hn : n + 100 ≤ MM) {a3 a4 a5 a6 a7 a8 a9 : Option PyData} {P : List (List (List Vc))} (hl : P.length ≤ 1000) : ∃ (r : List (List Vc)) (x4 x5 x6 x7 : Option PyData) (n' : Nat), ouB [none, some (.int (m : Int)), some (pcsD P), a3, a4, a5, a6, a7, a8, a9] (tS D n) = some (.nx [none, some (.int (m : Int)), some (pcsD (P ++ [r])), a3, x4, x5, x6, x7, a8, a9], tS D n') ∧ n' ≤ n + 43 ∧ RwB m r := by
  obtain ⟨v, hv, e2⟩ := takeC hD (count := 3) (n := n) (by decide) (by decide) (by omega) [none, some (.int (m : Int)), some (pcsD P), a3, some (rowD []), a5, a6, a7, a8, a9]
  obtain ⟨ρ2, n2, e3, l3, r, x5, rfl, lm, hm2⟩ := lpT_ex (D := D) (k := gN 5) (B := tpB) (I := fun i ρ => ∃ (r : List (List Vc)) (x5 : Option PyData), ρ = [none, some (.int (m : Int)), some (pcsD P), a3, some (rowD r), x5, a6, a7, a8, a9] ∧ r.length ≤ i ∧ ∀ q ∈ r, PcB m q) (M := n + 43) (c := 21) (L := 2) (rangeD 0 v) 0 (n + 1) [none, some (.int (m : Int)), some (pcsD P), a3, some (rowD []), a5, a6, a7, a8, a9] ⟨[], _, rfl, Nat.le_refl _, fun _ h => nomatch h⟩ (fun d hd i n1 ρ hρ hi hn1 => by
    obtain ⟨r, x5, rfl, lm, hq⟩ := hρ
    obtain ⟨q, n4, f, l, hmm⟩ := pcE_e hD hm (n := n1) (by omega) (a2 := some (pcsD P)) (a3 := a3) (a4 := some (rowD r)) (a5 := some d) (a6 := a6) (a7 := a7) (a8 := a8) (a9 := a9)
    refine ⟨_, rfl, _, n4, sqT_nx (appT_e (h := matD) (a := q) (xs := r) f rfl (by omega)) rfl, l, r ++ [q], _, rfl, by rw [List.length_append, List.length_singleton]; omega, fun m' hm' => ?_⟩
    rcases List.mem_append.mp hm' with hm' | hm'
    · exact hq m' hm'
    · rw [List.mem_singleton.mp hm']
      exact hmm) (by rw [rangeD_len]; omega) (by rw [rangeD_len]; omega)
  rw [rangeD_len] at l3 lm
  exact ⟨r, _, _, _, _, n2, sqT_nx (stL_e (asg_nx (d := rowD []) rfl)) (sqT_nx (forT_e (iT1_e e2 (by omega)) e3) (sqT_nx (stL_e (app_d (h := rowD) (a := r) (xs := P) rfl rfl (by omega))) rfl)), by omega, by omega, hm2⟩
def clE : FE := (eLc (iT1 (eCall RT_law_take (fConsA (fC (.int 3)) fNilA))) (gN 5) (eCall RT_law_claim (fConsA (fVar 1) fNilA)) [5])
theorem clE_e (hD : DOk D) {n : Nat} (hn : n + 100 ≤ MM) {a0 x a2 a3 a4 a5 a6 a7 a8 a9 : Option PyData} {m : Nat} (h1 : x = some (.int (m : Int))) : ∃ (cs : List Cl) (n' : Nat), clE [a0, x, a2, a3, a4, a5, a6, a7, a8, a9] (tS D n) = some (clsD cs, tS D n') ∧ n' ≤ n + 41 ∧ cs.length ≤ 2 ∧ ∀ y ∈ cs, ClB y := by
  subst h1
  obtain ⟨q, n', e, l1, l2, px⟩ := lst_e hD (α := Cl) (g := clD) (P := ClB) (p := 5) (n := n) (c := 20) (ρ := [a0, some (.int (m : Int)), a2, a3, a4, a5, a6, a7, a8, a9]) (el := (eCall RT_law_claim (fConsA (fVar 1) fNilA))) (by omega) (fun d n1 hn1 => claim_e hD (by omega) rfl)
  exact ⟨q, n', e, by omega, l1, px⟩
def grE : FE := (eLc (iT1 (eCall RT_law_take (fConsA (fC (.int 3)) fNilA))) (gN 4) clE [4])
theorem grE_e (hD : DOk D) {m n : Nat} (hn : n + 300 ≤ MM) {a0 a2 a3 a4 a5 a6 a7 a8 a9 : Option PyData} : ∃ (g : List (List Cl)) (n' : Nat), grE [a0, some (.int (m : Int)), a2, a3, a4, a5, a6, a7, a8, a9] (tS D n) = some (grD g, tS D n') ∧ n' ≤ n + 83 ∧ GsB g := by
  obtain ⟨q, n', e, l1, l2, px⟩ := lst_e hD (α := List Cl) (g := clsD) (P := fun cs => cs.length ≤ 2 ∧ ∀ y ∈ cs, ClB y) (p := 4) (n := n) (c := 41) (ρ := [a0, some (.int (m : Int)), a2, a3, a4, a5, a6, a7, a8, a9]) (el := clE) (by omega) (fun d n1 hn1 => by
    obtain ⟨cs, n', e, l, h⟩ := clE_e hD (n := n1) (by omega) (a0 := a0) (a2 := a2) (a3 := a3) (a4 := some d) (a5 := a5) (a6 := a6) (a7 := a7) (a8 := a8) (a9 := a9) (m := m) rfl
    exact ⟨cs, n', e, l, h⟩)
  exact ⟨q, n', e, by omega, l1, px⟩
def gsB : FTS := sqT (appT' 9 grE) nilT
theorem gsB_e (hD : DOk D) {m n : Nat} (hn : n + 300 ≤ MM) {a2 a3 a4 a5 a6 a7 a8 : Option PyData} {G : List (List (List Cl))} (hl : G.length ≤ 1000) : ∃ (g : List (List Cl)) (n' : Nat), gsB [none, some (.int (m : Int)), a2, a3, a4, a5, a6, a7, a8, some (.list (G.map grD))] (tS D n) = some (.nx [none, some (.int (m : Int)), a2, a3, a4, a5, a6, a7, a8, some (.list ((G ++ [g]).map grD))], tS D n') ∧ n' ≤ n + 83 ∧ GsB g := by
  obtain ⟨g, n', e, l, h⟩ := grE_e hD (m := m) (n := n) hn (a0 := none) (a2 := a2) (a3 := a3) (a4 := a4) (a5 := a5) (a6 := a6) (a7 := a7) (a8 := a8) (a9 := some (.list (G.map grD)))
  exact ⟨g, n', sqT_nx (appT_e (h := grD) (a := g) (xs := G) e rfl hl) rfl, l, h⟩
theorem cert_e (hD : DOk D) {m : Nat} (hm : m ≤ 3) : ∃ (c : Ct) (n' : Nat), RT_law_certificate [.int (m : Int)] (tS D 0) = some (ctD c, tS D n') ∧ CtB m c := by
  have hMM : MM = 100000 := rfl
  obtain ⟨v, hv, e2⟩ := takeC hD (count := 3) (n := 0) (by decide) (by decide) (by omega) [none, some (.int (m : Int)), some (pcsD []), none, none, none, none, none, none, none]
  obtain ⟨ρ2, n2, e3, l3, P, x3, x4, x5, x6, x7, rfl, lm, hP⟩ := lpT_ex (D := D) (k := gN 3) (B := ouB) (I := fun i ρ => ∃ (P : List (List (List Vc))) (x3 x4 x5 x6 x7 : Option PyData), ρ = [none, some (.int (m : Int)), some (pcsD P), x3, x4, x5, x6, x7, none, none] ∧ P.length ≤ i ∧ ∀ r ∈ P, RwB m r) (M := 87) (c := 43) (L := 2) (rangeD 0 v) 0 (0 + 1) [none, some (.int (m : Int)), some (pcsD []), none, none, none, none, none, none, none] ⟨[], _, _, _, _, _, rfl, Nat.le_refl _, fun _ h => nomatch h⟩ (fun d hd i n1 ρ hρ hi hn1 => by
    obtain ⟨P, x3, x4, x5, x6, x7, rfl, lm, hq⟩ := hρ
    obtain ⟨r, y4, y5, y6, y7, n4, f, l, hmm⟩ := ouB_e hD hm (n := n1) (by omega) (a3 := some d) (a4 := x4) (a5 := x5) (a6 := x6) (a7 := x7) (a8 := none) (a9 := none) (P := P) (by omega)
    refine ⟨_, rfl, _, n4, f, l, P ++ [r], _, _, _, _, _, rfl, by rw [List.length_append, List.length_singleton]; omega, fun m' hm' => ?_⟩
    rcases List.mem_append.mp hm' with hm' | hm'
    · exact hq m' hm'
    · rw [List.mem_singleton.mp hm']
      exact hmm) (by rw [rangeD_len]; omega) (by rw [rangeD_len]; omega)
  rw [rangeD_len] at l3 lm
  obtain ⟨S, n3, e4, l4, hS⟩ := clE_e hD (n := n2) (by omega) (a0 := none) (a2 := some (pcsD P)) (a3 := x3) (a4 := x4) (a5 := x5) (a6 := x6) (a7 := x7) (a8 := none) (a9 := none) (m := m) rfl
  obtain ⟨W, n5, e5, l5, hW⟩ := gsB_e hD (m := m) (n := n3) (by omega) (a2 := some (pcsD P)) (a3 := some (.int 0)) (a4 := x4) (a5 := x5) (a6 := x6) (a7 := x7) (a8 := some (clsD S)) (G := []) (by decide)
  obtain ⟨J, n6, e6, l6, hJ⟩ := gsB_e hD (m := m) (n := n5) (by omega) (a2 := some (pcsD P)) (a3 := some (.int 1)) (a4 := x4) (a5 := x5) (a6 := x6) (a7 := x7) (a8 := some (clsD S)) (G := [W]) (by show 1 ≤ 1000; decide)
  obtain ⟨E, n7, e7, l7, hE⟩ := gsB_e hD (m := m) (n := n6) (by omega) (a2 := some (pcsD P)) (a3 := some (.int 2)) (a4 := x4) (a5 := x5) (a6 := x6) (a7 := x7) (a8 := some (clsD S)) (G := [W, J]) (by show 2 ≤ 1000; decide)
  refine ⟨⟨P, S, W, J, E⟩, n7, ?_, ⟨by show P.length ≤ 2; omega, hP⟩, hS, hW, hJ, hE⟩
  have lp : lpT (gN 3) gsB [.int 0, .int 1, .int 2] [none, some (.int (m : Int)), some (pcsD P), x3, x4, x5, x6, x7, some (clsD S), some (.list (([] : List (List (List Cl))).map grD))] (tS D n3) = some (.nx [none, some (.int (m : Int)), some (pcsD P), some (.int 2), x4, x5, x6, x7, some (clsD S), some (.list ([W, J, E].map grD))], tS D n7) := by
    rw [lpT]
    show (gsB [none, some (.int (m : Int)), some (pcsD P), some (.int 0), x4, x5, x6, x7, some (clsD S), some (.list (([] : List (List (List Cl))).map grD))] (tS D n3)).bind _ = _
    rw [e5, Option.bind_some]
    show lpT (gN 3) gsB [.int 1, .int 2] _ _ = _
    rw [lpT]
    show (gsB [none, some (.int (m : Int)), some (pcsD P), some (.int 1), x4, x5, x6, x7, some (clsD S), some (.list ([W].map grD))] (tS D n5)).bind _ = _
    rw [e6, Option.bind_some]
    show lpT (gN 3) gsB [.int 2] _ _ = _
    rw [lpT]
    show (gsB [none, some (.int (m : Int)), some (pcsD P), some (.int 2), x4, x5, x6, x7, some (clsD S), some (.list ([W, J].map grD))] (tS D n6)).bind _ = _
    rw [e7, Option.bind_some]
    rfl
  have r3 : esL (iR1 (fC (.int 3))) [none, some (.int (m : Int)), some (pcsD P), x3, x4, x5, x6, x7, some (clsD S), some (.list (([] : List (List (List Cl))).map grD))] (tS D n3) = some ([.int 0, .int 1, .int 2], tS D n3) := rfl
  unfold RT_law_certificate
  refine runT_e ?_
  unfold GT_law_certificate
  exact sqT_nx (stL_e (asg_nx (d := pcsD []) rfl)) (sqT_nx (forT_e (iT1_e e2 (by omega)) e3) (sqT_nx (asgT_e e4) (sqT_nx (stL_e (asg_nx (d := .list (([] : List (List (List Cl))).map grD)) rfl)) (sqT_nx (forT_e r3 lp) (retT_e (eL_e (fFn_c (ds := [pcsD P, clsD S, grD W, grD J, grD E]) rfl rfl)))))))
end
section
variable {a b : FT} {ρ : Rho}
theorem orF (h : a ρ = some false) (h2 : b ρ = some false) : tO a b ρ = some false := by
  unfold tO
  rw [h] <;> exact h2
theorem andF (h : a ρ = some false) : tA a b ρ = some false := by
  unfold tA
  rw [h] <;> rfl
theorem andT {x : Bool} (h : a ρ = some true) (h2 : b ρ = some x) : tA a b ρ = some x := by
  unfold tA
  rw [h, Option.bind_some, if_pos rfl]
  exact h2
theorem notT {x : Bool} (h : a ρ = some x) : tN a ρ = some (!x) := by
  unfold tN
  rw [h] <;> rfl
theorem truT {f : F} {x : Bool} (h : f ρ = some (.bool x)) : tTr f ρ = some x := by
  unfold tTr
  rw [h] <;> rfl
end
theorem R_isint (z : Int) : R_law_is_integer [.int z] = some (.bool true) := by
  unfold R_law_is_integer B_law_is_integer
  exact runF_rt (ret_rt rfl)
def icB : FS := (sSeq (sIf (tO (tN (tV (fUn (isTy "tuple") (fVar 2)))) (tO (tV (fBin dNe (fFn (g1 dLen) (fConsA (fVar 2) fNilA)) (fC (.int 2)))) (tO (tN (tTr (fFn R_law_is_integer (fConsA (fBin dIx (fVar 2) (fC (.int 0))) fNilA)))) (tN (tV (fUn (isTy "list") (fBin dIx (fVar 2) (fC (.int 1))))))))) (sRet (fC (.bool false))) sNil) sNil)
theorem icB_e {d0 d1 : Option PyData} {m : Ml} : icB [d0, d1, some (mlD m)] = some (.nx [d0, d1, some (mlD m)]) := by
  have t : tO (tN (tV (fUn (isTy "tuple") (fVar 2)))) (tO (tV (fBin dNe (fFn (g1 dLen) (fConsA (fVar 2) fNilA)) (fC (.int 2)))) (tO (tN (tTr (fFn R_law_is_integer (fConsA (fBin dIx (fVar 2) (fC (.int 0))) fNilA)))) (tN (tV (fUn (isTy "list") (fBin dIx (fVar 2) (fC (.int 1)))))))) [d0, d1, some (mlD m)] = some false :=
    orF rfl (orF rfl (orF (notT (truT (fn1 (x := .int m.1) rfl (R_isint m.1)))) rfl))
  exact seq_nx ((if_f t).trans rfl) rfl
theorem R_isclaims {cs : List Cl} : R_law_is_claims [clsD cs] = some (.bool true) := by
  have key : Rt B_law_is_claims [some (clsD cs), none, none] (fun d => d = .bool true) := by
    unfold B_law_is_claims
    refine Nx.rt (nx_for (i := 0) (I := fun _ ρ => ∃ x1 x2 : Option PyData, ρ = [some (clsD cs), x1, x2]) (h := clD) (xs := cs) rfl ⟨_, _, rfl⟩ fun x hx j _ _ ρ e => ?_) fun ρ e => ⟨_, ret_rt rfl, rfl⟩
    obtain ⟨x1, x2, rfl⟩ := e
    refine ⟨_, rfl, ?_⟩
    show Nx _ [some (clsD cs), some (clD x), x2] _
    have t1 : tO (tN (tV (fUn (isTy "tuple") (fVar 1)))) (tO (tV (fBin dNe (fFn (g1 dLen) (fConsA (fVar 1) fNilA)) (fC (.int 2)))) (tN (tV (fUn (isTy "list") (fBin dIx (fVar 1) (fC (.int 1))))))) [some (clsD cs), some (clD x), x2] = some false := orF rfl (orF rfl rfl)
    have t2 : tA (tV (fBin dIsNot (fBin dIx (fVar 1) (fC (.int 0))) (fC .none))) (tN (tA (tTr (fFn R_law_is_integer (fConsA (fBin dIx (fVar 1) (fC (.int 0))) fNilA))) (tV (fBin dNe (fBin dIx (fVar 1) (fC (.int 0))) (fUn dNeg (fC (.int 1))))))) [some (clsD cs), some (clD x), x2] = some false := by
      have ei : fBin dIx (fVar 1) (fC (.int 0)) [some (clsD cs), some (clD x), x2] = some (ixD x.1) := rfl
      cases hx1 : x.1 with
      | none =>
        rw [hx1] at ei
        exact andF (tV_b ((fBin_eq ei rfl).trans rfl))
      | some k =>
        rw [hx1] at ei
        refine andT (tV_b ((fBin_eq ei rfl).trans rfl)) (notT (x := true) (andT (truT (fn1 ei (R_isint k))) (tV_b ((fBin_eq (y := .int (-1)) ei rfl).trans ?_))))
        show dNe (.int (k : Int)) (.int (-1)) = _
        rw [dNe_i, beq_eq_false_iff_ne.mpr (by omega)] <;> rfl
    refine Nx.seq (.of ((if_f t1).trans rfl) (I := fun ρ => ρ = [some (clsD cs), some (clD x), x2]) rfl) fun ρ e => ?_
    subst e
    refine Nx.seq (.of ((if_f t2).trans rfl) (I := fun ρ => ρ = [some (clsD cs), some (clD x), x2]) rfl) fun ρ e => ?_
    subst e
    refine Nx.seq (nx_for (i := 0) (B := icB) (I := fun _ ρ => ∃ x2 : Option PyData, ρ = [some (clsD cs), some (clD x), x2]) (h := mlD) (xs := x.2) rfl ⟨_, rfl⟩ fun m hm j _ _ ρ e => ?_) fun ρ e => ?_
    · obtain ⟨x2, rfl⟩ := e
      exact ⟨_, rfl, .of icB_e ⟨_, rfl⟩⟩
    · obtain ⟨x2, rfl⟩ := e
      exact .nil ⟨_, _, rfl⟩
  obtain ⟨d, e, rfl⟩ := key
  unfold R_law_is_claims
  exact runF_rt e
theorem R_iscert {c : Ct} {n : Nat} (hg : GdP n c.P) (hs : (enc c).length ≤ 1000) : R_law_is_certificate [ctD c, .int (n : Int)] = some (.bool true) := by
  obtain ⟨hp, hS, hw, hj, he⟩ := ctS hs
  have lS : c.S.length ≤ 1000 := (szCs hS).1
  have lW := (szG hw).1
  have lJ := (szG hj).1
  have lE := (szG he).1
  have key : Rt B_law_is_certificate [some (ctD c), some (.int (n : Int)), none, none, none, none] (fun d => d = .bool true) := by
    unfold B_law_is_certificate
    have el : fLc (iSeq (fVar 0)) (gN 2) (tN (tV (fUn (isTy "list") (fVar 2)))) (fVar 2) [2] [some (ctD c), some (.int (n : Int)), none, none, none, none] = some (.list []) := rfl
    have t1 : tO (tN (tV (fUn (isTy "tuple") (fVar 0)))) (tO (tV (fBin dNe (fFn (g1 dLen) (fConsA (fVar 0) fNilA)) (fC (.int 5)))) (tV (fBin dGt (fFn (g1 dLen) (fConsA (fLc (iSeq (fVar 0)) (gN 2) (tN (tV (fUn (isTy "list") (fVar 2)))) (fVar 2) [2]) fNilA)) (fC (.int 0))))) [some (ctD c), some (.int (n : Int)), none, none, none, none] = some false := orF rfl (orF rfl (tV_b ((fBin_eq (fn1 el rfl) rfl).trans rfl)))
    refine Nx.rt (.of ((if_f t1).trans rfl) (I := fun ρ => ρ = [some (ctD c), some (.int (n : Int)), none, none, none, none]) rfl) fun ρ e => ?_
    subst e
    refine Nx.rt (nx_for (i := 0) (I := fun _ ρ => ∃ x2 x3 x4 : Option PyData, ρ = [some (ctD c), some (.int (n : Int)), x2, x3, x4, none]) (h := rowD) (xs := c.P) rfl ⟨_, _, _, rfl⟩ fun r hr j _ _ ρ e => ?_) fun ρ e => ?_
    · obtain ⟨x2, x3, x4, rfl⟩ := e
      refine ⟨_, rfl, ?_⟩
      refine Nx.seq (nx_for (i := 0) (I := fun _ ρ => ∃ x3 x4 : Option PyData, ρ = [some (ctD c), some (.int (n : Int)), some (rowD r), x3, x4, none]) (h := matD) (xs := r) rfl ⟨_, _, rfl⟩ fun q hq j _ _ ρ e => ?_) fun ρ e => ?_
      · obtain ⟨x3, x4, rfl⟩ := e
        refine ⟨_, rfl, ?_⟩
        refine Nx.seq (nx_for (i := 0) (I := fun _ ρ => ∃ x4 : Option PyData, ρ = [some (ctD c), some (.int (n : Int)), some (rowD r), some (matD q), x4, none]) (h := vecD) (xs := q) rfl ⟨_, rfl⟩ fun v hv j _ _ ρ e => ?_) fun ρ e => ?_
        · obtain ⟨x4, rfl⟩ := e
          have hl := hg r hr q hq v hv
          have t : tO (tN (tV (fUn (isTy "list") (fVar 4)))) (tV (fBin dNe (fFn (g1 dLen) (fConsA (fVar 4) fNilA)) (fBin dAdd (fVar 1) (fC (.int 1))))) [some (ctD c), some (.int (n : Int)), some (rowD r), some (matD q), some (vecD v), none] = some false := by
            refine orF rfl ((tV_b ((fBin_eq (lenL_e (h := PyData.int) (xs := v) rfl) (suc_v (n := n) rfl)).trans (dNe_i ..))).trans ?_)
            rw [hl]
            simp
          exact ⟨_, rfl, Nx.seq (.of ((if_f t).trans rfl) (I := fun ρ => ρ = [some (ctD c), some (.int (n : Int)), some (rowD r), some (matD q), some (vecD v), none]) rfl) fun ρ e => .nil ⟨_, e⟩⟩
        · obtain ⟨x4, rfl⟩ := e
          exact .nil ⟨_, _, rfl⟩
      · obtain ⟨x3, x4, rfl⟩ := e
        exact .nil ⟨_, _, _, rfl⟩
    · obtain ⟨x2, x3, x4, rfl⟩ := e
      have i1 : ∀ (k : Nat) (d : PyData), dIx (ctD c) (.int (k : Int)) = some d → fBin dIx (fVar 0) (fC (.int (k : Int))) [some (ctD c), some (.int (n : Int)), x2, x3, x4, none] = some d := fun k d h => (fBin_eq rfl rfl).trans h
      have g5 : fBin dCat (fBin dCat (fBin dCat (fFn dList (fConsA (fBin dIx (fVar 0) (fC (.int 1))) fNilA)) (fBin dIx (fVar 0) (fC (.int 2)))) (fBin dIx (fVar 0) (fC (.int 3)))) (fBin dIx (fVar 0) (fC (.int 4))) [some (ctD c), some (.int (n : Int)), x2, x3, x4, none] = some (.list ((([c.S] ++ c.W) ++ c.J ++ c.E).map clsD)) :=
        (fBin_eq ((fBin_eq ((fBin_eq (fn1 (i1 1 (clsD c.S) rfl) rfl) (i1 2 (grD c.W) rfl)).trans (cat_d (h := clsD) (a := [c.S]) (b := c.W) (by rw [List.length_singleton]; omega))) (i1 3 (grD c.J) rfl)).trans (cat_d (h := clsD) (a := [c.S] ++ c.W) (b := c.J) (by rw [List.length_append, List.length_singleton]; omega))) (i1 4 (grD c.E) rfl)).trans (cat_d (h := clsD) (a := [c.S] ++ c.W ++ c.J) (b := c.E) (by rw [List.length_append, List.length_append, List.length_singleton]; omega))
      have l5 : ([c.S] ++ c.W ++ c.J ++ c.E).length ≤ 4000 := by
        rw [List.length_append, List.length_append, List.length_append, List.length_singleton]
        omega
      generalize ([c.S] ++ c.W ++ c.J ++ c.E) = gs at g5 l5
      refine Nx.rt (.of (asg_nx g5) (I := fun ρ => ρ = [some (ctD c), some (.int (n : Int)), x2, x3, x4, some (.list (gs.map clsD))]) rfl) fun ρ e => ?_
      subst e
      have eL : fLc (iSeq (fVar 5)) (gN 2) (tN (tTr (fFn R_law_is_claims (fConsA (fVar 2) fNilA)))) (fVar 2) [2] [some (ctD c), some (.int (n : Int)), x2, x3, x4, some (.list (gs.map clsD))] = some (.list ((gs.filter fun _ => false).map clsD)) := fLc_filter (h := clsD) (g := clsD) (P := fun _ => false) (xs := gs) rfl (by omega) fun x hx => ⟨_, rfl, notT (truT (fn1 rfl R_isclaims)), fun h => nomatch h⟩
      rw [show (gs.filter fun _ => false) = [] from List.filter_eq_nil_iff.mpr fun _ _ h => nomatch h] at eL
      exact ⟨_, ret_rt ((fBin_eq (fn1 eL rfl) rfl).trans rfl), rfl⟩
  obtain ⟨d, e, rfl⟩ := key
  unfold R_law_is_certificate
  exact runF_rt e
theorem slC_g {α : Type} {h : α → PyData} {f g : F} {ρ : Rho} {xs : List α} {k : Nat} (hf : f ρ = some (.list (xs.map h))) (hg : g ρ = some (.int (k : Int))) : fSl f (oSome g) oNone ρ = some (.list ((xs.drop k).map h)) := by
  have e : fSl f (oSome g) oNone ρ = fSl f (oSome (fC (.int (k : Int)))) oNone ρ := by
    unfold fSl oSome
    rw [hg]
    rfl
  rw [e]
  exact tail_e (h := h) (xs := xs) hf
theorem slC_h {α : Type} {h : α → PyData} {f g : F} {ρ : Rho} {xs : List α} {k : Nat} (hf : f ρ = some (.list (xs.map h))) (hg : g ρ = some (.int (k : Int))) : fSl f oNone (oSome g) ρ = some (.list ((xs.take k).map h)) := by
  have e : fSl f oNone (oSome g) ρ = fSl f oNone (oSome (fC (.int (k : Int)))) ρ := by
    unfold fSl oSome
    rw [hg]
    rfl
  rw [e]
  exact head_e (h := h) (xs := xs) hf
theorem R_changed {bk : Vc} {c : Int} (hc : 0 ≤ c) (h1 : 1 ≤ bk.length) (h2 : bk.length ≤ 900) : ∃ r : Vc, R_law_changed [vecD bk, .int c] = some (vecD r) ∧ r.length ≤ 901 := by
  have hL : fFn (g1 dLen) (fConsA (fVar 0) fNilA) [some (vecD bk), some (.int c), none, none] = some (.int (bk.length : Int)) := lenL_e (h := PyData.int) (xs := bk) rfl
  obtain ⟨at', hat, hlt⟩ : ∃ a : Nat, c / 5 % (bk.length : Int) = (a : Int) ∧ a < bk.length := by
    have m0 : 0 ≤ c / 5 % (bk.length : Int) := Int.emod_nonneg _ (by omega)
    have m1 : c / 5 % (bk.length : Int) < (bk.length : Int) := Int.emod_lt_of_pos _ (by omega)
    exact ⟨(c / 5 % (bk.length : Int)).toNat, by omega, by omega⟩
  obtain ⟨w, hw, hw4⟩ : ∃ w : Nat, c / 3 % 4 = (w : Int) ∧ w < 4 := ⟨(c / 3 % 4).toNat, by omega, by omega⟩
  have s2 : sAsg 2 (fBin dMod (fBin dDiv (fVar 1) (fC (.int 5))) (fFn (g1 dLen) (fConsA (fVar 0) fNilA))) [some (vecD bk), some (.int c), none, none] = some (.nx [some (vecD bk), some (.int c), some (.int (at' : Int)), none]) := asg_nx ((i_mod (i_div (x := c) (y := 5) rfl rfl (by decide) (by decide)) hL (by omega)).trans (by rw [hat]))
  obtain ⟨z, hz⟩ : ∃ z : Int, ([c / 7 % 6 - 2, -1, av bk at' + 1, 1000000000000000000] : Vc)[w]? = some z := ⟨_, List.getElem?_eq_getElem (by simp; omega)⟩
  have s3 : sAsg 3 (fBin dIx (fFn dList (fConsA (fBin dSub (fBin dMod (fBin dDiv (fVar 1) (fC (.int 7))) (fC (.int 6))) (fC (.int 2))) (fConsA (fUn dNeg (fC (.int 1))) (fConsA (fBin dAdd (fBin dIx (fVar 0) (fVar 2)) (fC (.int 1))) (fConsA (fBin dPow (fC (.int 10)) (fC (.int 18))) fNilA))))) (fBin dMod (fBin dDiv (fVar 1) (fC (.int 3))) (fC (.int 4)))) [some (vecD bk), some (.int c), some (.int (at' : Int)), none] = some (.nx [some (vecD bk), some (.int c), some (.int (at' : Int)), some (.int z)]) := by
    have a1 : fBin dSub (fBin dMod (fBin dDiv (fVar 1) (fC (.int 7))) (fC (.int 6))) (fC (.int 2)) [some (vecD bk), some (.int c), some (.int (at' : Int)), none] = some (.int (c / 7 % 6 - 2)) := (fBin_eq (i_mod (i_div (x := c) (y := 7) rfl rfl (by decide) (by decide)) rfl (by decide)) rfl).trans (dSub_i ..)
    have a3 : fBin dAdd (fBin dIx (fVar 0) (fVar 2)) (fC (.int 1)) [some (vecD bk), some (.int c), some (.int (at' : Int)), none] = some (.int (av bk at' + 1)) := i_add (ix_v (i := at') rfl rfl hlt) rfl
    have a5 : fFn dList (fConsA (fBin dSub (fBin dMod (fBin dDiv (fVar 1) (fC (.int 7))) (fC (.int 6))) (fC (.int 2))) (fConsA (fUn dNeg (fC (.int 1))) (fConsA (fBin dAdd (fBin dIx (fVar 0) (fVar 2)) (fC (.int 1))) (fConsA (fBin dPow (fC (.int 10)) (fC (.int 18))) fNilA)))) [some (vecD bk), some (.int c), some (.int (at' : Int)), none] = some (vecD [c / 7 % 6 - 2, -1, av bk at' + 1, 1000000000000000000]) := fnn4 a1 rfl a3 (pow18 _) rfl
    have a6 : fBin dMod (fBin dDiv (fVar 1) (fC (.int 3))) (fC (.int 4)) [some (vecD bk), some (.int c), some (.int (at' : Int)), none] = some (.int (w : Int)) := (i_mod (i_div (x := c) (y := 3) rfl rfl (by decide) (by decide)) rfl (by decide)).trans (by rw [hw])
    exact asg_nx ((fBin_eq a5 a6).trans (ls_ix (h := PyData.int) hz))
  have tk : ∀ k : Int, fBin dMod (fVar 1) (fC (.int 5)) [some (vecD bk), some (.int c), some (.int (at' : Int)), some (.int z)] = some (.int (c % 5)) := fun k => i_mod rfl rfl (by decide)
  have tE : ∀ k : Int, tV (fBin dEq (fBin dMod (fVar 1) (fC (.int 5))) (fC (.int k))) [some (vecD bk), some (.int c), some (.int (at' : Int)), some (.int z)] = some (c % 5 == k) := fun k => t_eq (tk k) rfl
  have hH : fSl (fVar 0) oNone (oSome (fVar 2)) [some (vecD bk), some (.int c), some (.int (at' : Int)), some (.int z)] = some (vecD (bk.take at')) := slC_h (h := PyData.int) rfl rfl
  have hT1 : fSl (fVar 0) (oSome (fBin dAdd (fVar 2) (fC (.int 1)))) oNone [some (vecD bk), some (.int c), some (.int (at' : Int)), some (.int z)] = some (vecD (bk.drop (at' + 1))) := slC_g (h := PyData.int) rfl (suc_v (n := at') rfl)
  have hT : fSl (fVar 0) (oSome (fVar 2)) oNone [some (vecD bk), some (.int c), some (.int (at' : Int)), some (.int z)] = some (vecD (bk.drop at')) := slC_g (h := PyData.int) rfl rfl
  have hW : fFn dList (fConsA (fVar 3) fNilA) [some (vecD bk), some (.int c), some (.int (at' : Int)), some (.int z)] = some (vecD [z]) := vec1_e rfl
  have lt : (bk.take at').length ≤ 900 := by rw [List.length_take]; omega
  have ltn : (bk.take at').length = at' := by rw [List.length_take]; omega
  have ld : ∀ k, (bk.drop k).length = bk.length - k := fun k => List.length_drop ..
  have neq : ∀ k : Int, ¬ c % 5 = k → (c % 5 == k) = false := fun k h => beq_eq_false_iff_ne.mpr h
  unfold R_law_changed B_law_changed
  by_cases b0 : c % 5 = 0
  · exact ⟨bk.take at' ++ [z] ++ bk.drop (at' + 1), runF_rt (seq_nx s2 (seq_nx s3 (seq_rt ((if_t ((tE 0).trans (by rw [b0]; rfl))).trans (ret_rt (vcat_e (vcat_e hH hW (by rw [List.length_singleton]; omega)) hT1 (by rw [List.length_append, ld, List.length_singleton]; omega))))))), by rw [List.length_append, List.length_append, ld, List.length_singleton]; omega⟩
  have f0 := (tE 0).trans (congrArg some (neq 0 b0))
  by_cases b1 : c % 5 = 1
  · exact ⟨bk.take at' ++ bk.drop (at' + 1), runF_rt (seq_nx s2 (seq_nx s3 (seq_nx ((if_f f0).trans rfl) (seq_rt ((if_t ((tE 1).trans (by rw [b1]; rfl))).trans (ret_rt (vcat_e hH hT1 (by rw [ld]; omega)))))))), by rw [List.length_append, ld]; omega⟩
  have f1 := (tE 1).trans (congrArg some (neq 1 b1))
  by_cases b2 : c % 5 = 2
  · exact ⟨bk.take at' ++ [z] ++ bk.drop at', runF_rt (seq_nx s2 (seq_nx s3 (seq_nx ((if_f f0).trans rfl) (seq_nx ((if_f f1).trans rfl) (seq_rt ((if_t ((tE 2).trans (by rw [b2]; rfl))).trans (ret_rt (vcat_e (vcat_e hH hW (by rw [List.length_singleton]; omega)) hT (by rw [List.length_append, ld, List.length_singleton]; omega))))))))), by rw [List.length_append, List.length_append, ld, List.length_singleton]; omega⟩
  have f2 := (tE 2).trans (congrArg some (neq 2 b2))
  by_cases b3 : c % 5 = 3
  · exact ⟨bk.take at', runF_rt (seq_nx s2 (seq_nx s3 (seq_nx ((if_f f0).trans rfl) (seq_nx ((if_f f1).trans rfl) (seq_nx ((if_f f2).trans rfl) (seq_rt ((if_t ((tE 3).trans (by rw [b3]; rfl))).trans (ret_rt hH)))))))), by omega⟩
  have f3 := (tE 3).trans (congrArg some (neq 3 b3))
  exact ⟨bk ++ [z], runF_rt (seq_nx s2 (seq_nx s3 (seq_nx ((if_f f0).trans rfl) (seq_nx ((if_f f1).trans rfl) (seq_nx ((if_f f2).trans rfl) (seq_nx ((if_f f3).trans rfl) (ret_rt (vcat_e (a := bk) rfl hW (by rw [List.length_singleton]; omega))))))))), by rw [List.length_append, List.length_singleton]; omega⟩
theorem ClB.z {x : Cl} (h : ClB x) : x.2.length ≤ 10 ∧ ∀ m ∈ x.2, m.2.length ≤ 10 := ⟨by have := h.2.1; omega, fun m hm => by have := (h.2.2 m hm).2.1; omega⟩
theorem GsB.z {g : List (List Cl)} (h : GsB g) : g.length ≤ 10 ∧ ∀ cs ∈ g, cs.length ≤ 10 ∧ ∀ x ∈ cs, x.2.length ≤ 10 ∧ ∀ m ∈ x.2, m.2.length ≤ 10 := ⟨by have := h.1; omega, fun cs hc => ⟨by have := (h.2 cs hc).1; omega, fun x hx => ClB.z ((h.2 cs hc).2 x hx)⟩⟩
theorem CtB.z {n : Nat} {c : Ct} (h : CtB n c) (hn : n ≤ 3) : CtZ c := ⟨⟨by have := h.p.1; omega, fun r hr => ⟨by have := (h.p.2 r hr).1; omega, fun q hq => ⟨by have := ((h.p.2 r hr).2 q hq).1; omega, fun v hv => by have := (((h.p.2 r hr).2 q hq).2 v hv).1; omega⟩⟩⟩, ⟨by have := h.s.1; omega, fun x hx => ClB.z (h.s.2 x hx)⟩, GsB.z h.w, GsB.z h.j, GsB.z h.e⟩
theorem encC_le {x : Cl} (h : ClB x) : (encC x).length ≤ 12 := by
  have := encL_len (k := 2) (m := 5) (f := encM) (xs := x.2) ⟨h.2.1, fun m hm => by
    have := (h.2.2 m hm).2.1
    unfold encM
    rw [List.length_cons, List.length_cons]
    omega⟩
  unfold encC
  rw [List.length_cons]
  omega
theorem encCs_le {cs : List Cl} (h : cs.length ≤ 2 ∧ ∀ x ∈ cs, ClB x) : (encCs cs).length ≤ 25 := encL_len (k := 2) (m := 12) (f := encC) (xs := cs) ⟨h.1, fun x hx => encC_le (h.2 x hx)⟩
theorem encG_le {g : List (List Cl)} (h : GsB g) : (encG g).length ≤ 51 := encL_len (k := 2) (m := 25) (f := encCs) (xs := g) ⟨h.1, fun x hx => encCs_le (h.2 x hx)⟩
theorem CtB.len {n : Nat} {c : Ct} (h : CtB n c) (hn : n ≤ 3) : (enc c).length ≤ 300 := by
  have l1 : (encPs c.P).length ≤ 47 := encL_len (k := 2) (m := 23) (f := encR) (xs := c.P) ⟨h.p.1, fun r hr => encL_len (k := 2) (m := 11) (f := encP) (xs := r) ⟨(h.p.2 r hr).1, fun q hq => encL_len (k := 2) (m := 5) (f := encV) (xs := q) ⟨((h.p.2 r hr).2 q hq).1, fun v hv => by
    have := (((h.p.2 r hr).2 q hq).2 v hv).1
    unfold encV
    rw [List.length_cons]
    omega⟩⟩⟩
  have l2 := encCs_le h.s
  have l3 := encG_le h.w
  have l4 := encG_le h.j
  have l5 := encG_le h.e
  unfold enc
  simp only [List.length_append]
  omega
theorem enc_pos (c : Ct) : 1 ≤ (enc c).length := by
  have := hpL encR c.P
  unfold enc encPs
  simp only [List.length_append]
  omega
theorem asgC2_nx {i jc : Nat} {Fn : List PyData → List PyData → Option (PyData × List PyData)} {fs : FA} {Rg : List PyData → Option PyData} {ρ : Rho} {ds es es' : List PyData} {d z : PyData} (h : fs ρ = some ds) (h2 : ρ[jc]? = some (some (.list es))) (h3 : Fn ds es = some (d, es')) (h4 : Rg [d] = some z) : sAsgC2 i jc Fn fs Rg ρ = some (.nx ((ρ.set jc (some (.list es'))).set i (some z))) := by
  unfold sAsgC2
  rw [h, Option.bind_some, h2]
  show (Fn ds es).bind _ = _
  rw [h3, Option.bind_some]
  show (Rg [d]).map _ = _
  rw [h4] <;> rfl
theorem dMin2_i (i j : Int) : dMin2 (.int i) (.int j) = some (.int (if j < i then j else i)) := rfl
def szB : FS := (sSeq (sAsg 12 (fFn R_law_told (fConsA (fVar 9) (fConsA (fVar 11) fNilA)))) (sSeq (sIf (tO (tV (fBin dNe (fVar 9) (fVar 10))) (tA (tV (fBin dEq (fVar 8) (fC (.int 0)))) (tA (tV (fBin dEq (fVar 11) (fVar 3))) (tV (fBin dIs (fVar 12) (fC .none)))))) (sRet (fC (.bool false))) sNil) (sSeq (sIf (tA (tV (fBin dIsNot (fVar 12) (fC .none))) (tO (tN (tTr (fFn R_law_is_certificate (fConsA (fVar 12) (fConsA (fVar 11) fNilA))))) (tV (fBin dNe (fFn R_law_book (fConsA (fVar 12) fNilA)) (fVar 9))))) (sRet (fC (.bool false))) sNil) (sSeq (sIf (tA (tV (fBin dIsNot (fVar 12) (fC .none))) (tV (fBin dNe (fFn R_write_book (fConsA (fVar 12) fNilA)) (fVar 9)))) (sRet (fC (.bool false))) sNil) sNil))))
theorem szB_e {N : Vc} {m j sz : Nat} (hN : N.length ≤ 1000) (h0 : j = 0 → sz = m → R_read_book [vecD N, .int (sz : Int)] ≠ none) (a0 a1 a2 a4 a5 a6 a7 x12 : Option PyData) : ∃ y12 : Option PyData, szB [a0, a1, a2, some (.int (m : Int)), a4, a5, a6, a7, some (.int (j : Int)), some (vecD N), some (vecD N), some (.int (sz : Int)), x12] = some (.nx [a0, a1, a2, some (.int (m : Int)), a4, a5, a6, a7, some (.int (j : Int)), some (vecD N), some (vecD N), some (.int (sz : Int)), y12]) := by
  have hb : dNe (vecD N) (vecD N) = some (.bool false) := (dNe_v ..).trans (by rw [decide_eq_true rfl]; rfl)
  rcases told_all (n := sz) hN with ⟨c, hc, hg, e⟩ | ⟨e, er⟩
  · have hs : (enc c).length ≤ 1000 := by rw [← hc]; exact hN
    have t1 : tO (tV (fBin dNe (fVar 9) (fVar 10))) (tA (tV (fBin dEq (fVar 8) (fC (.int 0)))) (tA (tV (fBin dEq (fVar 11) (fVar 3))) (tV (fBin dIs (fVar 12) (fC .none))))) [a0, a1, a2, some (.int (m : Int)), a4, a5, a6, a7, some (.int (j : Int)), some (vecD N), some (vecD N), some (.int (sz : Int)), some (ctD c)] = some false := by
      refine orF (tV_b ((fBin_eq rfl rfl).trans hb)) ?_
      have q1 : tV (fBin dEq (fVar 8) (fC (.int 0))) [a0, a1, a2, some (.int (m : Int)), a4, a5, a6, a7, some (.int (j : Int)), some (vecD N), some (vecD N), some (.int (sz : Int)), some (ctD c)] = some ((j : Int) == 0) := t_eq rfl rfl
      have q2 : tV (fBin dEq (fVar 11) (fVar 3)) [a0, a1, a2, some (.int (m : Int)), a4, a5, a6, a7, some (.int (j : Int)), some (vecD N), some (vecD N), some (.int (sz : Int)), some (ctD c)] = some ((sz : Int) == (m : Int)) := t_eq rfl rfl
      cases b1 : ((j : Int) == 0) with
      | false => exact andF (q1.trans (by rw [b1]))
      | true =>
        refine andT (q1.trans (by rw [b1])) ?_
        cases b2 : ((sz : Int) == (m : Int)) with
        | false => exact andF (q2.trans (by rw [b2]))
        | true => exact andT (q2.trans (by rw [b2])) (tV_b ((fBin_eq rfl rfl).trans rfl))
    have eL := R_lawBS hs
    have eW := R_writeBS hs
    rw [← hc] at eL eW
    have t2 : tA (tV (fBin dIsNot (fVar 12) (fC .none))) (tO (tN (tTr (fFn R_law_is_certificate (fConsA (fVar 12) (fConsA (fVar 11) fNilA))))) (tV (fBin dNe (fFn R_law_book (fConsA (fVar 12) fNilA)) (fVar 9)))) [a0, a1, a2, some (.int (m : Int)), a4, a5, a6, a7, some (.int (j : Int)), some (vecD N), some (vecD N), some (.int (sz : Int)), some (ctD c)] = some false :=
      andT (tV_b ((fBin_eq rfl rfl).trans rfl)) (orF (notT (truT (fnn2 rfl rfl (R_iscert hg hs)))) (tV_b ((fBin_eq (fn1 rfl eL) rfl).trans hb)))
    have t3 : tA (tV (fBin dIsNot (fVar 12) (fC .none))) (tV (fBin dNe (fFn R_write_book (fConsA (fVar 12) fNilA)) (fVar 9))) [a0, a1, a2, some (.int (m : Int)), a4, a5, a6, a7, some (.int (j : Int)), some (vecD N), some (vecD N), some (.int (sz : Int)), some (ctD c)] = some false :=
      andT (tV_b ((fBin_eq rfl rfl).trans rfl)) (tV_b ((fBin_eq (fn1 rfl eW) rfl).trans hb))
    exact ⟨_, seq_nx (asg_nx (fnn2 (x := vecD N) (y := .int (sz : Int)) rfl rfl e)) (seq_nx ((if_f t1).trans rfl) (seq_nx ((if_f t2).trans rfl) (seq_nx ((if_f t3).trans rfl) rfl)))⟩
  · have t1 : tO (tV (fBin dNe (fVar 9) (fVar 10))) (tA (tV (fBin dEq (fVar 8) (fC (.int 0)))) (tA (tV (fBin dEq (fVar 11) (fVar 3))) (tV (fBin dIs (fVar 12) (fC .none))))) [a0, a1, a2, some (.int (m : Int)), a4, a5, a6, a7, some (.int (j : Int)), some (vecD N), some (vecD N), some (.int (sz : Int)), some .none] = some false := by
      refine orF (tV_b ((fBin_eq rfl rfl).trans hb)) ?_
      have q1 : tV (fBin dEq (fVar 8) (fC (.int 0))) [a0, a1, a2, some (.int (m : Int)), a4, a5, a6, a7, some (.int (j : Int)), some (vecD N), some (vecD N), some (.int (sz : Int)), some .none] = some ((j : Int) == 0) := t_eq rfl rfl
      have q2 : tV (fBin dEq (fVar 11) (fVar 3)) [a0, a1, a2, some (.int (m : Int)), a4, a5, a6, a7, some (.int (j : Int)), some (vecD N), some (vecD N), some (.int (sz : Int)), some .none] = some ((sz : Int) == (m : Int)) := t_eq rfl rfl
      cases b1 : ((j : Int) == 0) with
      | false => exact andF (q1.trans (by rw [b1]))
      | true =>
        refine andT (q1.trans (by rw [b1])) ?_
        cases b2 : ((sz : Int) == (m : Int)) with
        | false => exact andF (q2.trans (by rw [b2]))
        | true =>
          have b1 := eq_of_beq b1
          have b2 := eq_of_beq b2
          exact absurd er (h0 (by omega) (by omega))
    have t2 : tA (tV (fBin dIsNot (fVar 12) (fC .none))) (tO (tN (tTr (fFn R_law_is_certificate (fConsA (fVar 12) (fConsA (fVar 11) fNilA))))) (tV (fBin dNe (fFn R_law_book (fConsA (fVar 12) fNilA)) (fVar 9)))) [a0, a1, a2, some (.int (m : Int)), a4, a5, a6, a7, some (.int (j : Int)), some (vecD N), some (vecD N), some (.int (sz : Int)), some .none] = some false := andF (tV_b ((fBin_eq rfl rfl).trans rfl))
    have t3 : tA (tV (fBin dIsNot (fVar 12) (fC .none))) (tV (fBin dNe (fFn R_write_book (fConsA (fVar 12) fNilA)) (fVar 9))) [a0, a1, a2, some (.int (m : Int)), a4, a5, a6, a7, some (.int (j : Int)), some (vecD N), some (vecD N), some (.int (sz : Int)), some .none] = some false := andF (tV_b ((fBin_eq rfl rfl).trans rfl))
    exact ⟨_, seq_nx (asg_nx (fnn2 (x := vecD N) (y := .int (sz : Int)) rfl rfl e)) (seq_nx ((if_f t1).trans rfl) (seq_nx ((if_f t2).trans rfl) (seq_nx ((if_f t3).trans rfl) rfl)))⟩
def jB : FS := (sSeq (sAsg 9 (fBin dIx (fVar 6) (fVar 8))) (sSeq (sAsg 10 (fFn (g1 dListOf) (fConsA (fVar 9) fNilA))) (sSeq (sFor (iSeq (fFn dList (fConsA (fVar 3) (fConsA (fBin dMod (fBin dAdd (fBin dAdd (fVar 3) (fC (.int 1))) (fBin dMod (fBin dDiv (fVar 2) (fC (.int 13))) (fC (.int 3)))) (fC (.int 4))) fNilA)))) (gN 11) szB) sNil)))
theorem jB_e {Ls : List Vc} {C : Int} {m j : Nat} {N : Vc} (hC : 0 ≤ C) (hj : Ls[j]? = some N) (hN : N.length ≤ 1000) (h0 : j = 0 → R_read_book [vecD N, .int (m : Int)] ≠ none) (a0 a1 a4 a5 a7 x9 x10 x11 x12 : Option PyData) : ∃ y9 y10 y11 y12 : Option PyData, jB [a0, a1, some (.int C), some (.int (m : Int)), a4, a5, some (matD Ls), a7, some (.int (j : Int)), x9, x10, x11, x12] = some (.nx [a0, a1, some (.int C), some (.int (m : Int)), a4, a5, some (matD Ls), a7, some (.int (j : Int)), y9, y10, y11, y12]) := by
  have s9 : sAsg 9 (fBin dIx (fVar 6) (fVar 8)) [a0, a1, some (.int C), some (.int (m : Int)), a4, a5, some (matD Ls), a7, some (.int (j : Int)), x9, x10, x11, x12] = some (.nx [a0, a1, some (.int C), some (.int (m : Int)), a4, a5, some (matD Ls), a7, some (.int (j : Int)), some (vecD N), x10, x11, x12]) := asg_nx ((fBin_eq (x := matD Ls) (y := .int (j : Int)) rfl rfl).trans (ls_ix (h := vecD) hj))
  obtain ⟨m2, hm2⟩ : ∃ m2 : Nat, ((m : Int) + 1 + C / 13 % 3) % 4 = (m2 : Int) := ⟨(((m : Int) + 1 + C / 13 % 3) % 4).toNat, by omega⟩
  have src : (iSeq (fFn dList (fConsA (fVar 3) (fConsA (fBin dMod (fBin dAdd (fBin dAdd (fVar 3) (fC (.int 1))) (fBin dMod (fBin dDiv (fVar 2) (fC (.int 13))) (fC (.int 3)))) (fC (.int 4))) fNilA)))) [a0, a1, some (.int C), some (.int (m : Int)), a4, a5, some (matD Ls), a7, some (.int (j : Int)), some (vecD N), some (vecD N), x11, x12] = some (([m, m2] : List Nat).map fun (i : Nat) => PyData.int (i : Int)) := by
    refine iseq_e (fnn2 (x := .int (m : Int)) (y := .int (m2 : Int)) rfl ?_ rfl)
    exact (i_mod (i_add (i_add rfl rfl) (i_mod (i_div (x := C) (y := 13) rfl rfl (by decide) (by decide)) rfl (by decide))) rfl (by decide)).trans (by rw [hm2])
  obtain ⟨ρ2, e2, y11, y12, rfl⟩ : Nx (sFor (iSeq (fFn dList (fConsA (fVar 3) (fConsA (fBin dMod (fBin dAdd (fBin dAdd (fVar 3) (fC (.int 1))) (fBin dMod (fBin dDiv (fVar 2) (fC (.int 13))) (fC (.int 3)))) (fC (.int 4))) fNilA)))) (gN 11) szB) [a0, a1, some (.int C), some (.int (m : Int)), a4, a5, some (matD Ls), a7, some (.int (j : Int)), some (vecD N), some (vecD N), x11, x12] (fun ρ => ∃ x11 x12 : Option PyData, ρ = [a0, a1, some (.int C), some (.int (m : Int)), a4, a5, some (matD Ls), a7, some (.int (j : Int)), some (vecD N), some (vecD N), x11, x12]) :=
    nx_for (i := 0) (I := fun _ ρ => ∃ x11 x12 : Option PyData, ρ = [a0, a1, some (.int C), some (.int (m : Int)), a4, a5, some (matD Ls), a7, some (.int (j : Int)), some (vecD N), some (vecD N), x11, x12]) src ⟨_, _, rfl⟩ fun sz hsz _ _ _ ρ e => by
      obtain ⟨x11, x12, rfl⟩ := e
      obtain ⟨y12, eB⟩ := szB_e (N := N) (m := m) (j := j) (sz := sz) hN (fun q1 q2 => by rw [q2]; exact h0 q1) a0 a1 (some (.int C)) a4 a5 (some (matD Ls)) a7 x12
      exact ⟨_, rfl, .of eB ⟨_, _, rfl⟩⟩
  exact ⟨_, _, _, _, seq_nx s9 (seq_nx (asg_nx (d := vecD N) rfl) (seq_nx e2 rfl))⟩
def lwB : FS := (sSeq (sAsg 2 (fBin dAdd (fFn R_law_cell (fConsA (fVar 0) (fConsA (fVar 1) fNilA))) (fBin dMul (fC (.int 3)) (fVar 1)))) (sSeq (sAsg 3 (fBin dMod (fVar 2) (fC (.int 4)))) (sSeq (sAsg 4 (fFn dList (fConsA (fFn R_law_digits (fConsA (fBin dDiv (fVar 2) (fC (.int 4))) (fConsA (fC (.int 27720)) (fConsA (fC (.int 60)) fNilA)))) (fConsA (fC (.int 0)) fNilA)))) (sSeq (sAsgC2 5 4 RT_law_certificate (fConsA (fVar 3) fNilA) R_law_book) (sSeq (sAsg 6 (fFn dList (fConsA (fVar 5) (fConsA (fFn R_law_changed (fConsA (fVar 5) (fConsA (fBin dDiv (fVar 2) (fC (.int 4))) fNilA))) (fConsA (fFn R_law_changed (fConsA (fVar 5) (fConsA (fBin dAdd (fBin dDiv (fVar 2) (fC (.int 11))) (fC (.int 1))) fNilA))) fNilA))))) (sSeq (sApp 6 (fLc (iSeq (fFn R_law_digits (fConsA (fBin dAdd (fBin dDiv (fVar 2) (fC (.int 9))) (fC (.int 1))) (fConsA (fC (.int 27720)) (fConsA (fBin dMod (fBin dDiv (fVar 2) (fC (.int 3))) (fC (.int 41))) fNilA))))) (gN 7) tYesF (fBin dSub (fBin dMod (fVar 7) (fC (.int 5))) (fBin dMul (fBin dDiv (fBin dMod (fBin dDiv (fVar 7) (fC (.int 5))) (fC (.int 9))) (fC (.int 8))) (fC (.int 6)))) [7])) (sSeq (sApp 6 (fBin dRep (fFn dList (fConsA (fC (.int 0)) fNilA)) (fBin dMod (fBin dDiv (fVar 2) (fC (.int 5))) (fC (.int 8))))) (sSeq (sFor (iR1 (fFn (g1 dLen) (fConsA (fVar 6) fNilA))) (gN 8) jB) sNil))))))))
theorem lwB_e (ns : List Int) (k : Nat) (hk : k ≤ 6) (x2 x3 x4 x5 x6 x7 x8 x9 x10 x11 x12 : Option PyData) : ∃ y2 y3 y4 y5 y6 y7 y8 y9 y10 y11 y12 : Option PyData, lwB [some (vecD ns), some (.int (k : Int)), x2, x3, x4, x5, x6, x7, x8, x9, x10, x11, x12] = some (.nx [some (vecD ns), some (.int (k : Int)), y2, y3, y4, y5, y6, y7, y8, y9, y10, y11, y12]) := by
  obtain ⟨c, hc, ec⟩ := R_cell2 ns k
  obtain ⟨C, hC⟩ : ∃ C : Int, C = c + 3 * (k : Int) := ⟨_, rfl⟩
  have C0 : 0 ≤ C := by omega
  obtain ⟨m, hm, em⟩ : ∃ m : Nat, C % 4 = (m : Int) ∧ m ≤ 3 := ⟨(C % 4).toNat, by omega, by omega⟩
  obtain ⟨ds, ed, ld, gd⟩ := R_digits (c := C / 4) (base := 27720) (most := 60) (by omega) (by decide) (by decide) (by decide)
  obtain ⟨ct, n', e4, hB⟩ := cert_e (D := ds) ⟨ld, gd⟩ em
  have hZ := hB.z em
  have hl := hB.len em
  have hp := enc_pos ct
  have hg : GdP m ct.P := fun r hr q hq v hv => (((hB.p.2 r hr).2 q hq).2 v hv).1
  have eL := R_lawBS (c := ct) (by omega)
  have eR : R_read_book [vecD (enc ct), .int (m : Int)] = some (ctD ct) := by
    rcases ck_all (n := m) (P := ct.P) with ⟨_, ck, _⟩ | ⟨h, _, _⟩
    · exact R_readB hZ ck
    · exact absurd hg h
  generalize enc ct = bk at eL eR hl hp
  obtain ⟨r1, e1, l1⟩ := R_changed (bk := bk) (c := C / 4) (by omega) hp (by omega)
  obtain ⟨r2, e2, l2⟩ := R_changed (bk := bk) (c := C / 11 + 1) (by omega) hp (by omega)
  obtain ⟨u, hu, hu2⟩ : ∃ u : Nat, C / 3 % 41 = (u : Int) ∧ u ≤ 40 := ⟨(C / 3 % 41).toNat, by omega, by omega⟩
  obtain ⟨w, hw, hw2⟩ : ∃ w : Nat, C / 5 % 8 = (w : Int) ∧ w ≤ 7 := ⟨(C / 5 % 8).toNat, by omega, by omega⟩
  obtain ⟨d2, ed2, ld2, gd2⟩ := R_digits (c := C / 9 + 1) (base := 27720) (most := u) (by omega) (by decide) (by decide) (by omega)
  have s2 : sAsg 2 (fBin dAdd (fFn R_law_cell (fConsA (fVar 0) (fConsA (fVar 1) fNilA))) (fBin dMul (fC (.int 3)) (fVar 1))) [some (vecD ns), some (.int (k : Int)), x2, x3, x4, x5, x6, x7, x8, x9, x10, x11, x12] = some (.nx [some (vecD ns), some (.int (k : Int)), some (.int C), x3, x4, x5, x6, x7, x8, x9, x10, x11, x12]) := asg_nx ((i_add (fnn2 rfl rfl ec) (i_mul (x := 3) rfl rfl (by decide) (by omega))).trans (by rw [hC]))
  have s3 : sAsg 3 (fBin dMod (fVar 2) (fC (.int 4))) [some (vecD ns), some (.int (k : Int)), some (.int C), x3, x4, x5, x6, x7, x8, x9, x10, x11, x12] = some (.nx [some (vecD ns), some (.int (k : Int)), some (.int C), some (.int (m : Int)), x4, x5, x6, x7, x8, x9, x10, x11, x12]) := asg_nx ((i_mod rfl rfl (by decide)).trans (by rw [hm]))
  have s4 : sAsg 4 (fFn dList (fConsA (fFn R_law_digits (fConsA (fBin dDiv (fVar 2) (fC (.int 4))) (fConsA (fC (.int 27720)) (fConsA (fC (.int 60)) fNilA)))) (fConsA (fC (.int 0)) fNilA))) [some (vecD ns), some (.int (k : Int)), some (.int C), some (.int (m : Int)), x4, x5, x6, x7, x8, x9, x10, x11, x12] = some (.nx [some (vecD ns), some (.int (k : Int)), some (.int C), some (.int (m : Int)), some (.list (tS ds 0)), x5, x6, x7, x8, x9, x10, x11, x12]) :=
    asg_nx (fnn2 (fnn3 (i_div (x := C) (y := 4) rfl rfl (by decide) (by decide)) rfl rfl ed) rfl rfl)
  have s5 : sAsgC2 5 4 RT_law_certificate (fConsA (fVar 3) fNilA) R_law_book [some (vecD ns), some (.int (k : Int)), some (.int C), some (.int (m : Int)), some (.list (tS ds 0)), x5, x6, x7, x8, x9, x10, x11, x12] = some (.nx [some (vecD ns), some (.int (k : Int)), some (.int C), some (.int (m : Int)), some (.list (tS ds n')), some (vecD bk), x6, x7, x8, x9, x10, x11, x12]) := asgC2_nx (ds := [.int (m : Int)]) rfl rfl e4 eL
  generalize some (PyData.list (tS ds n')) = z4 at s5
  have s6 : sAsg 6 (fFn dList (fConsA (fVar 5) (fConsA (fFn R_law_changed (fConsA (fVar 5) (fConsA (fBin dDiv (fVar 2) (fC (.int 4))) fNilA))) (fConsA (fFn R_law_changed (fConsA (fVar 5) (fConsA (fBin dAdd (fBin dDiv (fVar 2) (fC (.int 11))) (fC (.int 1))) fNilA))) fNilA)))) [some (vecD ns), some (.int (k : Int)), some (.int C), some (.int (m : Int)), z4, some (vecD bk), x6, x7, x8, x9, x10, x11, x12] = some (.nx [some (vecD ns), some (.int (k : Int)), some (.int C), some (.int (m : Int)), z4, some (vecD bk), some (matD [bk, r1, r2]), x7, x8, x9, x10, x11, x12]) :=
    asg_nx (fnn3 (x := vecD bk) rfl (fnn2 rfl (i_div (x := C) (y := 4) rfl rfl (by decide) (by decide)) e1) (fnn2 rfl (i_add (i_div (x := C) (y := 11) rfl rfl (by decide) (by decide)) rfl) e2) rfl)
  have s7 : sApp 6 (fLc (iSeq (fFn R_law_digits (fConsA (fBin dAdd (fBin dDiv (fVar 2) (fC (.int 9))) (fC (.int 1))) (fConsA (fC (.int 27720)) (fConsA (fBin dMod (fBin dDiv (fVar 2) (fC (.int 3))) (fC (.int 41))) fNilA))))) (gN 7) tYesF (fBin dSub (fBin dMod (fVar 7) (fC (.int 5))) (fBin dMul (fBin dDiv (fBin dMod (fBin dDiv (fVar 7) (fC (.int 5))) (fC (.int 9))) (fC (.int 8))) (fC (.int 6)))) [7]) [some (vecD ns), some (.int (k : Int)), some (.int C), some (.int (m : Int)), z4, some (vecD bk), some (matD [bk, r1, r2]), x7, x8, x9, x10, x11, x12] = some (.nx [some (vecD ns), some (.int (k : Int)), some (.int C), some (.int (m : Int)), z4, some (vecD bk), some (matD [bk, r1, r2, d2.map fun d => d % 5 - d / 5 % 9 / 8 * 6]), x7, x8, x9, x10, x11, x12]) := by
    refine app_d (h := vecD) (a := d2.map fun d => d % 5 - d / 5 % 9 / 8 * 6) (xs := [bk, r1, r2]) ?_ rfl (by show 3 ≤ _; decide)
    unfold vecD
    rw [List.map_map]
    refine fLc_map (α := Int) (h := PyData.int) (g := PyData.int ∘ fun d => d % 5 - d / 5 % 9 / 8 * 6) (xs := d2) (iseq_e (fnn3 (i_add (i_div (x := C) (y := 9) rfl rfl (by decide) (by decide)) rfl) rfl ((i_mod (i_div (x := C) (y := 3) rfl rfl (by decide) (by decide)) rfl (by decide)).trans (by rw [hu])) ed2)) (by omega) fun d hd => ⟨_, rfl, rfl, ?_⟩
    have gd := gd2 d hd
    refine (fBin_eq (i_mod (x := d) (y := 5) rfl rfl (by decide)) (i_mul (i_div (i_mod (i_div (x := d) (y := 5) rfl rfl (by decide) (by decide)) (y := 9) rfl (by decide)) (y := 8) rfl (by decide) (by decide)) (y := 6) rfl ?_ (by decide))).trans (dSub_i ..)
    omega
  have s8 : sApp 6 (fBin dRep (fFn dList (fConsA (fC (.int 0)) fNilA)) (fBin dMod (fBin dDiv (fVar 2) (fC (.int 5))) (fC (.int 8)))) [some (vecD ns), some (.int (k : Int)), some (.int C), some (.int (m : Int)), z4, some (vecD bk), some (matD [bk, r1, r2, d2.map fun d => d % 5 - d / 5 % 9 / 8 * 6]), x7, x8, x9, x10, x11, x12] = some (.nx [some (vecD ns), some (.int (k : Int)), some (.int C), some (.int (m : Int)), z4, some (vecD bk), some (matD [bk, r1, r2, d2.map fun d => d % 5 - d / 5 % 9 / 8 * 6, List.replicate w 0]), x7, x8, x9, x10, x11, x12]) := by
    refine app_d (h := vecD) (a := List.replicate w 0) (xs := [bk, r1, r2, d2.map fun d => d % 5 - d / 5 % 9 / 8 * 6]) ?_ rfl (by show 4 ≤ _; decide)
    exact (fBin_eq (x := vecD [0]) rfl ((i_mod (i_div (x := C) (y := 5) rfl rfl (by decide) (by decide)) rfl (by decide)).trans (by rw [hw]))).trans (rep_v (by omega))
  have hL : ∀ N ∈ [bk, r1, r2, d2.map fun d => d % 5 - d / 5 % 9 / 8 * 6, List.replicate w 0], N.length ≤ 1000 := fun N hN => by
    rcases List.mem_cons.mp hN with rfl | hN
    · omega
    rcases List.mem_cons.mp hN with rfl | hN
    · omega
    rcases List.mem_cons.mp hN with rfl | hN
    · omega
    rcases List.mem_cons.mp hN with rfl | hN
    · rw [List.length_map]
      omega
    · rw [List.mem_singleton.mp hN, List.length_replicate]
      omega
  have hF : ∀ N : Vc, [bk, r1, r2, d2.map fun d => d % 5 - d / 5 % 9 / 8 * 6, List.replicate w 0][0]? = some N → N = bk := fun N h => (Option.some.inj h).symm
  have hlen : [bk, r1, r2, d2.map fun d => d % 5 - d / 5 % 9 / 8 * 6, List.replicate w 0].length = 5 := rfl
  generalize [bk, r1, r2, d2.map fun d => d % 5 - d / 5 % 9 / 8 * 6, List.replicate w 0] = Ls at s8 hL hF hlen
  obtain ⟨ρ2, e9, y8, y9, y10, y11, y12, rfl⟩ : Nx (sFor (iR1 (fFn (g1 dLen) (fConsA (fVar 6) fNilA))) (gN 8) jB) [some (vecD ns), some (.int (k : Int)), some (.int C), some (.int (m : Int)), z4, some (vecD bk), some (matD Ls), x7, x8, x9, x10, x11, x12] (fun ρ => ∃ x8 x9 x10 x11 x12 : Option PyData, ρ = [some (vecD ns), some (.int (k : Int)), some (.int C), some (.int (m : Int)), z4, some (vecD bk), some (matD Ls), x7, x8, x9, x10, x11, x12]) :=
    nx_for (i := 0) (I := fun _ ρ => ∃ x8 x9 x10 x11 x12 : Option PyData, ρ = [some (vecD ns), some (.int (k : Int)), some (.int C), some (.int (m : Int)), z4, some (vecD bk), some (matD Ls), x7, x8, x9, x10, x11, x12]) (rng1 (lenL_e (h := vecD) (xs := Ls) rfl) (by omega)) ⟨_, _, _, _, _, rfl⟩ fun j hj _ _ _ ρ e => by
      obtain ⟨x8, x9, x10, x11, x12, rfl⟩ := e
      rw [List.mem_range'_1] at hj
      have hj' : j < Ls.length := by omega
      have hjj : Ls[j]? = some Ls[j] := List.getElem?_eq_getElem hj'
      obtain ⟨y9, y10, y11, y12, eB⟩ := jB_e (Ls := Ls) (C := C) (m := m) (j := j) (N := Ls[j]) C0 hjj (hL _ (List.getElem_mem hj')) (fun q => by
        have : Ls[j] = bk := hF _ (by rw [← hjj, q])
        rw [this, eR]
        exact fun z => nomatch z) (some (vecD ns)) (some (.int (k : Int))) z4 (some (vecD bk)) x7 x9 x10 x11 x12
      exact ⟨_, rfl, .of eB ⟨_, _, _, _, _, rfl⟩⟩
  exact ⟨_, _, _, _, _, _, _, _, _, _, _, seq_nx s2 (seq_nx s3 (seq_nx s4 (seq_nx s5 (seq_nx s6 (seq_nx s7 (seq_nx s8 (seq_nx e9 rfl)))))))⟩
theorem law_true (ns : List Int) (h : ns.length ≤ 63) (hb : ∀ z ∈ ns, Builtin.Int.intBits z ≤ 1048576) : R_law [.list (ns.map .int)] = some (.bool true) := by
  obtain ⟨w, hw, ew⟩ : ∃ w : Nat, w ≤ 6 ∧ fFn (g2 dMin2) (fConsA (fBin dAdd (fC (.int 1)) (fFn (g1 dLen) (fConsA (fVar 0) fNilA))) (fConsA (fC (.int 6)) fNilA)) [some (vecD ns), none, none, none, none, none, none, none, none, none, none, none, none] = some (.int (w : Int)) := by
    have e1 : fBin dAdd (fC (.int 1)) (fFn (g1 dLen) (fConsA (fVar 0) fNilA)) [some (vecD ns), none, none, none, none, none, none, none, none, none, none, none, none] = some (.int (1 + (ns.length : Int))) := i_add rfl (lenL_e (h := PyData.int) (xs := ns) rfl)
    by_cases hl : (6 : Int) < 1 + (ns.length : Int)
    · exact ⟨6, by decide, fnn2 e1 rfl (by rw [g2, dMin2_i, if_pos hl]; rfl)⟩
    · exact ⟨1 + ns.length, by omega, fnn2 e1 rfl (by rw [g2, dMin2_i, if_neg hl]; rw [Int.natCast_add]; rfl)⟩
  have key : Rt B_law [some (vecD ns), none, none, none, none, none, none, none, none, none, none, none, none] (fun d => d = .bool true) := by
    unfold B_law
    refine Nx.rt (nx_for (i := 0) (I := fun _ ρ => ∃ x1 x2 x3 x4 x5 x6 x7 x8 x9 x10 x11 x12 : Option PyData, ρ = [some (vecD ns), x1, x2, x3, x4, x5, x6, x7, x8, x9, x10, x11, x12]) (rng1 ew (by omega)) ⟨_, _, _, _, _, _, _, _, _, _, _, _, rfl⟩ fun k hk j _ _ ρ e => ?_) fun ρ e => ⟨_, ret_rt rfl, rfl⟩
    obtain ⟨x1, x2, x3, x4, x5, x6, x7, x8, x9, x10, x11, x12, rfl⟩ := e
    rw [List.mem_range'_1] at hk
    obtain ⟨y2, y3, y4, y5, y6, y7, y8, y9, y10, y11, y12, eB⟩ := lwB_e ns k (by omega) x2 x3 x4 x5 x6 x7 x8 x9 x10 x11 x12
    exact ⟨_, rfl, .of eB ⟨_, _, _, _, _, _, _, _, _, _, _, _, rfl⟩⟩
  obtain ⟨d, e, rfl⟩ := key
  unfold R_law
  exact runF_rt e
def mk_txt {K : PySem.W.Frag} {h : Heap} {mg : Str → Option Value} (X : K.In h) (G : h.Ns mainGlobals mg) {y_BadBook : Addr} {y_FloodError : Addr} {y_OutOfRange : Addr} {f0 : Addr} {od0 an0 : Option Addr} {sl0 : Array (Option Value)} {oc0 kV0 dc0 pm0 cd0 ct0 : Value} {f1 : Addr} {od1 an1 : Option Addr} {sl1 : Array (Option Value)} {oc1 kV1 dc1 pm1 cd1 ct1 : Value} {f2 : Addr} {od2 an2 : Option Addr} {sl2 : Array (Option Value)} {oc2 kV2 dc2 pm2 cd2 ct2 : Value} {f3 : Addr} {od3 an3 : Option Addr} {sl3 : Array (Option Value)} {oc3 kV3 dc3 pm3 cd3 ct3 : Value} {f4 : Addr} {od4 an4 : Option Addr} {sl4 : Array (Option Value)} {oc4 kV4 dc4 pm4 cd4 ct4 : Value} {f5 : Addr} {od5 an5 : Option Addr} {sl5 : Array (Option Value)} {oc5 kV5 dc5 pm5 cd5 ct5 : Value} {f6 : Addr} {od6 an6 : Option Addr} {sl6 : Array (Option Value)} {oc6 kV6 dc6 pm6 cd6 ct6 : Value} {f7 : Addr} {od7 an7 : Option Addr} {sl7 : Array (Option Value)} {oc7 kV7 dc7 pm7 cd7 ct7 : Value} {f8 : Addr} {od8 an8 : Option Addr} {sl8 : Array (Option Value)} {oc8 kV8 dc8 pm8 cd8 ct8 : Value} {f9 : Addr} {od9 an9 : Option Addr} {sl9 : Array (Option Value)} {oc9 kV9 dc9 pm9 cd9 ct9 : Value} {f10 : Addr} {od10 an10 : Option Addr} {sl10 : Array (Option Value)} {oc10 kV10 dc10 pm10 cd10 ct10 : Value} {f11 : Addr} {od11 an11 : Option Addr} {sl11 : Array (Option Value)} {oc11 kV11 dc11 pm11 cd11 ct11 : Value} {f12 : Addr} {od12 an12 : Option Addr} {sl12 : Array (Option Value)} {oc12 kV12 dc12 pm12 cd12 ct12 : Value} {f13 : Addr} {od13 an13 : Option Addr} {sl13 : Array (Option Value)} {oc13 kV13 dc13 pm13 cd13 ct13 : Value} {f14 : Addr} {od14 an14 : Option Addr} {sl14 : Array (Option Value)} {oc14 kV14 dc14 pm14 cd14 ct14 : Value} {f15 : Addr} {od15 an15 : Option Addr} {sl15 : Array (Option Value)} {oc15 kV15 dc15 pm15 cd15 ct15 : Value} {f16 : Addr} {od16 an16 : Option Addr} {sl16 : Array (Option Value)} {oc16 kV16 dc16 pm16 cd16 ct16 : Value} {f17 : Addr} {od17 an17 : Option Addr} {sl17 : Array (Option Value)} {oc17 kV17 dc17 pm17 cd17 ct17 : Value} {f18 : Addr} {od18 an18 : Option Addr} {sl18 : Array (Option Value)} {oc18 kV18 dc18 pm18 cd18 ct18 : Value} {f19 : Addr} {od19 an19 : Option Addr} {sl19 : Array (Option Value)} {oc19 kV19 dc19 pm19 cd19 ct19 : Value} {f20 : Addr} {od20 an20 : Option Addr} {sl20 : Array (Option Value)} {oc20 kV20 dc20 pm20 cd20 ct20 : Value} {f21 : Addr} {od21 an21 : Option Addr} {sl21 : Array (Option Value)} {oc21 kV21 dc21 pm21 cd21 ct21 : Value} {f22 : Addr} {od22 an22 : Option Addr} {sl22 : Array (Option Value)} {oc22 kV22 dc22 pm22 cd22 ct22 : Value} {f23 : Addr} {od23 an23 : Option Addr} {sl23 : Array (Option Value)} {oc23 kV23 dc23 pm23 cd23 ct23 : Value} {f24 : Addr} {od24 an24 : Option Addr} {sl24 : Array (Option Value)} {oc24 kV24 dc24 pm24 cd24 ct24 : Value} {f25 : Addr} {od25 an25 : Option Addr} {sl25 : Array (Option Value)} {oc25 kV25 dc25 pm25 cd25 ct25 : Value} {f26 : Addr} {od26 an26 : Option Addr} {sl26 : Array (Option Value)} {oc26 kV26 dc26 pm26 cd26 ct26 : Value} {f27 : Addr} {od27 an27 : Option Addr} {sl27 : Array (Option Value)} {oc27 kV27 dc27 pm27 cd27 ct27 : Value} {f28 : Addr} {od28 an28 : Option Addr} {sl28 : Array (Option Value)} {oc28 kV28 dc28 pm28 cd28 ct28 : Value} {f29 : Addr} {od29 an29 : Option Addr} {sl29 : Array (Option Value)} {oc29 kV29 dc29 pm29 cd29 ct29 : Value}
    (a0 : PySem.W.nsIn K mainGlobals "in_order" = some (some (.ref f0))) (l0 : K.lookup f0 = some ⟨oc0, od0, .func (PySem.W.fnOf "in_order" "in_order" (defArgs s_in_order) (defBody s_in_order) (defScope s_in_order) .none kV0 dc0 pm0 an0 cd0 ct0), sl0⟩) (c0 : PySem.W.codeIn K cd0 "in_order" = true) (k0 : PySem.W.keepIn K (.ref f0) = true)
    (a1 : PySem.W.nsIn K mainGlobals "piece_numbers" = some (some (.ref f1))) (l1 : K.lookup f1 = some ⟨oc1, od1, .func (PySem.W.fnOf "piece_numbers" "piece_numbers" (defArgs s_piece_numbers) (defBody s_piece_numbers) (defScope s_piece_numbers) .none kV1 dc1 pm1 an1 cd1 ct1), sl1⟩) (c1 : PySem.W.codeIn K cd1 "piece_numbers" = true) (k1 : PySem.W.keepIn K (.ref f1) = true)
    (a2 : PySem.W.nsIn K mainGlobals "claim_numbers" = some (some (.ref f2))) (l2 : K.lookup f2 = some ⟨oc2, od2, .func (PySem.W.fnOf "claim_numbers" "claim_numbers" (defArgs s_claim_numbers) (defBody s_claim_numbers) (defScope s_claim_numbers) .none kV2 dc2 pm2 an2 cd2 ct2), sl2⟩) (c2 : PySem.W.codeIn K cd2 "claim_numbers" = true) (k2 : PySem.W.keepIn K (.ref f2) = true)
    (a3 : PySem.W.nsIn K mainGlobals "row_numbers" = some (some (.ref f3))) (l3 : K.lookup f3 = some ⟨oc3, od3, .func (PySem.W.fnOf "row_numbers" "row_numbers" (defArgs s_row_numbers) (defBody s_row_numbers) (defScope s_row_numbers) .none kV3 dc3 pm3 an3 cd3 ct3), sl3⟩) (c3 : PySem.W.codeIn K cd3 "row_numbers" = true) (k3 : PySem.W.keepIn K (.ref f3) = true)
    (a4 : PySem.W.nsIn K mainGlobals "write_book" = some (some (.ref f4))) (l4 : K.lookup f4 = some ⟨oc4, od4, .func (PySem.W.fnOf "write_book" "write_book" (defArgs s_write_book) (defBody s_write_book) (defScope s_write_book) .none kV4 dc4 pm4 an4 cd4 ct4), sl4⟩) (c4 : PySem.W.codeIn K cd4 "write_book" = true) (k4 : PySem.W.keepIn K (.ref f4) = true)
    (a5 : PySem.W.nsIn K mainGlobals "read_integer" = some (some (.ref f5))) (l5 : K.lookup f5 = some ⟨oc5, od5, .func (PySem.W.fnOf "read_integer" "read_integer" (defArgs s_read_integer) (defBody s_read_integer) (defScope s_read_integer) .none kV5 dc5 pm5 an5 cd5 ct5), sl5⟩) (c5 : PySem.W.codeIn K cd5 "read_integer" = true) (k5 : PySem.W.keepIn K (.ref f5) = true)
    (a6 : PySem.W.nsIn K mainGlobals "read_list" = some (some (.ref f6))) (l6 : K.lookup f6 = some ⟨oc6, od6, .func (PySem.W.fnOf "read_list" "read_list" (defArgs s_read_list) (defBody s_read_list) (defScope s_read_list) .none kV6 dc6 pm6 an6 cd6 ct6), sl6⟩) (c6 : PySem.W.codeIn K cd6 "read_list" = true) (k6 : PySem.W.keepIn K (.ref f6) = true)
    (a7 : PySem.W.nsIn K mainGlobals "read_vector" = some (some (.ref f7))) (l7 : K.lookup f7 = some ⟨oc7, od7, .func (PySem.W.fnOf "read_vector" "read_vector" (defArgs s_read_vector) (defBody s_read_vector) (defScope s_read_vector) .none kV7 dc7 pm7 an7 cd7 ct7), sl7⟩) (c7 : PySem.W.codeIn K cd7 "read_vector" = true) (k7 : PySem.W.keepIn K (.ref f7) = true)
    (a8 : PySem.W.nsIn K mainGlobals "read_piece" = some (some (.ref f8))) (l8 : K.lookup f8 = some ⟨oc8, od8, .func (PySem.W.fnOf "read_piece" "read_piece" (defArgs s_read_piece) (defBody s_read_piece) (defScope s_read_piece) .none kV8 dc8 pm8 an8 cd8 ct8), sl8⟩) (c8 : PySem.W.codeIn K cd8 "read_piece" = true) (k8 : PySem.W.keepIn K (.ref f8) = true)
    (a9 : PySem.W.nsIn K mainGlobals "read_pieces" = some (some (.ref f9))) (l9 : K.lookup f9 = some ⟨oc9, od9, .func (PySem.W.fnOf "read_pieces" "read_pieces" (defArgs s_read_pieces) (defBody s_read_pieces) (defScope s_read_pieces) .none kV9 dc9 pm9 an9 cd9 ct9), sl9⟩) (c9 : PySem.W.codeIn K cd9 "read_pieces" = true) (k9 : PySem.W.keepIn K (.ref f9) = true)
    (a10 : PySem.W.nsIn K mainGlobals "read_multipliers" = some (some (.ref f10))) (l10 : K.lookup f10 = some ⟨oc10, od10, .func (PySem.W.fnOf "read_multipliers" "read_multipliers" (defArgs s_read_multipliers) (defBody s_read_multipliers) (defScope s_read_multipliers) .none kV10 dc10 pm10 an10 cd10 ct10), sl10⟩) (c10 : PySem.W.codeIn K cd10 "read_multipliers" = true) (k10 : PySem.W.keepIn K (.ref f10) = true)
    (a11 : PySem.W.nsIn K mainGlobals "read_claim" = some (some (.ref f11))) (l11 : K.lookup f11 = some ⟨oc11, od11, .func (PySem.W.fnOf "read_claim" "read_claim" (defArgs s_read_claim) (defBody s_read_claim) (defScope s_read_claim) .none kV11 dc11 pm11 an11 cd11 ct11), sl11⟩) (c11 : PySem.W.codeIn K cd11 "read_claim" = true) (k11 : PySem.W.keepIn K (.ref f11) = true)
    (a12 : PySem.W.nsIn K mainGlobals "read_claims" = some (some (.ref f12))) (l12 : K.lookup f12 = some ⟨oc12, od12, .func (PySem.W.fnOf "read_claims" "read_claims" (defArgs s_read_claims) (defBody s_read_claims) (defScope s_read_claims) .none kV12 dc12 pm12 an12 cd12 ct12), sl12⟩) (c12 : PySem.W.codeIn K cd12 "read_claims" = true) (k12 : PySem.W.keepIn K (.ref f12) = true)
    (a13 : PySem.W.nsIn K mainGlobals "check_pieces" = some (some (.ref f13))) (l13 : K.lookup f13 = some ⟨oc13, od13, .func (PySem.W.fnOf "check_pieces" "check_pieces" (defArgs s_check_pieces) (defBody s_check_pieces) (defScope s_check_pieces) .none kV13 dc13 pm13 an13 cd13 ct13), sl13⟩) (c13 : PySem.W.codeIn K cd13 "check_pieces" = true) (k13 : PySem.W.keepIn K (.ref f13) = true)
    (a14 : PySem.W.nsIn K mainGlobals "read_book" = some (some (.ref f14))) (l14 : K.lookup f14 = some ⟨oc14, od14, .func (PySem.W.fnOf "read_book" "read_book" (defArgs s_read_book) (defBody s_read_book) (defScope s_read_book) .none kV14 dc14 pm14 an14 cd14 ct14), sl14⟩) (c14 : PySem.W.codeIn K cd14 "read_book" = true) (k14 : PySem.W.keepIn K (.ref f14) = true)
    (a15 : PySem.W.nsIn K mainGlobals "_law_cell" = some (some (.ref f15))) (l15 : K.lookup f15 = some ⟨oc15, od15, .func (PySem.W.fnOf "_law_cell" "_law_cell" (defArgs s_law_cell) (defBody s_law_cell) (defScope s_law_cell) .none kV15 dc15 pm15 an15 cd15 ct15), sl15⟩) (c15 : PySem.W.codeIn K cd15 "_law_cell" = true) (k15 : PySem.W.keepIn K (.ref f15) = true)
    (a16 : PySem.W.nsIn K mainGlobals "_law_digits" = some (some (.ref f16))) (l16 : K.lookup f16 = some ⟨oc16, od16, .func (PySem.W.fnOf "_law_digits" "_law_digits" (defArgs s_law_digits) (defBody s_law_digits) (defScope s_law_digits) .none kV16 dc16 pm16 an16 cd16 ct16), sl16⟩) (c16 : PySem.W.codeIn K cd16 "_law_digits" = true) (k16 : PySem.W.keepIn K (.ref f16) = true)
    (a17 : PySem.W.nsIn K mainGlobals "_law_claim" = some (some (.ref f17))) (l17 : K.lookup f17 = some ⟨oc17, od17, .func (PySem.W.fnOf "_law_claim" "_law_claim" (defArgs s_law_claim) (defBody s_law_claim) (defScope s_law_claim) .none kV17 dc17 pm17 an17 cd17 ct17), sl17⟩) (c17 : PySem.W.codeIn K cd17 "_law_claim" = true) (k17 : PySem.W.keepIn K (.ref f17) = true)
    (a18 : PySem.W.nsIn K mainGlobals "_law_number" = some (some (.ref f18))) (l18 : K.lookup f18 = some ⟨oc18, od18, .func (PySem.W.fnOf "_law_number" "_law_number" (defArgs s_law_number) (defBody s_law_number) (defScope s_law_number) .none kV18 dc18 pm18 an18 cd18 ct18), sl18⟩) (c18 : PySem.W.codeIn K cd18 "_law_number" = true) (k18 : PySem.W.keepIn K (.ref f18) = true)
    (a19 : PySem.W.nsIn K mainGlobals "_law_take" = some (some (.ref f19))) (l19 : K.lookup f19 = some ⟨oc19, od19, .func (PySem.W.fnOf "_law_take" "_law_take" (defArgs s_law_take) (defBody s_law_take) (defScope s_law_take) .none kV19 dc19 pm19 an19 cd19 ct19), sl19⟩) (c19 : PySem.W.codeIn K cd19 "_law_take" = true) (k19 : PySem.W.keepIn K (.ref f19) = true)
    (a20 : PySem.W.nsIn K mainGlobals "_law_certificate" = some (some (.ref f20))) (l20 : K.lookup f20 = some ⟨oc20, od20, .func (PySem.W.fnOf "_law_certificate" "_law_certificate" (defArgs s_law_certificate) (defBody s_law_certificate) (defScope s_law_certificate) .none kV20 dc20 pm20 an20 cd20 ct20), sl20⟩) (c20 : PySem.W.codeIn K cd20 "_law_certificate" = true) (k20 : PySem.W.keepIn K (.ref f20) = true)
    (a21 : PySem.W.nsIn K mainGlobals "_law_list_book" = some (some (.ref f21))) (l21 : K.lookup f21 = some ⟨oc21, od21, .func (PySem.W.fnOf "_law_list_book" "_law_list_book" (defArgs s_law_list_book) (defBody s_law_list_book) (defScope s_law_list_book) .none kV21 dc21 pm21 an21 cd21 ct21), sl21⟩) (c21 : PySem.W.codeIn K cd21 "_law_list_book" = true) (k21 : PySem.W.keepIn K (.ref f21) = true)
    (a22 : PySem.W.nsIn K mainGlobals "_law_claim_book" = some (some (.ref f22))) (l22 : K.lookup f22 = some ⟨oc22, od22, .func (PySem.W.fnOf "_law_claim_book" "_law_claim_book" (defArgs s_law_claim_book) (defBody s_law_claim_book) (defScope s_law_claim_book) .none kV22 dc22 pm22 an22 cd22 ct22), sl22⟩) (c22 : PySem.W.codeIn K cd22 "_law_claim_book" = true) (k22 : PySem.W.keepIn K (.ref f22) = true)
    (a23 : PySem.W.nsIn K mainGlobals "_law_book" = some (some (.ref f23))) (l23 : K.lookup f23 = some ⟨oc23, od23, .func (PySem.W.fnOf "_law_book" "_law_book" (defArgs s_law_book) (defBody s_law_book) (defScope s_law_book) .none kV23 dc23 pm23 an23 cd23 ct23), sl23⟩) (c23 : PySem.W.codeIn K cd23 "_law_book" = true) (k23 : PySem.W.keepIn K (.ref f23) = true)
    (a24 : PySem.W.nsIn K mainGlobals "_law_told" = some (some (.ref f24))) (l24 : K.lookup f24 = some ⟨oc24, od24, .func (PySem.W.fnOf "_law_told" "_law_told" (defArgs s_law_told) (defBody s_law_told) (defScope s_law_told) .none kV24 dc24 pm24 an24 cd24 ct24), sl24⟩) (c24 : PySem.W.codeIn K cd24 "_law_told" = true) (k24 : PySem.W.keepIn K (.ref f24) = true)
    (a25 : PySem.W.nsIn K mainGlobals "_law_is_integer" = some (some (.ref f25))) (l25 : K.lookup f25 = some ⟨oc25, od25, .func (PySem.W.fnOf "_law_is_integer" "_law_is_integer" (defArgs s_law_is_integer) (defBody s_law_is_integer) (defScope s_law_is_integer) .none kV25 dc25 pm25 an25 cd25 ct25), sl25⟩) (c25 : PySem.W.codeIn K cd25 "_law_is_integer" = true) (k25 : PySem.W.keepIn K (.ref f25) = true)
    (a26 : PySem.W.nsIn K mainGlobals "_law_is_claims" = some (some (.ref f26))) (l26 : K.lookup f26 = some ⟨oc26, od26, .func (PySem.W.fnOf "_law_is_claims" "_law_is_claims" (defArgs s_law_is_claims) (defBody s_law_is_claims) (defScope s_law_is_claims) .none kV26 dc26 pm26 an26 cd26 ct26), sl26⟩) (c26 : PySem.W.codeIn K cd26 "_law_is_claims" = true) (k26 : PySem.W.keepIn K (.ref f26) = true)
    (a27 : PySem.W.nsIn K mainGlobals "_law_is_certificate" = some (some (.ref f27))) (l27 : K.lookup f27 = some ⟨oc27, od27, .func (PySem.W.fnOf "_law_is_certificate" "_law_is_certificate" (defArgs s_law_is_certificate) (defBody s_law_is_certificate) (defScope s_law_is_certificate) .none kV27 dc27 pm27 an27 cd27 ct27), sl27⟩) (c27 : PySem.W.codeIn K cd27 "_law_is_certificate" = true) (k27 : PySem.W.keepIn K (.ref f27) = true)
    (a28 : PySem.W.nsIn K mainGlobals "_law_changed" = some (some (.ref f28))) (l28 : K.lookup f28 = some ⟨oc28, od28, .func (PySem.W.fnOf "_law_changed" "_law_changed" (defArgs s_law_changed) (defBody s_law_changed) (defScope s_law_changed) .none kV28 dc28 pm28 an28 cd28 ct28), sl28⟩) (c28 : PySem.W.codeIn K cd28 "_law_changed" = true) (k28 : PySem.W.keepIn K (.ref f28) = true)
    (a29 : PySem.W.nsIn K mainGlobals "law" = some (some (.ref f29))) (l29 : K.lookup f29 = some ⟨oc29, od29, .func (PySem.W.fnOf "law" "law" (defArgs s_law) (defBody s_law) (defScope s_law) .none kV29 dc29 pm29 an29 cd29 ct29), sl29⟩) (c29 : PySem.W.codeIn K cd29 "law" = true) (k29 : PySem.W.keepIn K (.ref f29) = true)
    (z_abs : PySem.W.nsIn K mainGlobals "abs" = some none)
    (z_bool : PySem.W.nsIn K mainGlobals "bool" = some none)
    (z_int : PySem.W.nsIn K mainGlobals "int" = some none)
    (z_isinstance : PySem.W.nsIn K mainGlobals "isinstance" = some none)
    (z_len : PySem.W.nsIn K mainGlobals "len" = some none)
    (z_list : PySem.W.nsIn K mainGlobals "list" = some none)
    (z_min : PySem.W.nsIn K mainGlobals "min" = some none)
    (z_range : PySem.W.nsIn K mainGlobals "range" = some none)
    (z_tuple : PySem.W.nsIn K mainGlobals "tuple" = some none)
    (ec_BadBook : PySem.W.nsIn K mainGlobals "BadBook" = some (some (.ref y_BadBook)))
    (ec_FloodError : PySem.W.nsIn K mainGlobals "FloodError" = some (some (.ref y_FloodError)))
    (ec_OutOfRange : PySem.W.nsIn K mainGlobals "OutOfRange" = some (some (.ref y_OutOfRange)))
    (eq_BadBook : PySem.W.excIn K y_BadBook [.type "ValueError", .type "Exception", .type "BaseException", .type "object"] "ValueError.__new__" = true) (ek_BadBook : PySem.W.keepIn K (.ref y_BadBook) = true) (es_BadBook : PySem.W.subIn K (.ref y_BadBook) (.type "BaseException") = some true) (et_BadBook : PySem.W.typeIn K (.ref y_BadBook) = some (.type "type"))
    (xs_BadBook : PySem.W.subIn K (.ref y_BadBook) (.ref y_BadBook) = some true) (ig_BadBook : PySem.W.findIn K (.ref y_BadBook) "__getattribute__" = some (some (.builtin "BaseException.__getattribute__"))) (ik_BadBook : PySem.W.findIn K (.ref y_BadBook) "__getattr__" = some none) (id_BadBook : PySem.W.hasDictIn K y_BadBook = true) (ia_BadBook : PySem.W.findIn K (.ref y_BadBook) "__class__" = some (some (.builtin "object.__class__"))) (in_BadBook : PySem.W.specialIn K (.builtin "object.__class__") "__get__" = some (some (.builtin "getset_descriptor.__get__"))) (it_BadBook : PySem.W.takesIn K (.builtin "object.__class__") = some true) (im_BadBook : PySem.W.mroIn K y_BadBook (.type "object") = some true)
    (ks_BadBook_FloodError : PySem.W.subIn K (.ref y_BadBook) (.ref y_FloodError) = some true)
    (kc_BadBook_FloodError : PySem.W.isClsIn K y_FloodError = true) (kt_BadBook_FloodError : PySem.W.typeIn K (.ref y_FloodError) = some (.type "type"))
    (ks_BadBook_OutOfRange : PySem.W.subIn K (.ref y_BadBook) (.ref y_OutOfRange) = some false)
    (kc_BadBook_OutOfRange : PySem.W.isClsIn K y_OutOfRange = true) (kt_BadBook_OutOfRange : PySem.W.typeIn K (.ref y_OutOfRange) = some (.type "type"))
    (kn_BadBook_OutOfRange : y_BadBook ≠ y_OutOfRange) : Txt K mg :=
  ⟨f0, _, fun_mk l0 c0 k0, PySem.W.mg_of X G a0, (fun_mk (st := s_in_order) l0 c0 k0).binds (ps := ["parts"]) fun _ _ _ _ _ _ us hl => match us, hl with | [_], _ => rfl,
   f1, _, fun_mk l1 c1 k1, PySem.W.mg_of X G a1, (fun_mk (st := s_piece_numbers) l1 c1 k1).binds (ps := ["piece"]) fun _ _ _ _ _ _ us hl => match us, hl with | [_], _ => rfl,
   f2, _, fun_mk l2 c2 k2, PySem.W.mg_of X G a2, (fun_mk (st := s_claim_numbers) l2 c2 k2).binds (ps := ["claim"]) fun _ _ _ _ _ _ us hl => match us, hl with | [_], _ => rfl,
   f3, _, fun_mk l3 c3 k3, PySem.W.mg_of X G a3, (fun_mk (st := s_row_numbers) l3 c3 k3).binds (ps := ["claims"]) fun _ _ _ _ _ _ us hl => match us, hl with | [_], _ => rfl,
   f4, _, fun_mk l4 c4 k4, PySem.W.mg_of X G a4, (fun_mk (st := s_write_book) l4 c4 k4).binds (ps := ["certificate"]) fun _ _ _ _ _ _ us hl => match us, hl with | [_], _ => rfl,
   f5, _, fun_mk l5 c5 k5, PySem.W.mg_of X G a5, (fun_mk (st := s_read_integer) l5 c5 k5).binds (ps := ["numbers", "place"]) fun _ _ _ _ _ _ us hl => match us, hl with | [_, _], _ => rfl,
   f6, _, fun_mk l6 c6 k6, PySem.W.mg_of X G a6, (fun_mk (st := s_read_list) l6 c6 k6).binds (ps := ["numbers", "place", "read_item"]) fun _ _ _ _ _ _ us hl => match us, hl with | [_, _, _], _ => rfl,
   f7, _, fun_mk l7 c7 k7, PySem.W.mg_of X G a7, (fun_mk (st := s_read_vector) l7 c7 k7).binds (ps := ["numbers", "place"]) fun _ _ _ _ _ _ us hl => match us, hl with | [_, _], _ => rfl,
   f8, _, fun_mk l8 c8 k8, PySem.W.mg_of X G a8, (fun_mk (st := s_read_piece) l8 c8 k8).binds (ps := ["numbers", "place"]) fun _ _ _ _ _ _ us hl => match us, hl with | [_, _], _ => rfl,
   f9, _, fun_mk l9 c9 k9, PySem.W.mg_of X G a9, (fun_mk (st := s_read_pieces) l9 c9 k9).binds (ps := ["numbers", "place"]) fun _ _ _ _ _ _ us hl => match us, hl with | [_, _], _ => rfl,
   f10, _, fun_mk l10 c10 k10, PySem.W.mg_of X G a10, (fun_mk (st := s_read_multipliers) l10 c10 k10).binds (ps := ["numbers", "place"]) fun _ _ _ _ _ _ us hl => match us, hl with | [_, _], _ => rfl,
   f11, _, fun_mk l11 c11 k11, PySem.W.mg_of X G a11, (fun_mk (st := s_read_claim) l11 c11 k11).binds (ps := ["numbers", "place"]) fun _ _ _ _ _ _ us hl => match us, hl with | [_, _], _ => rfl,
   f12, _, fun_mk l12 c12 k12, PySem.W.mg_of X G a12, (fun_mk (st := s_read_claims) l12 c12 k12).binds (ps := ["numbers", "place"]) fun _ _ _ _ _ _ us hl => match us, hl with | [_, _], _ => rfl,
   f13, _, fun_mk l13 c13 k13, PySem.W.mg_of X G a13, (fun_mk (st := s_check_pieces) l13 c13 k13).binds (ps := ["pieces", "n"]) fun _ _ _ _ _ _ us hl => match us, hl with | [_, _], _ => rfl,
   f14, _, fun_mk l14 c14 k14, PySem.W.mg_of X G a14, kb_of (fun_mk (st := s_read_book) l14 c14 k14) fun _ _ _ _ _ _ us ws h1 h2 => match us, ws, h1, h2 with | [_], [_], _, _ => rfl,
   f15, _, fun_mk l15 c15 k15, PySem.W.mg_of X G a15, (fun_mk (st := s_law_cell) l15 c15 k15).binds (ps := ["script", "k"]) fun _ _ _ _ _ _ us hl => match us, hl with | [_, _], _ => rfl,
   f16, _, fun_mk l16 c16 k16, PySem.W.mg_of X G a16, (fun_mk (st := s_law_digits) l16 c16 k16).binds (ps := ["cell", "base", "most"]) fun _ _ _ _ _ _ us hl => match us, hl with | [_, _, _], _ => rfl,
   f17, _, fun_mk l17 c17 k17, PySem.W.mg_of X G a17, (fun_mk (st := s_law_claim) l17 c17 k17).binds (ps := ["tape", "n"]) fun _ _ _ _ _ _ us hl => match us, hl with | [_, _], _ => rfl,
   f18, _, fun_mk l18 c18 k18, PySem.W.mg_of X G a18, (fun_mk (st := s_law_number) l18 c18 k18).binds (ps := ["tape"]) fun _ _ _ _ _ _ us hl => match us, hl with | [_], _ => rfl,
   f19, _, fun_mk l19 c19 k19, PySem.W.mg_of X G a19, (fun_mk (st := s_law_take) l19 c19 k19).binds (ps := ["tape", "count"]) fun _ _ _ _ _ _ us hl => match us, hl with | [_, _], _ => rfl,
   f20, _, fun_mk l20 c20 k20, PySem.W.mg_of X G a20, (fun_mk (st := s_law_certificate) l20 c20 k20).binds (ps := ["tape", "n"]) fun _ _ _ _ _ _ us hl => match us, hl with | [_, _], _ => rfl,
   f21, _, fun_mk l21 c21 k21, PySem.W.mg_of X G a21, (fun_mk (st := s_law_list_book) l21 c21 k21).binds (ps := ["rows"]) fun _ _ _ _ _ _ us hl => match us, hl with | [_], _ => rfl,
   f22, _, fun_mk l22 c22 k22, PySem.W.mg_of X G a22, (fun_mk (st := s_law_claim_book) l22 c22 k22).binds (ps := ["claim"]) fun _ _ _ _ _ _ us hl => match us, hl with | [_], _ => rfl,
   f23, _, fun_mk l23 c23 k23, PySem.W.mg_of X G a23, (fun_mk (st := s_law_book) l23 c23 k23).binds (ps := ["certificate"]) fun _ _ _ _ _ _ us hl => match us, hl with | [_], _ => rfl,
   f24, _, fun_mk l24 c24 k24, PySem.W.mg_of X G a24, (fun_mk (st := s_law_told) l24 c24 k24).binds (ps := ["numbers", "n"]) fun _ _ _ _ _ _ us hl => match us, hl with | [_, _], _ => rfl,
   f25, _, fun_mk l25 c25 k25, PySem.W.mg_of X G a25, (fun_mk (st := s_law_is_integer) l25 c25 k25).binds (ps := ["item"]) fun _ _ _ _ _ _ us hl => match us, hl with | [_], _ => rfl,
   f26, _, fun_mk l26 c26 k26, PySem.W.mg_of X G a26, (fun_mk (st := s_law_is_claims) l26 c26 k26).binds (ps := ["claims"]) fun _ _ _ _ _ _ us hl => match us, hl with | [_], _ => rfl,
   f27, _, fun_mk l27 c27 k27, PySem.W.mg_of X G a27, (fun_mk (st := s_law_is_certificate) l27 c27 k27).binds (ps := ["told", "n"]) fun _ _ _ _ _ _ us hl => match us, hl with | [_, _], _ => rfl,
   f28, _, fun_mk l28 c28 k28, PySem.W.mg_of X G a28, (fun_mk (st := s_law_changed) l28 c28 k28).binds (ps := ["book", "cell"]) fun _ _ _ _ _ _ us hl => match us, hl with | [_, _], _ => rfl,
   f29, _, fun_mk l29 c29 k29, PySem.W.mg_of X G a29, (fun_mk (st := s_law) l29 c29 k29).binds (ps := ["script"]) fun _ _ _ _ _ _ us hl => match us, hl with | [_], _ => rfl,
   PySem.W.mg_none_of X G z_abs,
   PySem.W.mg_none_of X G z_bool,
   PySem.W.mg_none_of X G z_int,
   PySem.W.mg_none_of X G z_isinstance,
   PySem.W.mg_none_of X G z_len,
   PySem.W.mg_none_of X G z_list,
   PySem.W.mg_none_of X G z_min,
   PySem.W.mg_none_of X G z_range,
   PySem.W.mg_none_of X G z_tuple,
   y_BadBook, ⟨PySem.W.mg_of X G ec_BadBook, ⟨_, F.excBase_ValueError, eq_BadBook⟩, ek_BadBook, es_BadBook, et_BadBook⟩,
   PySem.W.exm_ref es_BadBook id_BadBook et_BadBook xs_BadBook, ⟨ig_BadBook, ik_BadBook, es_BadBook, id_BadBook, ia_BadBook, in_BadBook, it_BadBook, im_BadBook⟩,
   y_FloodError,
   y_OutOfRange,
   PySem.W.mg_of X G ec_FloodError,
   PySem.W.mg_of X G ec_OutOfRange,
   kit_own kc_BadBook_FloodError kt_BadBook_FloodError ks_BadBook_FloodError (.inl rfl),
   kit_own kc_BadBook_OutOfRange kt_BadBook_OutOfRange ks_BadBook_OutOfRange (.inr kn_BadBook_OutOfRange)⟩
theorem cx_none {P : Program} {w : World} (H : Hp) (s : Shared) (e : Value) (s' : Shared) (h : L2.CX P w [] H s (fun _ _ _ => False) e s') : False := cx_dead h
theorem all_of {P : Program} {w : World} {K : PySem.W.Frag} {mg : Str → Option Value} {fa : Addr} (T : Txt K mg) (hfa : mg "law" = some (.ref fa)) :
    ∃ fd : FuncData, (∀ (s : Shared) (u : Value), BindsTo s fd ⟨[u], []⟩ [("script", u)]) ∧ ∀ base : Heap, K.In base → base.Ns mainGlobals mg → base.NoSeer → FnG P w K mg base (L2.CX P w) 12 fa fd ["script"] (@spF ⟨K, true⟩ 1 .cl R_law) := by
  letI : KF := ⟨K, true⟩
  have e := hfa.symm.trans T.g_law
  cases e
  refine ⟨T.d_law, fun s u => ?_, fun base _ _ hs => ok_law T⟩
  obtain ⟨oc, od, kV, doc, pm, an, cdv, ct, osl, e, _, _⟩ := T.F_law.ex
  rw [e]
  exact .of_eq rfl
end Law
open PySem PySem.W PyProof.Rows
set_option maxHeartbeats 0 in
theorem PySem.Challenge.cw_floodmark_k55_books_refused_holds : PySem.Challenge.rw_floodmark_k55_books_refused.Holds := by
  w_on; o_law; k_head; (case hw => w_witness2)
  k_fill
  refine DL.walk_D (l := PySem.Challenge.rw_floodmark_k55_books_refused) (n := 63) (k := 12) (x := "script") (CX := fun w => L2.CX PySem.Challenge.rw_floodmark_k55_books_refused.prog w) (Fn := Law.R_law) rfl (by decide) rfl ⟨⟨rfl, by decide, by decide⟩, rfl, by decide⟩ (by decide +kernel) (fun w h Y => PySem.W.kIn_of Y) ?F Law.law_true (fun w H s e s' h => Law.cx_none (P := PySem.Challenge.rw_floodmark_k55_books_refused.prog) H s e s' h)
  case F =>
    intro w mg fa h KX G hmg
    refine' Law.all_of (Law.mk_txt KX G ?a0 ?l0 ?c0 ?k0 ?a1 ?l1 ?c1 ?k1 ?a2 ?l2 ?c2 ?k2 ?a3 ?l3 ?c3 ?k3 ?a4 ?l4 ?c4 ?k4 ?a5 ?l5 ?c5 ?k5 ?a6 ?l6 ?c6 ?k6 ?a7 ?l7 ?c7 ?k7 ?a8 ?l8 ?c8 ?k8 ?a9 ?l9 ?c9 ?k9 ?a10 ?l10 ?c10 ?k10 ?a11 ?l11 ?c11 ?k11 ?a12 ?l12 ?c12 ?k12 ?a13 ?l13 ?c13 ?k13 ?a14 ?l14 ?c14 ?k14 ?a15 ?l15 ?c15 ?k15 ?a16 ?l16 ?c16 ?k16 ?a17 ?l17 ?c17 ?k17 ?a18 ?l18 ?c18 ?k18 ?a19 ?l19 ?c19 ?k19 ?a20 ?l20 ?c20 ?k20 ?a21 ?l21 ?c21 ?k21 ?a22 ?l22 ?c22 ?k22 ?a23 ?l23 ?c23 ?k23 ?a24 ?l24 ?c24 ?k24 ?a25 ?l25 ?c25 ?k25 ?a26 ?l26 ?c26 ?k26 ?a27 ?l27 ?c27 ?k27 ?a28 ?l28 ?c28 ?k28 ?a29 ?l29 ?c29 ?k29 ?z_abs ?z_bool ?z_int ?z_isinstance ?z_len ?z_list ?z_min ?z_range ?z_tuple  ?ec_BadBook ?ec_FloodError ?ec_OutOfRange ?eq_BadBook ?ek_BadBook ?es_BadBook ?et_BadBook ?xs_BadBook ?ig_BadBook ?ik_BadBook ?id_BadBook ?ia_BadBook ?in_BadBook ?it_BadBook ?im_BadBook ?ks_BadBook_FloodError ?kc_BadBook_FloodError ?kt_BadBook_FloodError ?ks_BadBook_OutOfRange ?kc_BadBook_OutOfRange ?kt_BadBook_OutOfRange ?kn_BadBook_OutOfRange) hmg
    (case a0 => k_is)
    (case l0 => k_is)
    (case c0 => k_is)
    (case k0 => k_is)
    (case a1 => k_is)
    (case l1 => k_is)
    (case c1 => k_is)
    (case k1 => k_is)
    (case a2 => k_is)
    (case l2 => k_is)
    (case c2 => k_is)
    (case k2 => k_is)
    (case a3 => k_is)
    (case l3 => k_is)
    (case c3 => k_is)
    (case k3 => k_is)
    (case a4 => k_is)
    (case l4 => k_is)
    (case c4 => k_is)
    (case k4 => k_is)
    (case a5 => k_is)
    (case l5 => k_is)
    (case c5 => k_is)
    (case k5 => k_is)
    (case a6 => k_is)
    (case l6 => k_is)
    (case c6 => k_is)
    (case k6 => k_is)
    (case a7 => k_is)
    (case l7 => k_is)
    (case c7 => k_is)
    (case k7 => k_is)
    (case a8 => k_is)
    (case l8 => k_is)
    (case c8 => k_is)
    (case k8 => k_is)
    (case a9 => k_is)
    (case l9 => k_is)
    (case c9 => k_is)
    (case k9 => k_is)
    (case a10 => k_is)
    (case l10 => k_is)
    (case c10 => k_is)
    (case k10 => k_is)
    (case a11 => k_is)
    (case l11 => k_is)
    (case c11 => k_is)
    (case k11 => k_is)
    (case a12 => k_is)
    (case l12 => k_is)
    (case c12 => k_is)
    (case k12 => k_is)
    (case a13 => k_is)
    (case l13 => k_is)
    (case c13 => k_is)
    (case k13 => k_is)
    (case a14 => k_is)
    (case l14 => k_is)
    (case c14 => k_is)
    (case k14 => k_is)
    (case a15 => k_is)
    (case l15 => k_is)
    (case c15 => k_is)
    (case k15 => k_is)
    (case a16 => k_is)
    (case l16 => k_is)
    (case c16 => k_is)
    (case k16 => k_is)
    (case a17 => k_is)
    (case l17 => k_is)
    (case c17 => k_is)
    (case k17 => k_is)
    (case a18 => k_is)
    (case l18 => k_is)
    (case c18 => k_is)
    (case k18 => k_is)
    (case a19 => k_is)
    (case l19 => k_is)
    (case c19 => k_is)
    (case k19 => k_is)
    (case a20 => k_is)
    (case l20 => k_is)
    (case c20 => k_is)
    (case k20 => k_is)
    (case a21 => k_is)
    (case l21 => k_is)
    (case c21 => k_is)
    (case k21 => k_is)
    (case a22 => k_is)
    (case l22 => k_is)
    (case c22 => k_is)
    (case k22 => k_is)
    (case a23 => k_is)
    (case l23 => k_is)
    (case c23 => k_is)
    (case k23 => k_is)
    (case a24 => k_is)
    (case l24 => k_is)
    (case c24 => k_is)
    (case k24 => k_is)
    (case a25 => k_is)
    (case l25 => k_is)
    (case c25 => k_is)
    (case k25 => k_is)
    (case a26 => k_is)
    (case l26 => k_is)
    (case c26 => k_is)
    (case k26 => k_is)
    (case a27 => k_is)
    (case l27 => k_is)
    (case c27 => k_is)
    (case k27 => k_is)
    (case a28 => k_is)
    (case l28 => k_is)
    (case c28 => k_is)
    (case k28 => k_is)
    (case a29 => k_is)
    (case l29 => k_is)
    (case c29 => k_is)
    (case k29 => k_is)
    (case z_abs => k_is)
    (case z_bool => k_is)
    (case z_int => k_is)
    (case z_isinstance => k_is)
    (case z_len => k_is)
    (case z_list => k_is)
    (case z_min => k_is)
    (case z_range => k_is)
    (case z_tuple => k_is)
    (case ec_BadBook => k_is)
    (case ec_FloodError => k_is)
    (case ec_OutOfRange => k_is)
    (case eq_BadBook => k_exc)
    (case ek_BadBook => k_is)
    (case es_BadBook => k_is)
    (case et_BadBook => k_is)
    (case xs_BadBook => k_is)
    (case ig_BadBook => k_is)
    (case ik_BadBook => k_is)
    (case id_BadBook => k_is)
    (case ia_BadBook => k_is)
    (case in_BadBook => k_is)
    (case it_BadBook => k_is)
    (case im_BadBook => k_is)
    (case ks_BadBook_FloodError => k_is)
    (case kc_BadBook_FloodError => k_is)
    (case kt_BadBook_FloodError => k_is)
    (case ks_BadBook_OutOfRange => k_is)
    (case kc_BadBook_OutOfRange => k_is)
    (case kt_BadBook_OutOfRange => k_is)
    (case kn_BadBook_OutOfRange => decide)
