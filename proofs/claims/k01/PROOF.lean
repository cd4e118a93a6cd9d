import PyProof.Rows.All
import Wide.All
import OpenK.AllK
import Wide.FinOn
import HandS.ForMost
import HandS.IsInst
import HandS.Wide
import HandS.WideBits
import HandS.StrMore
import HandS.FStr
import HandS.Property
import HandS.EndBits
import HandS.Lambda
import HandS.TupAny
import HandS.TupMul
import HandS.Style
import HandS.RaiseMore
import KE.GoesEnum
import HandS.ClsMeth
import HandS.MakeKwOnly
import HandS.CallLocal
import HandS.Exc
import OpenK.KOps
import KE.KCallOwn
import PyProof.ReprRoads
import PyProof.ReprLen
import PyProof.StrLawsRepr
import HandS.FStrTup
import PyProof.Rows.ReprItems
import HandS.OwnEq
import PyProof.InstEq
import HandS.More
import HandS.Zip0
import KE.KDictZip
import PyProof.TupleOps
import PyProof.TupleCall
import PyProof.CollectIter
import HandS.Star
import HandS.Zip
import HandS.Walk
import KE.KTryMore
import HandS.ExcIs
import HandS.ExcField
import HandS.ExcInit
import HandS.HotCalls
import HandS.WordsExc
import HandS.SetFor
import KE.KExcIs
import KE.KEqNest
import PyProof.NeKinds
import KE.KNestM
import HandS.EndTab
import KE.KRevSl
import PyProof.EqKinds
import PyProof.EqAt
import HandS.ExcInitHot
import HandS.Conv
import PyProof.StrLawsChain
import PyProof.StrOps2
import HandS.Dict
import KE.KExcInit
import PyProof.ExcBaseAll.ArithmeticError
import PyProof.ExcBaseAll.LookupError
import PyProof.ExcBaseAll.ValueError
import HandS.ExcValue
import HandS.MakeKw
import PySem.Challenge.RW_alltriangular_k01_limits_and_errors
set_option Elab.async false
set_option linter.all false
set_option maxRecDepth 100000
set_option maxHeartbeats 2000000
/-! Wk: data over frozen heaps; what an expression evaluates to, whatever else may change. -/
namespace Wk
open PySem PySem.Spec L2

/-! ### data in a heap -/
def kD : Key → PyData
  | .inl i => .int i
  | .inr x => .str x
mutual
inductive Rp (K : PySem.W.Frag) (F : Hp) : V → PyData → Prop
  | non : Rp K F .non .none
  | bl (b : Bool) : Rp K F (.bl b) (.bool b)
  | int (i : Int) : Rp K F (.int i) (.int i)
  | str (x : Str) : Rp K F (.str x) (.str x)
  | lst {a : Addr} {xs : List V} {ds : List PyData} : F a = some (.lst xs) → RpA K F xs ds → Rp K F (.ref a) (.list ds)
  | tup {a : Addr} {xs : List V} {ds : List PyData} : SqT K F a xs → RpA K F xs ds → Rp K F (.ref a) (.tuple ds)
  | dct {a : Addr} {kvs : List (Key × V)} {ds : List PyData} : F a = some (.dK kvs) → RpA K F (kvs.map (·.2)) ds → Rp K F (.ref a) (.dict ((kvs.map fun p => kD p.1).zip ds))
inductive RpA (K : PySem.W.Frag) (F : Hp) : List V → List PyData → Prop
  | nil : RpA K F [] []
  | cons {v : V} {vs : List V} {d : PyData} {ds : List PyData} : Rp K F v d → RpA K F vs ds → RpA K F (v :: vs) (d :: ds)
end
section
variable {K : PySem.W.Frag} {F F' : Hp}
theorem rdM (e : Same F F') {a : Addr} {u : HO} (h : Rd F a u) : Rd F' a u := by
  rcases h with h | ⟨o, h⟩
  · exact .inl (e a _ h)
  · exact .inr ⟨o, e a _ h⟩
theorem sqlM (e : Same F F') {a : Addr} {xs : List V} (h : SqL K F a xs) : SqL K F' a xs := by
  rcases h with h | h
  · exact .inl (rdM e h)
  · exact .inr h
theorem sqtM (e : Same F F') {a : Addr} {xs : List V} (h : SqT K F a xs) : SqT K F' a xs := by
  rcases h with h | h
  · exact .inl (rdM e h)
  · exact .inr h
mutual
theorem Rp.mono (e : Same F F') : ∀ {v : V} {d : PyData}, Rp K F v d → Rp K F' v d
  | _, _, .non => .non
  | _, _, .bl b => .bl b
  | _, _, .int i => .int i
  | _, _, .str x => .str x
  | _, _, .lst h a => .lst (e _ _ h) (RpA.mono e a)
  | _, _, .tup h a => .tup (sqtM e h) (RpA.mono e a)
  | _, _, .dct h a => .dct (e _ _ h) (RpA.mono e a)
theorem RpA.mono (e : Same F F') : ∀ {vs : List V} {ds : List PyData}, RpA K F vs ds → RpA K F' vs ds
  | _, _, .nil => .nil
  | _, _, .cons h a => .cons (Rp.mono e h) (RpA.mono e a)
end
theorem RpA.len : ∀ {vs : List V} {ds : List PyData}, RpA K F vs ds → vs.length = ds.length
  | _, _, .nil => rfl
  | _, _, .cons _ a => by rw [List.length_cons, List.length_cons, RpA.len a]
theorem RpA.get : ∀ {vs : List V} {ds : List PyData}, RpA K F vs ds → ∀ {i : Nat} {d : PyData}, ds[i]? = some d → ∃ v, vs[i]? = some v ∧ Rp K F v d
  | _, _, .nil, i, d, h => by simp at h
  | _, _, .cons r a, 0, d, h => by simp at h; subst h; exact ⟨_, rfl, r⟩
  | _, _, .cons r a, i + 1, d, h => by
    obtain ⟨v, h1, h2⟩ := RpA.get a (i := i) (d := d) (by simpa using h)
    exact ⟨v, by simpa using h1, h2⟩
theorem RpA.getV : ∀ {vs : List V} {ds : List PyData}, RpA K F vs ds → ∀ {i : Nat} {v : V}, vs[i]? = some v → ∃ d, ds[i]? = some d ∧ Rp K F v d
  | _, _, .nil, i, d, h => by simp at h
  | _, _, .cons r a, 0, d, h => by simp at h; subst h; exact ⟨_, rfl, r⟩
  | _, _, .cons r a, i + 1, d, h => by
    obtain ⟨v, h1, h2⟩ := RpA.getV a (i := i) (v := d) (by simpa using h)
    exact ⟨v, by simpa using h1, h2⟩
theorem RpA.app : ∀ {vs ws : List V} {ds es : List PyData}, RpA K F vs ds → RpA K F ws es → RpA K F (vs ++ ws) (ds ++ es)
  | _, _, _, _, .nil, b => b
  | _, _, _, _, .cons r a, b => .cons r (RpA.app a b)
theorem RpA.snoc {vs : List V} {v : V} {ds : List PyData} {d : PyData} (a : RpA K F vs ds) (r : Rp K F v d) : RpA K F (vs ++ [v]) (ds ++ [d]) := a.app (.cons r .nil)
theorem RpA.take : ∀ {vs : List V} {ds : List PyData} (n : Nat), RpA K F vs ds → RpA K F (vs.take n) (ds.take n)
  | _, _, 0, _ => .nil
  | _, _, _ + 1, .nil => .nil
  | _, _, n + 1, .cons r a => .cons r (RpA.take n a)
theorem RpA.drop : ∀ {vs : List V} {ds : List PyData} (n : Nat), RpA K F vs ds → RpA K F (vs.drop n) (ds.drop n)
  | _, _, 0, a => a
  | _, _, _ + 1, .nil => .nil
  | _, _, n + 1, .cons _ a => RpA.drop n a
theorem RpA.rev : ∀ {vs : List V} {ds : List PyData}, RpA K F vs ds → RpA K F vs.reverse ds.reverse
  | _, _, .nil => .nil
  | _, _, .cons r a => by rw [List.reverse_cons, List.reverse_cons]; exact (RpA.rev a).snoc r
theorem rp_int {v : V} {i : Int} (h : Rp K F v (.int i)) : v = .int i := by cases h; rfl
theorem rp_str {v : V} {x : Str} (h : Rp K F v (.str x)) : v = .str x := by cases h; rfl
theorem rp_bl {v : V} {b : Bool} (h : Rp K F v (.bool b)) : v = .bl b := by cases h; rfl
theorem rp_non {v : V} (h : Rp K F v .none) : v = .non := by cases h; rfl
theorem rp_lst {v : V} {ds : List PyData} (h : Rp K F v (.list ds)) : ∃ a xs, v = .ref a ∧ F a = some (.lst xs) ∧ RpA K F xs ds := by cases h with | lst h a => exact ⟨_, _, rfl, h, a⟩
theorem rp_tup {v : V} {ds : List PyData} (h : Rp K F v (.tuple ds)) : ∃ a xs, v = .ref a ∧ SqT K F a xs ∧ RpA K F xs ds := by cases h with | tup h a => exact ⟨_, _, rfl, h, a⟩
theorem rpA_map {α : Type} {f : α → V} {g : α → PyData} (hfg : ∀ v x, Rp K F v (g x) → v = f x) : ∀ {xs : List α} {vs : List V}, RpA K F vs (xs.map g) → vs = xs.map f
  | [], _, .nil => rfl
  | x :: xs, _, .cons r a => by rw [hfg _ x r, rpA_map hfg a]; rfl
theorem rpA_bl {bs : List Bool} {vs : List V} (h : RpA K F vs (bs.map PyData.bool)) : vs = bs.map V.bl := rpA_map (fun _ _ r => rp_bl r) h
theorem rpA_int {bs : List Int} {vs : List V} (h : RpA K F vs (bs.map PyData.int)) : vs = bs.map V.int := rpA_map (fun _ _ r => rp_int r) h
theorem rpA_str {bs : List Str} {vs : List V} (h : RpA K F vs (bs.map PyData.str)) : vs = bs.map V.str := rpA_map (fun _ _ r => rp_str r) h
theorem mkA_int : ∀ (ns : List Int), RpA K F (ns.map V.int) (ns.map PyData.int)
  | [] => .nil
  | _ :: r => .cons (.int _) (mkA_int r)
theorem mkA_str : ∀ (ns : List Str), RpA K F (ns.map V.str) (ns.map PyData.str)
  | [] => .nil
  | _ :: r => .cons (.str _) (mkA_str r)
end

/-! ### growing -/
/-- F the frozen part of H; M what may be changed -/
structure Gr (M : Addr → Prop) (F H F' H' : Hp) : Prop where
  f : Same F F'
  s : Same F' H'
  h : ∀ a o, ¬ M a → H a = some o → H' a = some o
  n : ∀ a, H a ≠ none → F' a = F a
  d : ∀ a, H a ≠ none → H' a ≠ none
abbrev M0 : Addr → Prop := fun _ => False
section
variable {M M' : Addr → Prop} {F H F1 H1 F2 H2 : Hp}
theorem Gr.refl (e : Same F H) : Gr M F H F H := ⟨Same.refl F, e, fun _ _ _ h => h, fun _ _ => rfl, fun _ h => h⟩
theorem Gr.trans (a : Gr M F H F1 H1) (b : Gr M F1 H1 F2 H2) : Gr M F H F2 H2 :=
  ⟨a.f.trans b.f, b.s, fun x o m e => b.h x o m (a.h x o m e), fun x e => (b.n x (a.d x e)).trans (a.n x e), fun x e => b.d x (a.d x e)⟩
theorem Gr.weak (m : ∀ a, M a → M' a) (g : Gr M F H F1 H1) : Gr M' F H F1 H1 := ⟨g.f, g.s, fun a o n e => g.h a o (fun z => n (m a z)) e, g.n, g.d⟩
theorem Gr.up (g : Gr M0 F H F1 H1) : Gr M F H F1 H1 := g.weak fun _ z => z.elim
theorem freeF (e : Same F H) {p : Addr} (h : H p = none) : F p = none := by
  cases q : F p with
  | none => rfl
  | some o =>
    rw [e p o q] at h
    cases h
theorem upd_none {H : Hp} {a p : Addr} {o : HO} (h : H a ≠ none) : upd H p o a ≠ none := fun z => by
  by_cases e : a = p
  · subst e
    rw [upd_same] at z
    cases z
  · rw [upd_ne e] at z
    exact h z
/-- a new object, frozen -/
theorem Gr.new (e : Same F H) {p : Addr} {o : HO} (h : H p = none) : Gr M F H (upd F p o) (upd H p o) where
  f := fun a u q => by
    rw [upd_ne (ne_of_none q (freeF e h))]
    exact q
  s := fun a u q => by
    by_cases z : a = p
    · subst z
      rw [upd_same] at q ⊢
      exact q
    · rw [upd_ne z] at q ⊢
      exact e a u q
  h := fun a u _ q => by
    rw [upd_ne (ne_of_none q h)]
    exact q
  n := fun a q => by
    by_cases z : a = p
    · subst z
      exact (q h).elim
    · rw [upd_ne z]
  d := fun a q => upd_none q
/-- a new object that may change later -/
theorem Gr.own (e : Same F H) {p : Addr} {o : HO} (h : H p = none) : Gr M F H F (upd H p o) where
  f := Same.refl F
  s := fun a u q => by
    rw [upd_ne (ne_of_none q (freeF e h))]
    exact e a u q
  h := fun a u _ q => by
    rw [upd_ne (ne_of_none q h)]
    exact q
  n := fun a q => rfl
  d := fun a q => upd_none q
/-- what is not frozen is changed -/
theorem Gr.set (e : Same F H) {p : Addr} {o : HO} (h : F p = none) (m : M p) : Gr M F H F (upd H p o) where
  f := Same.refl F
  s := fun a u q => by
    rw [upd_ne (ne_of_none q h)]
    exact e a u q
  h := fun a u n q => by
    rw [upd_ne (fun z => n (by rw [z]; exact m))]
    exact q
  n := fun a q => rfl
  d := fun a q => upd_none q
/-- .. an object that the beginning does not know -/
theorem Gr.mut (g : Gr M F H F1 H1) {p : Addr} {o : HO} (h : H p = none) (h1 : F1 p = none) : Gr M F H F1 (upd H1 p o) where
  f := g.f
  s := fun a u q => by
    rw [upd_ne (ne_of_none q h1)]
    exact g.s a u q
  h := fun a u n q => by
    rw [upd_ne (ne_of_none q h)]
    exact g.h a u n q
  n := g.n
  d := fun a q => upd_none (g.d a q)
end

/-! ### worlds: what else stands beside the frozen part, and may be changed -/
def PailOk (b : Addr) (F H : Hp) : Prop := F b = none ∧ ∃ x y z : Int, H b = some (.lst [.int x, .int y, .int z]) ∧ 0 ≤ y ∧ y < 2147483648
/-- b: the pail; ls: own objects; T: tables of code objects, each with the name that its codes bear -/
structure Wd where
  b : Option Addr
  ls : List (Addr × HO)
  T : List (Addr × Str)
def Mb : Option Addr → Addr → Prop
  | none => fun _ => False
  | some b => fun a => a = b
def Mtb : Option Addr → List (Addr × Str) → Addr → Prop
  | b, [] => Mb b
  | b, p :: r => fun a => Mb b a ∨ ∃ q, (a, q) ∈ p :: r
abbrev Wd.M (w : Wd) : Addr → Prop := Mtb w.b w.T
theorem Mtb_iff {b : Option Addr} {T : List (Addr × Str)} {a : Addr} : Mtb b T a ↔ Mb b a ∨ ∃ q, (a, q) ∈ T := by
  cases T with
  | nil => exact ⟨.inl, fun h => h.elim id fun ⟨_, z⟩ => nomatch z⟩
  | cons p r => exact Iff.rfl
theorem Mb_iff {b : Option Addr} {a : Addr} : Mb b a ↔ b = some a := by
  cases b with
  | none => exact ⟨False.elim, fun z => nomatch z⟩
  | some b => exact ⟨fun z => congrArg some (show a = b from z).symm, fun z => (Option.some.inj z).symm⟩
theorem Wd.mb {w : Wd} {a : Addr} (h : w.b = some a) : w.M a := Mtb_iff.mpr (.inl (Mb_iff.mpr h))
theorem Wd.mt {w : Wd} {p : Addr × Str} (h : p ∈ w.T) : w.M p.1 := Mtb_iff.mpr (.inr ⟨p.2, h⟩)
/-- the table at P: the codes that it tells are frozen, and bear the name q -/
def TabF (F H : Hp) (P : Addr) (q : Str) : Prop := ∃ ps : Array Value, H P = some (.tbl ps) ∧ TriplesOk ps.toList ∧ ∀ (pos : Pos) (cv : Value), codeAmong pos ps.toList = some cv → ∃ c, cv = .ref c ∧ F c = some (LamX.CodeO c q)
def TabOk (b : Option Addr) (F H : Hp) (p : Addr × Str) : Prop := F p.1 = none ∧ b ≠ some p.1 ∧ TabF F H p.1 p.2
def Wd.ok (w : Wd) (F H : Hp) : Prop := Same F H ∧ (∀ b, w.b = some b → PailOk b F H) ∧ (∀ p ∈ w.ls, ¬ w.M p.1 ∧ F p.1 = none ∧ H p.1 = some p.2) ∧ ∀ p ∈ w.T, TabOk w.b F H p
abbrev w0 : Wd := ⟨none, [], []⟩
abbrev wb (b : Addr) : Wd := ⟨some b, [], []⟩
abbrev Wd.add (w : Wd) (l : Addr) (o : HO) : Wd := ⟨w.b, (l, o) :: w.ls, w.T⟩
theorem TabF.mono {F H F' H' : Hp} {P : Addr} {q : Str} (t : TabF F H P q) (f : ∀ c o, F c = some o → F' c = some o) (h : ∀ o, H P = some o → H' P = some o) : TabF F' H' P q := by
  obtain ⟨ps, h1, h2, h3⟩ := t
  refine ⟨ps, h _ h1, h2, fun pos cv z => ?_⟩
  obtain ⟨c, e1, e2⟩ := h3 pos cv z
  exact ⟨c, e1, f _ _ e2⟩
theorem TabF.ne {F H : Hp} {P : Addr} {q : Str} (t : TabF F H P q) : H P ≠ none := by
  obtain ⟨ps, h1, _⟩ := t
  rw [h1]
  exact fun z => nomatch z
/-- a step that leaves the table -/
theorem TabOk.gr {b : Option Addr} {F H F1 H1 : Hp} {p : Addr × Str} {M : Addr → Prop} (t : TabOk b F H p) (g : Gr M F H F1 H1) (n : ¬ M p.1) : TabOk b F1 H1 p :=
  ⟨(g.n p.1 t.2.2.ne).trans t.1, t.2.1, t.2.2.mono g.f fun o e => g.h _ o n e⟩
section
variable {w : Wd} {F H F1 H1 : Hp}
/-- nothing that stood has changed -/
theorem Wd.ok.pure (k : w.ok F H) (g : Gr M0 F H F1 H1) : w.ok F1 H1 := by
  refine ⟨g.s, fun b e => ?_, fun p hp => ?_, fun p hp => (k.2.2.2 p hp).gr g id⟩
  · obtain ⟨h1, x, y, z, h2, h3⟩ := k.2.1 b e
    exact ⟨(g.n b (by rw [h2]; exact fun z => nomatch z)).trans h1, x, y, z, g.h b _ id h2, h3⟩
  · obtain ⟨h0, h1, h2⟩ := k.2.2.1 p hp
    exact ⟨h0, (g.n p.1 (by rw [h2]; exact fun z => nomatch z)).trans h1, g.h p.1 _ id h2⟩
/-- the pail has changed -/
theorem Wd.ok.pail {b : Addr} (k : w.ok F H) (hb : w.b = some b) (g : Gr (fun a => a = b) F H F1 H1) (pk : PailOk b F1 H1) : w.ok F1 H1 := by
  refine ⟨g.s, fun c e => ?_, fun p hp => ?_, fun p hp => (k.2.2.2 p hp).gr g fun z => (k.2.2.2 p hp).2.1 (hb.trans (by rw [show p.1 = b from z]))⟩
  · have z := hb.symm.trans e
    cases z
    exact pk
  · obtain ⟨h0, h1, h2⟩ := k.2.2.1 p hp
    exact ⟨h0, (g.n p.1 (by rw [h2]; exact fun z => nomatch z)).trans h1, g.h p.1 _ (fun z => h0 (Wd.mb (hb.trans (by rw [z])))) h2⟩
theorem Wd.ok.e (k : w.ok F H) : Same F H := k.1
theorem gr_w {b : Addr} (hb : w.b = some b) (g : Gr (fun a => a = b) F H F1 H1) : Gr w.M F H F1 H1 := g.weak fun a z => Wd.mb (hb.trans (by rw [show a = b from z]))
theorem ok0 (e : Same F H) : w0.ok F H := ⟨e, (fun _ z => nomatch z), (fun _ z => nomatch z), fun _ z => nomatch z⟩
theorem okb {b : Addr} (e : Same F H) (p : PailOk b F H) : (wb b).ok F H := ⟨e, (fun c z => by cases z; exact p), (fun _ z => nomatch z), fun _ z => nomatch z⟩
end

/-! ### what an expression evaluates to -/
def EV (w : Wd) (te : TE) (σ : St) (F : Hp) (P : V → Hp → Prop) : Prop := ∀ F1 H1, Same F F1 → w.ok F1 H1 → ∀ Q : VK, (∀ v F2 H2, Gr w.M F1 H1 F2 H2 → w.ok F2 H2 → P v F2 → Q v H2) → te σ H1 Q
def ET (w : Wd) (tt : TT) (σ : St) (F : Hp) (P : Bool → Hp → Prop) : Prop := ∀ F1 H1, Same F F1 → w.ok F1 H1 → ∀ Q : Bool → Hp → Prop, (∀ v F2 H2, Gr w.M F1 H1 F2 H2 → w.ok F2 H2 → P v F2 → Q v H2) → tt σ H1 Q
def EA (w : Wd) (ta : TA) (σ : St) (F : Hp) (P : List V → Hp → Prop) : Prop := ∀ F1 H1, Same F F1 → w.ok F1 H1 → ∀ Q : List V → Hp → Prop, (∀ v F2 H2, Gr w.M F1 H1 F2 H2 → w.ok F2 H2 → P v F2 → Q v H2) → ta σ H1 Q
abbrev ED (K : PySem.W.Frag) (w : Wd) (te : TE) (σ : St) (F : Hp) (d : PyData) : Prop := EV w te σ F fun v F' => Rp K F' v d
abbrev EDA (K : PySem.W.Frag) (w : Wd) (ta : TA) (σ : St) (F : Hp) (ds : List PyData) : Prop := EA w ta σ F fun v F' => RpA K F' v ds
/-- a test with the known answer b -/
abbrev EB (w : Wd) (tt : TT) (σ : St) (F : Hp) (b : Bool) : Prop := ET w tt σ F fun c _ => c = b
section
variable {K : PySem.W.Frag} {w : Wd} {σ : St} {F F1 F' H : Hp} {ta tb te tc : TE} {t u : TT} {P : V → Hp → Prop}
theorem EV.mono (e : Same F F1) (h : EV w te σ F P) : EV w te σ F1 P := fun F2 H2 e2 k Q q => h F2 H2 (e.trans e2) k Q q
theorem ET.mono {P : Bool → Hp → Prop} (e : Same F F1) (h : ET w t σ F P) : ET w t σ F1 P := fun F2 H2 e2 k Q q => h F2 H2 (e.trans e2) k Q q
theorem EA.mono {P : List V → Hp → Prop} {ta : TA} (e : Same F F1) (h : EA w ta σ F P) : EA w ta σ F1 P := fun F2 H2 e2 k Q q => h F2 H2 (e.trans e2) k Q q
theorem EV.imp {P' : V → Hp → Prop} (h : EV w te σ F P) (i : ∀ v F', P v F' → P' v F') : EV w te σ F P' := fun F2 H2 e2 k Q q => h F2 H2 e2 k Q fun v F3 H3 g k3 p => q v F3 H3 g k3 (i _ _ p)
theorem ED.is {d d' : PyData} (h : ED K w te σ F d) (e : d = d') : ED K w te σ F d' := e ▸ h
theorem EB.is {b b' : Bool} (h : EB w t σ F b) (e : b = b') : EB w t σ F b' := e ▸ h
theorem ev_var {i : Nat} {v : V} (h : σ[i]? = some (some v)) (p : ∀ F', Same F F' → P v F') : EV w (tVar i) σ F P := fun F1 H1 e k _ q => ⟨v, h, q v F1 H1 (Gr.refl k.e) k (p F1 e)⟩
theorem ed_var {i : Nat} {v : V} {d : PyData} (h : σ[i]? = some (some v)) (r : Rp K F v d) : ED K w (tVar i) σ F d := ev_var h fun F' e => r.mono e
theorem ev_c {v : V} (p : ∀ F', P v F') : EV w (tC v) σ F P := fun F1 H1 e k _ q => q v F1 H1 (Gr.refl k.e) k (p F1)
theorem ed_int {i : Int} : ED K w (tC (.int i)) σ F (.int i) := ev_c fun _ => .int i
theorem ed_str {x : Str} : ED K w (tC (.str x)) σ F (.str x) := ev_c fun _ => .str x
theorem ed_bl {b : Bool} : ED K w (tC (.bl b)) σ F (.bool b) := ev_c fun _ => .bl b
theorem ed_non : ED K w (tC .non) σ F .none := ev_c fun _ => .non
/-- one after the other -/
theorem ev_op {r : R2} {A : V → Hp → Prop} {B : V → V → Hp → Prop} (ha : EV w ta σ F A) (hb : ∀ x F1, Same F F1 → A x F1 → EV w tb σ F1 (B x))
    (hr : ∀ x y F1 F2 H2, Same F F1 → A x F1 → Same F1 F2 → B x y F2 → w.ok F2 H2 → ∀ Q : VK, (∀ v F3 H3, Gr w.M F2 H2 F3 H3 → w.ok F3 H3 → P v F3 → Q v H3) → r x y H2 Q) : EV w (tOp r ta tb) σ F P := fun F1 H1 e k Q q =>
  ha F1 H1 e k _ fun x F2 H2 g2 k2 p => hb x F2 (e.trans g2.f) p F2 H2 (Same.refl F2) k2 _ fun y F3 H3 g3 k3 p3 =>
    hr x y F2 F3 H3 (e.trans g2.f) p g3.f p3 k3 Q fun v F4 H4 g4 k4 p4 => q v F4 H4 ((g2.trans g3).trans g4) k4 p4
/-- an operator on data that leaves the heap -/
theorem ed_op {r : R2} {d e z : PyData} (ha : ED K w ta σ F d) (hb : ED K w tb σ F e) (hr : ∀ x y F' H, w.ok F' H → Rp K F' x d → Rp K F' y e → ∃ v, (∀ Q : VK, Q v H → r x y H Q) ∧ Rp K F' v z) : ED K w (tOp r ta tb) σ F z :=
  ev_op ha (fun x F1 e1 _ => hb.mono e1) fun x y F1 F2 H2 _ p1 e2 p2 k Q q => by
    obtain ⟨v, h, rv⟩ := hr x y F2 H2 k (p1.mono e2) p2
    exact h Q (q v F2 H2 (Gr.refl k.e) k rv)
theorem ed_I0 {g : Int → Int → V} {i j : Int} {z : PyData} (ha : ED K w ta σ F (.int i)) (hb : ED K w tb σ F (.int j)) (hz : ∀ F', Rp K F' (g i j) z) : ED K w (tOp (rI0 g) ta tb) σ F z :=
  ed_op ha hb fun x y F' H k p q => ⟨g i j, fun Q h => ⟨i, j, rp_int p, rp_int q, h⟩, hz F'⟩
theorem ed_I {C : Int → Int → Prop} {g : Int → Int → V} {i j : Int} {z : PyData} (ha : ED K w ta σ F (.int i)) (hb : ED K w tb σ F (.int j)) (hc : C i j) (hz : ∀ F', Rp K F' (g i j) z) : ED K w (tOp (rI C g) ta tb) σ F z :=
  ed_op ha hb fun x y F' H k p q => ⟨g i j, fun Q h => ⟨i, j, rp_int p, rp_int q, hc, h⟩, hz F'⟩
theorem ed_un {g : Int → V} {i : Int} {z : PyData} (ha : ED K w ta σ F (.int i)) (hz : ∀ F', Rp K F' (g i) z) : ED K w (tUn (rU g) ta) σ F z := fun F1 H1 e k Q q =>
  ha F1 H1 e k _ fun x F2 H2 g2 k2 p => ⟨i, rp_int p, q _ F2 H2 g2 k2 (hz F2)⟩
theorem ea_nil {P : List V → Hp → Prop} (p : ∀ F', P [] F') : EA w tNil σ F P := fun F1 H1 e k Q q => q [] F1 H1 (Gr.refl k.e) k (p F1)
theorem eda_nil : EDA K w tNil σ F [] := ea_nil fun _ => .nil
theorem ea_cons {tr : TA} {A : V → Hp → Prop} {P : List V → Hp → Prop} {B : V → List V → Hp → Prop} (ha : EV w ta σ F A) (hb : ∀ x F1, Same F F1 → A x F1 → EA w tr σ F1 (B x))
    (hp : ∀ x xs F1 F2, Same F F1 → A x F1 → Same F1 F2 → B x xs F2 → P (x :: xs) F2) : EA w (tCons ta tr) σ F P := fun F1 H1 e k Q q =>
  ha F1 H1 e k _ fun x F2 H2 g2 k2 p => hb x F2 (e.trans g2.f) p F2 H2 (Same.refl F2) k2 _ fun xs F3 H3 g3 k3 p3 => q _ F3 H3 (g2.trans g3) k3 (hp x xs F2 F3 (e.trans g2.f) p g3.f p3)
theorem eda_cons {tr : TA} {d : PyData} {ds : List PyData} (ha : ED K w ta σ F d) (hb : EDA K w tr σ F ds) : EDA K w (tCons ta tr) σ F (d :: ds) :=
  ea_cons (B := fun _ v F' => RpA K F' v ds) ha (fun x F1 e1 _ => hb.mono e1) fun x xs F1 F2 _ p1 e2 p2 => .cons (p1.mono e2) p2
/-! tests -/
theorem eb_B {b : Bool} (h : ED K w te σ F (.bool b)) : EB w (tB te) σ F b := fun F1 H1 e k Q q => h F1 H1 e k _ fun v F2 H2 g k2 p => ⟨b, rp_bl p, q b F2 H2 g k2 rfl⟩
theorem eb_test {b : Bool} (h : ED K w te σ F (.bool b)) : EB w (tTest te) σ F b := fun F1 H1 e k Q q => h F1 H1 e k _ fun v F2 H2 g k2 p => ⟨b, rp_bl p, q b F2 H2 g k2 rfl⟩
theorem eb_not {b : Bool} (h : EB w t σ F b) : EB w (tNot t) σ F (!b) := fun F1 H1 e k Q q => h F1 H1 e k _ fun v F2 H2 g k2 p => q _ F2 H2 g k2 (by rw [p])
theorem eb_and {a b : Bool} (h1 : EB w t σ F a) (h2 : a = true → EB w u σ F b) : EB w (tAnd t u) σ F (a && b) := fun F1 H1 e k Q q => h1 F1 H1 e k _ fun v F2 H2 g k2 p => by
  subst p
  cases v with
  | true =>
    show u σ H2 Q
    exact h2 rfl F2 H2 (e.trans g.f) k2 Q fun v F3 H3 g3 k3 p => q v F3 H3 (g.trans g3) k3 p
  | false => exact q false F2 H2 g k2 rfl
theorem eb_or {a b : Bool} (h1 : EB w t σ F a) (h2 : a = false → EB w u σ F b) : EB w (tOr t u) σ F (a || b) := fun F1 H1 e k Q q => h1 F1 H1 e k _ fun v F2 H2 g k2 p => by
  subst p
  cases v with
  | false =>
    show u σ H2 Q
    exact h2 rfl F2 H2 (e.trans g.f) k2 Q fun v F3 H3 g3 k3 p => q v F3 H3 (g.trans g3) k3 p
  | true => exact q true F2 H2 g k2 rfl
theorem ed_andV {a b : Bool} (h1 : ED K w ta σ F (.bool a)) (h2 : a = true → ED K w tb σ F (.bool b)) : ED K w (tAndV ta tb) σ F (.bool (a && b)) := fun F1 H1 e k Q q => h1 F1 H1 e k _ fun v F2 H2 g k2 p => ⟨a, rp_bl p, by
  cases a with
  | true =>
    show tb σ H2 Q
    exact h2 rfl F2 H2 (e.trans g.f) k2 Q fun v F3 H3 g3 k3 p => q v F3 H3 (g.trans g3) k3 p
  | false => exact q _ F2 H2 g k2 (.bl false)⟩
theorem ed_orV {a b : Bool} (h1 : ED K w ta σ F (.bool a)) (h2 : a = false → ED K w tb σ F (.bool b)) : ED K w (tOrV ta tb) σ F (.bool (a || b)) := fun F1 H1 e k Q q => h1 F1 H1 e k _ fun v F2 H2 g k2 p => ⟨a, rp_bl p, by
  cases a with
  | false =>
    show tb σ H2 Q
    exact h2 rfl F2 H2 (e.trans g.f) k2 Q fun v F3 H3 g3 k3 p => q v F3 H3 (g.trans g3) k3 p
  | true => exact q _ F2 H2 g k2 (.bl true)⟩
theorem ed_notV {a : Bool} (h1 : ED K w ta σ F (.bool a)) : ED K w (tNotV ta) σ F (.bool (!a)) := fun F1 H1 e k Q q => h1 F1 H1 e k _ fun v F2 H2 g k2 p => ⟨a, rp_bl p, q _ F2 H2 g k2 (.bl _)⟩
theorem ev_if {b : Bool} (h : EB w t σ F b) (h1 : b = true → EV w ta σ F P) (h2 : b = false → EV w tb σ F P) : EV w (tIf t ta tb) σ F P := fun F1 H1 e k Q q => h F1 H1 e k _ fun v F2 H2 g k2 p => by
  subst p
  cases v with
  | true =>
    show ta σ H2 Q
    exact h1 rfl F2 H2 (e.trans g.f) k2 Q fun v F3 H3 g3 k3 p => q v F3 H3 (g.trans g3) k3 p
  | false =>
    show tb σ H2 Q
    exact h2 rfl F2 H2 (e.trans g.f) k2 Q fun v F3 H3 g3 k3 p => q v F3 H3 (g.trans g3) k3 p
/-- a chain of two comparisons of ints -/
theorem ed_chain {g g' : Int → Int → Bool} {i j l : Int} (ha : ED K w ta σ F (.int i)) (hb : ED K w tb σ F (.int j)) (hc : ED K w tc σ F (.int l)) :
    ED K w (tChain (rI0 fun x y => .bl (g x y)) (rI0 fun x y => .bl (g' x y)) ta tb tc) σ F (.bool (g i j && g' j l)) := fun F1 H1 e k Q q =>
  ha F1 H1 e k _ fun x F2 H2 g2 k2 p2 => hb F2 H2 (e.trans g2.f) k2 _ fun y F3 H3 g3 k3 p3 => ⟨i, j, rp_int p2, rp_int p3, g i j, rfl, by
    cases hg : g i j with
    | true =>
      refine iteT (hc F3 H3 ((e.trans g2.f).trans g3.f) k3 _ fun z F4 H4 g4 k4 p4 => ⟨j, l, rp_int p3, rp_int p4, ?_⟩)
      exact q _ F4 H4 ((g2.trans g3).trans g4) k4 (by rw [hg]; exact .bl _)
    | false =>
      refine iteF ?_
      exact q _ F3 H3 (g2.trans g3) k3 (by rw [hg]; exact .bl _)⟩
end
end Wk
set_option Elab.async false
set_option linter.all false
set_option maxRecDepth 100000
set_option maxHeartbeats 2000000
namespace Wk
open PySem PySem.Spec L2
section
variable {K : PySem.W.Frag} {w : Wd} {σ : St} {F F1 F' H : Hp} {ta tb te tc tl : TE} {t u : TT} {P : V → Hp → Prop} {tr : TA}
theorem rp_sqL (e : Same F H) {a : Addr} {xs : List V} (h : F a = some (.lst xs)) : SqL K H a xs := .inl (.inl (e a _ h))
/-- the very value -/
abbrev ED' (w : Wd) (te : TE) (σ : St) (F : Hp) (x : V) : Prop := EV w te σ F fun v _ => v = x
theorem ed'_var {i : Nat} {v : V} (h : σ[i]? = some (some v)) : ED' w (tVar i) σ F v := ev_var h fun _ _ => rfl
/-! ### calls of built-ins, by values -/
theorem ed_cb {r : List V → Hp → VK → Prop} {ds : List PyData} {z : PyData} (ha : EDA K w tr σ F ds) (hr : ∀ vs F' H, w.ok F' H → RpA K F' vs ds → ∃ v, (∀ Q : VK, Q v H → r vs H Q) ∧ Rp K F' v z) : ED K w (tCB r tr) σ F z := fun F1 H1 e k Q q =>
  ha F1 H1 e k _ fun vs F2 H2 g2 k2 p => by
    obtain ⟨v, h, rv⟩ := hr vs F2 H2 k2 p
    exact h Q (q v F2 H2 g2 k2 rv)
/-- .. that make a new object -/
theorem ev_cbN {r : List V → Hp → VK → Prop} {A : List V → Hp → Prop} (ha : EA w tr σ F A) (hr : ∀ vs F' H, w.ok F' H → Same F F' → A vs F' → ∃ o, (∀ Q : VK, (∀ p, H p = none → Q (.ref p) (upd H p o)) → r vs H Q) ∧ ∀ p, F' p = none → P (.ref p) (upd F' p o)) : EV w (tCB r tr) σ F P := fun F1 H1 e k Q q =>
  ha F1 H1 e k _ fun vs F2 H2 g2 k2 p => by
    obtain ⟨o, h, rv⟩ := hr vs F2 H2 k2 (e.trans g2.f) p
    refine h Q fun p hp => ?_
    have g3 : Gr M0 F2 H2 (upd F2 p o) (upd H2 p o) := Gr.new k2.e hp
    exact q _ _ _ (g2.trans g3.up) (k2.pure g3) (rv p (freeF k2.e hp))
theorem same_new {p : Addr} {o : HO} (h : F p = none) : Same F (upd F p o) := fun a u q => by
  rw [upd_ne (ne_of_none q h)]
  exact q
/-- displays -/
theorem ed_tup {ds : List PyData} (ha : EDA K w tr σ F ds) (hl : ds.length ≤ 100000) : ED K w (tTup tr) σ F (.tuple ds) := fun F1 H1 e k Q q =>
  ha F1 H1 e k _ fun vs F2 H2 g2 k2 p => ⟨Nat.le_trans (by rw [p.len]; exact hl) (by decide), fun a hp => by
    have g3 : Gr M0 F2 H2 (upd F2 a (.tup vs)) (upd H2 a (.tup vs)) := Gr.new k2.e hp
    exact q _ _ _ (g2.trans g3.up) (k2.pure g3) (.tup (.inl (.inl upd_same)) (p.mono g3.f))⟩
theorem ed_lst {ds : List PyData} (ha : EDA K w tr σ F ds) (hl : ds.length ≤ 100000) : ED K w (tLst tr) σ F (.list ds) := fun F1 H1 e k Q q =>
  ha F1 H1 e k _ fun vs F2 H2 g2 k2 p => ⟨Nat.le_trans (by rw [p.len]; exact hl) (by decide), fun a hp => by
    have g3 : Gr M0 F2 H2 (upd F2 a (.lst vs)) (upd H2 a (.lst vs)) := Gr.new k2.e hp
    exact q _ _ _ (g2.trans g3.up) (k2.pure g3) (.lst upd_same (p.mono g3.f))⟩
/-! isinstance -/
def tyD : PyData → String
  | .none => "NoneType"
  | .bool _ => "bool"
  | .int _ => "int"
  | .str _ => "str"
  | .list _ => "list"
  | .tuple _ => "tuple"
  | .dict _ => "dict"
theorem rp_ty {v : V} {d : PyData} (e : Same F H) (r : Rp K F v d) : TyX K H v (.type (tyD d)) := by
  cases r with
  | non => exact .base .non
  | bl b => exact .base (.bl b)
  | int i => exact .base (.int i)
  | str x => exact .base (.str x)
  | lst h a => exact .base (.lst (e _ _ h))
  | tup h a =>
    rcases h with (h | ⟨o, h⟩) | ⟨o, its, n, h, c, _⟩
    · exact .base (.tup (e _ _ h))
    · exact .fTuple (e _ _ h)
    · exact .kTuple h c
  | dct h a => exact .base (.dK (e _ _ h))
def isD (T : String) (d : PyData) : Bool := (kitB (tyD d) T).getD false
theorem ed_isi {d : PyData} {T : String} (ha : ED K w ta σ F d) (hT : ∀ d, (kitB (tyD d) T).isSome = true := by intro d; cases d <;> (simp only [Wk.tyD]; decide +kernel)) : ED K w (tCB (rIsi K) (tCons ta (tCons (tC (.ty T)) tNil))) σ F (.bool (isD T d)) := fun F1 H1 e k Q q =>
  ha F1 H1 e k _ fun v F2 H2 g2 k2 p => by
    have h := hT d
    refine ⟨v, .ty T, .type (tyD d), .type T, isD T d, rfl, .ty T, rp_ty k2.e p, kit_ty ?_, q _ F2 H2 g2 k2 (.bl _)⟩
    unfold isD
    cases hk : kitB (tyD d) T with
    | none =>
      rw [hk] at h
      cases h
    | some b => rfl
theorem isD_int {d : PyData} : isD "int" d = (match d with | .int _ => true | .bool _ => true | _ => false) := by cases d <;> (simp only [isD, tyD]; decide +kernel)
theorem isD_bool {d : PyData} : isD "bool" d = (match d with | .bool _ => true | _ => false) := by cases d <;> (simp only [isD, tyD]; decide +kernel)
theorem isD_str {d : PyData} : isD "str" d = (match d with | .str _ => true | _ => false) := by cases d <;> (simp only [isD, tyD]; decide +kernel)
theorem isD_tuple {d : PyData} : isD "tuple" d = (match d with | .tuple _ => true | _ => false) := by cases d <;> (simp only [isD, tyD]; decide +kernel)
theorem isD_list {d : PyData} : isD "list" d = (match d with | .list _ => true | _ => false) := by cases d <;> (simp only [isD, tyD]; decide +kernel)
/-! len, all, str, int -/
def rLenS (K : PySem.W.Frag) : List V → Hp → VK → Prop := fun xs H Q => ∃ p ys, xs = [.ref p] ∧ (SqL K H p ys ∨ SqT K H p ys) ∧ Q (.int ys.length) H
theorem ed_lenT {ds : List PyData} (ha : ED K w ta σ F (.tuple ds)) : ED K w (tCB (rLenS K) (tCons ta tNil)) σ F (.int ds.length) :=
  ed_cb (eda_cons ha eda_nil) fun vs F' H k p => by
    cases p with
    | cons r n =>
      cases n
      obtain ⟨a, xs, rfl, h, ra⟩ := rp_tup r
      exact ⟨.int ds.length, fun Q q => ⟨a, xs, rfl, .inr (sqtM k.e h), by rw [ra.len]; exact q⟩, .int _⟩
theorem ed_lenL {ds : List PyData} (ha : ED K w ta σ F (.list ds)) : ED K w (tCB (rLenS K) (tCons ta tNil)) σ F (.int ds.length) :=
  ed_cb (eda_cons ha eda_nil) fun vs F' H k p => by
    cases p with
    | cons r n =>
      cases n
      obtain ⟨a, xs, rfl, h, ra⟩ := rp_lst r
      exact ⟨.int ds.length, fun Q q => ⟨a, xs, rfl, .inl (rp_sqL k.e h), by rw [ra.len]; exact q⟩, .int _⟩
theorem ed_all {bs : List Bool} (ha : ED K w ta σ F (.list (bs.map .bool))) : ED K w (tCB (rAll K) (tCons ta tNil)) σ F (.bool (bs.all id)) :=
  ed_cb (eda_cons ha eda_nil) fun vs F' H k p => by
    cases p with
    | cons r n =>
      cases n
      obtain ⟨a, xs, rfl, h, ra⟩ := rp_lst r
      rw [rpA_bl ra] at h
      exact ⟨.bl (bs.all id), fun Q q => ⟨a, bs, rfl, rp_sqL k.e h, q⟩, .bl _⟩
theorem ed_any {bs : List Bool} (ha : ED K w ta σ F (.list (bs.map .bool))) : ED K w (tCB (rAny K) (tCons ta tNil)) σ F (.bool (bs.any id)) :=
  ed_cb (eda_cons ha eda_nil) fun vs F' H k p => by
    cases p with
    | cons r n =>
      cases n
      obtain ⟨a, xs, rfl, h, ra⟩ := rp_lst r
      rw [rpA_bl ra] at h
      exact ⟨.bl (bs.any id), fun Q q => ⟨a, bs, rfl, rp_sqL k.e h, q⟩, .bl _⟩
/-- one argument, a value back -/
theorem ed_cb1 {r : List V → Hp → VK → Prop} {d z : PyData} (ha : ED K w ta σ F d) (hr : ∀ x F' H, w.ok F' H → Rp K F' x d → ∃ v, (∀ Q : VK, Q v H → r [x] H Q) ∧ Rp K F' v z) : ED K w (tCB r (tCons ta tNil)) σ F z :=
  ed_cb (eda_cons ha eda_nil) fun vs F' H k p => by
    cases p with
    | cons r n =>
      cases n
      exact hr _ F' H k r
theorem ed_cb2 {r : List V → Hp → VK → Prop} {d e z : PyData} (ha : ED K w ta σ F d) (hb : ED K w tb σ F e) (hr : ∀ x y F' H, w.ok F' H → Rp K F' x d → Rp K F' y e → ∃ v, (∀ Q : VK, Q v H → r [x, y] H Q) ∧ Rp K F' v z) : ED K w (tCB r (tCons ta (tCons tb tNil))) σ F z :=
  ed_cb (eda_cons ha (eda_cons hb eda_nil)) fun vs F' H k p => by
    cases p with
    | cons r n =>
      cases n with
      | cons r2 n2 =>
        cases n2
        exact hr _ _ F' H k r r2
theorem small_log {i : Int} {n : Nat} (h : i.natAbs < 2 ^ n) (h0 : 0 < n) (h2 : n ≤ 1920) : i.natAbs.log2 < 1920 := Nat.lt_of_lt_of_le (PySem.Flt.log2_lt_of h0 h) h2
/-- tuple(xs) of a list -/
def rTupOf (K : PySem.W.Frag) : List V → Hp → VK → Prop := fun xs H Q => ∃ p ys, xs = [.ref p] ∧ ((SqL K H p ys ∧ ∀ l, H l = none → Q (.ref l) (upd H l (.tup ys))) ∨ (SqT K H p ys ∧ Q (.ref p) H))
theorem ev_cb1N {r : List V → Hp → VK → Prop} {A : V → Hp → Prop} (ha : EV w ta σ F A) (hr : ∀ x F' H, w.ok F' H → Same F F' → A x F' → ∃ o, (∀ Q : VK, (∀ p, H p = none → Q (.ref p) (upd H p o)) → r [x] H Q) ∧ ∀ p, F' p = none → P (.ref p) (upd F' p o)) : EV w (tCB r (tCons ta tNil)) σ F P := fun F1 H1 e k Q q =>
  ha F1 H1 e k _ fun x F2 H2 g2 k2 p => by
    obtain ⟨o, h, rv⟩ := hr x F2 H2 k2 (e.trans g2.f) p
    refine h Q fun p hp => ?_
    have g3 : Gr M0 F2 H2 (upd F2 p o) (upd H2 p o) := Gr.new k2.e hp
    exact q _ _ _ (g2.trans g3.up) (k2.pure g3) (rv p (freeF k2.e hp))
theorem ed_tupOf {ds : List PyData} (ha : ED K w ta σ F (.list ds)) : ED K w (tCB (rTupOf K) (tCons ta tNil)) σ F (.tuple ds) :=
  ev_cb1N ha fun x F' H k e r => by
    obtain ⟨a, xs, rfl, h, ra⟩ := rp_lst r
    exact ⟨.tup xs, fun Q q => ⟨a, xs, rfl, .inl ⟨rp_sqL k.e h, q⟩⟩, fun p hp => .tup (.inl (.inl upd_same)) (ra.mono (same_new hp))⟩
theorem ed_tupOfT {ds : List PyData} (ha : ED K w ta σ F (.tuple ds)) : ED K w (tCB (rTupOf K) (tCons ta tNil)) σ F (.tuple ds) :=
  ed_cb1 ha fun x F' H k r => by
    obtain ⟨a, xs, rfl, h, ra⟩ := rp_tup r
    exact ⟨.ref a, fun Q q => ⟨a, xs, rfl, .inr ⟨sqtM k.e h, q⟩⟩, .tup h ra⟩
/-- what is some data -/
abbrev ER (K : PySem.W.Frag) (w : Wd) (te : TE) (σ : St) (F : Hp) (R : PyData → Prop) : Prop := EV w te σ F fun v F' => ∃ d, R d ∧ Rp K F' v d
theorem ED.er {d : PyData} {R : PyData → Prop} (h : ED K w te σ F d) (r : R d) : ER K w te σ F R := h.imp fun _ _ p => ⟨d, r, p⟩
theorem er_tupOf {R : PyData → Prop} (ha : ER K w ta σ F fun d => ∃ ds, d = .list ds ∧ R (.tuple ds)) : ER K w (tCB (rTupOf K) (tCons ta tNil)) σ F R :=
  ev_cb1N ha fun x F' H k e r => by
    obtain ⟨_, ⟨ds, rfl, hr⟩, r⟩ := r
    obtain ⟨a, xs, rfl, h, ra⟩ := rp_lst r
    exact ⟨.tup xs, fun Q q => ⟨a, xs, rfl, .inl ⟨rp_sqL k.e h, q⟩⟩, fun p hp => ⟨_, hr, .tup (.inl (.inl upd_same)) (ra.mono (same_new hp))⟩⟩
/-! items, slices -/
theorem atI_rp {vs : List V} {ds : List PyData} {i : Int} {d : PyData} (ra : RpA K F vs ds) (h : atI ds i = some d) : ∃ v, atI vs i = some v ∧ Rp K F v d := by
  unfold atI at h ⊢
  rw [ra.len]
  cases hx : ixN ds.length i with
  | none =>
    rw [hx] at h
    cases h
  | some j =>
    rw [hx] at h
    exact ra.get (i := j) h
theorem ed_ixT {ds : List PyData} {i : Int} {d : PyData} (ha : ED K w ta σ F (.tuple ds)) (hb : ED K w tb σ F (.int i)) (h : atI ds i = some d) : ED K w (tOp (rIxT K) ta tb) σ F d :=
  ed_op ha hb fun x y F' H k p q => by
    obtain ⟨a, xs, rfl, hs, ra⟩ := rp_tup p
    obtain ⟨v, h1, h2⟩ := atI_rp ra h
    exact ⟨v, fun Q z => ⟨a, xs, i, v, rfl, rp_int q, sqtM k.e hs, h1, z⟩, h2⟩
theorem ed_ixL {ds : List PyData} {i : Int} {d : PyData} (ha : ED K w ta σ F (.list ds)) (hb : ED K w tb σ F (.int i)) (h : atI ds i = some d) : ED K w (tOp (rIxL K) ta tb) σ F d :=
  ed_op ha hb fun x y F' H k p q => by
    obtain ⟨a, xs, rfl, hs, ra⟩ := rp_lst p
    obtain ⟨v, h1, h2⟩ := atI_rp ra h
    exact ⟨v, fun Q z => ⟨a, xs, i, v, rfl, rp_int q, rp_sqL k.e hs, h1, z⟩, h2⟩
/-! comparisons -/
def scD : PyData → PyData → Bool
  | .none, .none => true
  | .int _, .int _ => true
  | .bool _, .bool _ => true
  | .str _, .str _ => true
  | _, _ => false
theorem ed_eqI {i j : Int} (ha : ED K w ta σ F (.int i)) (hb : ED K w tb σ F (.int j)) : ED K w (tOp rEq ta tb) σ F (.bool (decide (i = j))) :=
  ed_op ha hb fun x y F' H k p q => ⟨.bl (decide (i = j)), fun Q z => ⟨by rw [rp_int p, rp_int q]; rfl, by rw [rp_int p, rp_int q, decide_eq_decide.mpr (show (V.int i = V.int j) ↔ i = j from ⟨V.int.inj, congrArg _⟩)]; exact z⟩, .bl _⟩
theorem ed_neI {i j : Int} (ha : ED K w ta σ F (.int i)) (hb : ED K w tb σ F (.int j)) : ED K w (tOp rNe ta tb) σ F (.bool (!decide (i = j))) :=
  ed_op ha hb fun x y F' H k p q => ⟨.bl (!decide (i = j)), fun Q z => ⟨by rw [rp_int p, rp_int q]; rfl, by rw [rp_int p, rp_int q, decide_eq_decide.mpr (show (V.int i = V.int j) ↔ i = j from ⟨V.int.inj, congrArg _⟩)]; exact z⟩, .bl _⟩
theorem ed_eqS {i j : Str} (ha : ED K w ta σ F (.str i)) (hb : ED K w tb σ F (.str j)) : ED K w (tOp rEq ta tb) σ F (.bool (decide (i = j))) :=
  ed_op ha hb fun x y F' H k p q => ⟨.bl (decide (i = j)), fun Q z => ⟨by rw [rp_str p, rp_str q]; rfl, by rw [rp_str p, rp_str q, decide_eq_decide.mpr (show (V.str i = V.str j) ↔ i = j from ⟨V.str.inj, congrArg _⟩)]; exact z⟩, .bl _⟩
theorem ed_neS {i j : Str} (ha : ED K w ta σ F (.str i)) (hb : ED K w tb σ F (.str j)) : ED K w (tOp rNe ta tb) σ F (.bool (!decide (i = j))) :=
  ed_op ha hb fun x y F' H k p q => ⟨.bl (!decide (i = j)), fun Q z => ⟨by rw [rp_str p, rp_str q]; rfl, by rw [rp_str p, rp_str q, decide_eq_decide.mpr (show (V.str i = V.str j) ↔ i = j from ⟨V.str.inj, congrArg _⟩)]; exact z⟩, .bl _⟩
/-! ### calls of defs -/
/-- a def that leaves all as it was: from what is known of the arguments (i: whatever names it) to what is known of the answer -/
def spG {ι : Type} (pre : ι → List V → Hp → Prop) (post : ι → V → Hp → Prop) : Sp := fun vs H Q _ => ∃ (F : Hp) (i : ι), Same F H ∧ pre i vs F ∧ ∀ v F' H', Gr M0 F H F' H' → post i v F' → Q v H'
/-- .. on data, a function of it -/
abbrev spF {ι : Type} (K : PySem.W.Frag) (args : ι → List PyData) (pre : ι → Prop) (f : ι → PyData) : Sp := spG (fun i vs F => RpA K F vs (args i) ∧ pre i) (fun i v F' => Rp K F' v (f i))
/-- a def that draws from the pail, its first argument -/
def spB {ι : Type} (pre : ι → List V → Hp → Prop) (post : ι → V → Hp → Prop) : Sp := fun vs H Q _ => ∃ (F : Hp) (i : ι) (b : Addr) (ws : List V), vs = .ref b :: ws ∧ Same F H ∧ PailOk b F H ∧ pre i ws F ∧ ∀ v F' H', Gr (fun a => a = b) F H F' H' → PailOk b F' H' → post i v F' → Q v H'
theorem ev_call {ι : Type} {pre : ι → List V → Hp → Prop} {post : ι → V → Hp → Prop} {E : XK} {A : List V → Hp → Prop} (ha : EA w tr σ F A) (i : List V → Hp → ι) (hp : ∀ vs F1, Same F F1 → A vs F1 → pre (i vs F1) vs F1) (hq : ∀ vs F1 v F2, Same F F1 → A vs F1 → Same F1 F2 → post (i vs F1) v F2 → P v F2) : EV w (tCall (spG pre post) [] E tr) σ F P := fun F1 H1 e k Q q =>
  ha F1 H1 e k _ fun vs F2 H2 g2 k2 p => by
    rw [List.append_nil]
    exact ⟨F2, i vs F2, k2.e, hp vs F2 (e.trans g2.f) p, fun v F3 H3 g3 p3 => q v F3 H3 (g2.trans g3.up) (k2.pure g3) (hq vs F2 v F3 (e.trans g2.f) p g3.f p3)⟩
theorem ed_call {ι : Type} {args : ι → List PyData} {pre : ι → Prop} {f : ι → PyData} {E : XK} (i : ι) (ha : EDA K w tr σ F (args i)) (hp : pre i) : ED K w (tCall (spF K args pre f) [] E tr) σ F (f i) :=
  ev_call ha (fun _ _ => i) (fun vs F1 _ p => ⟨p, hp⟩) fun _ _ _ _ _ _ _ p => p
theorem ev_callB {ι : Type} {pre : ι → List V → Hp → Prop} {post : ι → V → Hp → Prop} {E : XK} {A : List V → Hp → Prop} {b : Addr} (hb : w.b = some b) (hv : ED' w tb σ F (.ref b)) (ha : EA w tr σ F A) (i : List V → Hp → ι) (hp : ∀ vs F1, Same F F1 → A vs F1 → pre (i vs F1) vs F1) (hq : ∀ vs F1 v F2, Same F F1 → A vs F1 → Same F1 F2 → post (i vs F1) v F2 → P v F2) :
    EV w (tCall (spB pre post) [] E (tCons tb tr)) σ F P := fun F1 H1 e k Q q =>
  hv F1 H1 e k _ fun x F2 H2 g2 k2 p2 => ha F2 H2 (e.trans g2.f) k2 _ fun vs F3 H3 g3 k3 p3 => by
    subst p2
    rw [List.append_nil]
    exact ⟨F3, i vs F3, b, vs, rfl, k3.e, k3.2.1 b hb, hp vs F3 ((e.trans g2.f).trans g3.f) p3, fun v F4 H4 g4 pk p4 => q v F4 H4 ((g2.trans g3).trans (gr_w hb g4)) (k3.pail hb g4 pk) (hq vs F3 v F4 ((e.trans g2.f).trans g3.f) p3 g4.f p4)⟩
end
section
variable {P : Program} {w : World} {K : PySem.W.Frag} {mg : Str → Option Value} {base : Heap}
/-- a def on data, by its body -/
theorem pure_ok {ι : Type} {x qual : Str} {st : Stmt} {f : Addr} {fd : FuncData} {N ps : List Str} {k : Nat} {args : ι → List PyData} {pre : ι → Prop} {fn : ι → PyData} (F : Fun K x qual st f fd) (S : FnScope N ps (defScope st)) (hl : ∀ i, (args i).length = ps.length)
    (hb : ∀ (cdv : Value) (A : Around) (outer : List Env) (s : Shared) (H : Hp) (E : XK), Room k (A.deeper (PyProof.Rows.envOfC qual (defScope st) s.heap.objs.size f cdv)) →
      ∃ t, PSs (cxOf CX0 P w K mg base N qual (defScope st) f cdv A outer s H E).nox (defBody st) t ∧ ∀ i vs F (Q : VK), pre i → RpA K F vs (args i) → w0.ok F H → (∀ v F' H', Gr M0 F H F' H' → Rp K F' v (fn i) → Q v H') → t { nx := fun _ H' => Q .non H', rt := Q } (start N vs) H) :
    FnOk P w K mg base CX0 (k + 1) f fd ps (spF K args pre fn) := by
  refine F.ok S (fun vs H Q E h => ?_) (fun cdv A outer s H vs Q E hr h => ?_)
  · obtain ⟨F, i, e, ⟨r, l⟩, q⟩ := h
    rw [r.len]
    exact hl i
  · obtain ⟨F, i, e, ⟨r, l⟩, q⟩ := h
    obtain ⟨t, h1, h2⟩ := hb cdv A outer s H E hr
    exact ⟨t, h1, h2 i vs F Q l r (ok0 e) q⟩
/-- any def that leaves all as it was -/
theorem gen_ok {ι : Type} {x qual : Str} {st : Stmt} {f : Addr} {fd : FuncData} {N ps : List Str} {k : Nat} {pre : ι → List V → Hp → Prop} {post : ι → V → Hp → Prop} (F : Fun K x qual st f fd) (S : FnScope N ps (defScope st)) (hl : ∀ i vs F, pre i vs F → vs.length = ps.length)
    (hb : ∀ (cdv : Value) (A : Around) (outer : List Env) (s : Shared) (H : Hp) (E : XK), Room k (A.deeper (PyProof.Rows.envOfC qual (defScope st) s.heap.objs.size f cdv)) →
      ∃ t, PSs (cxOf CX0 P w K mg base N qual (defScope st) f cdv A outer s H E).nox (defBody st) t ∧ ∀ i vs F (Q : VK), pre i vs F → w0.ok F H → (∀ v F' H', Gr M0 F H F' H' → post i v F' → Q v H') → t { nx := fun _ H' => Q .non H', rt := Q } (start N vs) H) :
    FnOk P w K mg base CX0 (k + 1) f fd ps (spG pre post) := by
  refine F.ok S (fun vs H Q E h => ?_) (fun cdv A outer s H vs Q E hr h => ?_)
  · obtain ⟨F, i, e, r, q⟩ := h
    exact hl i vs F r
  · obtain ⟨F, i, e, r, q⟩ := h
    obtain ⟨t, h1, h2⟩ := hb cdv A outer s H E hr
    exact ⟨t, h1, h2 i vs F Q r (ok0 e) q⟩
/-- a def that draws -/
theorem pail_ok {ι : Type} {x qual : Str} {st : Stmt} {f : Addr} {fd : FuncData} {N ps : List Str} {k : Nat} {pre : ι → List V → Hp → Prop} {post : ι → V → Hp → Prop} (F : Fun K x qual st f fd) (S : FnScope N ps (defScope st)) (hl : ∀ i vs F, pre i vs F → vs.length + 1 = ps.length)
    (hb : ∀ (cdv : Value) (A : Around) (outer : List Env) (s : Shared) (H : Hp) (E : XK), Room k (A.deeper (PyProof.Rows.envOfC qual (defScope st) s.heap.objs.size f cdv)) →
      ∃ t, PSs (cxOf CX0 P w K mg base N qual (defScope st) f cdv A outer s H E).nox (defBody st) t ∧ ∀ i b vs F (Q : VK), pre i vs F → (wb b).ok F H → (∀ v F' H', Gr (wb b).M F H F' H' → (wb b).ok F' H' → post i v F' → Q v H') → t { nx := fun _ H' => Q .non H', rt := Q } (start N (.ref b :: vs)) H) :
    FnOk P w K mg base CX0 (k + 1) f fd ps (spB pre post) := by
  refine F.ok S (fun vs H Q E h => ?_) (fun cdv A outer s H vs Q E hr h => ?_)
  · obtain ⟨F, i, b, ws, rfl, e, pk, r, q⟩ := h
    exact hl i ws F r
  · obtain ⟨F, i, b, ws, rfl, e, pk, r, q⟩ := h
    obtain ⟨t, h1, h2⟩ := hb cdv A outer s H E hr
    exact ⟨t, h1, h2 i b ws F Q r (okb e pk) fun v F' H' g k' p => q v F' H' g (k'.2.1 b rfl) p⟩
end
end Wk
set_option Elab.async false
set_option linter.all false
set_option maxRecDepth 100000
set_option maxHeartbeats 2000000
namespace Wk
open PySem PySem.Spec L2
section
variable {K : PySem.W.Frag} {w : Wd} {σ : St} {F F1 F' H H' : Hp} {ta tb te tc tl : TE} {t u : TT} {P : V → Hp → Prop} {tr : TA}
/-- another object of one's own beside -/
theorem Wd.ok.sub {l : Addr} {o : HO} (k : (w.add l o).ok F H) : w.ok F H := ⟨k.1, k.2.1, fun p hp => k.2.2.1 p (List.mem_cons_of_mem _ hp), k.2.2.2⟩
theorem Wd.ok.at {l : Addr} {o : HO} (k : (w.add l o).ok F H) : ¬ w.M l ∧ F l = none ∧ H l = some o := k.2.2.1 (l, o) (List.mem_cons_self ..)
theorem Wd.ok.plus {l : Addr} {o : HO} (k : w.ok F H) (h0 : ¬ w.M l) (h1 : F l = none) (h2 : H l = some o) : (w.add l o).ok F H := ⟨k.1, k.2.1, fun p hp => by
  rcases List.mem_cons.mp hp with rfl | hp
  · exact ⟨h0, h1, h2⟩
  · exact k.2.2.1 p hp, k.2.2.2⟩
theorem EV.add {l : Addr} {o : HO} (h : EV w te σ F P) : EV (w.add l o) te σ F P := fun F1 H1 e k Q q =>
  h F1 H1 e k.sub Q fun v F2 H2 g k2 p => q v F2 H2 g (k2.plus k.at.1 ((g.n l (by rw [k.at.2.2]; exact fun z => nomatch z)).trans k.at.2.1) (g.h l _ k.at.1 k.at.2.2)) p
theorem Wd.ok.pb {b : Addr} (k : w.ok F H) (hb : w.b = some b) : H b ≠ none := by
  obtain ⟨_, x, y, z, h, _⟩ := k.2.1 b hb
  rw [h]
  exact fun z => nomatch z
theorem Wd.ok.npb {p : Addr} (k : w.ok F H) (h : H p = none) : ¬ w.M p := fun e => by
  rcases Mtb_iff.mp e with e | ⟨q, e⟩
  · exact k.pb (Mb_iff.mp e) h
  · exact (k.2.2.2 _ e).2.2.ne h
theorem Wd.ok.nls {p : Addr} (k : w.ok F H) (h : H p = none) : ∀ q ∈ w.ls, q.1 ≠ p := fun q hq e => by
  have z := (k.2.2.1 q hq).2.2
  rw [e, h] at z
  cases z
/-- the state behind a store into an own object -/
theorem Wd.ok.put {l : Addr} {o o' : HO} (k : (w.add l o).ok F H) (nd : ∀ q ∈ w.ls, q.1 ≠ l) : (w.add l o').ok F (upd H l o') := by
  have a := k.at
  refine ⟨fun b u q => ?_, fun b e => ?_, fun p hp => ?_, fun p hp => ⟨(k.2.2.2 p hp).1, (k.2.2.2 p hp).2.1, (k.2.2.2 p hp).2.2.mono (fun _ _ z => z) fun o z => by
    rw [upd_ne (fun y => a.1 (by rw [← y]; exact Wd.mt hp))]
    exact z⟩⟩
  · rw [upd_ne (ne_of_none q a.2.1)]
    exact k.1 b u q
  · obtain ⟨h1, x, y, z, h2, h3⟩ := k.2.1 b e
    refine ⟨h1, x, y, z, ?_, h3⟩
    rw [upd_ne (fun z => a.1 (by rw [← z]; exact Wd.mb e))]
    exact h2
  · rcases List.mem_cons.mp hp with rfl | hp
    · exact ⟨a.1, a.2.1, upd_same⟩
    · obtain ⟨h0, h1, h2⟩ := k.2.2.1 p (List.mem_cons_of_mem _ hp)
      refine ⟨h0, h1, ?_⟩
      rw [upd_ne (nd p hp)]
      exact h2
/-- an own object is frozen -/
theorem Wd.ok.frz {l : Addr} {o : HO} (k : (w.add l o).ok F H) (nd : ∀ q ∈ w.ls, q.1 ≠ l) : w.ok (upd F l o) H := by
  have a := k.at
  refine ⟨fun b u q => ?_, fun b e => ?_, fun p hp => ?_, fun p hp => ⟨?_, (k.2.2.2 p hp).2.1, (k.2.2.2 p hp).2.2.mono (fun c o z => by
    rw [upd_ne (ne_of_none z a.2.1)]
    exact z) fun _ z => z⟩⟩
  rotate_right
  · rw [upd_ne (fun y => a.1 (by rw [← y]; exact Wd.mt hp))]
    exact (k.2.2.2 p hp).1
  · by_cases z : b = l
    · subst z
      rw [upd_same] at q
      rw [← q]
      exact a.2.2
    · rw [upd_ne z] at q
      exact k.1 b u q
  · obtain ⟨h1, x, y, z, h2, h3⟩ := k.2.1 b e
    refine ⟨?_, x, y, z, h2, h3⟩
    rw [upd_ne (fun z => a.1 (by rw [← z]; exact Wd.mb e))]
    exact h1
  · obtain ⟨h0, h1, h2⟩ := k.2.2.1 p (List.mem_cons_of_mem _ hp)
    refine ⟨h0, ?_, h2⟩
    rw [upd_ne (nd p hp)]
    exact h1
theorem Gr.frz {M : Addr → Prop} {F0 H0 : Hp} {l : Addr} {o : HO} (g : Gr M F0 H0 F H) (h0 : H0 l = none) (h1 : F l = none) (h2 : H l = some o) : Gr M F0 H0 (upd F l o) H where
  f := fun b u q => by
    have q1 := g.f b u q
    rw [upd_ne (ne_of_none q1 h1)]
    exact q1
  s := fun b u q => by
    by_cases z : b = l
    · subst z
      rw [upd_same] at q
      rw [← q]
      exact h2
    · rw [upd_ne z] at q
      exact g.s b u q
  h := g.h
  n := fun b q => by
    rw [upd_ne (fun z => q (by rw [z]; exact h0))]
    exact g.n b q
  d := g.d

/-! ### comprehensions -/
theorem lcGen {J : It} {Y : Nat → V → Prop} {n : Nat} {vs : List Nat} {j : Nat} {tt : TT} {H0 : Hp} {F0 : Hp} {D : Addr} {Q : VK}
    (core : ∀ (Pv : Nat → Hp → Prop), Pv 0 (upd H0 D (.lst [])) →
      (∀ i x H, i < n → Y i x → Pv i H → gName j x (wipe σ vs) H fun σ2 H2 => wipe σ2 vs = wipe σ vs ∧ tt σ2 H2 fun b H3 =>
        if b = true then te σ2 H3 fun y H4 => ∃ acc, H4 D = some (.lst acc) ∧ acc.length < sizeLine ∧ Pv (i + 1) (upd H4 D (.lst (acc ++ [y]))) else Pv (i + 1) H3) →
      (∀ i H, i ≤ n → Pv i H → Same F0 H) → (∀ H, Pv n H → Q (.ref D) H) →
      ∃ W : Nat → Nat → Hp → Prop, (∃ m, W 0 m (upd H0 D (.lst []))) ∧ ∀ i m H, W i m H →
        (J.stop i H ∧ Q (.ref D) H) ∨ (J.go i H ∧ ∃ Nx : Hp → Prop, (∀ H', Nx H' → ∃ m', m' < m ∧ W (i + 1) m' H') ∧ ∀ x H', J.yld i H x H' → gName j x (wipe σ vs) H' fun σ2 H2 => wipe σ2 vs = wipe σ vs ∧ tt σ2 H2 fun b H3 =>
          if b = true then te σ2 H3 fun y H4 => ∃ acc, H4 D = some (.lst acc) ∧ acc.length < sizeLine ∧ Nx (upd H4 D (.lst (acc ++ [y]))) else Nx H3))
    (k : w.ok F0 H0) (hD : H0 D = none) (hn : n ≤ 100000) (hw : ∀ x, wipe ((wipe σ vs).set j (some x)) vs = wipe σ vs)
    (A : Nat → List V → Hp → Prop) (a0 : A 0 [] F0)
    (hs : ∀ i x F1 H, i < n → Same F0 F1 → Y i x → w.ok F1 H → ∀ acc, A i acc F1 → acc.length ≤ i → ET w tt ((wipe σ vs).set j (some x)) F1 (fun b F2 => if b = true then EV w te ((wipe σ vs).set j (some x)) F2 (fun y F3 => A (i + 1) (acc ++ [y]) F3) else A (i + 1) acc F2))
    (hd : ∀ acc F1 H1, Gr w.M F0 H0 F1 H1 → w.ok F1 H1 → F1 D = some (.lst acc) → (∃ F2, A n acc F2 ∧ Same F2 F1) → Q (.ref D) H1) :
    ∃ W : Nat → Nat → Hp → Prop, (∃ m, W 0 m (upd H0 D (.lst []))) ∧ ∀ i m H, W i m H →
        (J.stop i H ∧ Q (.ref D) H) ∨ (J.go i H ∧ ∃ Nx : Hp → Prop, (∀ H', Nx H' → ∃ m', m' < m ∧ W (i + 1) m' H') ∧ ∀ x H', J.yld i H x H' → gName j x (wipe σ vs) H' fun σ2 H2 => wipe σ2 vs = wipe σ vs ∧ tt σ2 H2 fun b H3 =>
          if b = true then te σ2 H3 fun y H4 => ∃ acc, H4 D = some (.lst acc) ∧ acc.length < sizeLine ∧ Nx (upd H4 D (.lst (acc ++ [y]))) else Nx H3) := by
  refine core (fun i H => ∃ F1 acc, Gr w.M F0 H0 F1 H ∧ (w.add D (.lst acc)).ok F1 H ∧ acc.length ≤ i ∧ A i acc F1) ?_ ?_ ?_ ?_
  · have hF := freeF k.e hD
    have g : Gr w.M F0 H0 F0 (upd H0 D (.lst [])) := Gr.own k.e hD
    exact ⟨F0, [], g, (k.pure (Gr.own k.e hD)).plus (k.npb hD) hF upd_same, Nat.zero_le _, a0⟩
  · rintro i x H hi hy ⟨F1, acc, g, kk, hl, ha⟩
    refine ⟨hw x, ?_⟩
    have z := hs i x F1 H hi g.f hy kk.sub acc ha hl
    have z2 : ET (w.add D (.lst acc)) tt ((wipe σ vs).set j (some x)) F1 (fun b F2 => if b = true then EV w te ((wipe σ vs).set j (some x)) F2 (fun y F3 => A (i + 1) (acc ++ [y]) F3) else A (i + 1) acc F2) := fun F1' H1 e k' Q q =>
      z F1' H1 e k'.sub Q fun v F2 H2 g k2 p => q v F2 H2 g (k2.plus k'.at.1 ((g.n D (by rw [k'.at.2.2]; exact fun z => nomatch z)).trans k'.at.2.1) (g.h D _ k'.at.1 k'.at.2.2)) p
    refine z2 F1 H (Same.refl F1) kk _ fun b F2 H2 g2 k2 p2 => ?_
    cases b with
    | false => exact ⟨F2, acc, g.trans g2, k2, Nat.le_succ_of_le hl, p2⟩
    | true =>
      refine EV.add p2 F2 H2 (Same.refl F2) k2 _ fun y F3 H3 g3 k3 p3 => ?_
      refine ⟨acc, k3.at.2.2, Nat.lt_of_le_of_lt hl (Nat.lt_of_lt_of_le hi (Nat.le_trans hn (by decide))), F3, acc ++ [y], ((g.trans g2).trans g3).mut hD k3.at.2.1, k3.put (k.nls hD), ?_, p3⟩
      rw [List.length_append]
      exact Nat.succ_le_succ hl
  · rintro i H hi ⟨F1, acc, g, kk, hl, ha⟩
    exact g.f.trans kk.1
  · rintro H ⟨F1, acc, g, kk, hl, ha⟩
    exact hd acc (upd F1 D (.lst acc)) H (g.frz hD kk.at.2.1 kk.at.2.2) (kk.frz (k.nls hD)) upd_same ⟨F1, ha, same_new kk.at.2.1⟩
/-- over a tuple of data -/
theorem ev_lcT {vs : List Nat} {j : Nat} {tt : TT} {ds : List PyData} (hl : ED K w tl σ F (.tuple ds)) (hz : ds.length ≤ 100000) (hw : ∀ x, wipe ((wipe σ vs).set j (some x)) vs = wipe σ vs)
    (A : Nat → List V → Hp → Prop) (a0 : ∀ F', A 0 [] F')
    (hs : ∀ i x d F1, ds[i]? = some d → Same F F1 → Rp K F1 x d → ∀ acc, A i acc F1 → acc.length ≤ i → ET w tt ((wipe σ vs).set j (some x)) F1 (fun b F2 => if b = true then EV w te ((wipe σ vs).set j (some x)) F2 (fun y F3 => A (i + 1) (acc ++ [y]) F3) else A (i + 1) acc F2))
    (hd : ∀ p acc F1 F2, F1 p = some (.lst acc) → A ds.length acc F2 → Same F2 F1 → P (.ref p) F1) : EV w (tLc (iTup K tl) (gName j) tt te vs) σ F P := fun F0 H0 e k Q q =>
  hl F0 H0 e k _ fun v F1 H1 g1 k1 r => by
    obtain ⟨a, xs, rfl, hx, ra⟩ := rp_tup r
    refine ⟨a, rfl, ⟨xs, sqtM k1.e hx⟩, fun D hD => ?_⟩
    refine lcGen (Y := fun i x => xs[i]? = some x) (n := xs.length) (w := w) (F0 := F1) (fun Pv h0 hs' hF hd' => lc_tup (K := K) (a := a) (xs := xs) Pv h0 (fun i H hi p => sqtM (hF i H hi p) hx)
      (fun i x H hi p => hs' i x H (List.getElem?_eq_some_iff.mp hi).1 hi p) hd') k1 hD (by rw [ra.len]; exact hz) hw A (a0 _) ?_ ?_
    · intro i x F2 H2 hi e2 hy k2 acc ha hla
      obtain ⟨d, hd1, hd2⟩ := ra.getV hy
      exact hs i x d F2 hd1 ((e.trans g1.f).trans e2) (hd2.mono e2) acc ha hla
    · rintro acc F2 H2 g2 k2 hD2 ⟨F3, ha, e3⟩
      rw [ra.len] at ha
      exact q _ F2 H2 (g1.trans g2) k2 (hd D acc F2 F3 hD2 ha e3)
/-- over a list of data -/
theorem ev_lcL {vs : List Nat} {j : Nat} {tt : TT} {ds : List PyData} (hl : ED K w tl σ F (.list ds)) (hz : ds.length ≤ 100000) (hw : ∀ x, wipe ((wipe σ vs).set j (some x)) vs = wipe σ vs)
    (A : Nat → List V → Hp → Prop) (a0 : ∀ F', A 0 [] F')
    (hs : ∀ i x d F1, ds[i]? = some d → Same F F1 → Rp K F1 x d → ∀ acc, A i acc F1 → acc.length ≤ i → ET w tt ((wipe σ vs).set j (some x)) F1 (fun b F2 => if b = true then EV w te ((wipe σ vs).set j (some x)) F2 (fun y F3 => A (i + 1) (acc ++ [y]) F3) else A (i + 1) acc F2))
    (hd : ∀ p acc F1 F2, F1 p = some (.lst acc) → A ds.length acc F2 → Same F2 F1 → P (.ref p) F1) : EV w (tLc (iList K tl) (gName j) tt te vs) σ F P := fun F0 H0 e k Q q =>
  hl F0 H0 e k _ fun v F1 H1 g1 k1 r => by
    obtain ⟨a, xs, rfl, hx, ra⟩ := rp_lst r
    refine ⟨a, rfl, ⟨xs, rp_sqL k1.e hx⟩, fun D hD => ?_⟩
    refine lcGen (Y := fun i x => xs[i]? = some x) (n := xs.length) (w := w) (F0 := F1) (fun Pv h0 hs' hF hd' => lc_list (K := K) (a := a) (xs := xs) Pv h0 (fun i H hi p => rp_sqL (hF i H hi p) hx)
      (fun i x H hi p => hs' i x H (List.getElem?_eq_some_iff.mp hi).1 hi p) hd') k1 hD (by rw [ra.len]; exact hz) hw A (a0 _) ?_ ?_
    · intro i x F2 H2 hi e2 hy k2 acc ha hla
      obtain ⟨d, hd1, hd2⟩ := ra.getV hy
      exact hs i x d F2 hd1 ((e.trans g1.f).trans e2) (hd2.mono e2) acc ha hla
    · rintro acc F2 H2 g2 k2 hD2 ⟨F3, ha, e3⟩
      rw [ra.len] at ha
      exact q _ F2 H2 (g1.trans g2) k2 (hd D acc F2 F3 hD2 ha e3)
/-- over range(n) -/
theorem ev_lcR {vs : List Nat} {j : Nat} {tt : TT} {n : Int} {tr : TA} (hl : EDA K w tr σ F [.int n]) (hz : n ≤ 100000) (hw : ∀ x, wipe ((wipe σ vs).set j (some x)) vs = wipe σ vs)
    (A : Nat → List V → Hp → Prop) (a0 : ∀ F', A 0 [] F')
    (hs : ∀ (i : Nat) F1, (i : Int) < n → Same F F1 → ∀ acc, A i acc F1 → acc.length ≤ i → ET w tt ((wipe σ vs).set j (some (.int i))) F1 (fun b F2 => if b = true then EV w te ((wipe σ vs).set j (some (.int i))) F2 (fun y F3 => A (i + 1) (acc ++ [y]) F3) else A (i + 1) acc F2))
    (hd : ∀ p acc F1 F2, F1 p = some (.lst acc) → A n.toNat acc F2 → Same F2 F1 → P (.ref p) F1) (hn : -1000000 ≤ n) : EV w (tLc (iRng1 tr) (gName j) tt te vs) σ F P := fun F0 H0 e k Q q =>
  hl F0 H0 e k _ fun v F1 H1 g1 k1 r => by
    have ev : v = [.int n] := by
      cases r with
      | cons r1 r2 =>
        cases r2
        rw [rp_int r1]
    refine ⟨n, ev, by omega, by omega, fun D hD => ?_⟩
    refine lcGen (Y := fun i x => x = .int ((0 : Int) + (i : Nat))) (n := n.toNat) (w := w) (F0 := F1) (fun Pv h0 hs' hF hd' => lc_range (lo := 0) (n := n.toNat) Pv h0
      (fun i H hi p => hs' i _ H hi rfl p) hd') k1 hD (by omega) hw A (a0 _) ?_ ?_
    · intro i x F2 H2 hi e2 hy k2 acc ha hla
      subst hy
      rw [Int.zero_add]
      exact hs i F2 (by omega) ((e.trans g1.f).trans e2) acc ha hla
    · rintro acc F2 H2 g2 k2 hD2 ⟨F3, ha, e3⟩
      exact q _ F2 H2 (g1.trans g2) k2 (hd D acc F2 F3 hD2 ha e3)
/-! data from data, each by a function -/
def AccD (K : PySem.W.Frag) (es : Nat → List PyData) : Nat → List V → Hp → Prop := fun i acc F => RpA K F acc (es i)
theorem et_yes {b : Bool} (hb : b = true) : EB w tYes σ F b := fun F1 H1 e k Q q => q true F1 H1 (Gr.refl k.e) k hb.symm
theorem take_some {α : Type} {l : List α} {i : Nat} {x : α} (h : l[i]? = some x) : l.take (i + 1) = l.take i ++ [x] := by
  rw [List.take_add_one, h]
  rfl
theorem EV.mono2 {P' : V → Hp → Prop} (h : EV w te σ F P) (i : ∀ v F', Same F F' → P v F' → P' v F') : EV w te σ F P' := fun F2 H2 e2 k Q q => h F2 H2 e2 k Q fun v F3 H3 g k3 p => q v F3 H3 g k3 (i _ _ (e2.trans g.f) p)
theorem ed_lcT {vs : List Nat} {j : Nat} {tt : TT} {ds : List PyData} (f : PyData → Bool) (g : PyData → PyData) (hl : ED K w tl σ F (.tuple ds)) (hz : ds.length ≤ 100000) (hw : ∀ x, wipe ((wipe σ vs).set j (some x)) vs = wipe σ vs)
    (ht : ∀ x d F1, d ∈ ds → Same F F1 → Rp K F1 x d → EB w tt ((wipe σ vs).set j (some x)) F1 (f d)) (he : ∀ x d F1, d ∈ ds → Same F F1 → Rp K F1 x d → f d = true → ED K w te ((wipe σ vs).set j (some x)) F1 (g d)) :
    ED K w (tLc (iTup K tl) (gName j) tt te vs) σ F (.list ((ds.filter f).map g)) :=
  ev_lcT hl hz hw (AccD K fun i => ((ds.take i).filter f).map g) (fun _ => .nil) (fun i x d F1 hi e r acc ha hla F2 H2 e2 k Q q => by
    have hm := List.mem_of_getElem? hi
    refine ht x d F1 hm e r F2 H2 e2 k Q fun b F3 H3 g3 k3 p3 => q b F3 H3 g3 k3 ?_
    subst p3
    have ha : RpA K F1 acc (((ds.take i).filter f).map g) := ha
    by_cases hf : f d = true
    · rw [if_pos hf]
      refine ((he x d F1 hm e r hf).mono (e2.trans g3.f)).mono2 fun y F4 e4 p4 => ?_
      show RpA K F4 (acc ++ [y]) (((ds.take (i + 1)).filter f).map g)
      rw [take_some hi, List.filter_append, List.map_append, List.filter_cons, if_pos hf]
      exact (ha.mono ((e2.trans g3.f).trans e4)).snoc p4
    · rw [if_neg hf]
      show RpA K F3 acc (((ds.take (i + 1)).filter f).map g)
      rw [take_some hi, List.filter_append, List.map_append, List.filter_cons, if_neg hf]
      show RpA K F3 acc (_ ++ [])
      rw [List.append_nil]
      exact ha.mono (e2.trans g3.f)) fun p acc F1 F2 h ha e => by
    have ha : RpA K F2 acc (((ds.take ds.length).filter f).map g) := ha
    rw [List.take_length] at ha
    exact .lst h (ha.mono e)
theorem ed_lcL {vs : List Nat} {j : Nat} {tt : TT} {ds : List PyData} (f : PyData → Bool) (g : PyData → PyData) (hl : ED K w tl σ F (.list ds)) (hz : ds.length ≤ 100000) (hw : ∀ x, wipe ((wipe σ vs).set j (some x)) vs = wipe σ vs)
    (ht : ∀ x d F1, d ∈ ds → Same F F1 → Rp K F1 x d → EB w tt ((wipe σ vs).set j (some x)) F1 (f d)) (he : ∀ x d F1, d ∈ ds → Same F F1 → Rp K F1 x d → f d = true → ED K w te ((wipe σ vs).set j (some x)) F1 (g d)) :
    ED K w (tLc (iList K tl) (gName j) tt te vs) σ F (.list ((ds.filter f).map g)) :=
  ev_lcL hl hz hw (AccD K fun i => ((ds.take i).filter f).map g) (fun _ => .nil) (fun i x d F1 hi e r acc ha hla F2 H2 e2 k Q q => by
    have hm := List.mem_of_getElem? hi
    refine ht x d F1 hm e r F2 H2 e2 k Q fun b F3 H3 g3 k3 p3 => q b F3 H3 g3 k3 ?_
    subst p3
    have ha : RpA K F1 acc (((ds.take i).filter f).map g) := ha
    by_cases hf : f d = true
    · rw [if_pos hf]
      refine ((he x d F1 hm e r hf).mono (e2.trans g3.f)).mono2 fun y F4 e4 p4 => ?_
      show RpA K F4 (acc ++ [y]) (((ds.take (i + 1)).filter f).map g)
      rw [take_some hi, List.filter_append, List.map_append, List.filter_cons, if_pos hf]
      exact (ha.mono ((e2.trans g3.f).trans e4)).snoc p4
    · rw [if_neg hf]
      show RpA K F3 acc (((ds.take (i + 1)).filter f).map g)
      rw [take_some hi, List.filter_append, List.map_append, List.filter_cons, if_neg hf]
      show RpA K F3 acc (_ ++ [])
      rw [List.append_nil]
      exact ha.mono (e2.trans g3.f)) fun p acc F1 F2 h ha e => by
    have ha : RpA K F2 acc (((ds.take ds.length).filter f).map g) := ha
    rw [List.take_length] at ha
    exact .lst h (ha.mono e)
/-- each by a function, no test -/
theorem ed_mapT {vs : List Nat} {j : Nat} {ds : List PyData} (g : PyData → PyData) (hl : ED K w tl σ F (.tuple ds)) (hz : ds.length ≤ 100000) (hw : ∀ x, wipe ((wipe σ vs).set j (some x)) vs = wipe σ vs)
    (he : ∀ x d F1, d ∈ ds → Same F F1 → Rp K F1 x d → ED K w te ((wipe σ vs).set j (some x)) F1 (g d)) :
    ED K w (tLc (iTup K tl) (gName j) tYes te vs) σ F (.list (ds.map g)) := (ed_lcT (fun _ => true) g hl hz hw (fun _ _ _ _ _ _ => et_yes rfl) fun x d F1 hm e r _ => he x d F1 hm e r).is (by rw [List.filter_eq_self.mpr (fun _ _ => rfl)])
/-- each some data of a kind -/
theorem er_mapT {vs : List Nat} {j : Nat} {ds : List PyData} (R : PyData → Prop) (hl : ED K w tl σ F (.tuple ds)) (hz : ds.length ≤ 100000) (hw : ∀ x, wipe ((wipe σ vs).set j (some x)) vs = wipe σ vs)
    (he : ∀ x d F1, d ∈ ds → Same F F1 → Rp K F1 x d → ER K w te ((wipe σ vs).set j (some x)) F1 R) :
    ER K w (tLc (iTup K tl) (gName j) tYes te vs) σ F (fun d => ∃ es, d = .list es ∧ es.length = ds.length ∧ ∀ e ∈ es, R e) :=
  ev_lcT hl hz hw (fun i acc F => ∃ es, RpA K F acc es ∧ es.length = i ∧ ∀ e ∈ es, R e) (fun _ => ⟨[], .nil, rfl, fun _ h => nomatch h⟩) (fun i x d F1 hi e r acc ha hla F2 H2 e2 k Q q => by
    obtain ⟨es, h1, h2, h3⟩ := ha
    refine q true F2 H2 (Gr.refl k.e) k ?_
    refine iteT ?_
    refine ((he x d F1 (List.mem_of_getElem? hi) e r).mono e2).mono2 fun y F4 e4 p4 => ?_
    obtain ⟨d', r1, r2⟩ := p4
    refine ⟨es ++ [d'], (h1.mono (e2.trans e4)).snoc r2, by rw [List.length_append, h2]; rfl, fun z hz => ?_⟩
    rcases List.mem_append.mp hz with hz | hz
    · exact h3 z hz
    · rw [List.mem_singleton.mp hz]
      exact r1) fun p acc F1 F2 h ha e => by
    obtain ⟨es, h1, h2, h3⟩ := ha
    exact ⟨.list es, ⟨es, rfl, h2, h3⟩, .lst h (h1.mono e)⟩
/-- each by a function, no test -/
theorem ed_mapL {vs : List Nat} {j : Nat} {ds : List PyData} (g : PyData → PyData) (hl : ED K w tl σ F (.list ds)) (hz : ds.length ≤ 100000) (hw : ∀ x, wipe ((wipe σ vs).set j (some x)) vs = wipe σ vs)
    (he : ∀ x d F1, d ∈ ds → Same F F1 → Rp K F1 x d → ED K w te ((wipe σ vs).set j (some x)) F1 (g d)) :
    ED K w (tLc (iList K tl) (gName j) tYes te vs) σ F (.list (ds.map g)) := (ed_lcL (fun _ => true) g hl hz hw (fun _ _ _ _ _ _ => et_yes rfl) fun x d F1 hm e r _ => he x d F1 hm e r).is (by rw [List.filter_eq_self.mpr (fun _ _ => rfl)])
/-- each some data of a kind -/
theorem er_mapL {vs : List Nat} {j : Nat} {ds : List PyData} (R : PyData → Prop) (hl : ED K w tl σ F (.list ds)) (hz : ds.length ≤ 100000) (hw : ∀ x, wipe ((wipe σ vs).set j (some x)) vs = wipe σ vs)
    (he : ∀ x d F1, d ∈ ds → Same F F1 → Rp K F1 x d → ER K w te ((wipe σ vs).set j (some x)) F1 R) :
    ER K w (tLc (iList K tl) (gName j) tYes te vs) σ F (fun d => ∃ es, d = .list es ∧ es.length = ds.length ∧ ∀ e ∈ es, R e) :=
  ev_lcL hl hz hw (fun i acc F => ∃ es, RpA K F acc es ∧ es.length = i ∧ ∀ e ∈ es, R e) (fun _ => ⟨[], .nil, rfl, fun _ h => nomatch h⟩) (fun i x d F1 hi e r acc ha hla F2 H2 e2 k Q q => by
    obtain ⟨es, h1, h2, h3⟩ := ha
    refine q true F2 H2 (Gr.refl k.e) k ?_
    refine iteT ?_
    refine ((he x d F1 (List.mem_of_getElem? hi) e r).mono e2).mono2 fun y F4 e4 p4 => ?_
    obtain ⟨d', r1, r2⟩ := p4
    refine ⟨es ++ [d'], (h1.mono (e2.trans e4)).snoc r2, by rw [List.length_append, h2]; rfl, fun z hz => ?_⟩
    rcases List.mem_append.mp hz with hz | hz
    · exact h3 z hz
    · rw [List.mem_singleton.mp hz]
      exact r1) fun p acc F1 F2 h ha e => by
    obtain ⟨es, h1, h2, h3⟩ := ha
    exact ⟨.list es, ⟨es, rfl, h2, h3⟩, .lst h (h1.mono e)⟩
theorem er_mapR {vs : List Nat} {j : Nat} {n : Int} {tr : TA} (R : PyData → Prop) (hl : EDA K w tr σ F [.int n]) (hz : n ≤ 100000) (hw : ∀ x, wipe ((wipe σ vs).set j (some x)) vs = wipe σ vs)
    (he : ∀ (i : Nat) F1, (i : Int) < n → Same F F1 → ER K w te ((wipe σ vs).set j (some (.int i))) F1 R) (hn : -1000000 ≤ n) :
    ER K w (tLc (iRng1 tr) (gName j) tYes te vs) σ F (fun d => ∃ es, d = .list es ∧ es.length = n.toNat ∧ ∀ e ∈ es, R e) :=
  ev_lcR hl hz hw (fun i acc F => ∃ es, RpA K F acc es ∧ es.length = i ∧ ∀ e ∈ es, R e) (fun _ => ⟨[], .nil, rfl, fun _ h => nomatch h⟩) (fun i F1 hi e acc ha hla F2 H2 e2 k Q q => by
    obtain ⟨es, h1, h2, h3⟩ := ha
    refine q true F2 H2 (Gr.refl k.e) k ?_
    refine iteT ?_
    refine ((he i F1 hi e).mono e2).mono2 fun y F4 e4 p4 => ?_
    obtain ⟨d', r1, r2⟩ := p4
    refine ⟨es ++ [d'], (h1.mono (e2.trans e4)).snoc r2, by rw [List.length_append, h2]; rfl, fun z hz => ?_⟩
    rcases List.mem_append.mp hz with hz | hz
    · exact h3 z hz
    · rw [List.mem_singleton.mp hz]
      exact r1) (fun p acc F1 F2 h ha e => by
    obtain ⟨es, h1, h2, h3⟩ := ha
    exact ⟨.list es, ⟨es, rfl, h2, h3⟩, .lst h (h1.mono e)⟩) hn
/-! ### statements -/
abbrev DQ (Q : VK) : Ends := { nx := fun _ H' => Q .non H', rt := Q }
variable {D : Ends} {tu tw : TS}
theorem s_set {i : Nat} (k : w.ok F H) (ev : EV w te σ F P) (q : ∀ v F' H', Gr w.M F H F' H' → w.ok F' H' → P v F' → D.nx (σ.set i (some v)) H') : tAsg te (gName i) D σ H := ev F H (Same.refl F) k _ q
theorem s_ret (k : w.ok F H) (ev : EV w te σ F P) (q : ∀ v F' H', Gr w.M F H F' H' → w.ok F' H' → P v F' → D.rt v H') : tRet te D σ H := ev F H (Same.refl F) k _ q
theorem s_drop (k : w.ok F H) (ev : EV w te σ F P) (q : ∀ v F' H', Gr w.M F H F' H' → w.ok F' H' → P v F' → D.nx σ H') : tDrop te D σ H := ev F H (Same.refl F) k _ q
theorem s_if {b : Bool} (k : w.ok F H) (ev : EB w t σ F b) (h1 : b = true → ∀ F' H', Gr w.M F H F' H' → w.ok F' H' → tu D σ H') (h2 : b = false → ∀ F' H', Gr w.M F H F' H' → w.ok F' H' → tw D σ H') : tIfS t tu tw D σ H :=
  ev F H (Same.refl F) k _ fun v F' H' g k' p => by
    subst p
    cases v with
    | true => exact iteT (h1 rfl F' H' g k')
    | false => exact iteF (h2 rfl F' H' g k')
theorem s_if1 {b : Bool} (k : w.ok F H) (ev : EB w t σ F b) (h1 : b = true → ∀ F' H', Gr w.M F H F' H' → w.ok F' H' → tu D σ H') (h2 : b = false → ∀ F' H', Gr w.M F H F' H' → w.ok F' H' → D.nx σ H') : tIfS t tu tNext D σ H := s_if k ev h1 h2
/-- for x in a tuple of data -/
theorem s_forT {g : TG} {ds : List PyData} (k : w.ok F H) (ev : ED K w tl σ F (.tuple ds)) (q : ∀ F1 H1, Gr w.M F H F1 H1 → w.ok F1 H1 → ∃ I : Nat → St → Hp → Hp → Prop, I 0 σ F1 H1 ∧ (∀ i σ' F' H', I i σ' F' H' → Same F1 F' ∧ Same F' H') ∧
      (∀ i v d σ' F' H', ds[i]? = some d → Rp K F' v d → I i σ' F' H' → g v σ' H' fun σ2 H2 => tu { D with nx := fun σ H => ∃ F, I (i + 1) σ F H, ct := fun σ H => ∃ F, I (i + 1) σ F H, bk := D.nx } σ2 H2) ∧ ∀ σ' F' H', I ds.length σ' F' H' → D.nx σ' H') :
    tFor (iTup K tl) g tu D σ H := ev F H (Same.refl F) k _ fun v F1 H1 g1 k1 r => by
  obtain ⟨a, xs, rfl, hx, ra⟩ := rp_tup r
  obtain ⟨I, i0, iF, is, id⟩ := q F1 H1 g1 k1
  refine ⟨a, rfl, ⟨xs, sqtM k1.e hx⟩, for_tup (xs := xs) (fun i σ H => ∃ F, I i σ F H) ⟨F1, i0⟩ (fun i σ' H' _ ⟨F', p⟩ => ?_) (fun i x σ' H' hi ⟨F', p⟩ => ?_) fun σ' H' ⟨F', p⟩ => ?_⟩
  · obtain ⟨e1, e2⟩ := iF i σ' F' H' p
    exact sqtM (e1.trans e2) hx
  · obtain ⟨e1, e2⟩ := iF i σ' F' H' p
    obtain ⟨d, hd1, hd2⟩ := ra.getV hi
    exact is i x d σ' F' H' hd1 (hd2.mono e1) p
  · exact id σ' F' H' (by rw [← ra.len]; exact p)
/-- for x in a list of data -/
theorem s_forL {g : TG} {ds : List PyData} (k : w.ok F H) (ev : ED K w tl σ F (.list ds)) (q : ∀ F1 H1, Gr w.M F H F1 H1 → w.ok F1 H1 → ∃ I : Nat → St → Hp → Hp → Prop, I 0 σ F1 H1 ∧ (∀ i σ' F' H', I i σ' F' H' → Same F1 F' ∧ Same F' H') ∧
      (∀ i v d σ' F' H', ds[i]? = some d → Rp K F' v d → I i σ' F' H' → g v σ' H' fun σ2 H2 => tu { D with nx := fun σ H => ∃ F, I (i + 1) σ F H, ct := fun σ H => ∃ F, I (i + 1) σ F H, bk := D.nx } σ2 H2) ∧ ∀ σ' F' H', I ds.length σ' F' H' → D.nx σ' H') :
    tFor (iList K tl) g tu D σ H := ev F H (Same.refl F) k _ fun v F1 H1 g1 k1 r => by
  obtain ⟨a, xs, rfl, hx, ra⟩ := rp_lst r
  obtain ⟨I, i0, iF, is, id⟩ := q F1 H1 g1 k1
  refine ⟨a, rfl, ⟨xs, rp_sqL k1.e hx⟩, for_list (xs := xs) (fun i σ H => ∃ F, I i σ F H) ⟨F1, i0⟩ (fun i σ' H' _ ⟨F', p⟩ => ?_) (fun i x σ' H' hi ⟨F', p⟩ => ?_) fun σ' H' ⟨F', p⟩ => ?_⟩
  · obtain ⟨e1, e2⟩ := iF i σ' F' H' p
    exact rp_sqL (e1.trans e2) hx
  · obtain ⟨e1, e2⟩ := iF i σ' F' H' p
    obtain ⟨d, hd1, hd2⟩ := ra.getV hi
    exact is i x d σ' F' H' hd1 (hd2.mono e1) p
  · exact id σ' F' H' (by rw [← ra.len]; exact p)
/-- for i in range(n) -/
theorem s_forR {g : TG} {n : Int} (k : w.ok F H) (ev : EDA K w tr σ F [.int n]) (hz : -1000000 ≤ n ∧ n ≤ 1000000) (q : ∀ F1 H1, Gr w.M F H F1 H1 → w.ok F1 H1 → ∃ I : Nat → St → Hp → Hp → Prop, I 0 σ F1 H1 ∧
      (∀ (i : Nat) σ' F' H', (i : Int) < n → I i σ' F' H' → g (.int i) σ' H' fun σ2 H2 => tu { D with nx := fun σ H => ∃ F, I (i + 1) σ F H, ct := fun σ H => ∃ F, I (i + 1) σ F H, bk := D.nx } σ2 H2) ∧ ∀ σ' F' H', I n.toNat σ' F' H' → D.nx σ' H') :
    tFor (iRng1 tr) g tu D σ H := ev F H (Same.refl F) k _ fun v F1 H1 g1 k1 r => by
  have ev : v = [.int n] := by
    cases r with
    | cons r1 r2 =>
      cases r2
      rw [rp_int r1]
  obtain ⟨I, i0, is, id⟩ := q F1 H1 g1 k1
  refine ⟨n, ev, by omega, by omega, for_range (lo := 0) (n := n.toNat) (fun i σ H => ∃ F, I i σ F H) ⟨F1, i0⟩ (fun i σ' H' hi ⟨F', p⟩ => ?_) fun σ' H' ⟨F', p⟩ => id σ' F' H' p⟩
  rw [Int.zero_add]
  exact is i σ' F' H' (by omega) p
/-- xs.append(e) -/
theorem s_app {l : Addr} {xs : List V} {j : Nat} (k : (w.add l (.lst xs)).ok F H) (hl : σ[j]? = some (some (.ref l))) (ev : EV (w.add l (.lst xs)) te σ F P) (hz : xs.length < 100000) (nd : ∀ q ∈ w.ls, q.1 ≠ l)
    (q : ∀ v F' H2, Gr w.M F H F' H2 → F' l = none → (w.add l (.lst (xs ++ [v]))).ok F' (upd H2 l (.lst (xs ++ [v]))) → P v F' → D.nx σ (upd H2 l (.lst (xs ++ [v])))) : tDrop (tBM K "list" rAppend (tVar j) (tCons te tNil)) D σ H :=
  ⟨.ref l, hl, .inl ⟨rfl, xs, .inl (.inl k.at.2.2)⟩, ev F H (Same.refl F) k _ fun v F' H' g k' p =>
    ⟨l, xs, v, rfl, rfl, k'.at.2.2, Nat.lt_of_lt_of_le hz (by decide), q v F' H' g k'.at.2.1 (k'.put nd) p⟩⟩
/-- xs.extend(ys), ys a new list of data -/
theorem s_ext {l : Addr} {xs : List V} {j : Nat} {ds : List PyData} (k : (w.add l (.lst xs)).ok F H) (hl : σ[j]? = some (some (.ref l))) (ev : ED K (w.add l (.lst xs)) te σ F (.list ds)) (hz : xs.length + ds.length ≤ 100000) (nd : ∀ q ∈ w.ls, q.1 ≠ l)
    (q : ∀ vs F' H2, Gr w.M F H F' H2 → F' l = none → (w.add l (.lst (xs ++ vs))).ok F' (upd H2 l (.lst (xs ++ vs))) → RpA K F' vs ds → D.nx σ (upd H2 l (.lst (xs ++ vs)))) : tDrop (tBM K "list" rExtend (tVar j) (tCons te tNil)) D σ H :=
  ⟨.ref l, hl, .inl ⟨rfl, xs, .inl (.inl k.at.2.2)⟩, ev F H (Same.refl F) k _ fun v F' H' g k' p => by
    obtain ⟨a, vs, rfl, h, ra⟩ := rp_lst p
    exact ⟨l, a, xs, vs, rfl, rfl, k'.at.2.2, k'.e _ _ h, by rw [ra.len]; exact Nat.le_trans hz (by decide), q vs F' H' g k'.at.2.1 (k'.put nd) ra⟩⟩
/-- xs = [..], a list of one's own -/
theorem s_own {i : Nat} {A : List V → Hp → Prop} (k : w.ok F H) (ev : EA w tr σ F A) (hA : ∀ vs F', A vs F' → vs.length ≤ 100000) (q : ∀ vs F' H2 l, Gr w.M F H F' H2 → H2 l = none → F' l = none → H l = none → (w.add l (.lst vs)).ok F' (upd H2 l (.lst vs)) → A vs F' → D.nx (σ.set i (some (.ref l))) (upd H2 l (.lst vs))) : tAsg (tLst tr) (gName i) D σ H :=
  ev F H (Same.refl F) k _ fun vs F' H' g k' p => ⟨Nat.le_trans (hA vs F' p) (by decide), fun l hl => by
    have hF := freeF k'.e hl
    have h0 : H l = none := by
      cases z : H l with
      | none => rfl
      | some o => exact (g.d l (by rw [z]; exact fun z => nomatch z) hl).elim
    exact q vs F' H' l g hl hF h0 ((k'.pure (Gr.own k'.e hl)).plus (k'.npb hl) hF upd_same) p⟩
/-! the same, with what follows named -/
variable {rest : TS}
theorem q_set {i : Nat} (k : w.ok F H) (ev : EV w te σ F P) (q : ∀ v F' H', Gr w.M F H F' H' → w.ok F' H' → P v F' → rest D (σ.set i (some v)) H') : tSeq (tAsg te (gName i)) rest D σ H := ev F H (Same.refl F) k _ q
theorem q_drop (k : w.ok F H) (ev : EV w te σ F P) (q : ∀ v F' H', Gr w.M F H F' H' → w.ok F' H' → P v F' → rest D σ H') : tSeq (tDrop te) rest D σ H := ev F H (Same.refl F) k _ q
/-- if .. return; what follows is read where it does not -/
theorem q_if {b : Bool} (k : w.ok F H) (ev : EB w t σ F b) (h1 : b = true → ∀ F' H', Gr w.M F H F' H' → w.ok F' H' → tu { D with nx := rest D } σ H') (h2 : b = false → ∀ F' H', Gr w.M F H F' H' → w.ok F' H' → rest D σ H') : tSeq (tIfS t tu tNext) rest D σ H :=
  s_if (D := { D with nx := rest D }) k ev h1 h2
theorem q_own {i : Nat} {A : List V → Hp → Prop} (k : w.ok F H) (ev : EA w tr σ F A) (hA : ∀ vs F', A vs F' → vs.length ≤ 100000) (q : ∀ vs F' H2 l, Gr w.M F H F' H2 → H2 l = none → F' l = none → H l = none → (w.add l (.lst vs)).ok F' (upd H2 l (.lst vs)) → A vs F' → rest D (σ.set i (some (.ref l))) (upd H2 l (.lst vs))) : tSeq (tAsg (tLst tr) (gName i)) rest D σ H :=
  s_own (D := { D with nx := rest D }) k ev hA q
theorem q_app {l : Addr} {xs : List V} {j : Nat} (k : (w.add l (.lst xs)).ok F H) (hl : σ[j]? = some (some (.ref l))) (ev : EV (w.add l (.lst xs)) te σ F P) (hz : xs.length < 100000) (nd : ∀ q ∈ w.ls, q.1 ≠ l)
    (q : ∀ v F' H2, Gr w.M F H F' H2 → F' l = none → (w.add l (.lst (xs ++ [v]))).ok F' (upd H2 l (.lst (xs ++ [v]))) → P v F' → rest D σ (upd H2 l (.lst (xs ++ [v])))) : tSeq (tDrop (tBM K "list" rAppend (tVar j) (tCons te tNil))) rest D σ H :=
  s_app (D := { D with nx := rest D }) k hl ev hz nd q
end
end Wk
set_option Elab.async false
set_option linter.all false
set_option maxRecDepth 100000
set_option maxHeartbeats 2000000
namespace Wk
open PySem PySem.Spec L2
section
variable {K : PySem.W.Frag} {w : Wd} {σ : St} {F F1 F' H H' : Hp} {ta tb te tc tl : TE} {t u : TT} {P : V → Hp → Prop} {tr : TA} {i j l : Int}
theorem ed_add (ha : ED K w ta σ F (.int i)) (hb : ED K w tb σ F (.int j)) : ED K w (tOp (rI0 fun i j => .int (i + j)) ta tb) σ F (.int (i + j)) := ed_I0 ha hb fun _ => .int _
theorem ed_sub (ha : ED K w ta σ F (.int i)) (hb : ED K w tb σ F (.int j)) : ED K w (tOp (rI0 fun i j => .int (i - j)) ta tb) σ F (.int (i - j)) := ed_I0 ha hb fun _ => .int _
theorem ed_mul (ha : ED K w ta σ F (.int i)) (hb : ED K w tb σ F (.int j)) (h : CMul i j) : ED K w (tOp (rI CMul fun i j => .int (i * j)) ta tb) σ F (.int (i * j)) := ed_I ha hb h fun _ => .int _
theorem ed_mulX (ha : ED K w ta σ F (.int i)) (hb : ED K w tb σ F (.int j)) (h : CMulX i j) : ED K w (tOp (rI CMulX fun i j => .int (i * j)) ta tb) σ F (.int (i * j)) := ed_I ha hb h fun _ => .int _
theorem ed_fdiv (ha : ED K w ta σ F (.int i)) (hb : ED K w tb σ F (.int j)) (h : CDiv i j) : ED K w (tOp (rI CDiv fun i j => .int (i / j)) ta tb) σ F (.int (i / j)) := ed_I ha hb h fun _ => .int _
theorem ed_mod (ha : ED K w ta σ F (.int i)) (hb : ED K w tb σ F (.int j)) (h : 0 < j) : ED K w (tOp (rI (fun _ j => 0 < j) fun i j => .int (i % j)) ta tb) σ F (.int (i % j)) := ed_I ha hb h fun _ => .int _
theorem ed_pow (ha : ED K w ta σ F (.int i)) (hb : ED K w tb σ F (.int j)) (h : CPow i j) : ED K w (tOp (rI CPow fun i j => .int (i ^ j.toNat)) ta tb) σ F (.int (i ^ j.toNat)) := ed_I ha hb h fun _ => .int _
theorem ed_neg (ha : ED K w ta σ F (.int i)) : ED K w (tUn (rU fun i => .int (-i)) ta) σ F (.int (-i)) := ed_un ha fun _ => .int _
theorem ed_lt (ha : ED K w ta σ F (.int i)) (hb : ED K w tb σ F (.int j)) : ED K w (tOp (rI0 fun i j => .bl (decide (i < j))) ta tb) σ F (.bool (decide (i < j))) := ed_I0 ha hb fun _ => .bl _
theorem ed_le (ha : ED K w ta σ F (.int i)) (hb : ED K w tb σ F (.int j)) : ED K w (tOp (rI0 fun i j => .bl (decide (i ≤ j))) ta tb) σ F (.bool (decide (i ≤ j))) := ed_I0 ha hb fun _ => .bl _
theorem ed_gt (ha : ED K w ta σ F (.int i)) (hb : ED K w tb σ F (.int j)) : ED K w (tOp (rI0 fun i j => .bl (decide (j < i))) ta tb) σ F (.bool (decide (j < i))) := ed_I0 ha hb fun _ => .bl _
theorem ed_ge (ha : ED K w ta σ F (.int i)) (hb : ED K w tb σ F (.int j)) : ED K w (tOp (rI0 fun i j => .bl (decide (j ≤ i))) ta tb) σ F (.bool (decide (j ≤ i))) := ed_I0 ha hb fun _ => .bl _
theorem ed_lele (ha : ED K w ta σ F (.int i)) (hb : ED K w tb σ F (.int j)) (hc : ED K w tc σ F (.int l)) :
    ED K w (tChain (rI0 fun i j => .bl (decide (i ≤ j))) (rI0 fun i j => .bl (decide (i ≤ j))) ta tb tc) σ F (.bool (decide (i ≤ j) && decide (j ≤ l))) := ed_chain ha hb hc
theorem ed_lelt (ha : ED K w ta σ F (.int i)) (hb : ED K w tb σ F (.int j)) (hc : ED K w tc σ F (.int l)) :
    ED K w (tChain (rI0 fun i j => .bl (decide (i ≤ j))) (rI0 fun i j => .bl (decide (i < j))) ta tb tc) σ F (.bool (decide (i ≤ j) && decide (j < l))) := ed_chain ha hb hc
/-- int(i), abs, max, min, divmod -/
theorem ed_int1 (ha : ED K w ta σ F (.int i)) : ED K w (tCB (fun xs H Q => (∃ i, xs = [.int i] ∧ Q (.int i) H) ∨ ∃ k, xs = [.bl k] ∧ Q (.int (if k then 1 else 0)) H) (tCons ta tNil)) σ F (.int i) :=
  ed_cb1 ha fun x F' H k r => ⟨.int i, fun Q q => .inl ⟨i, by rw [rp_int r], q⟩, .int _⟩
theorem ed_abs (ha : ED K w ta σ F (.int i)) : ED K w (tCB (fun xs H Q => ∃ i, xs = [.int i] ∧ Q (.int (if i < 0 then -i else i)) H) (tCons ta tNil)) σ F (.int (if i < 0 then -i else i)) :=
  ed_cb1 ha fun x F' H k r => ⟨.int _, fun Q q => ⟨i, by rw [rp_int r], q⟩, .int _⟩
theorem ed_max2 (ha : ED K w ta σ F (.int i)) (hb : ED K w tb σ F (.int j)) : ED K w (tCB (fun xs H Q => ∃ i j, xs = [.int i, .int j] ∧ Q (.int (if j > i then j else i)) H) (tCons ta (tCons tb tNil))) σ F (.int (if j > i then j else i)) :=
  ed_cb2 ha hb fun x y F' H k r s => ⟨.int _, fun Q q => ⟨i, j, by rw [rp_int r, rp_int s], q⟩, .int _⟩
theorem ed_min2 (ha : ED K w ta σ F (.int i)) (hb : ED K w tb σ F (.int j)) : ED K w (tCB (fun xs H Q => ∃ i j, xs = [.int i, .int j] ∧ Q (.int (if j < i then j else i)) H) (tCons ta (tCons tb tNil))) σ F (.int (if j < i then j else i)) :=
  ed_cb2 ha hb fun x y F' H k r s => ⟨.int _, fun Q q => ⟨i, j, by rw [rp_int r, rp_int s], q⟩, .int _⟩
/-! ### texts -/
theorem ed_strI (ha : ED K w ta σ F (.int i)) (h : i.natAbs.log2 < 1920) : ED K w (tCB (fun xs H Q => ∃ i, xs = [.int i] ∧ i.natAbs.log2 < 1920 ∧ Q (.str (toString i)) H) (tCons ta tNil)) σ F (.str (toString i)) :=
  ed_cb1 ha fun x F' H k r => ⟨.str _, fun Q q => ⟨i, by rw [rp_int r], h, q⟩, .str _⟩
theorem ed_strS {z : Str} (ha : ED K w ta σ F (.str z)) : ED K w (tCB (fun xs H Q => ∃ a, xs = [.str a] ∧ Q (.str a) H) (tCons ta tNil)) σ F (.str z) :=
  ed_cb1 ha fun x F' H k r => ⟨.str z, fun Q q => ⟨z, by rw [rp_str r], q⟩, .str _⟩
theorem ed_lenS {s : Str} (ha : ED K w ta σ F (.str s)) (h : s.length ≤ 100000) : ED K w (tCB (fun xs H Q => ∃ z, xs = [.str z] ∧ z.length ≤ sizeLine ∧ Q (.int z.length) H) (tCons ta tNil)) σ F (.int s.length) :=
  ed_cb1 ha fun x F' H k r => ⟨.int _, fun Q q => ⟨s, by rw [rp_str r], Nat.le_trans h (by decide), q⟩, .int _⟩
theorem ed_addS {a b : Str} (ha : ED K w ta σ F (.str a)) (hb : ED K w tb σ F (.str b)) (h : a.length + b.length ≤ 100000) : ED K w (tOp (fun x y H Q => ∃ i j, x = .str i ∧ y = .str j ∧ i.length + j.length ≤ sizeLine ∧ Q (.str (i ++ j)) H) ta tb) σ F (.str (a ++ b)) :=
  ed_op ha hb fun x y F' H k p q => ⟨.str (a ++ b), fun Q z => ⟨a, b, rp_str p, rp_str q, Nat.le_trans h (by decide), z⟩, .str _⟩
theorem ed_m1 {r : V → List V → Hp → VK → Prop} {s : Str} {d z : PyData} (ha : ED K w ta σ F (.str s)) (hb : ED K w tb σ F d) (hr : ∀ y F' H, w.ok F' H → Rp K F' y d → ∃ v, (∀ Q : VK, Q v H → r (.str s) [y] H Q) ∧ Rp K F' v z) : ED K w (tM1 r ta tb) σ F z := fun F1 H1 e k Q q =>
  ha F1 H1 e k _ fun x F2 H2 g2 k2 p2 => ⟨⟨s, rp_str p2⟩, hb F2 H2 (e.trans g2.f) k2 _ fun y F3 H3 g3 k3 p3 => by
    obtain ⟨v, h, rv⟩ := hr y F3 H3 k3 p3
    rw [rp_str p2]
    exact h Q (q v F3 H3 (g2.trans g3) k3 rv)⟩
theorem tyStr {s : Str} {H : Hp} : tyV K "str" (.str s) H := by
  unfold tyV
  first | rfl | trivial | exact ⟨rfl, rfl⟩
theorem ed_sm0 {r : V → List V → Hp → VK → Prop} {s : Str} {z : PyData} (ha : ED K w ta σ F (.str s)) (hr : ∀ F' H, w.ok F' H → ∃ v, (∀ Q : VK, Q v H → r (.str s) [] H Q) ∧ Rp K F' v z) : ED K w (tBM0 K "str" r ta) σ F z := fun F1 H1 e k Q q =>
  ha F1 H1 e k _ fun x F2 H2 g2 k2 p2 => by
    rw [rp_str p2]
    obtain ⟨v, h, rv⟩ := hr F2 H2 k2
    exact ⟨tyStr, h Q (q v F2 H2 g2 k2 rv)⟩
theorem ed_sm1 {r : V → List V → Hp → VK → Prop} {s : Str} {d z : PyData} (ha : ED K w ta σ F (.str s)) (hb : ED K w tb σ F d) (hr : ∀ y F' H, w.ok F' H → Rp K F' y d → ∃ v, (∀ Q : VK, Q v H → r (.str s) [y] H Q) ∧ Rp K F' v z) : ED K w (tBM K "str" r ta (tCons tb tNil)) σ F z := fun F1 H1 e k Q q =>
  ha F1 H1 e k _ fun x F2 H2 g2 k2 p2 => by
    rw [rp_str p2]
    exact ⟨tyStr, hb F2 H2 (e.trans g2.f) k2 _ fun y F3 H3 g3 k3 p3 => by
      obtain ⟨v, h, rv⟩ := hr y F3 H3 k3 p3
      exact h Q (q v F3 H3 (g2.trans g3) k3 rv)⟩
/-- sep.join(list of texts) -/
theorem ed_join {a : Str} {ys : List Str} (ha : ED K w ta σ F (.str a)) (hb : ED K w tb σ F (.list (ys.map .str))) (h : (ys.map (·.length)).sum + ys.length * a.length ≤ 16777216) :
    ED K w (tM1 (fun x xs H Q => ∃ a p, ∃ ys : List Str, x = .str a ∧ xs = [.ref p] ∧ (SqL K H p (ys.map V.str) ∨ SqT K H p (ys.map V.str)) ∧ (ys.map (·.length)).sum + ys.length * a.length ≤ 16777216 ∧ Q (.str (Txt.join a ys)) H) ta tb) σ F (.str (Txt.join a ys)) :=
  ed_m1 ha hb fun y F' H k p => by
    obtain ⟨q, xs, rfl, hs, ra⟩ := rp_lst p
    rw [rpA_str ra] at hs
    exact ⟨.str _, fun Q z => ⟨a, q, ys, rfl, rfl, .inl (rp_sqL k.e hs), h, z⟩, .str _⟩
/-- s.split(sep) -/
theorem ed_split {a b : Str} (ha : ED K w ta σ F (.str a)) (hb : ED K w tb σ F (.str b)) (h1 : (b.length == 0) = false) (h2 : a.length + 2 ≤ 100000) :
    ED K w (tM1 (fun x xs H Q => ∃ a b, x = .str a ∧ xs = [.str b] ∧ (b.length == 0) = false ∧ a.length + 2 ≤ sizeLine ∧ rNewStrs (Txt.split a b) H Q) ta tb) σ F (.list ((Txt.split a b).map .str)) := fun F1 H1 e k Q q =>
  ha F1 H1 e k _ fun x F2 H2 g2 k2 p2 => ⟨⟨a, rp_str p2⟩, hb F2 H2 (e.trans g2.f) k2 _ fun y F3 H3 g3 k3 p3 => by
    refine ⟨a, b, rp_str p2, by rw [rp_str p3], h1, Nat.le_trans h2 (by decide), fun p hp => ?_⟩
    have g4 : Gr M0 F3 H3 (upd F3 p (.lst ((Txt.split a b).map V.str))) (upd H3 p (.lst ((Txt.split a b).map V.str))) := Gr.new k3.e hp
    exact q _ _ _ ((g2.trans g3).trans g4.up) (k3.pure g4) (.lst upd_same (mkA_str _))⟩
/-! f-strings -/
theorem ed_fmtI (ha : ED K w ta σ F (.int i)) (h : i.natAbs.log2 < 1920) : ED K w (tFmt ta) σ F (.str (toString i)) := fun F1 H1 e k Q q =>
  ha F1 H1 e k _ fun x F2 H2 g2 k2 p2 => .inr ⟨i, rp_int p2, h, q _ F2 H2 g2 k2 (.str _)⟩
theorem ed_fmtS {s : Str} (ha : ED K w ta σ F (.str s)) (h : s.length ≤ 100000) : ED K w (tFmt ta) σ F (.str s) := fun F1 H1 e k Q q =>
  ha F1 H1 e k _ fun x F2 H2 g2 k2 p2 => .inl ⟨s, rp_str p2, Nat.le_trans h (by decide), q _ F2 H2 g2 k2 (.str _)⟩
theorem str_nil (a : Str) : Str.empty ++ a = a := by
  obtain ⟨c⟩ := a
  show Str.mk (#[] ++ c) = ⟨c⟩
  rw [Array.empty_append]
theorem str_len (a b : Str) : (a ++ b).length = a.length + b.length := by
  show (a.cps ++ b.cps).size = _
  rw [Array.size_append] <;> rfl
/-- two, three parts -/
theorem ed_js2 {a b : Str} (ha : ED K w ta σ F (.str a)) (hb : ED K w tb σ F (.str b)) (h2 : a.length + b.length ≤ 100000) : ED K w (fun σ H Q => tJs [ta, tb] Str.empty σ H fun out H1 => Q (.str out) H1) σ F (.str (a ++ b)) := fun F1 H1 e k Q q =>
  ha F1 H1 e k _ fun x F2 H2 g2 k2 p2 => ⟨a, rp_str p2, Nat.le_trans (by rw [str_nil]; omega) (show 100000 ≤ sizeLine by decide), hb F2 H2 (e.trans g2.f) k2 _ fun y F3 H3 g3 k3 p3 => ⟨b, rp_str p3, Nat.le_trans (by rw [str_nil, str_len]; omega) (show 100000 ≤ sizeLine by decide), by
    show Q (.str (Str.empty ++ a ++ b)) H3
    rw [str_nil]
    exact q _ F3 H3 (g2.trans g3) k3 (.str _)⟩⟩
theorem ed_js3 {a b c : Str} (ha : ED K w ta σ F (.str a)) (hb : ED K w tb σ F (.str b)) (hc : ED K w tc σ F (.str c)) (h2 : a.length + b.length + c.length ≤ 100000) : ED K w (fun σ H Q => tJs [ta, tb, tc] Str.empty σ H fun out H1 => Q (.str out) H1) σ F (.str (a ++ b ++ c)) := fun F1 H1 e k Q q =>
  ha F1 H1 e k _ fun x F2 H2 g2 k2 p2 => ⟨a, rp_str p2, Nat.le_trans (by rw [str_nil]; omega) (show 100000 ≤ sizeLine by decide), hb F2 H2 (e.trans g2.f) k2 _ fun y F3 H3 g3 k3 p3 => ⟨b, rp_str p3, Nat.le_trans (by rw [str_nil, str_len]; omega) (show 100000 ≤ sizeLine by decide),
    hc F3 H3 ((e.trans g2.f).trans g3.f) k3 _ fun z F4 H4 g4 k4 p4 => ⟨c, rp_str p4, Nat.le_trans (by rw [str_nil, str_len, str_len]; omega) (show 100000 ≤ sizeLine by decide), by
      show Q (.str (Str.empty ++ a ++ b ++ c)) H4
      rw [str_nil]
      exact q _ F4 H4 ((g2.trans g3).trans g4) k4 (.str _)⟩⟩⟩
/-- + of lists -/
theorem ed_cat {ds es : List PyData} (ha : ED K w ta σ F (.list ds)) (hb : ED K w tb σ F (.list es)) (h : ds.length + es.length ≤ 100000) : ED K w (tOp rCat ta tb) σ F (.list (ds ++ es)) := fun F1 H1 e k Q q =>
  ha F1 H1 e k _ fun x F2 H2 g2 k2 p2 => hb F2 H2 (e.trans g2.f) k2 _ fun y F3 H3 g3 k3 p3 => by
    obtain ⟨a, xs, rfl, h1, ra⟩ := rp_lst p2
    obtain ⟨b, ys, rfl, h2, rb⟩ := rp_lst p3
    refine ⟨a, b, xs, ys, rfl, rfl, k3.e _ _ (g3.f _ _ h1), k3.e _ _ h2, by rw [ra.len, rb.len]; exact Nat.le_trans h (by decide), fun p hp => ?_⟩
    have g4 : Gr M0 F3 H3 (upd F3 p (.lst (xs ++ ys))) (upd H3 p (.lst (xs ++ ys))) := Gr.new k3.e hp
    exact q _ _ _ ((g2.trans g3).trans g4.up) (k3.pure g4) (.lst upd_same ((ra.mono (g3.f.trans g4.f)).app (rb.mono g4.f)))
/-- xs[a:b] of a list -/
def cutD (ds : List PyData) (lo hi : Option Int) : List PyData := (ds.drop (HT.sIx ds.length 0 lo)).take (HT.sIx ds.length ds.length hi - HT.sIx ds.length 0 lo)
theorem cut_rp {vs : List V} {ds : List PyData} (ra : RpA K F vs ds) (lo hi : Option Int) : RpA K F (cutV vs lo hi) (cutD ds lo hi) := by
  unfold cutV cutD
  rw [ra.len]
  exact (ra.drop _).take _
def EO (w : Wd) (to : TO) (σ : St) (F : Hp) (o : Option Int) : Prop := ∀ F1 H1, Same F F1 → w.ok F1 H1 → ∀ Q : Option Int → Hp → Prop, (∀ F2 H2, Gr w.M F1 H1 F2 H2 → w.ok F2 H2 → Q o H2) → to σ H1 Q
theorem eo_none : EO w tNoPart σ F none := fun F1 H1 e k Q q => q F1 H1 (Gr.refl k.e) k
theorem eo_some (h : ED K w te σ F (.int i)) : EO w (tPart te) σ F (some i) := fun F1 H1 e k Q q => h F1 H1 e k _ fun v F2 H2 g k2 p => ⟨i, rp_int p, q F2 H2 g k2⟩
theorem EO.mono {to : TO} {o : Option Int} (e : Same F F1) (h : EO w to σ F o) : EO w to σ F1 o := fun F2 H2 e2 k Q q => h F2 H2 (e.trans e2) k Q q
theorem ed_sliceL {ds : List PyData} {lo hi : Option Int} {tlo thi : TO} (ha : ED K w ta σ F (.list ds)) (hl : EO w tlo σ F lo) (hh : EO w thi σ F hi) : ED K w (tSl (rSlL K) ta tlo thi) σ F (.list (cutD ds lo hi)) := fun F1 H1 e k Q q =>
  ha F1 H1 e k _ fun x F2 H2 g2 k2 p2 => hl F2 H2 (e.trans g2.f) k2 _ fun F3 H3 g3 k3 => hh F3 H3 ((e.trans g2.f).trans g3.f) k3 _ fun F4 H4 g4 k4 => by
    obtain ⟨a, xs, rfl, h1, ra⟩ := rp_lst p2
    have e4 := g3.f.trans g4.f
    refine ⟨a, xs, rfl, rp_sqL (e4.trans k4.e) h1, fun p hp => ?_⟩
    have g5 : Gr M0 F4 H4 (upd F4 p (.lst (cutV xs lo hi))) (upd H4 p (.lst (cutV xs lo hi))) := Gr.new k4.e hp
    exact q _ _ _ (((g2.trans g3).trans g4).trans g5.up) (k4.pure g5) (.lst upd_same ((cut_rp ra lo hi).mono (e4.trans g5.f)))
/-- a text's methods -/
theorem ed_isdigit {s : Str} (ha : ED K w ta σ F (.str s)) : ED K w (tBM0 K "str" (fun x xs H Q => ∃ a, x = .str a ∧ xs = [] ∧ True ∧ Q (.bl (Txt.isdigit a)) H) ta) σ F (.bool (Txt.isdigit s)) :=
  ed_sm0 ha fun F' H k => ⟨.bl _, fun Q q => ⟨s, rfl, rfl, trivial, q⟩, .bl _⟩
theorem ed_isascii {s : Str} (ha : ED K w ta σ F (.str s)) : ED K w (tBM0 K "str" (fun x xs H Q => ∃ a, x = .str a ∧ xs = [] ∧ True ∧ Q (.bl (Txt.isascii a)) H) ta) σ F (.bool (Txt.isascii s)) :=
  ed_sm0 ha fun F' H k => ⟨.bl _, fun Q q => ⟨s, rfl, rfl, trivial, q⟩, .bl _⟩
theorem ed_removeprefix {s t : Str} (ha : ED K w ta σ F (.str s)) (hb : ED K w tb σ F (.str t)) (h : s.length ≤ 100000) : ED K w (tBM K "str" (fun x xs H Q => ∃ a b, x = .str a ∧ xs = [.str b] ∧ a.length ≤ sizeLine ∧ Q (.str (Txt.removeprefix a b)) H) ta (tCons tb tNil)) σ F (.str (Txt.removeprefix s t)) :=
  ed_sm1 ha hb fun y F' H k r => ⟨.str _, fun Q q => ⟨s, t, rfl, by rw [rp_str r], Nat.le_trans h (by decide), q⟩, .str _⟩
theorem ed_intS {s : Str} {n : Int} (ha : ED K w ta σ F (.str s)) (h : PySem.intText? s = some n) (hl : s.length ≤ 640) : ED K w (tCB (fun xs H Q => ∃ a n, xs = [.str a] ∧ PySem.intText? a = some n ∧ a.length ≤ 640 ∧ Q (.int n) H) (tCons ta tNil)) σ F (.int n) :=
  ed_cb1 ha fun x F' H k r => ⟨.int n, fun Q q => ⟨s, n, by rw [rp_str r], h, hl, q⟩, .int _⟩
/-- a chain as a test -/
theorem eb_chain {r r' : R2} {b : Bool} (h : ED K w (tChain r r' ta tb tc) σ F (.bool b)) : EB w (tB (tChain r r' ta tb tc)) σ F b := eb_B h
/-! lengths of texts -/
theorem len_int {i : Int} {k : Nat} (hk : 0 < k) (h : i.natAbs < 10 ^ k) : (Str.ofString (toString i)).length ≤ k + 1 := by
  rw [ofString_length]
  exact int_text_length_le10 hk h
end
end Wk
set_option Elab.async false
set_option linter.all false
set_option maxRecDepth 100000
set_option maxHeartbeats 2000000
/-! the layer's rules with the written part named: so they may stand within a comprehension -/
namespace Wk
open PySem PySem.Spec L2
section
variable {X : Cx} (K : PySem.W.Frag) (hK : X.K = K)
include hK
def rListOf (K : PySem.W.Frag) : List V → Hp → VK → Prop := fun xs H Q => ∃ p ys, xs = [.ref p] ∧ (SqL K H p ys ∨ SqT K H p ys) ∧ ∀ l, H l = none → Q (.ref l) (upd H l (.lst ys))
theorem cK_len : CallR X (.builtin "len") (rLenS K) := by
  subst hK
  exact call_len_seq
theorem cK_isi : CallR X (.builtin "isinstance") (rIsi K) := by
  subst hK
  exact call_isi
theorem cK_isiT : CallR X (.builtin "isinstance") (rIsiT K) := by
  subst hK
  exact call_isiT
theorem cK_all (hc : X.calm = true) : CallR X (.builtin "all") (rAll K) := by
  subst hK
  exact cr_all hc
theorem cK_any (hc : X.calm = true) : CallR X (.builtin "any") (rAny K) := by
  subst hK
  exact cr_any hc
theorem cK_sum (hc : X.calm = true) : CallR X (.builtin "sum") (rSum K) := by
  subst hK
  exact cr_sum hc
theorem cK_tuple : CallR X (.type "tuple") (rTupOf K) := by
  subst hK
  exact call_tuple_of
theorem cK_list : CallR X (.type "list") (rListOf K) := by
  subst hK
  exact call_list_of
theorem iK_list : IxR X (rIxL K) := by
  subst hK
  exact ix_list
theorem iK_tup : IxR X (rIxT K) := by
  subst hK
  exact ix_tup
theorem sK_list : SlR X (rSlL K) := by
  subst hK
  exact sl_list
theorem sK_tup : SlR X (rSlA K) := by
  subst hK
  exact sl_tupA
theorem oK_in : OpR X (compareOp .In) (rIn K false) := by
  subst hK
  exact op_in_seq
theorem oK_notIn : OpR X (compareOp .NotIn) (rIn K true) := by
  subst hK
  exact op_notIn_seq
theorem oK_catT : OpR X (binaryOp .Add) (rCatA K) := by
  subst hK
  exact op_catA
theorem oK_repT : OpR X (binaryOp .Mult) (rRepT K) := by
  subst hK
  exact op_repT
variable {tg l e o : Expr} {es : List Expr} {tl to te : TE} {t : TA} {r : V → List V → Hp → VK → Prop} {T : String} {name : Str} {id : String} {apos cpos pos : Pos}
theorem pK_list (h : PE X l tl) : PI X tg l (iList K tl) := by
  subst hK
  exact pi_list h
theorem pK_tup (h : PE X l tl) : PI X tg l (iTup K tl) := by
  subst hK
  exact pi_tup h
theorem eK_bm0 (pa : PlainAttrs T) (slot : Slot T name id) (hty : typeOf (.builtin id) = pure (.type "method_descriptor")) (hm : MtR X id r) (ho : PE X o to)
    (hbase : attributeBase o name X.env (eval o X.env) = eval o X.env := by rfl) (hline : (apos.endLine == cpos.line) = true := by rfl) : PE X (.Call (.Attribute o name apos) [] [] cpos) (tBM0 K T r to) := by
  subst hK
  exact pe_bm0 pa slot hty hm ho hbase hline
theorem eK_bm (pa : PlainAttrs T) (slot : Slot T name id) (hty : typeOf (.builtin id) = pure (.type "method_descriptor")) (hm : MtR X id r) (ho : PE X o to) (ha : PA X (e :: es) t)
    (hbase : attributeBase o name X.env (eval o X.env) = eval o X.env := by rfl)
    (hfew : ((backTo cpos (starEach (e :: es) X.env)).all (fun x => !x.1) && (backToKw cpos (keywordEach [] X.env)).all (fun x => x.1.isSome)
      && decide ((e :: es).length + ([] : List Keyword).length + (if ([] : List Keyword).isEmpty then 0 else 1) < 30)) = true := by rfl)
    (hline : (apos.endLine == cpos.line) = true := by rfl) (hs : starEach (e :: es) X.env = (false, eval e X.env) :: starEach es X.env := by rfl) (hplain : (backTo cpos (starEach es X.env)).any (·.1) = false := by rfl) :
    PE X (.Call (.Attribute o name apos) (e :: es) [] cpos) (tBM K T r to t) := by
  subst hK
  exact pe_bm pa slot hty hm ho ha hbase hfew hline hs hplain
def rJoin (K : PySem.W.Frag) : V → List V → Hp → VK → Prop := fun x xs H Q => ∃ a p, ∃ ys : List Str, x = .str a ∧ xs = [.ref p] ∧ (SqL K H p (ys.map V.str) ∨ SqT K H p (ys.map V.str)) ∧ (ys.map (·.length)).sum + ys.length * a.length ≤ 16777216 ∧ Q (.str (Txt.join a ys)) H
theorem eK_join (ho : PE X o to) (he : PE X e te) (hs : starEach [e] X.env = [(false, eval e X.env)] := by rfl) (hbase : attributeBase o "join" X.env (eval o X.env) = eval o X.env := by rfl) (hline : (apos.endLine == pos.line) = true := by rfl) :
    PE X (.Call (.Attribute o "join" apos) [e] [] pos) (tM1 (rJoin K) to te) := by
  subst hK
  exact pe_join ho he hs hbase hline
theorem sK_fld {f : Str} {value : Expr} {pos' : Pos} {ta tv : TE} (ha : PE X o ta) (hv : PE X value tv) (hs : swapsWith value (some (.Attribute o f pos')) pos.line X.env = pure false) : PS X (.Assign [.Attribute o f pos'] value pos) (sFld K ta tv f) := by
  subst hK
  exact ps_fld ha hv hs
theorem eK_fld {f : Str} (hb : attributeBase e f X.env (eval e X.env) = eval e X.env) (h : PE X e te) : PE X (.Attribute e f pos) (tFld K te f) := by
  subst hK
  exact pe_fld h hb
end
end Wk
set_option Elab.async false
set_option linter.all false
set_option maxRecDepth 100000
set_option maxHeartbeats 2000000
/-! Tx: texts of numbers, rows and tables, read back -/
namespace Tx
open PySem L2 Wk PySem.NumText TL
theorem dash : tl ("-" : Str) = [45] := by decide +kernel
theorem blank : tl (" " : Str) = [32] := by decide +kernel
theorem nl : tl ("\n" : Str) = [10] := by decide +kernel
theorem tblS : tl ("\ntable\n" : Str) = [10, 116, 97, 98, 108, 101, 10] := by decide +kernel
/-- a word without its dash -/
def bareL : List Nat → List Nat
  | 45 :: r => r
  | l => l
theorem bareL_ne {l : List Nat} (h : ∀ r, l ≠ 45 :: r) : bareL l = l := by
  unfold bareL
  split
  · exact (h _ rfl).elim
  · rfl
theorem tl_removeprefix (x : Str) : tl (Txt.removeprefix x "-") = bareL (tl x) := by
  have hs : (PySem.Builtin.Str.subAt x "-" 0) = ((tl x).take 1 == [45]) := by
    rw [StrLaws.subAt_eq, show (("-" : Str)).length = 1 by decide +kernel, show (("-" : Str)).cps.toList = [45] from dash, List.drop_zero]
  unfold Txt.removeprefix
  rw [hs]
  cases e : tl x with
  | nil =>
    have : ((List.take 1 ([] : List Nat)) == [45]) = false := by decide
    rw [this]
    exact e
  | cons c r =>
    by_cases h : c = 45
    · subst h
      have : ((List.take 1 (45 :: r)) == [45]) = true := by simp
      rw [this, if_pos rfl]
      have hl : x.length = r.length + 1 := by rw [len_tl, e, List.length_cons]
      unfold Txt.affix
      simp only
      rw [show (("-" : Str)).length = 1 by decide +kernel]
      have : ((x.length - 1 == x.length) = false) := by
        rw [hl]
        exact beq_eq_false_iff_ne.mpr (by omega)
      rw [this]
      show tl (PySem.Builtin.Str.strSub x 1 x.length) = _
      rw [tl_strSub_end, e]
      rfl
    · have : ((List.take 1 (c :: r)) == [45]) = false := by
        simp only [List.take_succ_cons, List.take_zero]
        exact beq_eq_false_iff_ne.mpr (fun z => h (by injection z))
      rw [this, bareL_ne (fun r' z => h (by injection z))]
      exact e
theorem dig_ascii : ∀ c : Nat, c < 128 → Unicode.isDigit c = (decide (48 ≤ c) && decide (c ≤ 57)) := by decide +kernel
theorem digits_iff (x : Str) : (Txt.isascii x && Txt.isdigit x) = true ↔ AllDigits (tl x) ∧ tl x ≠ [] := by
  have h1 : Txt.isascii x = (tl x).all (· < 128) := by
    unfold Txt.isascii
    rw [← Array.all_toList]
  have h2 : Txt.isdigit x = (decide (x.length > 0) && (tl x).all Unicode.isDigit) := by
    unfold Txt.isdigit
    rw [← Array.all_toList]
  rw [h1, h2, len_tl]
  simp only [Bool.and_eq_true, List.all_eq_true, decide_eq_true_eq]
  constructor
  · rintro ⟨a, b, c⟩
    refine ⟨fun z hz => ?_, fun e => ?_⟩
    · have q := c z hz
      rw [dig_ascii z (a z hz)] at q
      simp only [Bool.and_eq_true, decide_eq_true_eq] at q
      exact q
    · rw [e] at b
      exact absurd b (by decide)
  · rintro ⟨a, b⟩
    have a' : ∀ z ∈ tl x, z < 128 := fun z hz => by
      have := (a z hz).2
      omega
    refine ⟨a', List.length_pos_iff.mpr b, fun z hz => ?_⟩
    rw [dig_ascii z (a' z hz)]
    have := a z hz
    rw [decide_eq_true this.1, decide_eq_true this.2]
    rfl
/-- what a word writes -/
def numW (l : List Nat) : Int := match l with
  | 45 :: r => -((digitsVal r : Nat) : Int)
  | l => ((digitsVal l : Nat) : Int)
theorem intText_word {x : Str} (h : AllDigits (bareL (tl x))) (h1 : bareL (tl x) ≠ []) (h2 : x.length ≤ 4300) : intText? x = some (numW (tl x)) := by
  by_cases e : ∃ r, tl x = 45 :: r
  · obtain ⟨r, e⟩ := e
    rw [e] at h h1
    rw [intText_neg (cs := r) e h h1 h2, e]
    rfl
  · have e' : ∀ r, tl x ≠ 45 :: r := fun r z => e ⟨r, z⟩
    rw [bareL_ne e'] at h h1
    rw [intText_digits h h1 h2]
    unfold numW
    split
    · rename_i r z
      exact (e' _ z).elim
    · rfl
/-- the signs of a number -/
def intL (i : Int) : List Nat := match i with
  | .ofNat n => numL n
  | .negSucc n => 45 :: numL (n + 1)
theorem tl_int (i : Int) : tl (Str.ofString (toString i)) = intL i := by
  cases i with
  | ofNat n => exact tl_num n
  | negSucc n =>
    have e : toString (Int.negSucc n) = "-" ++ Nat.repr (n + 1) := rfl
    rw [e, tl_ofString, String.toList_append, List.map_append]
    have e2 := tl_num (n + 1)
    rw [tl_ofString] at e2
    have e3 : toString (((n + 1 : Nat) : Nat) : Int) = Nat.repr (n + 1) := rfl
    rw [e3] at e2
    rw [e2]
    rfl
theorem numL_not_dash {n : Nat} (r : List Nat) : numL n ≠ 45 :: r := fun e => by
  have h := numL_free (n := n) (s := 45) (by omega)
  rw [e] at h
  exact h (List.mem_cons_self ..)
theorem bare_int (i : Int) : bareL (intL i) = numL i.natAbs := by
  cases i with
  | ofNat n => exact bareL_ne fun r => numL_not_dash r
  | negSucc n => rfl
theorem numW_int (i : Int) : numW (intL i) = i := by
  cases i with
  | ofNat n =>
    show numW (numL n) = _
    unfold numW
    split
    · rename_i r z
      exact (numL_not_dash _ z).elim
    · rw [numL_val]
      rfl
  | negSucc n =>
    show -((digitsVal (numL (n + 1)) : Nat) : Int) = _
    rw [numL_val]
    rfl
/-- signs that a number's text has -/
theorem intL_signs {i : Int} : ∀ c ∈ intL i, c = 45 ∨ (48 ≤ c ∧ c ≤ 57) := by
  cases i with
  | ofNat n => exact fun c hc => .inr (numL_digits n c hc)
  | negSucc n =>
    intro c hc
    rcases List.mem_cons.mp hc with rfl | hc
    · exact .inl rfl
    · exact .inr (numL_digits (n + 1) c hc)
theorem intL_ne (i : Int) : intL i ≠ [] := by
  cases i with
  | ofNat n => exact numL_ne n
  | negSucc n => exact fun z => nomatch z
end Tx
set_option Elab.async false
set_option linter.all false
set_option maxRecDepth 100000
set_option maxHeartbeats 2000000
/-! Lt: lots as data, their texts -/
namespace Lt
open PySem PySem.Spec L2 Wk
def isInt : PyData → Bool
  | .int _ => true
  | _ => false
def isTup : PyData → Bool
  | .tuple _ => true
  | _ => false
theorem isInt_eq (d : PyData) : (isD "int" d && !isD "bool" d) = isInt d := by
  rw [isD_int, isD_bool]
  cases d <;> rfl
theorem isTup_eq (d : PyData) : isD "tuple" d = isTup d := by
  rw [isD_tuple]
  cases d <;> rfl
def isNum : PyData → Bool
  | .int i => decide (-1000000 ≤ i) && decide (i ≤ 1000000)
  | _ => false
def isRow : PyData → Int → Bool
  | .tuple ds, n => decide ((ds.length : Int) = n) && ds.all isNum
  | _, _ => false
theorem all_map {f : PyData → Bool} : ∀ ds : List PyData, (ds.map f).all id = ds.all f
  | [] => rfl
  | d :: r => by rw [List.map_cons, List.all_cons, List.all_cons, all_map r]; rfl
/-! lots' texts -/
def encR (r : List Int) : PyData := .tuple (r.map .int)
def encT (t : List (List Int)) : PyData := .tuple (t.map encR)
def encTs (ts : List (List (List Int))) : PyData := .tuple (ts.map encT)
structure GoodR (n : Nat) (r : List Int) : Prop where
  len : r.length = n
  le : ∀ i ∈ r, i.natAbs ≤ 1000000
structure GoodT (n : Nat) (t : List (List Int)) : Prop where
  len : t.length = n
  row : ∀ r ∈ t, GoodR n r
structure Good (n : Nat) (ts : List (List (List Int))) : Prop where
  n1 : 1 ≤ n
  n4 : n ≤ 4
  l1 : 1 ≤ ts.length
  l3 : ts.length ≤ 3
  tab : ∀ t ∈ ts, GoodT n t
def intS (i : Int) : Str := Str.ofString (toString i)
def rowS (r : List Int) : Str := Txt.join " " (r.map intS)
def linesT (t : List (List Int)) : List Str := "table" :: t.map rowS
def linesOf (n : Nat) (ts : List (List (List Int))) : List Str := (("lot " : Str) ++ intS n) :: ts.flatMap linesT
def textOf (n : Nat) (ts : List (List (List Int))) : Str := Txt.join "\n" (linesOf n ts)
theorem len_intS {i : Int} (h : i.natAbs ≤ 1000000) : (intS i).length ≤ 8 := len_int (k := 7) (by decide) (by omega)
theorem sum_le {α : Type} {f : α → Nat} {b : Nat} : ∀ {l : List α}, (∀ x ∈ l, f x ≤ b) → (l.map f).sum ≤ l.length * b
  | [], _ => Nat.zero_le _
  | x :: r, h => by
    rw [List.map_cons, List.sum_cons, List.length_cons, Nat.succ_mul]
    have h1 := h x (List.mem_cons_self ..)
    have h2 := sum_le (l := r) fun y hy => h y (List.mem_cons_of_mem _ hy)
    omega
theorem len_join (sep : Str) (l : List Str) : (Txt.join sep l).length ≤ (l.map (·.length)).sum + l.length * sep.length := by
  show (PySem.Builtin.Str.glued sep l).length ≤ _
  rw [PySem.StrLaws.glued_eq_join]
  exact PySem.StrLaws.join_length_le sep l
theorem len_rowS {n : Nat} {r : List Int} (g : GoodR n r) (hn : n ≤ 4) : (rowS r).length ≤ 36 := by
  have h1 := len_join " " (r.map intS)
  have h2 : ((r.map intS).map (·.length)).sum ≤ (r.map intS).length * 8 := sum_le fun x hx => by
    obtain ⟨i, hi, rfl⟩ := List.mem_map.mp hx
    exact len_intS (g.le i hi)
  rw [List.length_map, g.len] at h1 h2
  have h3 : ((" " : Str)).length = 1 := by decide +kernel
  rw [h3] at h1
  unfold rowS
  omega
theorem len_linesT {n : Nat} {t : List (List Int)} (g : GoodT n t) : (linesT t).length = n + 1 := by
  unfold linesT
  rw [List.length_cons, List.length_map, g.len]
theorem len_flat {n : Nat} : ∀ {ts : List (List (List Int))}, (∀ t ∈ ts, GoodT n t) → (ts.flatMap linesT).length = ts.length * (n + 1)
  | [], _ => by simp
  | t :: r, h => by
    rw [List.flatMap_cons, List.length_append, len_linesT (h t (List.mem_cons_self ..)), len_flat fun x hx => h x (List.mem_cons_of_mem _ hx), List.length_cons, Nat.succ_mul]
    omega
theorem len_line {n : Nat} {ts : List (List (List Int))} (g : Good n ts) : ∀ x ∈ linesOf n ts, x.length ≤ 36 := fun x hx => by
  unfold linesOf at hx
  rcases List.mem_cons.mp hx with rfl | hx
  · have h1 : (("lot " : Str)).length = 4 := by decide +kernel
    have h2 : (intS (n : Int)).length ≤ 8 := len_intS (by have := g.n4; omega)
    rw [str_len, h1]; omega
  · obtain ⟨t, ht, hx⟩ := List.mem_flatMap.mp hx
    unfold linesT at hx
    rcases List.mem_cons.mp hx with rfl | hx
    · rw [show (("table" : Str)).length = 5 by decide +kernel]; omega
    · obtain ⟨r, hr, rfl⟩ := List.mem_map.mp hx
      exact len_rowS ((g.tab t ht).row r hr) g.n4
theorem len_lines {n : Nat} {ts : List (List (List Int))} (g : Good n ts) : (linesOf n ts).length ≤ 16 := by
  unfold linesOf
  rw [List.length_cons, len_flat g.tab]
  have h1 : ts.length * (n + 1) ≤ 3 * 5 := Nat.mul_le_mul g.l3 (by have := g.n4; omega)
  omega
theorem sum_lines {n : Nat} {ts : List (List (List Int))} (g : Good n ts) : ((linesOf n ts).map (·.length)).sum ≤ 576 := by
  have h1 := sum_le (f := fun x : Str => x.length) (b := 36) (len_line g)
  have h2 : (linesOf n ts).length * 36 ≤ 16 * 36 := Nat.mul_le_mul_right _ (len_lines g)
  omega
theorem len_text {n : Nat} {ts : List (List (List Int))} (g : Good n ts) : (textOf n ts).length ≤ 600 := by
  have h1 := len_join "\n" (linesOf n ts)
  have h2 := sum_lines g
  have h3 := len_lines g
  rw [show (("\n" : Str)).length = 1 by decide +kernel] at h1
  unfold textOf
  omega
/-! reading -/
def numIn (x : Str) : PyData := if (Txt.isascii (Txt.removeprefix x "-") && (Txt.isdigit (Txt.removeprefix x "-") && decide (((Txt.removeprefix x "-").length : Int) ≤ 7))) = true then .int (Tx.numW (TL.tl x)) else .none
def tableIn (x : Str) : PyData := .tuple ((Txt.split x "\n").map fun l => .tuple ((Txt.split l " ").map numIn))
def tablesIn (x : Str) : PyData := .tuple (((Txt.split x "\ntable\n").drop 1).map tableIn)
theorem mem_sum_le {n : Nat} : ∀ {l : List Nat}, n ∈ l → n ≤ l.sum
  | [], h => nomatch h
  | m :: r, h => by
    rw [List.sum_cons]
    rcases List.mem_cons.mp h with rfl | h
    · omega
    · have := mem_sum_le h
      omega
theorem len_part {x y p : Str} (hy : 1 ≤ y.length) (h : p ∈ Txt.split x y) : p.length ≤ x.length := by
  have z := PyProof.Rows.split_weight x y hy
  have m : p.length ≤ ((Txt.split x y).map (·.length)).sum := mem_sum_le (List.mem_map.mpr ⟨p, h, rfl⟩)
  have l : 1 ≤ (Txt.split x y).length := PyProof.Rows.split_pos x y
  omega
theorem len_parts {x y : Str} : (Txt.split x y).length ≤ x.length + 2 := PyProof.Rows.split_le x y
end Lt
set_option Elab.async false
set_option linter.all false
set_option maxRecDepth 100000
set_option maxHeartbeats 2000000
/-! Lt2: a lot's text, read back -/
namespace Lt
open PySem PySem.Spec L2 Wk TL
theorem joinL_mem {c : Nat} {S : List Nat} : ∀ {ps : List (List Nat)}, c ∈ joinL S ps → c ∈ S ∨ ∃ p ∈ ps, c ∈ p
  | [], h => nomatch h
  | [p], h => .inr ⟨p, List.mem_cons_self .., h⟩
  | p :: q :: r, h => by
    rcases List.mem_append.mp h with h | h
    · exact .inr ⟨p, List.mem_cons_self .., h⟩
    · rcases List.mem_append.mp h with h | h
      · exact .inl h
      · rcases joinL_mem h with h | ⟨z, hz, h⟩
        · exact .inl h
        · exact .inr ⟨z, List.mem_cons_of_mem _ hz, h⟩
theorem joinL_ne {S : List Nat} : ∀ {ps : List (List Nat)}, ps ≠ [] → (∀ p ∈ ps, p ≠ []) → joinL S ps ≠ []
  | [], h, _ => absurd rfl h
  | [p], _, h => h p (List.mem_cons_self ..)
  | p :: q :: r, _, h => fun e => h p (List.mem_cons_self ..) (List.append_eq_nil_iff.mp e).1
theorem joinL_last {S : List Nat} {P : Nat → Prop} : ∀ {ps : List (List Nat)}, (∀ p ∈ ps, p ≠ []) → (∀ p ∈ ps, ∀ c, p.getLast? = some c → P c) → ∀ c, (joinL S ps).getLast? = some c → P c
  | [], _, _, c, h => by cases h
  | [p], _, hp, c, h => hp p (List.mem_cons_self ..) c h
  | p :: q :: r, hn, hp, c, h => by
    have ih := joinL_last (S := S) (P := P) (ps := q :: r) (fun z hz => hn z (List.mem_cons_of_mem _ hz)) (fun z hz => hp z (List.mem_cons_of_mem _ hz)) c
    refine ih ?_
    have e : joinL S (p :: q :: r) = (p ++ S) ++ joinL S (q :: r) := (List.append_assoc ..).symm
    rw [e, List.getLast?_append] at h
    cases z : (joinL S (q :: r)).getLast? with
    | none => exact (joinL_ne (S := S) (ps := q :: r) (fun z => nomatch z) (fun z hz => hn z (List.mem_cons_of_mem _ hz)) (List.getLast?_eq_none_iff.mp z)).elim
    | some d =>
      rw [z] at h
      exact h
theorem tl_rowS (r : List Int) : tl (rowS r) = joinL [32] (r.map Tx.intL) := by
  unfold rowS
  rw [join_eq, tl_join, Tx.blank, List.map_map]
  congr 1
  exact List.map_congr_left fun i _ => Tx.tl_int i
theorem rowL_signs {r : List Int} : ∀ c ∈ joinL [32] (r.map Tx.intL), c = 32 ∨ c = 45 ∨ (48 ≤ c ∧ c ≤ 57) := fun c hc => by
  rcases joinL_mem hc with h | ⟨p, hp, h⟩
  · exact .inl (List.mem_singleton.mp h)
  · obtain ⟨i, _, rfl⟩ := List.mem_map.mp hp
    exact .inr (Tx.intL_signs c h)
theorem rowL_ne {r : List Int} (h : r ≠ []) : joinL [32] (r.map Tx.intL) ≠ [] := joinL_ne (fun e => h (List.map_eq_nil_iff.mp e)) fun p hp => by
  obtain ⟨i, _, rfl⟩ := List.mem_map.mp hp
  exact Tx.intL_ne i
/-- the rows' text of a table -/
def blockS (t : List (List Int)) : Str := Txt.join "\n" (t.map rowS)
theorem tl_blockS (t : List (List Int)) : tl (blockS t) = joinL [10] (t.map fun r => joinL [32] (r.map Tx.intL)) := by
  unfold blockS
  rw [join_eq, tl_join, Tx.nl, List.map_map]
  congr 1
  exact List.map_congr_left fun r _ => tl_rowS r
theorem blockL_last {t : List (List Int)} (ht : ∀ r ∈ t, r ≠ []) : ∀ c, (joinL [10] (t.map fun r => joinL [32] (r.map Tx.intL))).getLast? = some c → c ≠ 10 := joinL_last (fun p hp => by
    obtain ⟨r, hr, rfl⟩ := List.mem_map.mp hp
    exact rowL_ne (ht r hr)) fun p hp c hc => by
  obtain ⟨r, hr, rfl⟩ := List.mem_map.mp hp
  have h := rowL_signs c (List.mem_of_getLast? hc)
  omega
theorem blockL_free {t : List (List Int)} : 116 ∉ joinL [10] (t.map fun r => joinL [32] (r.map Tx.intL)) := fun h => by
  rcases joinL_mem h with h | ⟨p, hp, h⟩
  · exact absurd (List.mem_singleton.mp h) (by decide)
  · obtain ⟨r, hr, rfl⟩ := List.mem_map.mp hp
    have h := rowL_signs 116 h
    omega
/-- the mark does not begin within a text that has no t and does not end with a line's end -/
theorem no_mark {p q : List Nat} (h1 : 116 ∉ p) (h2 : ∀ c, p.getLast? = some c → c ≠ 10) : ∀ i, i < p.length → pre [10, 116, 97, 98, 108, 101, 10] ((p ++ q).drop i) = false := fun i hi => by
  have hlt : i < (p ++ q).length := by rw [List.length_append]; omega
  have e : (p ++ q).drop i = (p ++ q)[i] :: (p ++ q).drop (i + 1) := List.drop_eq_getElem_cons hlt
  have e1 : (p ++ q)[i] = p[i] := List.getElem_append_left hi
  by_cases hc : p[i] = 10
  · have hi2 : i + 1 < p.length := by
      rcases Nat.lt_or_ge (i + 1) p.length with z | z
      · exact z
      · have ei : i = p.length - 1 := by omega
        refine (h2 p[i] ?_ hc).elim
        rw [List.getLast?_eq_getElem?, List.getElem?_eq_getElem (by omega)]
        congr 2
        omega
    have hlt2 : i + 1 < (p ++ q).length := by rw [List.length_append]; omega
    have e2 : (p ++ q).drop (i + 1) = (p ++ q)[i + 1] :: (p ++ q).drop (i + 2) := List.drop_eq_getElem_cons hlt2
    have e3 : (p ++ q)[i + 1] = p[i + 1] := List.getElem_append_left hi2
    rw [e, e2, e1, e3]
    unfold pre
    refine beq_eq_false_iff_ne.mpr fun z => ?_
    simp only [List.length_cons, List.length_nil, List.take_succ_cons] at z
    injection z with _ z
    injection z with z _
    exact h1 (z ▸ List.getElem_mem hi2)
  · rw [e]
    refine pre_of_head _ _ fun z => hc ?_
    rw [← e1]
    first | exact z | exact z.symm
def flatL : List (List (List Int)) → List Nat
  | [] => []
  | t :: r => [10, 116, 97, 98, 108, 101, 10] ++ (joinL [10] (t.map fun r => joinL [32] (r.map Tx.intL)) ++ flatL r)
theorem spl_flat : ∀ (ts : List (List (List Int))) (p : List Nat), (∀ t ∈ ts, ∀ r ∈ t, r ≠ []) → 116 ∉ p ∨ 10 ∉ p → (∀ c, p.getLast? = some c → c ≠ 10) →
    spl [10, 116, 97, 98, 108, 101, 10] 0 [] (p ++ flatL ts) = p :: ts.map fun t => joinL [10] (t.map fun r => joinL [32] (r.map Tx.intL))
  | [], p, _, h1, h2 => by
    show spl _ 0 [] (p ++ []) = [p]
    rw [List.append_nil]
    have hz : ∀ i, i < p.length → pre [10, 116, 97, 98, 108, 101, 10] (p.drop i) = false := fun i hi => by
      rcases h1 with h1 | h1
      · have z := no_mark (q := []) h1 h2 i hi
        rw [List.append_nil] at z
        exact z
      · have z := free_of (S := [116, 97, 98, 108, 101, 10]) (q := []) h1 i hi
        rw [List.append_nil] at z
        exact z
    rw [spl_last hz, List.nil_append]
  | t :: r, p, hr, h1, h2 => by
    show spl _ 0 [] (p ++ ([10, 116, 97, 98, 108, 101, 10] ++ (joinL [10] (t.map fun r => joinL [32] (r.map Tx.intL)) ++ flatL r))) = _
    rw [spl_part (by decide) (fun i hi => by
      rcases h1 with h1 | h1
      · exact no_mark h1 h2 i hi
      · exact free_of (S := [116, 97, 98, 108, 101, 10]) h1 i hi), List.nil_append]
    rw [spl_flat r _ (fun x hx => hr x (List.mem_cons_of_mem _ hx)) (.inl blockL_free) (blockL_last (hr t (List.mem_cons_self ..)))]
    rfl
theorem joinL_flat {S x : List Nat} : ∀ {l : List (List Nat)}, joinL S (x :: l) = x ++ (l.map fun p => S ++ p).flatten
  | [] => by
    show x = x ++ []
    rw [List.append_nil]
  | p :: r => by
    show x ++ (S ++ joinL S (p :: r)) = x ++ ((S ++ p) ++ (r.map fun p => S ++ p).flatten)
    rw [joinL_flat (l := r)]
    simp only [List.append_assoc]
theorem flat_eq : ∀ ts : List (List (List Int)), (∀ t ∈ ts, t ≠ []) → ((ts.flatMap linesT).map fun p => [10] ++ tl p).flatten = flatL ts
  | [], _ => rfl
  | t :: r, h => by
    rw [List.flatMap_cons, List.map_append, List.flatten_append, flat_eq r fun x hx => h x (List.mem_cons_of_mem _ hx)]
    obtain ⟨r0, rr, rfl⟩ : ∃ a b, t = a :: b := by
      cases t with
      | nil => exact absurd rfl (h _ (List.mem_cons_self ..))
      | cons a b => exact ⟨a, b, rfl⟩
    show _ = [10, 116, 97, 98, 108, 101, 10] ++ (joinL [10] ((r0 :: rr).map fun r => joinL [32] (r.map Tx.intL)) ++ flatL r)
    rw [← List.append_assoc]
    congr 1
    unfold linesT
    rw [List.map_cons, List.map_cons, List.map_cons, List.flatten_cons, List.flatten_cons, tl_rowS, List.map_cons, joinL_flat, show tl ("table" : Str) = [116, 97, 98, 108, 101] by decide +kernel, List.map_map, List.map_map]
    have e : List.map ((fun p => [10] ++ tl p) ∘ rowS) rr = List.map ((fun p => [10] ++ p) ∘ fun r => joinL [32] (r.map Tx.intL)) rr := List.map_congr_left fun x _ => by
      show [10] ++ tl (rowS x) = [10] ++ _
      rw [tl_rowS]
    rw [e]
    simp
theorem tl_textOf {n : Nat} {ts : List (List (List Int))} (h : ∀ t ∈ ts, t ≠ []) : tl (textOf n ts) = tl (("lot " : Str) ++ intS n) ++ flatL ts := by
  unfold textOf linesOf
  rw [join_eq, tl_join, Tx.nl, List.map_cons, joinL_flat, List.map_map]
  congr 1
  exact flat_eq ts h
theorem Good.rows {n : Nat} {ts : List (List (List Int))} (g : Good n ts) : ∀ t ∈ ts, ∀ r ∈ t, r ≠ [] := fun t ht r hr e => by
  have h := ((g.tab t ht).row r hr).len
  rw [e] at h
  have := g.n1
  simp at h
  omega
theorem Good.tabs {n : Nat} {ts : List (List (List Int))} (g : Good n ts) : ∀ t ∈ ts, t ≠ [] := fun t ht e => by
  have h := (g.tab t ht).len
  rw [e] at h
  have := g.n1
  simp at h
  omega
theorem kind_nl (x y : Str) (hy : y.cps.all (· < 256) = true) : ¬ Builtin.Str.strKind x < Builtin.Str.strKind y := kind_ok hy
theorem split_tables {n : Nat} {ts : List (List (List Int))} (g : Good n ts) : Txt.split (textOf n ts) "\ntable\n" = (("lot " : Str) ++ intS n) :: ts.map blockS := by
  refine map_tl_inj ?_
  rw [split_spl _ _ (by rw [Tx.tblS]; decide) (kind_nl _ _ (by decide +kernel)), Tx.tblS, tl_textOf g.tabs]
  have hh : ∀ c ∈ tl (("lot " : Str) ++ intS n), c ≠ 10 := fun c hc => by
    rw [tl_append, show tl ("lot " : Str) = [108, 111, 116, 32] by decide +kernel] at hc
    rcases List.mem_append.mp hc with hc | hc
    · simp at hc
      omega
    · have := Tx.intL_signs c (by rw [← Tx.tl_int]; exact hc)
      omega
  rw [spl_flat ts _ g.rows (.inr fun h => hh 10 h rfl) fun c hc => hh c (List.mem_of_getLast? hc), List.map_cons, List.map_map]
  congr 1
  exact List.map_congr_left fun t _ => (tl_blockS t).symm
theorem split_rows {t : List (List Int)} (ht : t ≠ []) : Txt.split (blockS t) "\n" = t.map rowS := by
  unfold blockS
  refine split_join (s := 10) (S := []) Tx.nl (by decide +kernel) (fun e => ht (List.map_eq_nil_iff.mp e)) fun p hp h => ?_
  obtain ⟨r, hr, rfl⟩ := List.mem_map.mp hp
  rw [tl_rowS] at h
  have := rowL_signs 10 h
  omega
theorem split_words {r : List Int} (hr : r ≠ []) : Txt.split (rowS r) " " = r.map intS := by
  unfold rowS
  refine split_join (s := 32) (S := []) Tx.blank (by decide +kernel) (fun e => hr (List.map_eq_nil_iff.mp e)) fun p hp h => ?_
  obtain ⟨i, hi, rfl⟩ := List.mem_map.mp hp
  have := Tx.intL_signs 32 (by rw [← Tx.tl_int]; exact h)
  omega
theorem numIn_int {i : Int} (h : i.natAbs ≤ 1000000) : numIn (intS i) = .int i := by
  have e : tl (Txt.removeprefix (intS i) "-") = numL i.natAbs := by
    rw [Tx.tl_removeprefix]
    unfold intS
    rw [Tx.tl_int, Tx.bare_int]
  have hd := (Tx.digits_iff (Txt.removeprefix (intS i) "-")).mpr (by rw [e]; exact ⟨numL_digits _, numL_ne _⟩)
  simp only [Bool.and_eq_true] at hd
  have hl : (Txt.removeprefix (intS i) "-").length ≤ 7 := by
    rw [len_tl, e]
    exact numL_len (by decide) (by omega)
  unfold numIn
  rw [if_pos (by rw [hd.1, hd.2, decide_eq_true (by omega)]; rfl)]
  congr 1
  unfold intS
  rw [Tx.tl_int, Tx.numW_int]
theorem tablesIn_text {n : Nat} {ts : List (List (List Int))} (g : Good n ts) : tablesIn (textOf n ts) = encTs ts := by
  unfold tablesIn
  rw [split_tables g, List.drop_succ_cons, List.drop_zero, List.map_map]
  unfold encTs
  congr 1
  refine List.map_congr_left fun t ht => ?_
  show tableIn (blockS t) = encT t
  unfold tableIn
  rw [split_rows (g.tabs t ht), List.map_map]
  unfold encT
  congr 1
  refine List.map_congr_left fun r hr => ?_
  show PyData.tuple ((Txt.split (rowS r) " ").map numIn) = encR r
  rw [split_words (g.rows t ht r hr), List.map_map]
  unfold encR
  congr 1
  exact List.map_congr_left fun i hi => numIn_int (((g.tab t ht).row r hr).le i hi)
end Lt
set_option Elab.async false
set_option linter.all false
set_option maxRecDepth 100000
set_option maxHeartbeats 2000000
/-! En: enumerate over a tuple -/
namespace PySem
open Sem (wp)
set_option maxHeartbeats 1000000 in
theorem enum1_meets {v : Value} {ob : Obj} {Hh : Heap → Prop} (Bg : Begins v ob Hh) : Meets (Builtin.«enumerate.__new__» ⟨[.type "enumerate", v], []⟩) (fun _ Rr ss => Hh ss.heap ∧
    Rr (.ok (.ret (.ref (ss.heap.push ob).objs.size))) { ss with heap := (ss.heap.push ob).push { cls := .type "enumerate", data := .fields #[.none, .bool false, .ref ss.heap.objs.size, rawInt 0, .none, .none] } }) := .of_wp fun prog w A Rr ss hz => by
  obtain ⟨hp, gg, dd, tt, oo⟩ := ss
  obtain ⟨z1, z2⟩ := hz
  have hs := sub_enumerate
  have qq : ∀ {A' : Around} {E : Value → Shared → Prop} {Q : Value → Shared → Prop}, Q (.ref hp.objs.size) ⟨hp.push ob, gg, dd, tt, oo⟩ → wpAny (model prog w) A' (pyIter v) Q E ⟨hp, gg, dd, tt, oo⟩ := fun y => Bg.iter prog w _ _ ⟨hp, gg, dd, tt, oo⟩ _ z1 y
  wp_walk using qq
  refine wpAny_stack_any fun st => wpAny_pure ?_
  split
  · rename_i cc _ _ _ _ _
    cases (cc == Value.type "enumerate") <;> (wp_walk using qq; exact ⟨_, rfl, z2⟩)
  · wp_walk using qq
    exact ⟨_, rfl, z2⟩
theorem enum1_call {prog : Program} {w : World} {A : Around} {E : Value → Shared → Prop} {s : Shared} {v : Value} {ob : Obj} {Hh : Heap → Prop} {Q : Value → Shared → Prop} (Bg : Begins v ob Hh) (z1 : Hh s.heap)
    (h : ∀ h', IsEnum h' (s.heap.objs.size + 1) s.heap.objs.size 0 .none → h'.get? s.heap.objs.size = some ob → h'.objs.size = s.heap.objs.size + 2 → (∀ b o, s.heap.get? b = some o → h'.get? b = some o) → Q (.ref (s.heap.objs.size + 1)) { s with heap := h' }) :
    wpAny (model prog w) A (call (.type "enumerate") [v]) Q E s := by
  refine callType_new F.called_enumerate (by decide) (F.typeCall_enumerate_1 _) (F.newCall_enumerate_1 _) (fun obj => F.args_object_init_2 obj _) F.entry_enumerate_new (enum1_meets Bg) ⟨z1, ?_⟩
  have zz : (s.heap.push ob).objs.size = s.heap.objs.size + 1 := Heap.size_push ..
  show _ ∧ _
  rw [zz]
  have he : IsEnum ((s.heap.push ob).push { cls := .type "enumerate", data := .fields #[.none, .bool false, .ref s.heap.objs.size, rawInt 0, .none, .none] }) (s.heap.objs.size + 1) s.heap.objs.size 0 .none := by
    have y := Heap.get?_push_size (s.heap.push ob) (o := { cls := .type "enumerate", data := .fields #[.none, .bool false, .ref s.heap.objs.size, rawInt 0, .none, .none] }) rfl
    rw [zz] at y
    exact y
  exact ⟨⟨_, he, rfl⟩, h _ he (Heap.get?_push_of_some _ (Heap.get?_push_size _ Bg.free)) (by rw [Heap.size_push, zz]) fun b o x => Heap.get?_push_of_some _ (Heap.get?_push_of_some _ x)⟩
end PySem
namespace Wk
open PySem PySem.Spec L2
def IteT (K : PySem.W.Frag) (a : Addr) : It := ⟨fun i H => ∃ (xs : List V) (x : V), SqT K H a xs ∧ xs[i]? = some x, fun i H v H' => ∃ T x, v = .ref T ∧ H T = none ∧ H' = upd H T (.tup [.int (i : Nat), x]) ∧ ∀ xs, SqT K H a xs → xs[i]? = some x, fun i H => ∃ xs : List V, SqT K H a xs ∧ xs.length ≤ i⟩
theorem turn_enumT {P : Program} {w : World} {K : PySem.W.Frag} {elts : List Expr} {kk : Nat} {tpos : Pos} (a e it : Addr) :
    Turn P w K (.Tuple elts kk tpos) (IteT K a) [e, it] e (fun i h => (∃ old, IsEnum h e it ((i : Nat) : Int) old) ∧ h.IsTupleIter it a i ∧ e ≠ it ∧ a ≠ it ∧ a ≠ e) where
  mem := by simp
  obj := fun i h st b hb => by
    obtain ⟨⟨old, he⟩, ⟨o, ho, hc, hd⟩, _⟩ := st
    rcases (show b = e ∨ b = it by simpa using hb) with z | z
    · subst z
      exact ⟨_, he, fun v q => nomatch q⟩
    · subst z
      exact ⟨o, ho, fun v q => by rw [hd] at q; cases q⟩
  keep := fun i h h' st k => by
    obtain ⟨⟨old, he⟩, hi, hne⟩ := st
    exact ⟨⟨old, k e (by simp) _ he⟩, hi.at fun o q => k it (by simp) o q, hne⟩
  item := by
    intro X hP hw hK hc i pins s σ H E I hf st hg
    subst hP hw hK
    obtain ⟨⟨old, he⟩, hit, hne, hai, hae⟩ := st
    obtain ⟨xs, x, hq, hx⟩ := hg
    obtain ⟨its, rv, p, hz⟩ := I.tuple hq
    obtain ⟨u, hu, ru⟩ := rv.get hx
    have hlt : i < its.toArray.size := by
      have := (List.getElem?_eq_some_iff.mp hu).1
      simpa using this
    have hel : e < s.heap.objs.size := Heap.lt_size he
    have hil : it < s.heap.objs.size := by
      obtain ⟨_, q, _⟩ := hit
      exact Heap.lt_size q
    refine wpAny_pyNext_enum_itemD (Draws.tuple (prog := X.prog) (w := X.w) (A := X.A.in1) (I.ok.hd hc) it a hai its.toArray) he ⟨hit, p⟩ hlt hne (by simp; exact ⟨hne, Ne.symm hae⟩) fun y h' tk hy ho hst hT hsz hk => ?_
    have hyu : y = u := by
      rw [show its.toArray[i]? = its[i]? by simp, hu] at hy
      exact (Option.some.inj hy).symm
    subst hyu
    refine ⟨_, rfl, wpAny_letOwnedTupleGo_enum (s := { s with heap := h', toks := tk + 1 }) ho fun h'' he' sb => ?_⟩
    have hT2 : h''.get? s.heap.objs.size = some { cls := .type "tuple", data := .seq #[.int i tk, y] } := (sb.2 _ (Nat.ne_of_gt hel)).trans hT
    have new : ObjOk X.prog X.w (upd H s.heap.objs.size (.tup [.int (i : Nat), x])) h'' s.heap.objs.size (.tup [.int (i : Nat), x]) := ⟨by show 2 ≤ sizeLine; decide, [.int i tk, y], .cons ⟨_, rfl⟩ (.cons ru .nil), ⟨_, hT2, rfl, _, rfl⟩⟩
    have I1 : Inv X pins σ (upd H s.heap.objs.size (.tup [.int (i : Nat), x])) { s with heap := h'', toks := tk + 1 } :=
      I.turnedNew (ch := [e, it]) (fun b ob hb q => (sb.2 b (fun z => hb (by simp [z]))).trans (hk b ob (fun z => hb (by simp [z])) (fun z => hb (by simp [z])) q)) hf (Nat.le_refl _) new
    refine ⟨.ref s.heap.objs.size, _, I1, rfl, ⟨_, x, rfl, I.hok.fresh (Nat.le_refl _), rfl, fun ys hy => ?_⟩, ⟨⟨y, ?_⟩, hst.1.at fun o q => (sb.2 it (Ne.symm hne)).trans q, hne, hai, hae⟩, fun b hb => ?_⟩
    · rw [I.tuple_inj hy hq]
      exact hx
    · rw [show ((i + 1 : Nat) : Int) = (i : Int) + 1 by omega]
      exact he'
    · have hb' : b < s.heap.objs.size := by
        rcases (show b = e ∨ b = it by simpa using hb) with z | z <;> (rw [z]; assumption)
      rw [upd_ne (Nat.ne_of_lt hb')]
      exact (hf b hb).1
  done := by
    intro X hP hw hK hc i pins s σ H E I hf st hg
    subst hP hw hK
    obtain ⟨⟨old, he⟩, hit, hne, hai, hae⟩ := st
    obtain ⟨xs, hq, hx⟩ := hg
    obtain ⟨its, rv, p, hz⟩ := I.tuple hq
    obtain ⟨f0, f1, f2, f3, f4, f5⟩ := hf it (by simp)
    have hl := rv.length
    have D : Draws X.prog X.w X.A.in1 it [it, a] i (fun _ _ => False) (fun j h => j = i ∧ h.IsTupleIter it a i ∧ h.IsTuple a its.toArray) := {
      live := fun _ _ st => let ⟨o, ho, _⟩ := st.2.1; ⟨o, ho⟩
      frame := fun _ _ _ st hk => ⟨st.1, st.2.1.at fun o e => hk it (by simp) o e, st.2.2.at fun o e => hk a (by simp) o e⟩
      item := fun j s Q E hj st hQ => absurd st.1 (Nat.ne_of_lt hj)
      done := fun s Q E st hE => wpAny_nextOf_tuple_end (show X.A.in1.handled = none from I.ok.hd hc) st.2.1 st.2.2 (by simp; omega) hE }
    exact wpAny_pyNext_enum_endD D he ⟨rfl, hit, p⟩ fun h' eb => ⟨rfl, I.turned (t' := s.toks) (fun b o hb q => eb b o hb q) f0 f1 f3 f4 f5⟩
  self := fun A i s Q E st h => by
    obtain ⟨⟨_, he⟩, _⟩ := st
    exact wpAny_pyIter_enum he h
def iEnumT (K : PySem.W.Frag) (ta : TA) : TI := fun σ H R => ta σ H fun vs H1 => ∃ a xs, vs = [.ref a] ∧ SqT K H1 a xs ∧ R (IteT K a) H1
theorem pi_enumT {X : Cx} (K : PySem.W.Frag) (hK : X.K = K) {e : Expr} {ta : TA} {p pos tpos : Pos} {elts : List Expr} {kk : Nat} (hg : Gl X "enumerate") (hm : X.mg "enumerate" = none) (ha : PA X [e] ta) (hs : starEach [e] X.env = [(false, eval e X.env)] := by rfl) :
    PI X (.Tuple elts kk tpos) (.Call (.Name "enumerate" p) [e] [] pos) (iEnumT K ta) := by
  subst hK
  refine ⟨fun pins s σ H R I h => PyProof.Rows.Call_ (ld_blt I hg hm PyProof.Rows.boot_enumerate (PyProof.Rows.callWith_type1 (thn (ha.run pos pins s σ H _ I h) fun us s1 ⟨vs, H1, I1, r1, q1⟩ => ?_) hs rfl))⟩
  obtain ⟨a, xs, ex, hq, q⟩ := q1
  subst ex
  cases r1 with
  | cons r rr =>
    cases rr
    cases r
    obtain ⟨its, rv, p', hz⟩ := I1.tuple hq
    have hla : a < s1.heap.objs.size := by
      obtain ⟨o, ho, _⟩ := p'
      exact Heap.lt_size ho
    refine enum1_call (begins_tuple a its.toArray) p' fun h' he hit hsz hk => wpAny_pyIter_enum he ?_
    have I2 : Inv X pins σ H1 { s1 with heap := h' } := I1.kept (t' := s1.toks) hk
    refine ⟨s1.heap.objs.size + 1, [s1.heap.objs.size + 1, s1.heap.objs.size], _, _, H1, rfl, I2, turn_enumT a (s1.heap.objs.size + 1) s1.heap.objs.size, ⟨⟨.none, he⟩, ⟨_, hit, rfl, rfl⟩, Nat.succ_ne_self _, Nat.ne_of_lt hla, Nat.ne_of_lt (Nat.lt_succ_of_lt hla)⟩, fun b hb => ?_, q⟩
    have hle : s1.heap.objs.size ≤ b := by
      rcases (show b = s1.heap.objs.size + 1 ∨ b = s1.heap.objs.size by simpa using hb) with z | z <;> (rw [z]; omega)
    exact I1.fpOk hle (I1.hok.fresh hle)
section
variable {K : PySem.W.Frag} {w : Wd} {σ : St} {F H : Hp} {ta : TE} {D : Ends} {tu : TS}
/-- for i, x in enumerate(t) -/
theorem s_forE {g : TG} {ds : List PyData} (k : w.ok F H) (ev : ED K w ta σ F (.tuple ds)) (q : ∀ F1 H1, Gr w.M F H F1 H1 → w.ok F1 H1 → ∃ I : Nat → St → Hp → Hp → Prop, I 0 σ F1 H1 ∧ (∀ i σ' F' H', I i σ' F' H' → Same F1 F' ∧ Same F' H') ∧
      (∀ i v d T σ' F' H', ds[i]? = some d → Rp K F' v d → H' T = none → I i σ' F' H' → g (.ref T) σ' (upd H' T (.tup [.int (i : Nat), v])) fun σ2 H2 => tu { D with nx := fun σ H => ∃ F, I (i + 1) σ F H, ct := fun σ H => ∃ F, I (i + 1) σ F H, bk := D.nx } σ2 H2) ∧ ∀ σ' F' H', I ds.length σ' F' H' → D.nx σ' H') :
    tFor (iEnumT K (tCons ta tNil)) g tu D σ H := ev F H (Same.refl F) k _ fun v F1 H1 g1 k1 r => by
  obtain ⟨a, xs, rfl, hx, ra⟩ := rp_tup r
  obtain ⟨I, i0, iF, is, id⟩ := q F1 H1 g1 k1
  refine ⟨a, xs, rfl, sqtM k1.e hx, fun i m σ H => (∃ F, I i σ F H) ∧ m = xs.length - i ∧ i ≤ xs.length, ⟨xs.length, ⟨F1, i0⟩, rfl, Nat.zero_le _⟩, ?_⟩
  rintro i m σ' H' ⟨⟨F', p⟩, rfl, hi⟩
  obtain ⟨e1, e2⟩ := iF i σ' F' H' p
  have hq : SqT K H' a xs := sqtM (e1.trans e2) hx
  by_cases hlt : i < xs.length
  · refine .inr ⟨⟨xs, xs[i], hq, List.getElem?_eq_getElem hlt⟩, fun σ H => ∃ F, I (i + 1) σ F H, fun σ2 H2 z => ⟨xs.length - (i + 1), by omega, z, rfl, hlt⟩, fun x H2 hy => ?_⟩
    obtain ⟨T, y, rfl, hT, rfl, hy⟩ := hy
    obtain ⟨d, hd1, hd2⟩ := ra.getV (hy xs hq)
    exact is i y d T σ' F' H' hd1 (hd2.mono e1) hT p
  · have e : i = xs.length := by omega
    subst e
    exact .inl ⟨⟨xs, hq, Nat.le_refl _⟩, id σ' F' H' (by rw [← ra.len]; exact p)⟩
end
end Wk
namespace Wk
open PySem PySem.Spec L2
section
variable {K : PySem.W.Frag} {w : Wd} {σ : St} {F H : Hp} {ta : TE}
/-- the truth of a tuple -/
theorem eb_truT {ds : List PyData} (ha : ED K w ta σ F (.tuple ds)) : EB w (fun σ H Q => ta σ H fun x H' => ∃ k, TruV K x H' k ∧ Q k H') σ F (!ds.isEmpty) := fun F1 H1 e k Q q =>
  ha F1 H1 e k _ fun v F2 H2 g2 k2 p => by
    obtain ⟨a, xs, rfl, h, ra⟩ := rp_tup p
    have e : ds.isEmpty = xs.isEmpty := by
      have l := ra.len
      cases xs <;> cases ds <;> first | rfl | simp at l
    exact ⟨!ds.isEmpty, .inr (.inl ⟨xs, sqtM k2.e h, by rw [e]⟩), q _ F2 H2 g2 k2 rfl⟩
end
end Wk
set_option Elab.async false
set_option linter.all false
set_option maxRecDepth 100000
set_option maxHeartbeats 2000000
/-! Lo: instances, lots -/
namespace Wk
open PySem PySem.Spec L2
section
variable {M : Addr → Prop} {w : Wd} {F H F1 H1 F2 H2 : Hp} {x : Addr} {o : HO}
/-- only a new object has changed -/
theorem Gr.thenNew (g : Gr M F H F1 H1) (g3 : Gr (fun a => a = x) F1 H1 F2 H2) (h : H x = none) : Gr M F H F2 H2 where
  f := g.f.trans g3.f
  s := g3.s
  h := fun a u n q => g3.h a u (fun z => by rw [z, h] at q; cases q) (g.h a u n q)
  n := fun a q => (g3.n a (g.d a q)).trans (g.n a q)
  d := fun a q => g3.d a (g.d a q)
theorem Gr.mutM (g : Gr M F H F1 H1) (h1 : F1 x = none) (m : M x) : Gr M F H F1 (upd H1 x o) where
  f := g.f
  s := fun a u q => by
    rw [upd_ne (ne_of_none q h1)]
    exact g.s a u q
  h := fun a u n q => by
    rw [upd_ne (fun z => n (by rw [z]; exact m))]
    exact g.h a u n q
  n := g.n
  d := fun a q => upd_none (g.d a q)
theorem Wd.ok.other (k : w.ok F H) (g3 : Gr (fun a => a = x) F H F1 H1) (hb : ¬ w.M x) (hl : ∀ q ∈ w.ls, q.1 ≠ x) : w.ok F1 H1 := by
  refine ⟨g3.s, fun b e => ?_, fun p hp => ?_, fun p hp => (k.2.2.2 p hp).gr g3 fun z => hb (by rw [← show p.1 = x from z]; exact Wd.mt hp)⟩
  · obtain ⟨h1, y1, y2, y3, h2, h3⟩ := k.2.1 b e
    exact ⟨(g3.n b (by rw [h2]; exact fun z => nomatch z)).trans h1, y1, y2, y3, g3.h b _ (fun z => hb (Wd.mb (by rw [e, z]))) h2, h3⟩
  · obtain ⟨h0, h1, h2⟩ := k.2.2.1 p hp
    exact ⟨h0, (g3.n p.1 (by rw [h2]; exact fun z => nomatch z)).trans h1, g3.h p.1 _ (hl p hp) h2⟩
end
section
variable {K : PySem.W.Frag} {w : Wd} {σ : St} {F H : Hp} {ta tb tv : TE} {P : V → Hp → Prop} {D : Ends} {rest : TS} {C a dx : Addr} {fs : List (Str × V)} {f : Str} {j : Nat}
/-- self.f = e -/
theorem s_fld (k : (w.add a (.ins C dx fs)).ok F H) (ev : EV (w.add a (.ins C dx fs)) tv σ F P) (hv : σ[j]? = some (some (.ref a))) (c : Cls K C) (n : NoAttr K C f) (hl : fs.length < 1000) (nd : ∀ q ∈ w.ls, q.1 ≠ a)
    (q : ∀ v F' H2, Gr w.M F H F' H2 → F' a = none → (w.add a (.ins C dx (putF f v fs))).ok F' (upd H2 a (.ins C dx (putF f v fs))) → P v F' → D.nx σ (upd H2 a (.ins C dx (putF f v fs)))) : sFld K (tVar j) tv f D σ H :=
  ev F H (Same.refl F) k _ fun v F' H' g k' p => ⟨.ref a, hv, a, C, dx, fs, rfl, k'.at.2.2, c, n, hl, q v F' H' g k'.at.2.1 (k'.put nd) p⟩
theorem q_fld (k : (w.add a (.ins C dx fs)).ok F H) (ev : EV (w.add a (.ins C dx fs)) tv σ F P) (hv : σ[j]? = some (some (.ref a))) (c : Cls K C) (n : NoAttr K C f) (hl : fs.length < 1000) (nd : ∀ q ∈ w.ls, q.1 ≠ a)
    (q : ∀ v F' H2, Gr w.M F H F' H2 → F' a = none → (w.add a (.ins C dx (putF f v fs))).ok F' (upd H2 a (.ins C dx (putF f v fs))) → P v F' → rest D σ (upd H2 a (.ins C dx (putF f v fs)))) : tSeq (sFld K (tVar j) tv f) rest D σ H :=
  s_fld (D := { D with nx := rest D }) k ev hv c n hl nd q
/-- the reading of a field of a frozen object -/
theorem ev_fld (ha : EV w ta σ F fun v F' => ∃ a C dx fs y, v = .ref a ∧ F' a = some (.ins C dx fs) ∧ Cls K C ∧ NoAttr K C f ∧ fs.lookup f = some y ∧ P y F') : EV w (tFld K ta f) σ F P := fun F1 H1 e k Q q =>
  ha F1 H1 e k _ fun v F2 H2 g2 k2 p => by
    obtain ⟨a, C, dx, fs, y, rfl, h1, h2, h3, h4, h5⟩ := p
    exact ⟨a, C, dx, fs, y, rfl, k2.e _ _ h1, h2, h3, h4, q y F2 H2 g2 k2 h5⟩
/-- __init__ of an object whose attributes are then pre's -/
def spI {ι : Type} (C : Addr) (pre : ι → List V → Hp → Prop) (fs : ι → List V → List (Str × V)) : Sp := fun vs H Q _ => ∃ (F : Hp) (i : ι) (x dx : Addr) (ws : List V), vs = .ref x :: ws ∧ Same F H ∧ F x = none ∧ H x = some (.ins C dx []) ∧ pre i ws F ∧
  ∀ F' H', Gr (fun a => a = x) F H F' H' → F' x = none → H' x = some (.ins C dx (fs i ws)) → Q .non H'
theorem make_core {ι : Type} {pre : ι → List V → Hp → Prop} {fsf : ι → List V → List (Str × V)} {E : XK} {ws : List V} {Q : VK} (i : ι) (k : w.ok F H) (hp : pre i ws F)
    (q : ∀ x dx F' H', Gr w.M F H (upd F' x (.ins C dx (fsf i ws))) H' → w.ok (upd F' x (.ins C dx (fsf i ws))) H' → Same F F' → F' x = none → Q (.ref x) H') :
    ∀ x dx, H x = none → H dx = none → dx ≠ x → spI C pre fsf (.ref x :: (ws ++ [])) (upd (upd H dx (.own x)) x (.ins C dx [])) (fun v H2 => v = .non ∧ Q (.ref x) H2) E := fun x dx hx hdx hne => by
  rw [List.append_nil]
  have hFx := freeF k.e hx
  have hFd := freeF k.e hdx
  have hx2 : (upd H dx (.own x)) x = none := by rw [upd_ne (Ne.symm hne)]; exact hx
  have k1 : w.ok F (upd H dx (.own x)) := k.pure (Gr.own k.e hdx)
  have k2 : w.ok F (upd (upd H dx (.own x)) x (.ins C dx [])) := k1.pure (Gr.own k1.e hx2)
  have g2 : Gr w.M F H F (upd (upd H dx (.own x)) x (.ins C dx [])) := (Gr.own k.e hdx).trans (Gr.own k1.e hx2)
  refine ⟨F, i, x, dx, ws, rfl, k2.e, hFx, upd_same, hp, fun F' H' g3 hF' hH' => ⟨rfl, ?_⟩⟩
  have g := g2.thenNew g3 hx
  have k3 := k2.other g3 (k.npb hx) (k.nls hx)
  exact q x dx F' H' (g.frz hx hF' hH') ((k3.plus (k.npb hx) hF' hH').frz (k.nls hx)) g3.f hF'
/-- C(e, ..) -/
theorem ev_make {ι : Type} {pre : ι → List V → Hp → Prop} {fsf : ι → List V → List (Str × V)} {E : XK} {tr : TA} {A : List V → Hp → Prop} (ha : EA w tr σ F A) (i : List V → Hp → ι) (hp : ∀ ws F1, Same F F1 → A ws F1 → pre (i ws F1) ws F1)
    (hq : ∀ ws F1 x dx F2, Same F F1 → A ws F1 → Same F1 F2 → F2 x = none → P (.ref x) (upd F2 x (.ins C dx (fsf (i ws F1) ws)))) : EV w (tMake C (spI C pre fsf) [] E tr) σ F P := fun F1 H1 e k Q q =>
  ha F1 H1 e k _ fun ws F2 H2 g2 k2 p => make_core (i ws F2) k2 (hp ws F2 (e.trans g2.f) p) fun x dx F' H' g k' e' hF' => q _ _ H' (g2.trans g) k' (hq ws F2 x dx F' (e.trans g2.f) p e' hF')
/-- C(k = e, ..) -/
theorem ev_makeK {ι : Type} {pre : ι → List V → Hp → Prop} {fsf : ι → List V → List (Str × V)} {E : XK} {tk : TA} {A : List V → Hp → Prop} {m : Nat} {gV : List V → List V → List V} (ha : EA w tk σ F A) (hm : ∀ ws F1, A ws F1 → ws.length = m) (hg : ∀ x ws, ws.length = m → gV [x] ws = x :: ws)
    (i : List V → Hp → ι) (hp : ∀ ws F1, Same F F1 → A ws F1 → pre (i ws F1) ws F1)
    (hq : ∀ ws F1 x dx F2, Same F F1 → A ws F1 → Same F1 F2 → F2 x = none → P (.ref x) (upd F2 x (.ins C dx (fsf (i ws F1) ws)))) : EV w (tMakeK C 0 m (spI C pre fsf) gV E tNil tk) σ F P := fun F1 H1 e k Q q =>
  ha F1 H1 e k _ fun ws F2 H2 g2 k2 p => ⟨rfl, hm ws F2 p, fun x dx hx hdx hne => by
    rw [hg (.ref x) ws (hm ws F2 p)]
    have z := make_core (C := C) (E := E) (fsf := fsf) (i ws F2) k2 (hp ws F2 (e.trans g2.f) p) (Q := Q) (fun x dx F' H' g k' e' hF' => q _ _ H' (g2.trans g) k' (hq ws F2 x dx F' (e.trans g2.f) p e' hF')) x dx hx hdx hne
    rw [List.append_nil] at z
    exact z⟩
/-- e.f, a property -/
theorem ev_prop {ι : Type} {pre : ι → List V → Hp → Prop} {post : ι → V → Hp → Prop} {E : XK} {A : V → Hp → Prop} (ha : EV w ta σ F A) (hi : ∀ v F1, A v F1 → ∃ a dx fs, v = .ref a ∧ F1 a = some (.ins C dx fs)) (i : V → Hp → ι) (hp : ∀ v F1, Same F F1 → A v F1 → pre (i v F1) [v] F1)
    (hq : ∀ x F1 v F2, Same F F1 → A x F1 → Same F1 F2 → post (i x F1) v F2 → P v F2) : EV w (tProp C (spG pre post) [] E ta) σ F P := fun F1 H1 e k Q q =>
  ha F1 H1 e k _ fun x F2 H2 g2 k2 p => by
    obtain ⟨a, dx, fs, rfl, h⟩ := hi x F2 p
    exact ⟨a, dx, fs, rfl, k2.e _ _ h, F2, i (.ref a) F2, k2.e, hp _ F2 (e.trans g2.f) p, fun v F3 H3 g3 p3 => q v F3 H3 (g2.trans g3.up) (k2.pure g3) (hq _ F2 v F3 (e.trans g2.f) p g3.f p3)⟩
/-- C.m(..), a classmethod -/
theorem ev_cmeth {ι : Type} {pre : ι → List V → Hp → Prop} {post : ι → V → Hp → Prop} {E : XK} {tr : TA} {A : List V → Hp → Prop} (hc : ED' w ta σ F (.ref C)) (ha : EA w tr σ F A) (i : List V → Hp → ι) (hp : ∀ vs F1, Same F F1 → A vs F1 → pre (i vs F1) (.ref C :: vs) F1)
    (hq : ∀ vs F1 v F2, Same F F1 → A vs F1 → Same F1 F2 → post (i vs F1) v F2 → P v F2) : EV w (ClX.tCMeth C (spG pre post) E ta tr) σ F P := fun F1 H1 e k Q q =>
  hc F1 H1 e k _ fun x F2 H2 g2 k2 p2 => ⟨p2, ha F2 H2 (e.trans g2.f) k2 _ fun vs F3 H3 g3 k3 p3 => ⟨F3, i vs F3, k3.e, hp vs F3 ((e.trans g2.f).trans g3.f) p3, fun v F4 H4 g4 p4 => q v F4 H4 ((g2.trans g3).trans g4.up) (k3.pure g4) (hq vs F3 v F4 ((e.trans g2.f).trans g3.f) p3 g4.f p4)⟩⟩
end
section
variable {P : Program} {w : World} {K : PySem.W.Frag} {mg : Str → Option Value} {base : Heap}
/-- an __init__, by its body -/
theorem init_ok {ι : Type} {x qual : Str} {st : Stmt} {f C : Addr} {fd : FuncData} {N ps : List Str} {k : Nat} {pre : ι → List V → Hp → Prop} {fsf : ι → List V → List (Str × V)} (F : Fun K x qual st f fd) (S : FnScope N ps (defScope st)) (hl : ∀ i ws F, pre i ws F → ws.length + 1 = ps.length)
    (hb : ∀ (cdv : Value) (A : Around) (outer : List Env) (s : Shared) (H : Hp) (E : XK), Room k (A.deeper (PyProof.Rows.envOfC qual (defScope st) s.heap.objs.size f cdv)) →
      ∃ t, PSs (cxOf CX0 P w K mg base N qual (defScope st) f cdv A outer s H E).nox (defBody st) t ∧ ∀ i x dx ws F (Q : VK), pre i ws F → F x = none → H x = some (.ins C dx []) → (w0.add x (.ins C dx [])).ok F H → (∀ F' H', Gr (fun a => a = x) F H F' H' → F' x = none → H' x = some (.ins C dx (fsf i ws)) → Q .non H') → t { nx := fun _ H' => Q .non H', rt := Q } (start N (.ref x :: ws)) H) :
    FnOk P w K mg base CX0 (k + 1) f fd ps (spI C pre fsf) := by
  refine F.ok S (fun vs H Q E h => ?_) (fun cdv A outer s H vs Q E hr h => ?_)
  · obtain ⟨F, i, x, dx, ws, rfl, e, _, _, hp, q⟩ := h
    exact hl i ws F hp
  · obtain ⟨F, i, x, dx, ws, rfl, e, h1, h2, hp, q⟩ := h
    obtain ⟨t, t1, t2⟩ := hb cdv A outer s H E hr
    exact ⟨t, t1, t2 i x dx ws F Q hp h1 h2 ((ok0 e).plus (fun z => z) h1 h2) q⟩
end
section
variable {X : Cx} {CX : CXT} {k i : Nat} {f C : Addr} {fd : FuncData} {ps : List Str} {sp : Sp} {dvs : List V} {ds : List Value} {E : XK} {x : Str} {p pos : Pos} {e : Expr} {es : List Expr} {t : TA}
/-- c(e, ..), c a name of the def that holds the class -/
def tMakeL (i : Nat) (C : Addr) (sp : Sp) (dvs : List V) (E : XK) (t : TA) : TE := fun σ H Q => σ[i]? = some (some (.ref C)) ∧ tMake C sp dvs E t σ H Q
theorem pe_makeL (M : Mk X.K C f) (F : FnOk X.prog X.w X.K X.mg X.base CX k f fd ps sp) (hr : Room (k + 1) X.A) (hN : X.N[i]? = some x) (hv : Vis X.env.scope x) (hb : Binds X.K fd ps ds) (hd : Vals dvs ds) (hx : Passes CX X E) (ha : PA X (e :: es) t)
    (hdb : (x == ("__debug__" : Str)) = false := by decide) (hcd : (x == ("__classdict__" : Str)) = false := by decide)
    (he : starEach (e :: es) X.env = (false, eval e X.env) :: starEach es X.env := by rfl) (hpl : (backTo pos (starEach es X.env)).any (·.1) = false := by rfl) : PE X (.Call (.Name x p) (e :: es) [] pos) (tMakeL i C sp dvs E t) := by
  refine ⟨fun pins s σ H Q I hh => ?_⟩
  have hs := hh.1
  have ht := hh.2
  refine wpAny_Call_Name_kw (thn ((pe_var (pos := p) hN hv hdb hcd).run pins s σ H (fun v H1 => v = .ref C ∧ H1 = H) I ⟨.ref C, hs, rfl, rfl⟩) fun u s1 ⟨v, H1, I1, r1, q1⟩ => ?_)
  obtain ⟨rfl, rfl⟩ := q1
  cases r1
  exact PySem.W.callWith_K (h₀ := X.base) I.ok.mod.kin M.kp (thn (ha.run pos pins s1 σ _ _ I1 ht) fun us s2 ⟨vs, H2, I2, r, q⟩ => ⟨I2.kIn, run_make M F hr hb hd hx I2 r q⟩) he hpl
end
end Wk
set_option Elab.async false
set_option linter.all false
set_option maxRecDepth 100000
set_option maxHeartbeats 2000000
/-! Du: len, str, repr, bool of an own instance -/
namespace PySem.W
open PySem
theorem len_code {prog : Program} {w : World} {A : Around} {E : Value → Shared → Prop} {s : Shared} {K : Frag} {x C f : Addr} {ox : Obj} {od : Option Obj} {Q : Value → Shared → Prop} (X : K.In s.heap) (I : InstAt s.heap x ox C od)
    (hs : findIn K (.ref C) "__len__" = some (some (.ref f))) (hf : isFn K (.ref f) = true) (h : wpAny (model prog w) A.in1 (call (.ref f) [.ref x]) (fun v s' => ∃ n t, v = .int n t ∧ 0 ≤ n ∧ n < 2 ^ 63 ∧ ∀ tk, Q (.int n tk) { s' with toks := s'.toks + 1 }) E s) :
    wpAny (model prog w) A (runValue (.builtin "len" ⟨[.ref x], []⟩)) Q E s := by
  refine wpAny_runValue (codeAny_builtin entry_len ?_)
  rw [Around.under_plainId plain_len _]
  unfold Builtin.«len»
  refine wpAny_bind (m := oneArg "len" _) (wpAny_pure ?_)
  refine wpAny_bind (m := callSpecial? (.ref x) (Str.ofString "__len__")) (special_fn X I hs (beq_iff_eq.mp hf) (wpAny_mono h (fun r s' hr => ?_) fun _ _ y => y))
  obtain ⟨n, u, rfl, h0, h1, hq⟩ := hr
  refine wpAny_bind (wpAny_holding (wpAny_pure (wpAny_bind (wpAny_letGo ?_))))
  show wpAny _ _ (if n < 0 then _ else _) _ _ _
  rw [if_neg (by omega)]
  show wpAny _ _ (if n ≥ 2 ^ 63 then _ else _) _ _ _
  rw [if_neg (by omega)]
  exact wpAny_bind (wpAny_mkInt (wpAny_pure (hq _)))
theorem truthy_len {prog : Program} {w : World} {A : Around} {E : Value → Shared → Prop} {s : Shared} {K : Frag} {x C f : Addr} {ox : Obj} {od : Option Obj} {Q : Bool → Shared → Prop} (X : K.In s.heap) (I : InstAt s.heap x ox C od) (hb : findIn K (.ref C) "__bool__" = some none)
    (hs : findIn K (.ref C) "__len__" = some (some (.ref f))) (hf : isFn K (.ref f) = true) (h : wpAny (model prog w) A.in1 (call (.ref f) [.ref x]) (fun v s' => ∃ n t, v = .int n t ∧ 0 ≤ n ∧ n < 2 ^ 63 ∧ Q (n != 0) { s' with toks := s'.toks + 1 }) E s) : wpAny (model prog w) A (truthy (.ref x)) Q E s := by
  unfold truthy
  refine wpAny_bind (m := callSpecial? (.ref x) (Str.ofString "__bool__")) (wpAny_bind (wpAny_bind (I.type.here ((looks_findIn X hb).here (wpAny_pure ?_)))))
  refine wpAny_bind (wpAny_bind (I.type.here ((looks_findIn X hs).here ?_)))
  show wpAny _ _ (if (some (Value.ref f)).isNone = true then _ else _) _ _ _
  rw [if_neg (by simp)]
  refine wpAny_bind (wpAny_mono (len_code (Q := fun v s' => ∃ n t, v = .int n t ∧ Q (n != 0) s') X I hs hf (wpAny_mono h (fun r s' hr => ?_) fun _ _ y => y)) (fun r s' hr => ?_) fun _ _ y => y)
  · obtain ⟨n, t, rfl, h0, h1, q⟩ := hr
    exact ⟨n, t, rfl, h0, h1, fun tk => ⟨n, tk, rfl, q⟩⟩
  · obtain ⟨n, t, rfl, q⟩ := hr
    exact wpAny_pure q
open Builtin in
theorem bool_len {prog : Program} {w : World} {A : Around} {E : Value → Shared → Prop} {s : Shared} {K : Frag} {x C f : Addr} {ox : Obj} {od : Option Obj} {Q : Value → Shared → Prop} (X : K.In s.heap) (I : InstAt s.heap x ox C od) (hb : findIn K (.ref C) "__bool__" = some none)
    (hs : findIn K (.ref C) "__len__" = some (some (.ref f))) (hf : isFn K (.ref f) = true) (h : wpAny (model prog w) A.in1.in1.in1 (call (.ref f) [.ref x]) (fun v s' => ∃ n t, v = .int n t ∧ 0 ≤ n ∧ n < 2 ^ 63 ∧ Q (.bool (n != 0)) { s' with toks := s'.toks + 1 }) E s) :
    wpAny (model prog w) A (call (.type "bool") [.ref x]) Q E s := by
  refine callType_codes (T := "bool") (Bi := Builtin.«object.__init__») (Q₁ := fun r s₁ => ∃ y, r = .bool y ∧ Q r s₁) PySem.F.called_bool (PySem.F.typeCall_bool_1 _) PySem.F.entry_object_init ?_ ?_
  · refine codeAny_of_tree ?_
    show wpAny _ A.in1.in1 (do checkBuiltinCall "bool.__new__" ⟨[.type "bool", .ref x], []⟩; again (.builtin "bool.__new__" ⟨[.type "bool", .ref x], []⟩)) _ _ s
    refine wpAny_bind (wpAny_of_eq (PySem.F.newCall_bool_1 _) (wpAny_pure ⟨plainId_quiet (by decide +kernel) _, codeAny_builtin PySem.F.entry_bool_new ?_⟩))
    rw [Around.under_plainId (by decide +kernel) _]
    unfold Builtin.«bool.__new__»
    refine wpAny_bind (wpAny_pure ?_)
    refine wpAny_bind (wpAny_of_eq PySem.F.conv_sub_bool ?_)
    refine wpAny_bind (wpAny_pure ?_)
    refine wpAny_bind (truthy_len X I hb hs hf (wpAny_mono h (fun r s₁ hr => ?_) fun _ _ y => y))
    obtain ⟨n, t, rfl, h0, h1, q⟩ := hr
    exact ⟨n, t, rfl, h0, h1, wpAny_pure ⟨_, rfl, q⟩⟩
  · rintro obj s₁ ⟨y, rfl, hq⟩
    exact ⟨typeIs_bool _ _, PySem.F.args_object_init_2 _ _, object_init_meets PySem.F.called_bool.init.lookup PySem.F.called_bool.made (by decide) prog w A.in1 _ s₁ ⟨typeIs_bool _ _, rfl, hq⟩⟩
end PySem.W
namespace Wk
open PySem PySem.Spec L2
section
variable {X : Cx} {pins : List (Addr × Obj)} {σ : St} {H : Hp} {s : Shared} {k : Nat} {f a : Addr} {fd : FuncData} {sp : Sp} {Q : VK} {E : XK} {A : Around} {E' : Value → Shared → Prop}
theorem run_at (F : FnOk X.prog X.w X.K X.mg X.base CX0 k f fd ["self"] sp) (hr : Room k A) (e0 : Env0 X.prog X.w X.K X.mg X.base A X.stack s H) (hb : Binds X.K fd ["self"] []) (I : Inv X pins σ H s) (h : sp [.ref a] H Q E) : wpAny (model X.prog X.w) A (call (.ref f) [.ref a]) (EP X pins σ Q) E' s := by
  refine wpAny_call (codeAny_mono (F.run A X.stack s H ⟨[.ref a], []⟩ [.ref a] [.ref a] Q E hr e0 (hb s [.ref a] I.kIn rfl) (.cons rfl .nil) h) fun r s' hq => ?_)
  cases r with
  | error er => exact False.elim hq
  | ok fl =>
    cases fl with
    | ret u => exact I.after hq
    | next => exact False.elim hq
    | brk => exact False.elim hq
    | cont => exact False.elim hq
end
/-- a special method of the class, a def -/
structure Dun (K : PySem.W.Frag) (C : Addr) (m : Str) (f : Addr) : Prop where
  at_ : PySem.W.findIn K (.ref C) m = some (some (.ref f))
  fn : PySem.W.isFn K (.ref f) = true
section
variable {X : Cx} {k : Nat} {C f : Addr} {fd : FuncData} {sp : Sp}
def rLenO (C : Addr) (sp : Sp) : List V → Hp → VK → Prop := fun xs H Q => ∃ a dx fs, xs = [.ref a] ∧ H a = some (.ins C dx fs) ∧ sp [.ref a] H (fun v H' => ∃ n, v = .int n ∧ 0 ≤ n ∧ n < 2 ^ 63 ∧ Q (.int n) H') E0
def rStrO (C : Addr) (sp : Sp) : List V → Hp → VK → Prop := fun xs H Q => ∃ a dx fs, xs = [.ref a] ∧ H a = some (.ins C dx fs) ∧ sp [.ref a] H (fun v H' => ∃ z, v = .str z ∧ Q (.str z) H') E0
theorem cD_len (D : Dun X.K C "__len__" f) (F : FnOk X.prog X.w X.K X.mg X.base CX0 k f fd ["self"] sp) (hr : Room (k + 1) X.A) (hb : Binds X.K fd ["self"] []) : CallR X (.builtin "len") (rLenO C sp) := by
  intro pins s σ H xs us Q I r h
  obtain ⟨a, dx, fs, rfl, ea, hsp⟩ := h
  cases r with
  | cons r1 rr =>
    cases rr
    cases r1
    obtain ⟨mA, O, _⟩ := ins_get I.hok ea
    obtain ⟨od, J, _⟩ := O.look
    obtain ⟨m, fr⟩ := I.fr
    refine PySem.W.len_K fr I.ok.mod.kin J D.at_ D.fn (wpAny_mono (run_at F hr.in1 I.env0.in1 hb I hsp) (fun u s' hq => ?_) fun _ _ y => y)
    obtain ⟨v, H', I', rv, n, rfl, h0, h1, q⟩ := hq
    obtain ⟨t, rfl⟩ := rv
    exact ⟨⟨h0, h1⟩, .int n, H', I'.tok _, ⟨_, rfl⟩, q⟩
theorem cD_repr (D : Dun X.K C "__repr__" f) (F : FnOk X.prog X.w X.K X.mg X.base CX0 k f fd ["self"] sp) (hr : Room (k + 1) X.A) (hb : Binds X.K fd ["self"] []) : CallR X (.builtin "repr") (rStrO C sp) := by
  intro pins s σ H xs us Q I r h
  obtain ⟨a, dx, fs, rfl, ea, hsp⟩ := h
  cases r with
  | cons r1 rr =>
    cases rr
    cases r1
    obtain ⟨mA, O, _⟩ := ins_get I.hok ea
    obtain ⟨od, J, _⟩ := O.look
    obtain ⟨m, fr⟩ := I.fr
    refine PySem.W.repr_K (by have := hr.in1.units; omega) fr I.ok.mod.kin J D.at_ D.fn (wpAny_mono (run_at F hr.in1 I.env0.in1 hb I hsp) (fun u s' hq => ?_) fun _ _ y => y)
    obtain ⟨v, H', I', rv, z, rfl, q⟩ := hq
    obtain ⟨t, rfl⟩ := rv
    exact ⟨.str z, H', I', ⟨_, rfl⟩, q⟩
theorem cD_str (D : Dun X.K C "__str__" f) (F : FnOk X.prog X.w X.K X.mg X.base CX0 k f fd ["self"] sp) (hr : Room (k + 2) X.A) (hb : Binds X.K fd ["self"] []) : CallR X (.type "str") (rStrO C sp) := by
  intro pins s σ H xs us Q I r h
  obtain ⟨a, dx, fs, rfl, ea, hsp⟩ := h
  cases r with
  | cons r1 rr =>
    cases rr
    cases r1
    obtain ⟨mA, O, _⟩ := ins_get I.hok ea
    obtain ⟨od, J, _⟩ := O.look
    refine PySem.W.kso_call (by have := hr.in1.in1.units; omega) I.kIn J D.at_ D.fn (wpAny_mono (run_at F hr.in1.in1 I.env0.in1.in1 hb I hsp) (fun u s' hq => ?_) fun _ _ y => y)
    obtain ⟨v, H', I', rv, z, rfl, q⟩ := hq
    obtain ⟨t, rfl⟩ := rv
    exact ⟨.str z, H', I', ⟨_, rfl⟩, q⟩
theorem cD_bool (nb : PySem.W.findIn X.K (.ref C) "__bool__" = some none) (D : Dun X.K C "__len__" f) (F : FnOk X.prog X.w X.K X.mg X.base CX0 k f fd ["self"] sp) (hr : Room (k + 3) X.A) (hb : Binds X.K fd ["self"] []) :
    CallR X (.type "bool") (fun xs H Q => ∃ a dx fs, xs = [.ref a] ∧ H a = some (.ins C dx fs) ∧ sp [.ref a] H (fun v H' => ∃ n, v = .int n ∧ 0 ≤ n ∧ n < 2 ^ 63 ∧ Q (.bl (n != 0)) H') E0) := by
  intro pins s σ H xs us Q I r h
  obtain ⟨a, dx, fs, rfl, ea, hsp⟩ := h
  cases r with
  | cons r1 rr =>
    cases rr
    cases r1
    obtain ⟨mA, O, _⟩ := ins_get I.hok ea
    obtain ⟨od, J, _⟩ := O.look
    refine PySem.W.bool_len I.kIn J nb D.at_ D.fn (wpAny_mono (run_at F hr.in1.in1.in1 I.env0.in1.in1.in1 hb I hsp) (fun u s' hq => ?_) fun _ _ y => y)
    obtain ⟨v, H', I', rv, n, rfl, h0, h1, q⟩ := hq
    obtain ⟨t, rfl⟩ := rv
    exact ⟨n, t, rfl, h0, h1, .bl (n != 0), H', I'.tok _, rfl, q⟩
end
end Wk
set_option Elab.async false
set_option linter.all false
set_option maxRecDepth 100000
set_option maxHeartbeats 2000000
/-! Lq: lots as objects -/
namespace Wk
open PySem PySem.Spec L2 Lt
theorem Fun.kbn {K : PySem.W.Frag} {x qual : Str} {st : Stmt} {f : Addr} {fd : FuncData} {ps ks : List Str} {n : Nat} (F : Fun K x qual st f fd)
    (h : ∀ (kV doc pm : Value) (an : Option Addr) (cdv ct : Value) (us ws : List Value), us.length = n → ws.length = ks.length → bindArgs (PySem.W.fnOf x qual (defArgs st) (defBody st) (defScope st) .none kV doc pm an cdv ct) ⟨us, ks.zip ws⟩ = pure (ps.zip (us ++ ws))) : KBn K fd ps n ks (fun us ws => us ++ ws) (fun us ws => us ++ ws) := by
  obtain ⟨oc, od, kV, doc, pm, an, cdv, ct, osl, rfl, lk, hcd⟩ := F.ex
  exact ⟨fun s us ws _ l1 l2 => .of_eq (h kV doc pm an cdv ct us ws l1 l2), fun a b => a.append b⟩
theorem FnOk.rawN {P : Program} {w : World} {K : PySem.W.Frag} {mg : Str → Option Value} {base : Heap} {CX : CXT} {k : Nat} {f : Addr} {fd : FuncData} {ps : List Str} {sp : Sp} (F : FnOk P w K mg base CX k f fd ps sp) (hb : Binds K fd ps []) : FnR P w K mg base CX k f sp :=
  (F.raw hb .nil).imp fun vs H Q E h => by
    rw [List.append_nil]
    exact h
/-- a lot at v -/
def IsLot (K : PySem.W.Frag) (C : Addr) (n : Nat) (ts : List (List (List Int))) (v : V) (F : Hp) : Prop := ∃ a dx tv, v = .ref a ∧ F a = some (.ins C dx [("_tables", tv), ("_text", .str (textOf n ts))]) ∧ Rp K F tv (encTs ts)
abbrev LotI := Nat × List (List (List Int))
/-- a def of one lot -/
abbrev spL (K : PySem.W.Frag) (C : Addr) (f : Nat → List (List (List Int)) → PyData) : Sp := spG (ι := LotI) (fun i vs F => ∃ v, vs = [v] ∧ IsLot K C i.1 i.2 v F ∧ Good i.1 i.2) (fun i v F' => Rp K F' v (f i.1 i.2))
section
variable {K : PySem.W.Frag} {C : Addr} {n : Nat} {ts : List (List (List Int))} {v : V} {F F' H : Hp} {w : Wd} {σ : St} {ta : TE} {E : XK} {f : Nat → List (List (List Int)) → PyData}
theorem IsLot.mono (e : Same F F') (h : IsLot K C n ts v F) : IsLot K C n ts v F' := by
  obtain ⟨a, dx, tv, rfl, h1, h2⟩ := h
  exact ⟨a, dx, tv, rfl, e _ _ h1, h2.mono e⟩
theorem ev_lot {i : Nat} (h : σ[i]? = some (some v)) (l : IsLot K C n ts v F) : EV w (tVar i) σ F (IsLot K C n ts) := ev_var h fun F' e => l.mono e
theorem ed_prop (ha : EV w ta σ F (IsLot K C n ts)) (g : Good n ts) : ED K w (tProp C (spL K C f) [] E ta) σ F (f n ts) :=
  ev_prop ha (fun v F1 h => by
    obtain ⟨a, dx, tv, rfl, h1, _⟩ := h
    exact ⟨a, dx, _, rfl, h1⟩) (fun _ _ => (n, ts)) (fun v F1 _ h => ⟨v, rfl, h, g⟩) fun _ _ _ _ _ _ _ p => p
theorem ed_lenLot (ha : EV w ta σ F (IsLot K C n ts)) (g : Good n ts) (m : Nat) (hm : f n ts = .int m) (h2 : m < 1000) : ED K w (tCB (rLenO C (spL K C f)) (tCons ta tNil)) σ F (.int m) := fun F1 H1 e k Q q =>
  ha F1 H1 e k _ fun x F2 H2 g2 k2 p => by
    obtain ⟨a, dx, tv, rfl, h1, _⟩ := id p
    refine ⟨a, dx, _, rfl, k2.e _ _ h1, F2, (n, ts), k2.e, ⟨_, rfl, p, g⟩, fun v F3 H3 g3 p3 => ?_⟩
    have p4 : Rp K F3 v (f n ts) := p3
    rw [hm] at p4
    exact ⟨m, rp_int p4, by omega, by omega, q _ F3 H3 (g2.trans g3.up) (k2.pure g3) (.int _)⟩
theorem ed_boolLot (ha : EV w ta σ F (IsLot K C n ts)) (g : Good n ts) (m : Nat) (hm : f n ts = .int m) (h2 : m < 1000) (h1 : 1 ≤ m) :
    ED K w (tCB (fun xs H Q => ∃ a dx fs, xs = [.ref a] ∧ H a = some (.ins C dx fs) ∧ spL K C f [.ref a] H (fun v H' => ∃ n, v = .int n ∧ 0 ≤ n ∧ n < 2 ^ 63 ∧ Q (.bl (n != 0)) H') E0) (tCons ta tNil)) σ F (.bool true) := fun F1 H1 e k Q q =>
  ha F1 H1 e k _ fun x F2 H2 g2 k2 p => by
    obtain ⟨a, dx, tv, rfl, h1', _⟩ := id p
    refine ⟨a, dx, _, rfl, k2.e _ _ h1', F2, (n, ts), k2.e, ⟨_, rfl, p, g⟩, fun v F3 H3 g3 p3 => ?_⟩
    have p4 : Rp K F3 v (f n ts) := p3
    rw [hm] at p4
    refine ⟨m, rp_int p4, by omega, by omega, q _ F3 H3 (g2.trans g3.up) (k2.pure g3) ?_⟩
    rw [show ((m : Int) != 0) = true from bne_iff_ne.mpr (by omega)]
    exact .bl _
theorem ed_strLot {z : Str} (ha : EV w ta σ F (IsLot K C n ts)) (g : Good n ts) (hm : f n ts = .str z) : ED K w (tCB (rStrO C (spL K C f)) (tCons ta tNil)) σ F (.str z) := fun F1 H1 e k Q q =>
  ha F1 H1 e k _ fun x F2 H2 g2 k2 p => by
    obtain ⟨a, dx, tv, rfl, h1', _⟩ := id p
    refine ⟨a, dx, _, rfl, k2.e _ _ h1', F2, (n, ts), k2.e, ⟨_, rfl, p, g⟩, fun v F3 H3 g3 p3 => ?_⟩
    have p4 : Rp K F3 v (f n ts) := p3
    rw [hm] at p4
    exact ⟨z, rp_str p4, q _ F3 H3 (g2.trans g3.up) (k2.pure g3) (.str _)⟩
/-- self._tables, self._text -/
theorem ed_ftables {i : Nat} (h : σ[i]? = some (some v)) (l : IsLot K C n ts v F) (c : Cls K C) (nt : NoAttr K C "_tables") : ED K w (tFld K (tVar i) "_tables") σ F (encTs ts) :=
  ev_fld (ev_var h fun F' e => by
    obtain ⟨a, dx, tv, rfl, h1, h2⟩ := l.mono e
    exact ⟨a, C, dx, _, tv, rfl, h1, c, nt, rfl, h2⟩)
theorem ed_ftext {i : Nat} (h : σ[i]? = some (some v)) (l : IsLot K C n ts v F) (c : Cls K C) (nt : NoAttr K C "_text") : ED K w (tFld K (tVar i) "_text") σ F (.str (textOf n ts)) :=
  ev_fld (ev_var h fun F' e => by
    obtain ⟨a, dx, tv, rfl, h1, h2⟩ := l.mono e
    exact ⟨a, C, dx, _, .str (textOf n ts), rfl, h1, c, nt, rfl, .str _⟩)
/-- what Lot.__init__ is called with -/
abbrev preLot (K : PySem.W.Frag) : LotI → List V → Hp → Prop := fun i ws F => ∃ tv, ws = [tv] ∧ Rp K F tv (encTs i.2) ∧ Good i.1 i.2
abbrev fsLot : LotI → List V → List (Str × V) := fun i ws => [("_tables", ws.getD 0 .non), ("_text", .str (textOf i.1 i.2))]
theorem ev_mkLot {tr : TA} (ha : EDA K w tr σ F [encTs ts]) (g : Good n ts) : EV w (tMake C (spI C (preLot K) fsLot) [] E tr) σ F (IsLot K C n ts) :=
  ev_make ha (fun _ _ => (n, ts)) (fun ws F1 _ p => by
    cases p with
    | cons r m =>
      cases m
      exact ⟨_, rfl, r, g⟩) fun ws F1 x dx F2 _ p e2 hx => by
    cases p with
    | cons r m =>
      cases m
      exact ⟨x, dx, _, rfl, upd_same, (r.mono e2).mono (same_new hx)⟩
theorem ev_mkLotK {tr : TA} (ha : EDA K w tr σ F [encTs ts]) (g : Good n ts) : EV w (tMakeK C 0 1 (spI C (preLot K) fsLot) (fun us ws => us ++ ws) E tNil tr) σ F (IsLot K C n ts) :=
  ev_makeK ha (fun ws F1 p => by rw [p.len]; rfl) (fun _ _ _ => rfl) (fun _ _ => (n, ts)) (fun ws F1 _ p => by
    cases p with
    | cons r m =>
      cases m
      exact ⟨_, rfl, r, g⟩) fun ws F1 x dx F2 _ p e2 hx => by
    cases p with
    | cons r m =>
      cases m
      exact ⟨x, dx, _, rfl, upd_same, (r.mono e2).mono (same_new hx)⟩
theorem ev_mkLotL {tr : TA} {i : Nat} (hs : σ[i]? = some (some (.ref C))) (ha : EDA K w tr σ F [encTs ts]) (g : Good n ts) : EV w (tMakeL i C (spI C (preLot K) fsLot) [] E tr) σ F (IsLot K C n ts) := fun F1 H1 e k Q q => ⟨hs, ev_mkLot ha g F1 H1 e k Q q⟩
/-- Lot.read(text) -/
abbrev spRead (K : PySem.W.Frag) (C : Addr) : Sp := spG (ι := LotI) (fun i vs F => vs = [.ref C, .str (textOf i.1 i.2)] ∧ Good i.1 i.2) (fun i v F' => IsLot K C i.1 i.2 v F')
theorem ev_read {tr : TA} (hc : ED' w ta σ F (.ref C)) (ha : EDA K w tr σ F [.str (textOf n ts)]) (g : Good n ts) : EV w (ClX.tCMeth C (spRead K C) E ta tr) σ F (IsLot K C n ts) :=
  ev_cmeth hc ha (fun _ _ => (n, ts)) (fun vs F1 _ p => by
    cases p with
    | cons r m =>
      cases m
      rw [rp_str r]
      exact ⟨rfl, g⟩) fun _ _ _ _ _ _ _ p => p
end
end Wk
set_option Elab.async false
set_option linter.all false
set_option maxRecDepth 100000
set_option maxHeartbeats 2000000
/-! Gd: repr of data; defs that are called where no repr is under way -/
namespace Wk
open PySem PySem.Spec L2
abbrev envOfC := @PyProof.Rows.envOfC
/-! ### data read back from the heap -/
section
variable {X : Cx} {pins : List (Addr × Obj)} {σ : St} {H : Hp} {s : Shared}
mutual
theorem Rp.reads (I : Inv X pins σ H s) : ∀ (d : PyData) (v : V) (u : Value), Rp X.K H v d → RelV v u → d.hasDict = false → ∃ as, Reads s.heap u d as
  | .none, _, _, h, r, _ => by
    cases h
    cases r
    exact ⟨_, Reads.none⟩
  | .bool b, _, _, h, r, _ => by
    cases h
    cases r
    exact ⟨_, Reads.bool b⟩
  | .int i, _, _, h, r, _ => by
    cases h
    obtain ⟨t, rfl⟩ := r
    exact ⟨_, Reads.int i t⟩
  | .str x, _, _, h, r, _ => by
    cases h
    obtain ⟨t, rfl⟩ := r
    exact ⟨_, Reads.str x t⟩
  | .list ds, _, _, h, r, n => by
    cases h with
    | lst hs ha =>
      cases r
      obtain ⟨its, rv, ⟨o, k, ho, hc, _, hd⟩, _⟩ := I.list (rp_sqL (Same.refl H) hs)
      obtain ⟨as, hr⟩ := RpA.reads I ds _ its ha rv (by simpa only [PyData.hasDict] using n)
      exact ⟨_, Reads.list ho hc hd hr⟩
  | .tuple ds, _, _, h, r, n => by
    cases h with
    | tup hs ha =>
      cases r
      obtain ⟨its, rv, ⟨o, ho, hc, k, hd⟩, _⟩ := I.tuple hs
      obtain ⟨as, hr⟩ := RpA.reads I ds _ its ha rv (by simpa only [PyData.hasDict] using n)
      exact ⟨_, Reads.tuple ho hc hd hr⟩
  | .dict _, _, _, _, _, n => by
    simp only [PyData.hasDict] at n
    cases n
theorem RpA.reads (I : Inv X pins σ H s) : ∀ (ds : List PyData) (vs : List V) (us : List Value), RpA X.K H vs ds → Vals vs us → PyData.hasDictAll ds = false → ∃ as, ReadsAll s.heap us ds as
  | [], _, _, h, r, _ => by
    cases h
    cases r
    exact ⟨_, ReadsAll.nil⟩
  | d :: ds, _, _, h, r, n => by
    cases h with
    | cons h1 h2 =>
      cases r with
      | cons r1 r2 =>
        simp only [PyData.hasDictAll, Bool.or_eq_false_iff] at n
        obtain ⟨as, q1⟩ := Rp.reads I d _ _ h1 r1 n.1
        obtain ⟨bs, q2⟩ := RpA.reads I ds _ _ h2 r2 n.2
        exact ⟨_, ReadsAll.cons q1 q2⟩
end
/-- what can be shown: its parts are whole numbers below 2 ** 1920, no dict, and the text has room -/
structure Shows (d : PyData) : Prop where
  sh : d.showable = true
  nd : d.hasDict = false
  dp : d.depth < 40
  sz : d.shown.length ≤ sizeLine
def rReprD (K : PySem.W.Frag) : List V → Hp → VK → Prop := fun xs H Q => ∃ a d, xs = [.ref a] ∧ Rp K H (.ref a) d ∧ Shows d ∧ Q (.str d.shown) H
theorem cG_repr (K : PySem.W.Frag) (hK : X.K = K) (hu : X.A.units + 64 < cLine) (hg : X.A.guards = some []) : CallR X (.builtin "repr") (rReprD K) := by
  subst hK
  intro pins s σ H xs us Q I r h
  obtain ⟨a, d, rfl, rp, sw, q⟩ := h
  cases r with
  | cons r1 r2 =>
    cases r2
    obtain ⟨as, rd⟩ := Rp.reads I d _ _ rp r1 sw.nd
    cases r1
    have := sw.dp
    exact repr_of_reads' rd sw.sh (PyData.noDict_hsm sw.nd) hg (by omega) (fun _ _ e => e) (fun h' u tk k => ⟨.str d.shown, H, I.kept k, ⟨u, rfl⟩, q⟩) sw.sz
end
section
variable {K : PySem.W.Frag} {F : Hp} {w : Wd} {σ : St} {ta : TE}
theorem rp_ref {v : V} {d : PyData} (r : Rp K F v d) (h : (∃ xs, d = .list xs) ∨ ∃ xs, d = .tuple xs) : ∃ a, v = .ref a := by
  rcases h with ⟨xs, rfl⟩ | ⟨xs, rfl⟩
  · obtain ⟨a, _, rfl, _⟩ := rp_lst r
    exact ⟨a, rfl⟩
  · obtain ⟨a, _, rfl, _⟩ := rp_tup r
    exact ⟨a, rfl⟩
theorem ed_reprD {d : PyData} (ha : ED K w ta σ F d) (h : (∃ xs, d = .list xs) ∨ ∃ xs, d = .tuple xs) (sw : Shows d) : ED K w (tCB (rReprD K) (tCons ta tNil)) σ F (.str d.shown) :=
  ed_cb1 ha fun x F' H k r => by
    obtain ⟨a, rfl⟩ := rp_ref r h
    exact ⟨.str d.shown, fun Q q => ⟨a, d, rfl, r.mono k.e, sw, q⟩, .str _⟩
end
/-! ### defs that are called where no repr is under way -/
structure FnOkG (P : Program) (w : World) (K : PySem.W.Frag) (mg : Str → Option Value) (base : Heap) (k : Nat) (f : Addr) (fd : FuncData) (ps : List Str) (sp : Sp) : Prop where
  len : ∀ vs H Q E, sp vs H Q E → vs.length = ps.length
  run : ∀ (A : Around) (outer : List Env) (s : Shared) (H : Hp) (args : Args) (us : List Value) (vs : List V) (Q : VK) (E : XK), Room k A → A.guards = some [] → Env0 P w K mg base A outer s H → BindsTo s fd args (ps.zip us) → Vals vs us → sp vs H Q E →
    codeAny (model P w) A (.call (.ref f) args) (CR CX0 outer P w H s Q E) s
section
variable {P : Program} {w : World} {K : PySem.W.Frag} {mg : Str → Option Value} {base : Heap}
theorem FnOkG.mono {j k : Nat} {f : Addr} {fd : FuncData} {ps : List Str} {sp : Sp} (F : FnOkG P w K mg base j f fd ps sp) (h : j ≤ k) : FnOkG P w K mg base k f fd ps sp :=
  ⟨F.len, fun A outer s H args us vs Q E hr hg => F.run A outer s H args us vs Q E (hr.mono h) hg⟩
theorem FnOkG.imp {k : Nat} {f : Addr} {fd : FuncData} {ps : List Str} {sp sp' : Sp} (F : FnOkG P w K mg base k f fd ps sp) (h : ∀ vs H Q E, sp' vs H Q E → sp vs H Q E) : FnOkG P w K mg base k f fd ps sp' :=
  ⟨fun vs H Q E q => F.len vs H Q E (h _ _ _ _ q), fun A outer s H args us vs Q E hr hg he hb hv hs => F.run A outer s H args us vs Q E hr hg he hb hv (h _ _ _ _ hs)⟩
/-- by its body -/
theorem okG {x qual : Str} {st : Stmt} {f : Addr} {fd : FuncData} {N ps : List Str} {k : Nat} {sp : Sp} (F : Fun K x qual st f fd) (S : FnScope N ps (defScope st)) (len : ∀ vs H Q E, sp vs H Q E → vs.length = ps.length)
    (hbody : ∀ (cdv : Value) (A : Around) (outer : List Env) (s : Shared) (H : Hp) (vs : List V) (Q : VK) (E : XK), Room k (A.deeper (envOfC qual (defScope st) s.heap.objs.size f cdv)) → A.guards = some [] → sp vs H Q E →
      ∃ t, PSs (cxOf CX0 P w K mg base N qual (defScope st) f cdv A outer s H E).nox (defBody st) t ∧ t { nx := fun _ H' => Q .non H', rt := Q } (start N vs) H) : FnOkG P w K mg base (k + 1) f fd ps sp := by
  obtain ⟨oc, od, kV, doc, pm, an, cdv, ct, osl, rfl, lk, hcd⟩ := F.ex
  refine ⟨len, fun A outer s H args us vs Q E hr hg e0 hb r hsp => ?_⟩
  have inH : ∀ b o, base.get? b = some o → s.heap.get? b = some o := fun b o e => (e0.bs b o e).1
  have kx : K.In s.heap := e0.mod.kin.keeps inH
  refine codeAny_call_function hr.depth (kx _ _ lk) rfl S.co S.gen rfl (PySem.W.codeRec_of kx hcd) (hb _ _ _ _ ?_)
  refine wpAny_newFunctionEnv_cells S.kind (fun p hp => ?_) fun env he s1 x => ?_
  · obtain ⟨n, v⟩ := p
    exact (S.par n (List.of_mem_zip hp).1).imp id fun q => ⟨q, PySem.W.cellsFrom_some _ _ _ (.inl q)⟩
  · subst he
    refine ⟨(e0.mod.nolimit.keeps inH).keeps x.toInCall.keep, codeAny_func ?_⟩
    obtain ⟨t, ht, hq⟩ := hbody cdv A outer s H vs Q E (hr.deeper _) hg hsp
    have I := inv_start (CX := CX0) (E := E) S hr.hd e0 (len _ _ _ _ hsp) r x
    refine wpAny_mono (ht.nox.run [] s1 (start N vs) H _ I hq) (fun fl s' hs => ?_) fun e s' hs => hs
    cases fl with
    | ret u =>
      obtain ⟨v, σ', H', J, rv, q⟩ := hs
      exact ⟨v, H', J.os, J.bare, J.base, J.hok, rv, q⟩
    | next =>
      obtain ⟨σ', H', J, q⟩ := hs
      exact ⟨.non, H', J.os, J.bare, J.base, J.hok, rfl, q⟩
    | brk =>
      obtain ⟨_, _, _, q⟩ := hs
      exact q.elim
    | cont =>
      obtain ⟨_, _, _, q⟩ := hs
      exact q.elim
theorem gen_okG {ι : Type} {x qual : Str} {st : Stmt} {f : Addr} {fd : FuncData} {N ps : List Str} {k : Nat} {pre : ι → List V → Hp → Prop} {post : ι → V → Hp → Prop} (F : Fun K x qual st f fd) (S : FnScope N ps (defScope st)) (hl : ∀ i vs F, pre i vs F → vs.length = ps.length)
    (hb : ∀ (cdv : Value) (A : Around) (outer : List Env) (s : Shared) (H : Hp) (E : XK), Room k (A.deeper (envOfC qual (defScope st) s.heap.objs.size f cdv)) → A.guards = some [] →
      ∃ t, PSs (cxOf CX0 P w K mg base N qual (defScope st) f cdv A outer s H E).nox (defBody st) t ∧ ∀ i vs F (Q : VK), pre i vs F → w0.ok F H → (∀ v F' H', Gr M0 F H F' H' → post i v F' → Q v H') → t { nx := fun _ H' => Q .non H', rt := Q } (start N vs) H) :
    FnOkG P w K mg base (k + 1) f fd ps (spG pre post) := by
  refine okG F S (fun vs H Q E h => ?_) (fun cdv A outer s H vs Q E hr hg h => ?_)
  · obtain ⟨F, i, e, r, q⟩ := h
    exact hl i vs F r
  · obtain ⟨F, i, e, r, q⟩ := h
    obtain ⟨t, h1, h2⟩ := hb cdv A outer s H E hr hg
    exact ⟨t, h1, h2 i vs F Q r (ok0 e) q⟩
theorem pail_okG {ι : Type} {x qual : Str} {st : Stmt} {f : Addr} {fd : FuncData} {N ps : List Str} {k : Nat} {pre : ι → List V → Hp → Prop} {post : ι → V → Hp → Prop} (F : Fun K x qual st f fd) (S : FnScope N ps (defScope st)) (hl : ∀ i vs F, pre i vs F → vs.length + 1 = ps.length)
    (hb : ∀ (cdv : Value) (A : Around) (outer : List Env) (s : Shared) (H : Hp) (E : XK), Room k (A.deeper (envOfC qual (defScope st) s.heap.objs.size f cdv)) → A.guards = some [] →
      ∃ t, PSs (cxOf CX0 P w K mg base N qual (defScope st) f cdv A outer s H E).nox (defBody st) t ∧ ∀ i b vs F (Q : VK), pre i vs F → (wb b).ok F H → (∀ v F' H', Gr (wb b).M F H F' H' → (wb b).ok F' H' → post i v F' → Q v H') → t { nx := fun _ H' => Q .non H', rt := Q } (start N (.ref b :: vs)) H) :
    FnOkG P w K mg base (k + 1) f fd ps (spB pre post) := by
  refine okG F S (fun vs H Q E h => ?_) (fun cdv A outer s H vs Q E hr hg h => ?_)
  · obtain ⟨F, i, b, ws, rfl, e, pk, r, q⟩ := h
    exact hl i ws F r
  · obtain ⟨F, i, b, ws, rfl, e, pk, r, q⟩ := h
    obtain ⟨t, h1, h2⟩ := hb cdv A outer s H E hr hg
    exact ⟨t, h1, h2 i b ws F Q r (okb e pk) fun v F' H' g k' p => q v F' H' g (k'.2.1 b rfl) p⟩
end
section
variable {X : Cx} {x : Str} {f : Addr} {fd : FuncData} {ps : List Str} {k : Nat} {sp : Sp} {e : Expr} {es : List Expr} {t : TA} {p pos : Pos}
theorem run_fnG {pins : List (Addr × Obj)} {σ : St} {H : Hp} {s : Shared} {Q : VK} {us : List Value} {vs : List V} (F : FnOkG X.prog X.w X.K X.mg X.base k f fd ps sp) (hr : Room k X.A) (hg : X.A.guards = some []) (hb : Binds X.K fd ps [])
    (I : Inv X pins σ H s) (r : Vals vs us) (h : sp vs H Q E0) : wpAny (model X.prog X.w) X.A (call (.ref f) us) (EP X pins σ Q) X.xe s := by
  have hl : (us ++ []).length = ps.length := by rw [List.append_nil, ← r.length]; exact F.len _ _ _ _ h
  have b := hb s us I.kIn hl
  rw [List.append_nil] at b
  refine wpAny_call (codeAny_mono (F.run X.A X.stack s H ⟨us, []⟩ us vs Q E0 hr hg I.env0 b r h) fun r s' hq => ?_)
  cases r with
  | error e => exact hq.elim
  | ok fl =>
    cases fl with
    | ret u => exact I.after hq
    | next => exact hq.elim
    | brk => exact hq.elim
    | cont => exact hq.elim
theorem pe_callG (F : FnOkG X.prog X.w X.K X.mg X.base k f fd ps sp) (hr : Room k X.A) (hG : X.A.guards = some []) (hg : Gl X x) (hm : X.mg x = some (.ref f)) (hk : PySem.W.keepIn X.K (.ref f) = true) (hb : Binds X.K fd ps [])
    (ha : PA X (e :: es) t) (hdb : (x == ("__debug__" : Str)) = false := by decide) (he : starEach (e :: es) X.env = (false, eval e X.env) :: starEach es X.env := by rfl) (hpl : (backTo pos (starEach es X.env)).any (·.1) = false := by rfl) :
    PE X (.Call (.Name x p) (e :: es) [] pos) (tCall sp [] E0 t) := by
  refine ⟨fun pins s σ H Q I h => ?_⟩
  refine wpAny_Call_Name_kw (ld_glob I hg hm ?_ hdb)
  refine PySem.W.callWith_K (h₀ := X.base) I.ok.mod.kin hk (thn (ha.run pos pins s σ H _ I h) fun us s1 ⟨vs, H1, I1, r, q⟩ => ⟨I1.kIn, ?_⟩) he hpl
  have q' : sp (vs ++ []) H1 Q E0 := q
  rw [List.append_nil] at q'
  exact run_fnG F hr hG hb I1 r q'
end
end Wk
set_option Elab.async false
set_option linter.all false
set_option maxRecDepth 100000
set_option maxHeartbeats 2000000
/-! Ge: the end of a law whose def is called where no repr is under way -/
namespace Wk
open PySem PySem.Spec PyProof.Rows
open L2 hiding St
section
variable {P : Program} {w : World} {K : PySem.W.Frag} {mg mb : Str → Option Value} {k : Nat} {fa a : Addr} {fd : FuncData} {x : Str} {sp : Sp} {s₁ : Shared} {vs : List Value} {ns : List Int}
/-- the heap behind the top as the ground of a call, where H tracks no more than the script -/
theorem ground_of {H : Hp} (KX : K.In s₁.heap) (hns : s₁.heap.Ns mainGlobals mg) (hb : s₁.heap.Ns builtinsNs mb) (hbb : ∀ x : Str, x ≠ "__name__" → mb x = bootBuiltins x) (hlim : s₁.heap.NoLimit) (hg : s₁.gens = #[])
    (ha : s₁.heap.get? a = some { cls := .type "list", data := .seq vs.toArray }) (hok : HOk P w H s₁.heap) (hA : ∀ b, H b ≠ none → b = a ∧ K.lookup a = none) :
    K.In (hidT s₁.heap H) ∧ (hidT s₁.heap H).Ns mainGlobals mg ∧ Env0 P w K mg (hidT s₁.heap H) callerA [] s₁ H := by
  have free : ∀ {b : Addr} {o : Obj}, s₁.heap.get? b = some o → (b = a → False) → (hidT s₁.heap H).get? b = some o := fun {b o} e n => hidT_get e (Classical.byContradiction fun z => n (hA b z).1)
  have nsK : ∀ {b : Addr} {m : Str → Option Value}, s₁.heap.Ns b m → (hidT s₁.heap H).Ns b m := fun {b m} ⟨o, es, ep, e, d, r⟩ => ⟨o, es, ep, free e (fun z => by
    subst z
    rw [ha] at e
    cases e
    have d' : Data.seq vs.toArray _ = Data.dict es ep := d
    cases d'), d, r⟩
  have kin : K.In (hidT s₁.heap H) := fun b o e => hidT_get (KX b o e) (Classical.byContradiction fun z => by
    obtain ⟨rfl, n⟩ := hA b z
    rw [n] at e
    cases e)
  have lim : (hidT s₁.heap H).NoLimit := by
    obtain ⟨mc, h1, h2⟩ := hlim
    exact ⟨mc, nsK h1, h2⟩
  exact ⟨kin, nsK hns, ⟨rfl, ⟨kin, nsK hns, ⟨mb, nsK hb, hbb⟩, lim⟩, fun b o e => of_hidT e, Nat.le_of_eq (hidT_size _ _), trivial, fun b hb => absurd (show b ∈ ([] : List Addr) from hb) List.not_mem_nil, hok, .of_eq hg⟩⟩
theorem law_callG (KX : K.In s₁.heap) (hns : s₁.heap.Ns mainGlobals mg) (hb : s₁.heap.Ns builtinsNs mb) (hbb : ∀ x : Str, x ≠ "__name__" → mb x = bootBuiltins x) (hlim : s₁.heap.NoLimit) (hg : s₁.gens = #[])
    (ha : s₁.heap.get? a = some { cls := .type "list", data := .seq vs.toArray }) (hi : IntsAre vs ns) (hl : ns.length ≤ sizeLine) (hr : Room k callerA) (hG : callerA.guards = some [])
    (F : ∀ base : Heap, K.In base → base.Ns mainGlobals mg → FnOkG P w K mg base k fa fd [x] sp) (hbind : ∀ (s : Shared) (u : Value), BindsTo s fd ⟨[u], []⟩ [(x, u)])
    (hsp : ∀ H : Hp, Only H → SqL K H a (ns.map V.int) → sp [.ref a] H (fun v _ => v = .bl true) fun _ _ _ => False) :
    codeAny (model P w) callerA (.call (.ref fa) ⟨[.ref a], []⟩) (fun r s' => r = .ok (.ret (.bool true)) ∧ OldK s₁.heap s'.heap ∧ s'.os = s₁.os ∧ AllBare s'.gens) s₁ := by
  have go : ∀ H : Hp, Only H → SqL K H a (ns.map V.int) → HOk P w H s₁.heap → (∀ b, H b ≠ none → b = a ∧ K.lookup a = none) →
      codeAny (model P w) callerA (.call (.ref fa) ⟨[.ref a], []⟩) (fun r s' => r = .ok (.ret (.bool true)) ∧ OldK s₁.heap s'.heap ∧ s'.os = s₁.os ∧ AllBare s'.gens) s₁ := fun H hO hS hok hA => by
    obtain ⟨k1, k2, k3⟩ := ground_of KX hns hb hbb hlim hg ha hok hA
    refine codeAny_mono ((F _ k1 k2).run callerA [] s₁ H ⟨[.ref a], []⟩ [.ref a] [.ref a] _ _ hr hG k3 (hbind s₁ (.ref a)) (.cons rfl .nil) (hsp H hO hS)) fun r s' h => ?_
    cases r with
    | error e => exact h.elim
    | ok fl =>
      cases fl with
      | next => exact h.elim
      | brk => exact h.elim
      | cont => exact h.elim
      | ret u =>
        obtain ⟨v, H', os, bare, un, hok', rv, q⟩ := h
        cases (show v = .bl true from q)
        cases (show u = Value.bool true from rv)
        refine ⟨rfl, OldK.of_keep fun b o e => ?_, os, bare⟩
        rcases hO b with z | ⟨ou, xs, z⟩
        · exact un.keep b o e z (fun y => List.not_mem_nil (show b ∈ ([] : List Addr) from y)) List.not_mem_nil
        · have e1 := (hok b _ z).1
          have e2 := e1.symm.trans e
          cases e2
          exact (hok' b _ (un.frzs b _ _ z)).1
  cases hk : K.lookup a with
  | some o =>
    have e := KX a o hk
    rw [ha] at e
    cases e
    exact go (fun _ => none) (fun _ => .inl rfl) (.inr ⟨_, vs.toArray, _, hk, rfl, rfl, rfl, by rw [List.size_toArray, hi.length]; exact hl, by simpa using vals_ints hi⟩) (fun b u z => nomatch (show (none : Option HO) = some u from z)) fun b z => absurd rfl z
  | none =>
    have at_ : ∀ b, (if b = a then some (HO.frz { cls := .type "list", data := .seq vs.toArray } (.lst (ns.map V.int))) else none) ≠ none → b = a := fun b z => Classical.byContradiction fun n => z (if_neg n)
    refine go (fun b => if b = a then some (.frz { cls := .type "list", data := .seq vs.toArray } (.lst (ns.map V.int))) else none) (fun b => ?_) (.inl (.inr ⟨{ cls := .type "list", data := .seq vs.toArray }, if_pos rfl⟩)) (fun b u z => ?_) fun b z => ⟨at_ b z, hk⟩
    · exact (Classical.em (b = a)).elim (fun y => .inr ⟨_, _, if_pos y⟩) fun y => .inl (if_neg y)
    · obtain rfl : b = a := at_ b (by rw [show (if b = a then some (HO.frz { cls := .type "list", data := .seq vs.toArray } (.lst (ns.map V.int))) else none) = some u from z]; simp)
      cases (if_pos rfl).symm.trans z
      exact ⟨ha, by rw [List.length_map]; exact hl, vs, _, vals_ints hi, ha⟩
end
theorem walk_ofG {l : PySem.W.OpenLaw} {n k : Nat} {q : Program} {loose : List Str} {XP : (Str → Option Value) → Heap → Prop} {YP : World → Heap → Prop} {d : DefRec} {K : Params → PySem.W.Frag} {sp : World → Sp} {x : Str}
    (hn : l.most = some n) (hn2 : n ≤ sizeLine) (hdf : d.params.defaults = []) (hr : Room k callerA) (hG : callerA.guards = some [])
    (hY : ∀ (w : World) (h : Heap), YP w h → (K w.params).In h)
    (F : ∀ (w : World) (mg : Str → Option Value) (fa : Addr) (h : Heap), (K w.params).In h → h.Ns mainGlobals mg → mg d.name = some (.ref fa) →
      ∃ fd : FuncData, (∀ (s : Shared) (u : Value), BindsTo s fd ⟨[u], []⟩ [(x, u)]) ∧
        ∀ base : Heap, (K w.params).In base → base.Ns mainGlobals mg → FnOkG l.prog w (K w.params) mg base k fa fd [x] (sp w))
    (hsp : ∀ (w : World) (H : Hp) (a : Addr) (ns : List Int), ns.length ≤ n → (∀ z ∈ ns, Builtin.Int.intBits z ≤ 1048576) → Only H → SqL (K w.params) H a (ns.map V.int) → sp w [.ref a] H (fun v _ => v = .bl true) fun _ _ _ => False) :
    PySem.W.WalkO q loose XP YP l.row.toRowW d [] (fun f vs => PySem.call f vs) := by
  refine Att.attach_callB hn hdf fun w s₀ s₁ mg mb fa o pm cd doc a vs ns G Y ho hd hcd hmg hobj hints hlen hbits hg => ?_
  have KX := hY w _ Y
  obtain ⟨fd, hb, hF⟩ := F w mg fa _ KX G.T.g hmg
  exact law_callG KX G.T.g G.T.b G.T.builtins G.T.nolimit hg hobj hints (Nat.le_trans hlen hn2) hr hG hF hb fun H hO hS => hsp w H a ns hlen hbits hO hS
end Wk
set_option Elab.async false
set_option linter.all false
set_option maxRecDepth 100000
set_option maxHeartbeats 2000000
/-! Pl: whole numbers that are not named; the pail -/
namespace Wk
open PySem PySem.Spec L2
abbrev EI (w : Wd) (te : TE) (σ : St) (F : Hp) (R : Int → Prop) : Prop := EV w te σ F fun v _ => ∃ n : Int, v = .int n ∧ R n
section
variable {K : PySem.W.Frag} {w : Wd} {σ : St} {F F1 F' H H' : Hp} {ta tb te tc tl : TE} {t u : TT} {P : V → Hp → Prop} {tr : TA} {A B R : Int → Prop} {D : Ends} {tu tw rest : TS}
theorem ei_int {n : Int} (r : R n) : EI w (tC (.int n)) σ F R := ev_c fun _ => ⟨n, rfl, r⟩
theorem ei_var {i : Nat} {n : Int} (h : σ[i]? = some (some (.int n))) (r : R n) : EI w (tVar i) σ F R := ev_var h fun _ _ => ⟨n, rfl, r⟩
theorem ED.ei {n : Int} (h : ED K w te σ F (.int n)) (r : R n) : EI w te σ F R := h.imp fun _ _ p => ⟨n, rp_int p, r⟩
theorem EI.imp {R' : Int → Prop} (h : EI w te σ F R) (i : ∀ n, R n → R' n) : EI w te σ F R' := EV.imp h fun _ _ ⟨n, e, r⟩ => ⟨n, e, i n r⟩
theorem ei_op0 {g : Int → Int → Int} (ha : EI w ta σ F A) (hb : EI w tb σ F B) (hr : ∀ i j, A i → B j → R (g i j)) : EI w (tOp (rI0 fun i j => .int (g i j)) ta tb) σ F R := fun F1 H1 e k Q q =>
  ha F1 H1 e k _ fun x F2 H2 g2 k2 ⟨i, ei, p⟩ => hb F2 H2 (e.trans g2.f) k2 _ fun y F3 H3 g3 k3 ⟨j, ej, p'⟩ => ⟨i, j, ei, ej, q _ F3 H3 (g2.trans g3) k3 ⟨_, rfl, hr i j p p'⟩⟩
theorem ei_op {C : Int → Int → Prop} {g : Int → Int → Int} (ha : EI w ta σ F A) (hb : EI w tb σ F B) (hc : ∀ i j, A i → B j → C i j) (hr : ∀ i j, A i → B j → R (g i j)) : EI w (tOp (rI C fun i j => .int (g i j)) ta tb) σ F R := fun F1 H1 e k Q q =>
  ha F1 H1 e k _ fun x F2 H2 g2 k2 ⟨i, ei, p⟩ => hb F2 H2 (e.trans g2.f) k2 _ fun y F3 H3 g3 k3 ⟨j, ej, p'⟩ => ⟨i, j, ei, ej, hc i j p p', q _ F3 H3 (g2.trans g3) k3 ⟨_, rfl, hr i j p p'⟩⟩
/-- a comparison of numbers that are not named -/
theorem et_cmp {g : Int → Int → Bool} (ha : EI w ta σ F A) (hb : EI w tb σ F B) : ET w (tTest (tOp (rI0 fun i j => .bl (g i j)) ta tb)) σ F fun _ _ => True := fun F1 H1 e k Q q =>
  ha F1 H1 e k _ fun x F2 H2 g2 k2 ⟨i, ei, p⟩ => hb F2 H2 (e.trans g2.f) k2 _ fun y F3 H3 g3 k3 ⟨j, ej, p'⟩ => ⟨i, j, ei, ej, _, rfl, q _ F3 H3 (g2.trans g3) k3 trivial⟩
theorem EB.et {b : Bool} (h : EB w t σ F b) : ET w t σ F fun _ _ => True := fun F1 H1 e k Q q => h F1 H1 e k Q fun v F2 H2 g k2 _ => q v F2 H2 g k2 trivial
theorem et_or (h1 : ET w t σ F fun _ _ => True) (h2 : ET w u σ F fun _ _ => True) : ET w (tOr t u) σ F fun _ _ => True := fun F1 H1 e k Q q => h1 F1 H1 e k _ fun v F2 H2 g k2 p => by
  cases v with
  | true => exact q true F2 H2 g k2 trivial
  | false => exact h2 F2 H2 (e.trans g.f) k2 Q fun v F3 H3 g3 k3 p => q v F3 H3 (g.trans g3) k3 trivial
theorem ei_int1 (ha : EI w ta σ F R) : EI w (tCB (fun xs H Q => (∃ i, xs = [.int i] ∧ Q (.int i) H) ∨ ∃ k, xs = [.bl k] ∧ Q (.int (if k then 1 else 0)) H) (tCons ta tNil)) σ F R := fun F1 H1 e k Q q =>
  ha F1 H1 e k _ fun x F2 H2 g2 k2 ⟨i, ei, p⟩ => .inl ⟨i, by rw [ei], q _ F2 H2 g2 k2 ⟨i, rfl, p⟩⟩
theorem ev_ifT (h : ET w t σ F fun _ _ => True) (h1 : EV w ta σ F P) (h2 : EV w tb σ F P) : EV w (tIf t ta tb) σ F P := fun F1 H1 e k Q q => h F1 H1 e k _ fun v F2 H2 g k2 p => by
  cases v with
  | true => exact iteT (h1 F2 H2 (e.trans g.f) k2 Q fun v F3 H3 g3 k3 p => q v F3 H3 (g.trans g3) k3 p)
  | false => exact iteF (h2 F2 H2 (e.trans g.f) k2 Q fun v F3 H3 g3 k3 p => q v F3 H3 (g.trans g3) k3 p)
theorem q_ifT (k : w.ok F H) (ev : ET w t σ F fun _ _ => True) (h1 : ∀ F' H', Gr w.M F H F' H' → w.ok F' H' → tu { D with nx := rest D } σ H') (h2 : ∀ F' H', Gr w.M F H F' H' → w.ok F' H' → rest D σ H') : tSeq (tIfS t tu tNext) rest D σ H :=
  ev F H (Same.refl F) k _ fun v F' H' g k' p => by
    cases v with
    | true => exact iteT (h1 F' H' g k')
    | false => exact iteF (h2 F' H' g k')
/-! ### the pail -/
/-- an item of the pail -/
theorem ei_pail {b : Addr} {i : Nat} {j : Int} (hb : w.b = some b) (hi : σ[i]? = some (some (.ref b))) (hj : j = 0 ∨ j = 1 ∨ j = 2) : EI w (tOp (rIxL K) (tVar i) (tC (.int j))) σ F fun n => j = 1 → 0 ≤ n ∧ n < 2147483648 := fun F1 H1 e k Q q => by
  obtain ⟨h1, x, y, z, h2, h3⟩ := k.2.1 b hb
  have hs : SqL K H1 b [.int x, .int y, .int z] := .inl (.inl h2)
  refine ⟨.ref b, hi, ?_⟩
  rcases hj with rfl | rfl | rfl
  · exact ⟨b, _, 0, .int x, rfl, rfl, hs, rfl, q _ F1 H1 (Gr.refl k.e) k ⟨x, rfl, fun z => by omega⟩⟩
  · exact ⟨b, _, 1, .int y, rfl, rfl, hs, rfl, q _ F1 H1 (Gr.refl k.e) k ⟨y, rfl, fun _ => h3⟩⟩
  · exact ⟨b, _, 2, .int z, rfl, rfl, hs, rfl, q _ F1 H1 (Gr.refl k.e) k ⟨z, rfl, fun z => by omega⟩⟩
/-- a store there -/
theorem put_pail {b : Addr} {i : Nat} {j n : Int} {Q : St → Hp → Prop} (hb : w.b = some b) (hi : σ[i]? = some (some (.ref b))) (hj : j = 0 ∨ j = 1 ∨ j = 2) (hn : j = 1 → 0 ≤ n ∧ n < 2147483648) (k : w.ok F H)
    (q : ∀ H', Gr w.M F H F H' → w.ok F H' → Q σ H') : gSub (tVar i) (tC (.int j)) rSetL (.int n) σ H Q := by
  obtain ⟨h1, x, y, z, h2, h3⟩ := k.2.1 b hb
  have g : ∀ o : HO, Gr (fun a => a = b) F H F (upd H b o) := fun o => Gr.set k.e h1 rfl
  have st : ∀ x' y' z' : Int, 0 ≤ y' ∧ y' < 2147483648 → Q σ (upd H b (.lst [.int x', .int y', .int z'])) := fun x' y' z' hy => q _ (gr_w hb (g _)) (k.pail hb (g _) ⟨h1, x', y', z', upd_same, hy⟩)
  refine ⟨.ref b, hi, ?_⟩
  rcases hj with rfl | rfl | rfl
  · exact ⟨b, _, 0, 0, rfl, rfl, h2, rfl, st n y z h3⟩
  · exact ⟨b, _, 1, 1, rfl, rfl, h2, rfl, st x n z (hn rfl)⟩
  · exact ⟨b, _, 2, 2, rfl, rfl, h2, rfl, st x y n h3⟩
theorem q_put {b : Addr} {i : Nat} {j : Int} (k : w.ok F H) (hb : w.b = some b) (hi : σ[i]? = some (some (.ref b))) (hj : j = 0 ∨ j = 1 ∨ j = 2) (ev : EI w te σ F fun n => j = 1 → 0 ≤ n ∧ n < 2147483648)
    (q : ∀ F' H', Gr w.M F H F' H' → w.ok F' H' → rest D σ H') : tSeq (tAsg te (gSub (tVar i) (tC (.int j)) rSetL)) rest D σ H :=
  ev F H (Same.refl F) k _ fun v F' H' g k' ⟨n, e, r⟩ => by
    subst e
    exact put_pail hb hi hj r k' fun H2 g2 k2 => q F' H2 (g.trans g2) k2
/-- a def that makes a pail -/
def spN {ι : Type} (pre : ι → List V → Hp → Prop) : Sp := fun vs H Q _ => ∃ (F : Hp) (i : ι), Same F H ∧ pre i vs F ∧ ∀ b F' H', Gr M0 F H F' H' → H b = none → PailOk b F' H' → Q (.ref b) H'
theorem new_ok {P : Program} {w : World} {mg : Str → Option Value} {base : Heap} {ι : Type} {x qual : Str} {st : Stmt} {f : Addr} {fd : FuncData} {N ps : List Str} {k : Nat} {pre : ι → List V → Hp → Prop} (F : Fun K x qual st f fd) (S : FnScope N ps (defScope st)) (hl : ∀ i vs F, pre i vs F → vs.length = ps.length)
    (hb : ∀ (cdv : Value) (A : Around) (outer : List Env) (s : Shared) (H : Hp) (E : XK), Room k (A.deeper (envOfC qual (defScope st) s.heap.objs.size f cdv)) →
      ∃ t, PSs (cxOf CX0 P w K mg base N qual (defScope st) f cdv A outer s H E).nox (defBody st) t ∧ ∀ i vs F (Q : VK), pre i vs F → w0.ok F H → (∀ b F' H', Gr M0 F H F' H' → H b = none → PailOk b F' H' → Q (.ref b) H') → t { nx := fun _ H' => Q .non H', rt := Q } (start N vs) H) :
    FnOk P w K mg base CX0 (k + 1) f fd ps (spN pre) := by
  refine F.ok S (fun vs H Q E h => ?_) (fun cdv A outer s H vs Q E hr h => ?_)
  · obtain ⟨F, i, e, r, q⟩ := h
    exact hl i vs F r
  · obtain ⟨F, i, e, r, q⟩ := h
    obtain ⟨t, h1, h2⟩ := hb cdv A outer s H E hr
    exact ⟨t, h1, h2 i vs F Q r (ok0 e) q⟩
/-- return [x, y, z] -/
theorem s_retN {x y z : Int} (k : w.ok F H) (ev : EDA K w tr σ F [.int x, .int y, .int z]) (hy : 0 ≤ y ∧ y < 2147483648) (q : ∀ b F' H', Gr w.M F H F' H' → H b = none → PailOk b F' H' → D.rt (.ref b) H') : tRet (tLst tr) D σ H :=
  ev F H (Same.refl F) k _ fun vs F' H' g k' p => by
    obtain rfl : vs = [.int x, .int y, .int z] := rpA_int (bs := [x, y, z]) p
    refine ⟨show 3 ≤ sizeLine by decide, fun b hb => ?_⟩
    have hF := freeF k'.e hb
    have h0 : H b = none := by
      cases c : H b with
      | none => rfl
      | some o => exact (g.d b (by rw [c]; exact fun z => nomatch z) hb).elim
    exact q b F' _ (g.trans (Gr.own k'.e hb)) h0 ⟨hF, x, y, z, upd_same, hy⟩
/-- f(new(..), ..), f a def that draws -/
theorem ev_onNew {ι κ : Type} {pre : ι → List V → Hp → Prop} {preN : κ → List V → Hp → Prop} {post : ι → V → Hp → Prop} {E E' : XK} {A : List V → Hp → Prop} (ha : EA w tr σ F A) (j : List V → Hp → κ) (hpN : ∀ vs F1, Same F F1 → A vs F1 → preN (j vs F1) vs F1) (i : ι) (hp : ∀ F1, Same F F1 → pre i [] F1)
    (hq : ∀ v F1, Same F F1 → post i v F1 → P v F1) : EV w (tCall (spB pre post) [] E (tCons (tCall (spN preN) [] E' tr) tNil)) σ F P := fun F1 H1 e k Q q =>
  ha F1 H1 e k _ fun vs F2 H2 g2 k2 p2 => by
    rw [List.append_nil]
    refine ⟨F2, j vs F2, k2.e, hpN vs F2 (e.trans g2.f) p2, fun b F3 H3 g3 h0 pk => ?_⟩
    have e3 := (e.trans g2.f).trans g3.f
    refine ⟨F3, i, b, [], rfl, g3.s, pk, hp F3 e3, fun v F4 H4 g4 pk4 p4 => ?_⟩
    refine q v F4 H4 (g2.trans ((g3.up).thenNew g4 h0)) ((k2.pure g3).other g4 (k2.npb h0) (k2.nls h0)) (hq v F4 (e3.trans g4.f) p4)
end
end Wk
set_option Elab.async false
set_option linter.all false
set_option maxRecDepth 100000
set_option maxHeartbeats 2000000
/-! Pm: the script; drawing -/
namespace Wk
open PySem PySem.Spec L2
section
variable {K : PySem.W.Frag} {w : Wd} {σ : St} {F F1 F' H H' : Hp} {ta tb te tc tl tm : TE} {t u : TT} {P : V → Hp → Prop} {tr : TA} {A B R : Int → Prop} {D : Ends} {tu tw rest : TS} {ns : List Int} {a : Addr} {i : Nat}
theorem ed_lenScr (hi : σ[i]? = some (some (.ref a))) (hs : SqL K F a (ns.map V.int)) : ED K w (tCB (rLenS K) (tCons (tVar i) tNil)) σ F (.int ns.length) := fun F1 H1 e k Q q =>
  ⟨.ref a, hi, a, ns.map V.int, rfl, .inl (sqlM (e.trans k.e) hs), by
    rw [List.length_map]
    exact q _ F1 H1 (Gr.refl k.e) k (.int _)⟩
theorem ed_ixScr {j : Nat} {n : Int} (hi : σ[i]? = some (some (.ref a))) (hs : SqL K F a (ns.map V.int)) (hb : ED K w tb σ F (.int j)) (h : ns[j]? = some n) : ED K w (tOp (rIxL K) (tVar i) tb) σ F (.int n) := fun F1 H1 e k Q q =>
  ⟨.ref a, hi, hb F1 H1 e k _ fun y F2 H2 g2 k2 p2 => ⟨a, _, j, .int n, rfl, rp_int p2, sqlM ((e.trans g2.f).trans k2.e) hs, atI_nat (by rw [List.getElem?_map, h]; rfl), q _ F2 H2 g2 k2 (.int _)⟩⟩
theorem ed_sliceScr {lo hi' : Option Int} {tlo thi : TO} (hi : σ[i]? = some (some (.ref a))) (hs : SqL K F a (ns.map V.int)) (hl : EO w tlo σ F lo) (hh : EO w thi σ F hi') : ED K w (tSl (rSlL K) (tVar i) tlo thi) σ F (.list (cutD (ns.map .int) lo hi')) := fun F1 H1 e k Q q =>
  ⟨.ref a, hi, hl F1 H1 e k _ fun F3 H3 g3 k3 => hh F3 H3 (e.trans g3.f) k3 _ fun F4 H4 g4 k4 => by
    refine ⟨a, _, rfl, sqlM ((e.trans g3.f).trans (g4.f.trans k4.e)) hs, fun p hp => ?_⟩
    have g5 : Gr M0 F4 H4 (upd F4 p (.lst (cutV (ns.map V.int) lo hi'))) (upd H4 p (.lst (cutV (ns.map V.int) lo hi'))) := Gr.new k4.e hp
    exact q _ _ _ ((g3.trans g4).trans g5.up) (k4.pure g5) (.lst upd_same (cut_rp (mkA_int ns) lo hi'))⟩
theorem cut_int {lo hi' : Option Int} {j : Nat} {d : PyData} (h : (cutD (ns.map .int) lo hi')[j]? = some d) : ∃ z, d = .int z := by
  have m := List.mem_of_mem_drop (List.mem_of_mem_take (List.mem_of_getElem? h))
  obtain ⟨z, _, rfl⟩ := List.mem_map.mp m
  exact ⟨z, rfl⟩
theorem q_divmod {b : Addr} {j : Nat} {m : Int} (k : w.ok F H) (hb : w.b = some b) (hi : σ[i]? = some (some (.ref b))) (ea : EI w ta σ F A) (em : ED K w tm σ F (.int m)) (hm : 0 < m ∧ m < 1073741824)
    (q : ∀ f F' H', 0 ≤ f → f < m → Gr w.M F H F' H' → w.ok F' H' → rest D (σ.set j (some (.int f))) H') :
    tSeq (tAsg (tCB (fun xs H Q => ∃ i j, xs = [.int i, .int j] ∧ CDiv i j ∧ ∀ p, H p = none → Q (.ref p) (upd H p (.tup [.int (i / j), .int (i % j)]))) (tCons ta (tCons tm tNil))) (gTup K 2 (gCons (gSub (tVar i) (tC (.int 0)) rSetL) (gCons (gName j) gNil)))) rest D σ H :=
  ea F H (Same.refl F) k _ fun x F2 H2 g2 k2 ⟨n, en, _⟩ => em F2 H2 g2.f k2 _ fun y F3 H3 g3 k3 p3 => by
    refine ⟨n, m, by rw [en, rp_int p3], hm, fun p hp => ?_⟩
    have g4 : Gr M0 F3 H3 F3 (upd H3 p (.tup [.int (n / m), .int (n % m)])) := Gr.own k3.e hp
    refine ⟨p, _, rfl, .inl (.inl upd_same), rfl, _, _, rfl, ?_⟩
    refine put_pail hb hi (.inl rfl) (fun z => absurd z (by decide)) (k3.pure g4) fun H5 g5 k5 => ⟨_, _, rfl, rfl, ?_⟩
    exact q (n % m) F3 H5 (Int.emod_nonneg _ (by omega)) (Int.emod_lt_of_pos _ hm.1) (((g2.trans g3).trans g4.up).trans g5) k5
theorem ed_ifx {b : Bool} {x y : Int} (h : EB w t σ F b) (h1 : b = true → ED K w ta σ F (.int x)) (h2 : b = false → ED K w tb σ F (.int y)) : ED K w (tIf t ta tb) σ F (.int (if b then x else y)) := ev_if h (fun c => by
    subst c
    exact h1 rfl) fun c => by
    subst c
    exact h2 rfl
/-- the spec of cast -/
abbrev spCast : Sp := spB (ι := Int) (fun m vs _ => vs = [.int m] ∧ 0 < m ∧ m < 1073741824) (fun m v _ => ∃ r : Int, v = .int r ∧ 0 ≤ r ∧ r < m)
theorem ei_cast {b : Addr} {m : Int} {E : XK} (hb : w.b = some b) (hi : σ[i]? = some (some (.ref b))) (em : ED K w tm σ F (.int m)) (hm : 0 < m ∧ m < 1073741824) : EI w (tCall spCast [] E (tCons (tVar i) (tCons tm tNil))) σ F fun r => 0 ≤ r ∧ r < m :=
  ev_callB hb (ed'_var hi) (eda_cons em eda_nil) (fun _ _ => m) (fun vs F1 _ p => ⟨rpA_int (bs := [m]) p, hm⟩) fun _ _ _ _ _ _ _ p => p
/-- an item, drawn -/
theorem er_ixL {ds : List PyData} (ha : ED K w ta σ F (.list ds)) (hb : EI w tb σ F fun r => 0 ≤ r ∧ r < ds.length) : ER K w (tOp (rIxL K) ta tb) σ F fun d => d ∈ ds := fun F1 H1 e k Q q =>
  ha F1 H1 e k _ fun x F2 H2 g2 k2 p2 => hb F2 H2 (e.trans g2.f) k2 _ fun y F3 H3 g3 k3 ⟨r, er, h0, h1⟩ => by
    obtain ⟨a, xs, rfl, hx, ra⟩ := rp_lst p2
    obtain ⟨n, rfl⟩ : ∃ n : Nat, r = n := ⟨r.toNat, by omega⟩
    have hn : n < ds.length := by omega
    obtain ⟨v, hv, rv⟩ := ra.get (List.getElem?_eq_getElem hn)
    exact ⟨a, xs, n, v, rfl, er, rp_sqL (g3.f.trans k3.e) hx, atI_nat hv, q v F3 H3 (g2.trans g3) k3 ⟨ds[n], List.getElem_mem hn, rv.mono g3.f⟩⟩
abbrev spAny (K : PySem.W.Frag) : Sp := spB (ι := List PyData) (fun ds vs F => RpA K F vs [.list ds] ∧ 0 < ds.length ∧ ds.length < 1000000) (fun ds v F' => ∃ d, d ∈ ds ∧ Rp K F' v d)
theorem er_any {b : Addr} {ds : List PyData} {E : XK} (hb : w.b = some b) (hi : σ[i]? = some (some (.ref b))) (em : ED K w tm σ F (.list ds)) (h0 : 0 < ds.length) (h1 : ds.length < 1000000) : ER K w (tCall (spAny K) [] E (tCons (tVar i) (tCons tm tNil))) σ F fun d => d ∈ ds :=
  ev_callB hb (ed'_var hi) (eda_cons em eda_nil) (fun _ _ => ds) (fun vs F1 _ p => ⟨p, h0, h1⟩) fun _ _ _ _ _ _ _ p => p
/-- a number of tables, drawn -/
abbrev Num (n : Int) : Prop := -1000000 ≤ n ∧ n ≤ 1000000
abbrev spNum : Sp := spB (ι := Unit) (fun _ vs _ => vs = []) (fun _ v _ => ∃ n : Int, v = .int n ∧ Num n)
theorem ei_num {b : Addr} {E : XK} (hb : w.b = some b) (hi : σ[i]? = some (some (.ref b))) : EI w (tCall spNum [] E (tCons (tVar i) tNil)) σ F Num :=
  ev_callB hb (ed'_var hi) (ea_nil (P := fun vs _ => vs = []) fun _ => rfl) (fun _ _ => ()) (fun vs F1 _ p => p) fun _ _ _ _ _ _ _ p => p
/-- the spec of begun -/
abbrev spBegun (K : PySem.W.Frag) : Sp := spN (ι := List Int × Nat) (fun i vs F => (∃ a, vs = [.ref a, .int i.2] ∧ SqL K F a (i.1.map V.int)) ∧ (∀ z ∈ i.1, Builtin.Int.intBits z ≤ 1048576) ∧ i.2 < 100)
end
end Wk
set_option Elab.async false
set_option linter.all false
set_option maxRecDepth 100000
set_option maxHeartbeats 2000000
/-! Pn: loops over a drawn range; lists of known kinds; the spec of drawn tables -/
namespace Wk
open PySem PySem.Spec L2 Lt
section
variable {K : PySem.W.Frag} {w : Wd} {σ : St} {F F1 F' H H' : Hp} {ta tb te tc tl tm : TE} {t u : TT} {P : V → Hp → Prop} {tr : TA} {R : Int → Prop} {D : Ends} {tu tw rest : TS}
theorem s_forRE {g : TG} (k : w.ok F H) (ev : EI w te σ F R) (hz : ∀ n, R n → -1000000 ≤ n ∧ n ≤ 1000000) (q : ∀ n F1 H1, R n → Gr w.M F H F1 H1 → w.ok F1 H1 → ∃ I : Nat → St → Hp → Hp → Prop, I 0 σ F1 H1 ∧
      (∀ (i : Nat) σ' F' H', (i : Int) < n → I i σ' F' H' → g (.int i) σ' H' fun σ2 H2 => tu { D with nx := fun σ H => ∃ F, I (i + 1) σ F H, ct := fun σ H => ∃ F, I (i + 1) σ F H, bk := D.nx } σ2 H2) ∧ ∀ σ' F' H', I n.toNat σ' F' H' → D.nx σ' H') :
    tFor (iRng1 (tCons te tNil)) g tu D σ H := ev F H (Same.refl F) k _ fun v F1 H1 g1 k1 ⟨n, en, rn⟩ => by
  obtain ⟨h1, h2⟩ := hz n rn
  obtain ⟨I, i0, is, id⟩ := q n F1 H1 rn g1 k1
  refine ⟨n, by rw [en], by omega, by omega, for_range (lo := 0) (n := n.toNat) (fun i σ H => ∃ F, I i σ F H) ⟨F1, i0⟩ (fun i σ' H' hi ⟨F', p⟩ => ?_) fun σ' H' ⟨F', p⟩ => id σ' F' H' p⟩
  rw [Int.zero_add]
  exact is i σ' F' H' (by omega) p
theorem ER.imp {R R' : PyData → Prop} (h : ER K w te σ F R) (i : ∀ d, R d → R' d) : ER K w te σ F R' := EV.imp h fun _ _ ⟨d, r, p⟩ => ⟨d, i d r, p⟩
theorem EI.er {R : Int → Prop} (h : EI w te σ F R) : ER K w te σ F fun d => ∃ n, d = .int n ∧ R n := EV.imp h fun _ _ ⟨n, e, r⟩ => ⟨.int n, ⟨n, rfl, r⟩, by rw [e]; exact .int n⟩
end
theorem each_of {α : Type} {f : α → PyData} {P : α → Prop} : ∀ {es : List PyData}, (∀ e ∈ es, ∃ z, e = f z ∧ P z) → ∃ zs : List α, es = zs.map f ∧ ∀ z ∈ zs, P z
  | [], _ => ⟨[], rfl, fun _ h => nomatch h⟩
  | e :: es, h => by
    obtain ⟨z, rfl, hz⟩ := h e (List.mem_cons_self ..)
    obtain ⟨zs, rfl, hzs⟩ := each_of fun y hy => h y (List.mem_cons_of_mem _ hy)
    refine ⟨z :: zs, rfl, fun y hy => ?_⟩
    rcases List.mem_cons.mp hy with rfl | hy
    · exact hz
    · exact hzs y hy
/-- drawn tables -/
def IsTs (K : PySem.W.Frag) (v : V) (F : Hp) : Prop := ∃ n ts, Good n ts ∧ Rp K F v (encTs ts)
abbrev spGrids (K : PySem.W.Frag) : Sp := spB (ι := Unit) (fun _ vs _ => vs = []) (fun _ v F' => IsTs K v F')
abbrev spBuilt (K : PySem.W.Frag) (C : Addr) : Sp := spB (ι := LotI) (fun i vs F => RpA K F vs [encTs i.2] ∧ Good i.1 i.2) (fun i v F' => IsLot K C i.1 i.2 v F')
end Wk
set_option Elab.async false
set_option linter.all false
set_option maxRecDepth 100000
set_option maxHeartbeats 2000000
/-! Sw: how long what is shown may be -/
namespace Wk
open PySem PySem.Spec L2 Lt TL
/-- signs below 16 ** 8 -/
def Sm (x : Str) : Prop := ∀ c ∈ tl x, c < 4294967296
theorem sm_app {x y : Str} (h : Sm x) (g : Sm y) : Sm (x ++ y) := fun c hc => by
  rw [tl_append] at hc
  exact (List.mem_append.mp hc).elim (h c) (g c)
theorem sm_int (i : Int) : Sm (intS i) := fun c hc => by
  have h : c ∈ Tx.intL i := by
    rw [← Tx.tl_int]
    exact hc
  have := Tx.intL_signs c h
  omega
theorem sm_join {s : Str} {l : List Str} (h : Sm s) (g : ∀ x ∈ l, Sm x) : Sm (Txt.join s l) := fun c hc => by
  rw [join_eq, tl_join] at hc
  rcases joinL_mem hc with z | ⟨p, hp, z⟩
  · exact h c z
  · obtain ⟨x, hx, rfl⟩ := List.mem_map.mp hp
    exact g x hx c z
theorem sm_by {x : Str} (h : x.cps.toList.all (· < 4294967296) = true) : Sm x := fun c hc => of_decide_eq_true (List.all_eq_true.mp h c hc)
theorem sm_row (r : List Int) : Sm (rowS r) := sm_join (sm_by (by decide +kernel)) fun x hx => by
  obtain ⟨i, _, rfl⟩ := List.mem_map.mp hx
  exact sm_int i
theorem sm_text (n : Nat) (ts : List (List (List Int))) : Sm (textOf n ts) := sm_join (sm_by (by decide +kernel)) fun x hx => by
  rcases List.mem_cons.mp hx with rfl | hx
  · exact sm_app (sm_by (by decide +kernel)) (sm_int n)
  · obtain ⟨t, _, ht⟩ := List.mem_flatMap.mp hx
    rcases List.mem_cons.mp ht with rfl | ht
    · exact sm_by (by decide +kernel)
    · obtain ⟨r, _, rfl⟩ := List.mem_map.mp ht
      exact sm_row r
/-- at most m signs, at most e deep -/
structure Sh (d : PyData) (m e : Nat) : Prop where
  sh : d.showable = true
  nd : d.hasDict = false
  dp : d.depth ≤ e
  sz : d.shown.length ≤ m
theorem Sh.mono {d : PyData} {m e m' e' : Nat} (h : Sh d m e) (hm : m ≤ m') (he : e ≤ e') : Sh d m' e' := ⟨h.sh, h.nd, Nat.le_trans h.dp he, Nat.le_trans h.sz hm⟩
theorem Sh.shows {d : PyData} {m e : Nat} (h : Sh d m e) (hm : m ≤ 16777216) (he : e < 40) : Shows d := ⟨h.sh, h.nd, Nat.lt_of_le_of_lt h.dp he, Nat.le_trans h.sz (Nat.le_trans hm (by decide))⟩
theorem sh_int {i : Int} {k : Nat} (h : i.natAbs < 10 ^ k) (hk : 0 < k) (h2 : k ≤ 480) : Sh (.int i) (k + 1) 0 := by
  refine ⟨?_, by simp only [PyData.hasDict], by simp only [PyData.depth]; exact Nat.le_refl _, ?_⟩
  · simp only [PyData.showable, decide_eq_true_eq]
    refine small_log (n := 4 * k) (Nat.lt_of_lt_of_le h ?_) (by omega) (by omega)
    rw [Nat.pow_mul]
    exact Nat.pow_le_pow_left (by decide) k
  · show (Str.ofString (toString i)).length ≤ k + 1
    exact len_int hk h
theorem sh_str {x : Str} {k : Nat} (s : Sm x) (h : x.length ≤ k) : Sh (.str x) (10 * k + 2) 0 := by
  refine ⟨by simp only [PyData.showable], by simp only [PyData.hasDict], by simp only [PyData.depth]; exact Nat.le_refl _, ?_⟩
  have := StrLaws.reprText_len x fun c hc => s c hc
  show (reprText x).length ≤ _
  omega
theorem sh_bool {b : Bool} : Sh (.bool b) 5 0 := by
  refine ⟨by simp only [PyData.showable], by simp only [PyData.hasDict], by simp only [PyData.depth]; exact Nat.le_refl _, ?_⟩
  cases b <;> decide +kernel
theorem sh_none : Sh .none 4 0 := ⟨by simp only [PyData.showable], by simp only [PyData.hasDict], by simp only [PyData.depth]; exact Nat.le_refl _, by decide +kernel⟩
theorem sh_all {m e : Nat} : ∀ {ds : List PyData}, (∀ d ∈ ds, Sh d m e) → PyData.showableAll ds = true ∧ PyData.hasDictAll ds = false ∧ PyData.depthAll ds ≤ e ∧ piled (PyData.shownAll ds) ≤ ds.length * (m + 2)
  | [], _ => by
    simp only [PyData.showableAll, PyData.hasDictAll, PyData.depthAll, PyData.shownAll]
    exact ⟨trivial, trivial, Nat.zero_le _, Nat.zero_le _⟩
  | d :: ds, h => by
    obtain ⟨h1, h2, h3, h4⟩ := sh_all fun x hx => h x (List.mem_cons_of_mem _ hx)
    have g := h d (List.mem_cons_self ..)
    have := g.dp
    have := g.sz
    simp only [PyData.showableAll, PyData.hasDictAll, PyData.depthAll, PyData.shownAll, piled_cons, List.length_cons, g.sh, g.nd, h1, h2, Nat.succ_mul]
    exact ⟨rfl, rfl, by omega, by omega⟩
theorem piled_len : ∀ ts : List Str, (ts.map (·.length)).sum + 2 * ts.length = piled ts
  | [] => rfl
  | t :: ts => by
    have := piled_len ts
    rw [piled_cons, List.map_cons, List.sum_cons, List.length_cons]
    omega
theorem sh_list {ds : List PyData} {m e k : Nat} (h : ∀ d ∈ ds, Sh d m e) (hk : ds.length ≤ k) : Sh (.list ds) (k * (m + 2) + 3) (e + 1) := by
  obtain ⟨h1, h2, h3, h4⟩ := sh_all h
  refine ⟨by simpa only [PyData.showable] using h1, by simpa only [PyData.hasDict] using h2, by simp only [PyData.depth]; omega, ?_⟩
  simp only [PyData.shown]
  have := listText_len_le (PyData.shownAll ds)
  have := piled_len (PyData.shownAll ds)
  have := Nat.mul_le_mul_right (m + 2) hk
  omega
theorem sh_tup {ds : List PyData} {m e k : Nat} (h : ∀ d ∈ ds, Sh d m e) (hk : ds.length ≤ k) : Sh (.tuple ds) (k * (m + 2) + 3) (e + 1) := by
  obtain ⟨h1, h2, h3, h4⟩ := sh_all h
  refine ⟨by simpa only [PyData.showable] using h1, by simpa only [PyData.hasDict] using h2, by simp only [PyData.depth]; omega, ?_⟩
  simp only [PyData.shown]
  have := fmt_text (PyData.shownAll ds)
  have := Nat.mul_le_mul_right (m + 2) hk
  omega
theorem sh_row {n : Nat} {r : List Int} (g : GoodR n r) (hn : n ≤ 4) : Sh (encR r) 43 1 := (sh_tup (k := 4) (m := 8) (fun d hd => by
  obtain ⟨i, hi, rfl⟩ := List.mem_map.mp hd
  have := g.le i hi
  exact sh_int (k := 7) (by omega) (by decide) (by decide)) (by rw [List.length_map, g.len]; exact hn)).mono (by decide) (Nat.le_refl _)
theorem sh_table {n : Nat} {t : List (List Int)} (g : GoodT n t) (hn : n ≤ 4) : Sh (encT t) 183 2 := (sh_tup (k := 4) (m := 43) (fun d hd => by
  obtain ⟨r, hr, rfl⟩ := List.mem_map.mp hd
  exact sh_row (g.row r hr) hn) (by rw [List.length_map, g.len]; exact hn)).mono (by decide) (Nat.le_refl _)
theorem sh_tables {n : Nat} {ts : List (List (List Int))} (g : Good n ts) : Sh (encTs ts) 558 3 := (sh_tup (k := 3) (m := 183) (fun d hd => by
  obtain ⟨t, ht, rfl⟩ := List.mem_map.mp hd
  exact sh_table (g.tab t ht) g.n4) (by rw [List.length_map]; exact g.l3)).mono (by decide) (Nat.le_refl _)
theorem sh_text {n : Nat} {ts : List (List (List Int))} (g : Good n ts) : Sh (.str (textOf n ts)) 6002 0 := (sh_str (sm_text n ts) (len_text g)).mono (by decide) (Nat.le_refl _)
end Wk
set_option Elab.async false
set_option linter.all false
set_option maxRecDepth 100000
set_option maxHeartbeats 2000000
/-! Oe: == and != of two instances of a class with its own == -/
namespace Wk
open PySem PySem.Spec L2
section
variable {M : Model} {prog : Program} {w : World} {A : Around} {E : Value → Shared → Prop} {s : Shared} {K : PySem.W.Frag} {x C f : Addr} {ox : Obj} {od : Option Obj} {b : Value}
theorem ifBound_ne {args : List Value} {Q : Option Value → Shared → Prop} (X : K.In s.heap) (I : PySem.W.InstAt s.heap x ox C od) (hs : PySem.W.findIn K (.ref C) "__ne__" = some (some (.builtin "object.__ne__")))
    (h : wpAny M A (call (.builtin "object.__ne__") (.ref x :: args)) (fun v => Q (some v)) E s) : wpAny M A (callSpecialIfBound? (.ref x) "__ne__" args) Q E s := by
  simp only [callSpecialIfBound?, bindSpecialIfBound?]
  refine wpAny_holding (wpAny_bind (wpAny_bind (wpAny_bind (I.type.here ((PySem.W.looks_findIn X hs).here ?_)))))
  refine wpAny_bind (wpAny_askSetting (wpAny_ite ?_))
  have done : wpAny M A (call (.builtin "object.__ne__") ([.ref x] ++ args) >>= fun v => pure (some v)) Q E s := wpAny_bind (wpAny_mono h (fun v s' h' => wpAny_pure h') fun _ _ h' => h')
  split
  · exact wpAny_bind (wpAny_of_eq (F.cmp_object.ne.bind _) (wpAny_pure (by exact done)))
  · exact wpAny_tryCatch (wpAny_bind (wpAny_of_eq (F.cmp_object.ne.bind _) (wpAny_pure (by exact done))))
theorem entry_ne {Q : Fin → Shared → Prop} (hu : A.units < cLine) (X : K.In s.heap) (I : PySem.W.InstAt s.heap x ox C od) (hs : PySem.W.findIn K (.ref C) "__eq__" = some (some (.ref f))) (hf : PySem.W.isFn K (.ref f) = true)
    (h : wpAny M A (call (.ref f) [.ref x, b]) (fun v s' => ∃ k, v = .bool k ∧ Q (.done (.ret (.bool (!k)))) s') E s) : wpAny M A (Builtin.«object.__ne__» ⟨[.ref x, b], []⟩) Q E s := by
  unfold Builtin.«object.__ne__»
  repeat (first | with_reducible refine wpAny_cRoomFor hu ?_ | with_reducible refine PySem.W.ifBound_K X I hs hf (wpAny_mono h (fun v s' hv => ?_) fun _ _ e => e) | wp_step)
  obtain ⟨k, rfl, q⟩ := hv
  refine wpAny_bind (wpAny_truthy_bool ?_)
  repeat wp_step
  exact q
theorem call_ne {Q : Value → Shared → Prop} (hu : A.units + 1 < cLine) (X : K.In s.heap) (I : PySem.W.InstAt s.heap x ox C od) (hm : PySem.W.mroIn K C (.type "object") = some true) (hs : PySem.W.findIn K (.ref C) "__eq__" = some (some (.ref f))) (hf : PySem.W.isFn K (.ref f) = true)
    (h : wpAny (model prog w) A.in1 (call (.ref f) [.ref x, b]) (fun v s' => ∃ k, v = .bool k ∧ Q (.bool (!k)) s') E s) : wpAny (model prog w) A (call (.builtin "object.__ne__") [.ref x, b]) Q E s :=
  wpAny_call (codeAny_call_builtin F.cmp_object.ne.plain F.cmpEntry_ne (PySem.W.check_slot F.cmpKind_ne F.cmpSplit_ne (I.type.andThen (PySem.W.looks_mroIn X hm)) (F.cmpArgs_ne _ _) (entry_ne (A := A.in1) hu X I hs hf h)))
/-- != by the own == -/
theorem cmp_ne {Q : Value → Shared → Prop} (hu : A.units + 1 < cLine) (X : K.In s.heap) (I : PySem.W.InstAt s.heap x ox C od) {tb : Value} (hb : PySem.W.Looks (model prog w) s.heap (typeOf b) tb) (hn : PySem.W.notFirst K C tb = true)
    (hne : PySem.W.findIn K (.ref C) "__ne__" = some (some (.builtin "object.__ne__"))) (hm : PySem.W.mroIn K C (.type "object") = some true) (hs : PySem.W.findIn K (.ref C) "__eq__" = some (some (.ref f))) (hf : PySem.W.isFn K (.ref f) = true)
    (h : wpAny (model prog w) A.in1 (call (.ref f) [.ref x, b]) (fun v s' => ∃ k, v = .bool k ∧ Q (.bool (!k)) s') E s) : wpAny (model prog w) A (richCompare .NotEq (.ref x) b) Q E s := by
  have tried : wpAny (model prog w) A (tryCompare (.ref x) "__ne__" b) (fun r s' => ∃ k, r = some (.bool k) ∧ Q (.bool k) s') E s := by
    unfold tryCompare
    exact wpAny_bind (ifBound_ne X I hne (call_ne hu X I hm hs hf (wpAny_mono h (fun v s' ⟨k, e, q⟩ => ⟨k, e, wpAny_pure ⟨_, rfl, q⟩⟩) fun _ _ e => e)))
  have left : ∀ {r : Bool}, r = false → wpAny (model prog w) A (do
      if r = true then
        if let some v ← tryCompare b "__ne__" (.ref x) then rule "compare.subclass-reflected-first"; return v
      if let some v ← tryCompare (.ref x) "__ne__" b then return v
      if (!r) = true then
        if let some v ← tryCompare b "__ne__" (.ref x) then return v
      rule "compare.ne-identity"; return .bool (!(← isSame (.ref x) b))) Q E s := by
    rintro r rfl
    simp only [Bool.false_eq_true, if_false]
    refine wpAny_bind (wpAny_mono tried (fun r s' ⟨k, e, q⟩ => ?_) fun _ _ e => e)
    subst e
    exact wpAny_pure q
  simp only [richCompare, cmpInfo, oneThing_ref]
  refine wpAny_holding (wpAny_bind (wpAny_cRoomFor (by omega) ?_))
  refine wpAny_bind (I.type.here (wpAny_bind (hb.here ?_)))
  split
  · rename_i q
    have e : PySem.W.subIn K tb (.ref C) = some false := by
      rcases Bool.or_eq_true_iff.mp hn with e | e
      · rw [beq_iff_eq.mp e] at q
        simp at q
      · exact beq_iff_eq.mp e
    exact wpAny_bind ((PySem.W.looks_subIn X e).here (left rfl))
  · exact wpAny_bind (wpAny_pure (left rfl))
end
/-- a class with its own == -/
structure OwnEq (K : PySem.W.Frag) (C f : Addr) : Prop where
  eq : PySem.W.findIn K (.ref C) "__eq__" = some (some (.ref f))
  fn : PySem.W.isFn K (.ref f) = true
  ne : PySem.W.findIn K (.ref C) "__ne__" = some (some (.builtin "object.__ne__"))
  ob : PySem.W.mroIn K C (.type "object") = some true
section
variable {X : Cx} {k : Nat} {C f : Addr} {fd : FuncData} {sp : Sp}
def rEqO (C : Addr) (sp : Sp) (g : Bool → Bool) : R2 := fun x y H Q => ∃ a b dx dy fs gs, x = .ref a ∧ y = .ref b ∧ H a = some (.ins C dx fs) ∧ H b = some (.ins C dy gs) ∧ sp [.ref a, .ref b] H (fun v H' => ∃ c, v = .bl c ∧ Q (.bl (g c)) H') E0
theorem run_eq {pins : List (Addr × Obj)} {σ : L2.St} {H : Hp} {s : Shared} {A : Around} {a b : Addr} {ps : List Str} {Q : VK} (F : FnOk X.prog X.w X.K X.mg X.base CX0 k f fd ps sp) (hr : Room k A) (hb : Binds X.K fd ps []) (e0 : Env0 X.prog X.w X.K X.mg X.base A X.stack s H) (I : Inv X pins σ H s) (h : sp [.ref a, .ref b] H Q E0) :
    wpAny (model X.prog X.w) A (call (.ref f) [.ref a, .ref b]) (EP X pins σ Q) X.xe s := by
  have r2 : Vals [V.ref a, V.ref b] [Value.ref a, Value.ref b] := .cons rfl (.cons rfl .nil)
  have bd := hb s [.ref a, .ref b] I.kIn (by simpa using F.len _ _ _ _ h)
  rw [List.append_nil] at bd
  refine wpAny_call (codeAny_mono (F.run A X.stack s H ⟨[.ref a, .ref b], []⟩ [.ref a, .ref b] [.ref a, .ref b] Q E0 hr e0 bd r2 h) fun r s' hq => ?_)
  cases r with
  | error er => exact hq.elim
  | ok fl =>
    cases fl with
    | ret u => exact I.after hq
    | next => exact hq.elim
    | brk => exact hq.elim
    | cont => exact hq.elim
theorem oE_eq {ps : List Str} (O : OwnEq X.K C f) (F : FnOk X.prog X.w X.K X.mg X.base CX0 k f fd ps sp) (hr : Room k X.A) (hb : Binds X.K fd ps []) : OpR X (compareOp .Eq) (rEqO C sp fun c => c) := by
  intro pins s σ H x y v u Q I rx ry h
  obtain ⟨a, b, dx, dy, fs, gs, rfl, rfl, ha, hb', hsp⟩ := h
  cases rx
  cases ry
  obtain ⟨mA, J, _⟩ := ins_get I.hok ha
  obtain ⟨mB, J', _⟩ := ins_get I.hok hb'
  obtain ⟨od, J, _⟩ := J.look
  obtain ⟨od', J', _⟩ := J'.look
  obtain ⟨m, hF⟩ := I.fr
  refine PySem.W.cmp_K (op := .Eq) (tb := .ref C) hr.units0 hF I.ok.mod.kin J J'.type (by simp [PySem.W.notFirst]) O.eq O.fn (wpAny_mono (run_eq F hr hb I.env0 I hsp) (fun r s' z => ?_) fun _ _ e => e)
  obtain ⟨z, H', I', rz, c, ez, q⟩ := z
  subst ez
  cases rz
  exact ⟨.bl c, H', I', rfl, q⟩
theorem oE_ne {ps : List Str} (O : OwnEq X.K C f) (F : FnOk X.prog X.w X.K X.mg X.base CX0 k f fd ps sp) (hr : Room (k + 1) X.A) (hb : Binds X.K fd ps []) : OpR X (compareOp .NotEq) (rEqO C sp fun c => !c) := by
  intro pins s σ H x y v u Q I rx ry h
  obtain ⟨a, b, dx, dy, fs, gs, rfl, rfl, ha, hb', hsp⟩ := h
  cases rx
  cases ry
  obtain ⟨mA, J, _⟩ := ins_get I.hok ha
  obtain ⟨mB, J', _⟩ := ins_get I.hok hb'
  obtain ⟨od, J, _⟩ := J.look
  obtain ⟨od', J', _⟩ := J'.look
  have hu := hr.units
  refine cmp_ne (tb := .ref C) (by omega) I.kIn J J'.type (by simp [PySem.W.notFirst]) O.ne O.ob O.eq O.fn (wpAny_mono (run_eq F hr.in1 hb I.env0.in1 I hsp) (fun r s' z => ?_) fun _ _ e => e)
  obtain ⟨z, H', I', rz, c, ez, q⟩ := z
  subst ez
  cases rz
  exact ⟨c, rfl, .bl (!c), H', I', rfl, q⟩
end
end Wk
set_option Elab.async false
set_option linter.all false
set_option maxRecDepth 100000
set_option maxHeartbeats 2000000
/-! Cm: C.m(k = e), m a classmethod; == of lots; lists of lots -/
namespace Wk
open PySem PySem.Spec L2 Lt
/-- C.m(k = e, ..) -/
def tCMethK (C : Addr) (m : Nat) (gV : List V → List V → List V) (sp : Sp) (E : XK) (ta : TE) (tk : TA) : TE := fun σ H Q => ta σ H fun x H1 => x = .ref C ∧ tk σ H1 fun zs H2 => zs.length = m ∧ sp (gV [.ref C] zs) H2 Q E
section
variable {X : Cx} {k : Nat} {C p g : Addr} {mc : Value} {sp : Sp} {E : XK} {o : Expr} {m : Str} {pos apos : Pos} {ta : TE} {tk : TA} {pl : Sem Bool} {kws : List Keyword} {fd : FuncData} {ps ks : List Str} {gg : List Value → List Value → List Value} {gV : List V → List V → List V}
theorem run_cmK {pins : List (Addr × Obj)} {σ : L2.St} {H : Hp} {s : Shared} {q : Addr} {Q : VK} {ws : List Value} {zs : List V} (F : FnOk X.prog X.w X.K X.mg X.base CX0 k g fd ps sp) (hr : Room k X.A) (hb : KBn X.K fd ps 1 ks gg gV) (I : Inv X ((q, PySem.W.methodObj (.ref g) (.ref C)) :: pins) σ H s)
    (r : Vals zs ws) (l : zs.length = ks.length) (h : sp (gV [.ref C] zs) H Q E) : wpAny (model X.prog X.w) X.A (call (.ref q) [] (ks.zip ws)) (EP X pins σ Q) X.xe s := by
  have r1 : Vals [V.ref C] [Value.ref C] := .cons rfl .nil
  have z : wpAny (model X.prog X.w) X.A (call (.ref q) [] (ks.zip ws)) (EP X ((q, PySem.W.methodObj (.ref g) (.ref C)) :: pins) σ Q) X.xe s := by
    refine wpAny_call (PySem.W.method_call (ClX.pin_at I) (codeAny_mono (F.run X.A X.stack s H ⟨[.ref C], ks.zip ws⟩ (gg [.ref C] ws) (gV [.ref C] zs) Q E hr I.env0 (hb.to s [.ref C] ws I.kIn rfl (r.length.symm.trans l)) (hb.rel r1 r) h) fun r s' hq => ?_))
    cases r with
    | error e => exact hq.elim
    | ok fl =>
      cases fl with
      | ret u => exact I.after hq
      | next => exact hq.elim
      | brk => exact hq.elim
      | cont => exact hq.elim
  exact thn z fun _ _ y => ClX.unpinE y
theorem pe_cmethK (he : PE X o ta) (r : ClX.CRead X.K C mc) (c : ClX.CMet X.K C mc m p g) (F : FnOk X.prog X.w X.K X.mg X.base CX0 k g fd ps sp) (hr : Room k X.A) (hb : KBn X.K fd ps 1 ks gg gV) (hkw : PK X kws tk)
    (hall : (backToKw pos (keywordEach kws X.env)).all (·.1.isSome) = true := by rfl) (hks : (backToKw pos (keywordEach kws X.env)).filterMap (·.1) = ks := by rfl)
    (hpl : ((backTo pos (starEach [] X.env)).any (·.1) || (backToKw pos (keywordEach kws X.env)).any (·.1.isNone)) = false := by rfl)
    (ht : eval (.Call (.Attribute o m apos) [] kws pos) X.env = (do
      let ov ← eval o X.env
      standAt apos.atName
      let (f, first) ← holding [ov] (getMethod ov m pl)
      callWith pos f first (backTo pos (starEach [] X.env)) (backToKw pos (keywordEach kws X.env))) := by rfl) :
    PE X (.Call (.Attribute o m apos) [] kws pos) (tCMethK C ks.length gV sp E ta tk) := by
  refine ⟨fun pins s σ H Q I h => ?_⟩
  refine PySem.W.methodCall_KW (pl := pl) (thn (he.run pins s σ H _ I h) fun u s1 ⟨x, H1, I1, rx, ex, q⟩ => ?_) ht
  subst ex
  obtain rfl : u = Value.ref C := rx
  refine ClX.getmethcm_ok I1 r c fun s2 I2 => ?_
  refine PySem.W.callWith_of (P := PySem.W.MethP X.K _ g (.ref C)) hpl (PySem.W.keeps_M c.fi) (PyProof.Rows.evalArgs_kw2_nil hall (thn (hkw.run pos _ s2 σ H1 _ I2 q) fun ws s3 ⟨zs, H2, I3, rz, l, q2⟩ => ⟨⟨ClX.pin_at I3, I3.kIn⟩, ?_⟩))
  rw [hks]
  exact run_cmK F hr hb I3 rz l q2
end
end Wk
set_option Elab.async false
set_option linter.all false
set_option maxRecDepth 100000
set_option maxHeartbeats 2000000
/-! Cn: == of data and of lots; loops over lists of any things -/
namespace Wk
open PySem PySem.Spec L2 Lt TL
/-! ### == of data -/
section
variable {K : PySem.W.Frag} {F H : Hp}
mutual
theorem Rp.dp : ∀ (d : PyData) (v : V), Rp K F v d → d.hasDict = false → Dp K F v d
  | .none, _, h, _ => by
    cases h
    exact .non
  | .bool b, _, h, _ => by
    cases h
    exact .bl b
  | .int i, _, h, _ => by
    cases h
    exact .int i
  | .str x, _, h, _ => by
    cases h
    exact .str x
  | .list ds, _, h, n => by
    cases h with
    | lst hs ha => exact .lst (rp_sqL (Same.refl F) hs) (RpA.dp ds _ ha (by simpa only [PyData.hasDict] using n))
  | .tuple ds, _, h, n => by
    cases h with
    | tup hs ha => exact .tup hs (RpA.dp ds _ ha (by simpa only [PyData.hasDict] using n))
  | .dict _, _, _, n => by
    simp only [PyData.hasDict] at n
    cases n
theorem RpA.dp : ∀ (ds : List PyData) (vs : List V), RpA K F vs ds → PyData.hasDictAll ds = false → DpAll K F vs ds
  | [], _, h, _ => by
    cases h
    exact .nil
  | d :: ds, _, h, n => by
    cases h with
    | cons h1 h2 =>
      simp only [PyData.hasDictAll, Bool.or_eq_false_iff] at n
      exact .cons (Rp.dp d _ h1 n.1) (RpA.dp ds _ h2 n.2)
end
end
/-- what == may be asked of -/
structure Cmp (d : PyData) : Prop where
  sh : SeqAt.shaped d = true
  nd : d.hasDict = false
theorem oK_eqD {X : Cx} (K : PySem.W.Frag) (hK : X.K = K) (hu : X.A.units + 64 < cLine) : OpR X (compareOp .Eq) (rEqD K) := by
  subst hK
  exact op_eqD hu
theorem oK_neD {X : Cx} (K : PySem.W.Frag) (hK : X.K = K) (hu : X.A.units + 64 < cLine) : OpR X (compareOp .NotEq) (rNeD K) := by
  subst hK
  exact op_neD hu
section
variable {K : PySem.W.Frag} {w : Wd} {σ : St} {F F1 F' H H' : Hp} {ta tb te tc tl tm : TE} {t u : TT} {P : V → Hp → Prop} {tr : TA} {D : Ends} {tu tw rest : TS} {C : Addr} {n n' : Nat} {ts ts' : List (List (List Int))}
theorem ed_eqD {d e : PyData} (ha : ED K w ta σ F d) (hb : ED K w tb σ F e) (h1 : Cmp d) (h2 : Cmp e) : ED K w (tOp (rEqD K) ta tb) σ F (.bool (PyData.eqv d e)) :=
  ed_op ha hb fun x y F' H k p q => ⟨.bl (PyData.eqv d e), fun Q z => ⟨d, e, Rp.dp d x (p.mono k.e) h1.nd, Rp.dp e y (q.mono k.e) h2.nd, h1.sh, h2.sh, z⟩, .bl _⟩
theorem ed_neD {d e : PyData} (ha : ED K w ta σ F d) (hb : ED K w tb σ F e) (h1 : Cmp d) (h2 : Cmp e) : ED K w (tOp (rNeD K) ta tb) σ F (.bool (!PyData.eqv d e)) :=
  ed_op ha hb fun x y F' H k p q => ⟨.bl (!PyData.eqv d e), fun Q z => ⟨d, e, Rp.dp d x (p.mono k.e) h1.nd, Rp.dp e y (q.mono k.e) h2.nd, h1.sh, h2.sh, z⟩, .bl _⟩
theorem ed_neB {a b : Bool} (ha : ED K w ta σ F (.bool a)) (hb : ED K w tb σ F (.bool b)) : ED K w (tOp rNe ta tb) σ F (.bool (!decide (a = b))) :=
  ed_op ha hb fun x y F' H k p q => ⟨.bl (!decide (a = b)), fun Q z => ⟨by rw [rp_bl p, rp_bl q]; rfl, by rw [rp_bl p, rp_bl q, decide_eq_decide.mpr (show (V.bl a = V.bl b) ↔ a = b from ⟨V.bl.inj, congrArg _⟩)]; exact z⟩, .bl _⟩
/-! ### == of lots -/
structure InsTy (K : PySem.W.Frag) (C : Addr) : Prop where
  cls : PySem.W.findIn K (.ref C) "__class__" = some (some (.builtin "object.__class__"))
  get : PySem.W.specialIn K (.builtin "object.__class__") "__get__" = some (some (.builtin "getset_descriptor.__get__"))
  tak : PySem.W.takesIn K (.builtin "object.__class__") = some true
  ob : PySem.W.mroIn K C (.type "object") = some true
theorem ed_isiOwn (ha : EV w ta σ F (IsLot K C n ts)) (c : Cls K C) (t : InsTy K C) : ED K w (tCB (rIsi K) (tCons ta (tCons (tC (.ref C)) tNil))) σ F (.bool true) := fun F1 H1 e k Q q =>
  ha F1 H1 e k _ fun x F2 H2 g2 k2 p => by
    obtain ⟨a, dx, tv, rfl, h1, _⟩ := id p
    exact ⟨.ref a, .ref C, .ref C, .ref C, true, rfl, .own C, .base (.ins (k2.e _ _ h1) c t.cls t.get t.tak t.ob), by simp [PySem.W.kitOne], q _ F2 H2 g2 k2 (.bl _)⟩
abbrev spEqLot (K : PySem.W.Frag) (C : Addr) : Sp := spG (ι := LotI × LotI) (fun i vs F => ∃ v u, vs = [v, u] ∧ IsLot K C i.1.1 i.1.2 v F ∧ IsLot K C i.2.1 i.2.2 u F) (fun i v _ => v = .bl (decide (textOf i.1.1 i.1.2 = textOf i.2.1 i.2.2)))
theorem ed_eqLot {g : Bool → Bool} (ha : EV w ta σ F (IsLot K C n ts)) (hb : EV w tb σ F (IsLot K C n' ts')) : ED K w (tOp (rEqO C (spEqLot K C) g) ta tb) σ F (.bool (g (decide (textOf n ts = textOf n' ts')))) := fun F1 H1 e k Q q =>
  ha F1 H1 e k _ fun x F2 H2 g2 k2 p2 => hb F2 H2 (e.trans g2.f) k2 _ fun y F3 H3 g3 k3 p3 => by
    have p2 := p2.mono g3.f
    obtain ⟨a, dx, tv, rfl, h1, _⟩ := id p2
    obtain ⟨b, dy, tv', rfl, h2, _⟩ := id p3
    exact ⟨a, b, dx, dy, _, _, rfl, rfl, k3.e _ _ h1, k3.e _ _ h2, F3, ((n, ts), (n', ts')), k3.e, ⟨_, _, rfl, p2, p3⟩, fun v F4 H4 g4 p4 => ⟨_, p4, q _ F4 H4 ((g2.trans g3).trans g4.up) (k3.pure g4) (.bl _)⟩⟩
theorem ev_readK {tk : TA} {E : XK} (hc : ED' w ta σ F (.ref C)) (ha : EDA K w tk σ F [.str (textOf n ts)]) (g : Good n ts) : EV w (tCMethK C 1 (fun us ws => us ++ ws) (spRead K C) E ta tk) σ F (IsLot K C n ts) := fun F1 H1 e k Q q =>
  hc F1 H1 e k _ fun x F2 H2 g2 k2 p2 => ⟨p2, ha F2 H2 (e.trans g2.f) k2 _ fun vs F3 H3 g3 k3 p3 => by
    obtain rfl : vs = [.str (textOf n ts)] := rpA_str (bs := [textOf n ts]) p3
    exact ⟨rfl, F3, (n, ts), k3.e, ⟨rfl, g⟩, fun v F4 H4 g4 p4 => q v F4 H4 ((g2.trans g3).trans g4.up) (k3.pure g4) p4⟩⟩
/-! ### for x in [e, ..], whatever the items are -/
theorem s_forV {g : TG} {A : List V → Hp → Prop} (k : w.ok F H) (ev : EA w tr σ F A) (hz : ∀ vs F', A vs F' → vs.length ≤ 100000) (hm : ∀ vs F' F'', Same F' F'' → A vs F' → A vs F'') (q : ∀ vs F1 H1, A vs F1 → Gr w.M F H F1 H1 → w.ok F1 H1 → ∃ I : Nat → St → Hp → Hp → Prop, I 0 σ F1 H1 ∧ (∀ i σ' F' H', I i σ' F' H' → Same F1 F' ∧ Same F' H') ∧
      (∀ i v σ' F' H', vs[i]? = some v → I i σ' F' H' → g v σ' H' fun σ2 H2 => tu { D with nx := fun σ H => ∃ F, I (i + 1) σ F H, ct := fun σ H => ∃ F, I (i + 1) σ F H, bk := D.nx } σ2 H2) ∧ ∀ σ' F' H', I vs.length σ' F' H' → D.nx σ' H') :
    tFor (iList K (tLst tr)) g tu D σ H := ev F H (Same.refl F) k _ fun vs F1 H1 g1 k1 r => ⟨Nat.le_trans (hz vs F1 r) (by decide), fun p hp => by
  have g2 : Gr M0 F1 H1 (upd F1 p (.lst vs)) (upd H1 p (.lst vs)) := Gr.new k1.e hp
  obtain ⟨I, i0, iF, is, id⟩ := q vs _ _ (hm vs F1 _ g2.f r) (g1.trans g2.up) (k1.pure g2)
  have at_ : SqL K (upd H1 p (.lst vs)) p vs := .inl (.inl upd_same)
  refine ⟨p, rfl, ⟨vs, at_⟩, for_list (xs := vs) (fun i σ H => ∃ F, I i σ F H) ⟨_, i0⟩ (fun i σ' H' _ ⟨F', p⟩ => ?_) (fun i x σ' H' hi ⟨F', p⟩ => is i x σ' F' H' hi p) fun σ' H' ⟨F', p⟩ => id σ' F' H' p⟩
  obtain ⟨e1, e2⟩ := iF i σ' F' H' p
  exact rp_sqL (e1.trans e2) upd_same⟩
end
/-! ### what == of tables tells -/
theorem eqvAll_map {α : Type} {f : α → PyData} (h : ∀ a b, PyData.eqv (f a) (f b) = true ↔ a = b) : ∀ xs ys : List α, PyData.eqvAll (xs.map f) (ys.map f) = true ↔ xs = ys
  | [], [] => by simp only [List.map_nil, PyData.eqvAll]
  | [], y :: ys => by simp only [List.map_nil, List.map_cons, PyData.eqvAll]; exact ⟨(fun h => nomatch h), (fun h => nomatch h)⟩
  | x :: xs, [] => by simp only [List.map_nil, List.map_cons, PyData.eqvAll]; exact ⟨(fun h => nomatch h), (fun h => nomatch h)⟩
  | x :: xs, y :: ys => by
    simp only [List.map_cons, PyData.eqvAll, Bool.and_eq_true, h x y, eqvAll_map h xs ys, List.cons.injEq]
theorem eqv_tup {α : Type} {f : α → PyData} (h : ∀ a b, PyData.eqv (f a) (f b) = true ↔ a = b) (xs ys : List α) : PyData.eqv (.tuple (xs.map f)) (.tuple (ys.map f)) = true ↔ xs = ys := by
  simp only [PyData.eqv]
  exact eqvAll_map h xs ys
theorem eqv_int (i j : Int) : PyData.eqv (.int i) (.int j) = true ↔ i = j := by
  simp only [PyData.eqv, beq_iff_eq]
theorem eqv_row (r r' : List Int) : PyData.eqv (encR r) (encR r') = true ↔ r = r' := eqv_tup eqv_int r r'
theorem eqv_table (t t' : List (List Int)) : PyData.eqv (encT t) (encT t') = true ↔ t = t' := eqv_tup eqv_row t t'
theorem eqv_tables (ts ts' : List (List (List Int))) : PyData.eqv (encTs ts) (encTs ts') = true ↔ ts = ts' := eqv_tup eqv_table ts ts'
theorem text_inj {n n' : Nat} {ts ts' : List (List (List Int))} (g : Good n ts) (g' : Good n' ts') : textOf n ts = textOf n' ts' ↔ ts = ts' := by
  constructor
  · intro h
    have h1 := tablesIn_text g
    rw [h, tablesIn_text g'] at h1
    exact ((eqv_tables ts' ts).mp (by rw [h1]; exact (eqv_tables ts ts).mpr rfl)).symm
  · rintro rfl
    obtain ⟨t, ht⟩ : ∃ t, t ∈ ts := by
      cases ts with
      | nil => exact absurd g.l1 (by decide)
      | cons a b => exact ⟨a, List.mem_cons_self ..⟩
    rw [← (g.tab t ht).len, (g'.tab t ht).len]
/-- tables may be compared -/
theorem canLay_all {α : Type} {f : α → PyData} : ∀ {xs : List α}, (∀ x ∈ xs, (f x).canLay0 = true) → PyData.canLayAll0 (xs.map f) = true
  | [], _ => by simp only [List.map_nil, PyData.canLayAll0]
  | x :: xs, h => by
    simp only [List.map_cons, PyData.canLayAll0, Bool.and_eq_true]
    exact ⟨h x (List.mem_cons_self ..), canLay_all fun y hy => h y (List.mem_cons_of_mem _ hy)⟩
theorem lay_tables (ts : List (List (List Int))) : (encTs ts).canLay0 = true := by
  simp only [encTs, PyData.canLay0]
  refine canLay_all fun t _ => ?_
  simp only [encT, PyData.canLay0]
  refine canLay_all fun r _ => ?_
  simp only [encR, PyData.canLay0]
  exact canLay_all fun i _ => by simp only [PyData.canLay0]
theorem cmp_tables {n : Nat} {ts : List (List (List Int))} (g : Good n ts) : Cmp (encTs ts) := by
  have s := sh_tables g
  refine ⟨?_, s.nd⟩
  unfold SeqAt.shaped
  rw [lay_tables, Bool.true_and, decide_eq_true_eq]
  exact Nat.le_trans s.dp (by decide)
end Wk
set_option Elab.async false
set_option linter.all false
set_option maxRecDepth 100000
set_option maxHeartbeats 1000000
/-! Zs0: tuple(zip(*rows)), any number of tuples of one length, at the library's level -/
namespace ZS
open PySem PySem.Spec PyProof.Rows
open PySem.Sem (wp)
theorem tcz (vs : List Value) : checkTypeCall "zip" ⟨vs, []⟩ = pure () := by kernel_rfl
theorem ncz (a : Value) (r : List Value) : checkBuiltinCall "zip.__new__" ⟨.type "zip" :: a :: r, []⟩ = pure () := by kernel_rfl
theorem aoi (a : Value) (vs : List Value) : argsOk "object.__init__" ⟨a :: vs, []⟩ := by
  unfold argsOk; rw [signature?_of (id := "object.__init__") (n := ['_', '_', 't', 'i', 'n', 'i', '_', '_']) (o := ['t', 'c', 'e', 'j', 'b', 'o']) (by kernel_rfl) F.owner_object]; kernel_rfl
abbrev IsTupL (h : Heap) (T : Addr) (vs : List Value) : Prop := h.get? T = some { cls := .type "tuple", data := .seq vs.toArray }
/-- what stands in place i of each row -/
def col (rows : List (List Value)) (i : Nat) : List Value := rows.map fun r => r.getD i .none
/-- the iterators, the j-th one at the place p j -/
def Its (h : Heap) (its ls : List Addr) (rows : List (List Value)) (p : Nat → Nat) : Prop := ∀ j a, its[j]? = some a → ∃ l r, ls[j]? = some l ∧ rows[j]? = some r ∧ h.IsTupleIter a l (p j) ∧ h.IsTuple l r.toArray
structure Apart (z TI TO : Addr) (its ls : List Addr) : Prop where
  TIz : TI ≠ z
  TOz : TO ≠ z
  TITO : TI ≠ TO
  nz : z ∉ its
  nTI : TI ∉ its
  nTO : TO ∉ its
  nd : its.Nodup
  lz : ∀ l ∈ ls, l ≠ z
  lTO : ∀ l ∈ ls, l ≠ TO
  li : ∀ l ∈ ls, l ∉ its
/-- what is outside of ch is kept -/
def Kp (ch : List Addr) (h h' : Heap) : Prop := ∀ c o, c ∉ ch → h.get? c = some o → h'.get? c = some o
theorem Kp.refl {ch : List Addr} {h : Heap} : Kp ch h h := fun _ _ _ e => e
theorem Kp.trans {ch : List Addr} {h h1 h2 : Heap} (a : Kp ch h h1) (b : Kp ch h1 h2) : Kp ch h h2 := fun c o n e => b c o n (a c o n e)
theorem Kp.of {ch : List Addr} {h h' : Heap} {a : Addr} (m : a ∈ ch) (s : Heap.SameBut a h h') : Kp ch h h' := fun c o n e => s.extBut c o (fun z => n (by rw [z]; exact m)) e
theorem Kp.sub {ch ch' : List Addr} {h h' : Heap} (a : Kp ch h h') (s : ∀ b ∈ ch, b ∈ ch') : Kp ch' h h' := fun c o n e => a c o (fun m => n (s c m)) e
section
variable {prog : Program} {w : World} {A : Around} {E : Value → Shared → Prop} {s : Shared} {z TI TO : Addr} {its ls : List Addr} {rows : List (List Value)} {n i : Nat}
theorem Its.keep {h h' : Heap} {p : Nat → Nat} (I : Its h its ls rows p) (k : ∀ c o, (c ∈ its ∨ c ∈ ls) → h.get? c = some o → h'.get? c = some o) : Its h' its ls rows p := fun j a e => by
  obtain ⟨l, r, e1, e2, h1, h2⟩ := I j a e
  exact ⟨l, r, e1, e2, h1.at fun o q => k a o (.inl (List.mem_of_getElem? e)) q, h2.at fun o q => k l o (.inr (List.mem_of_getElem? e1)) q⟩
/-- the k-th iterator gives its item -/
theorem draw {Q : Value → Shared → Prop} {k : Nat} {a : Addr} (D : Apart z TI TO its ls) (I : Its s.heap its ls rows fun j => if j < k then i + 1 else i) (ha : its[k]? = some a) (hl : ∀ r ∈ rows, i < r.length)
    (hQ : ∀ x h', (col rows i)[k]? = some x → Its h' its ls rows (fun j => if j < k + 1 then i + 1 else i) → Heap.SameBut a s.heap h' → Q x { s with heap := h' }) : wpAny (model prog w) A (Builtin.SmallTypes.nextOf (.ref a)) Q E s := by
  obtain ⟨l, r, e1, e2, h1, h2⟩ := I k a ha
  replace h1 : s.heap.IsTupleIter a l (if k < k then i + 1 else i) := h1
  rw [if_neg (Nat.lt_irrefl k)] at h1
  have hr : i < r.length := hl r (List.mem_of_getElem? e2)
  refine RZ.nextOf_tuple_item (x := r.getD i .none) h1 h2 (by simp [hr]) fun h' h1' hs => hQ _ h' ?_ ?_ hs
  · unfold col
    rw [List.getElem?_map, e2]
    rfl
  · intro j b hb
    obtain ⟨l', r', e1', e2', h3, h4⟩ := I j b hb
    by_cases hj : j = k
    · subst hj
      rw [ha] at hb
      cases hb
      rw [e1] at e1'
      rw [e2] at e2'
      cases e1'
      cases e2'
      exact ⟨l, r, e1, e2, by show h'.IsTupleIter a l (if j < j + 1 then i + 1 else i); rw [if_pos (Nat.lt_succ_self j)]; exact h1', h2.extBut hs.extBut fun q => D.li l (List.mem_of_getElem? e1) (by rw [q]; exact List.mem_of_getElem? ha)⟩
    · have hba : b ≠ a := fun q => hj (by
        subst q
        obtain ⟨x1, y1⟩ := List.getElem?_eq_some_iff.mp hb
        obtain ⟨x2, y2⟩ := List.getElem?_eq_some_iff.mp ha
        exact (List.getElem_inj D.nd).mp (y1.trans y2.symm))
      refine ⟨l', r', e1', e2', ?_, h4.extBut hs.extBut fun q => D.li l' (List.mem_of_getElem? e1') (by rw [q]; exact List.mem_of_getElem? ha)⟩
      have e : (if j < k + 1 then i + 1 else i) = (if j < k then i + 1 else i) := by
        by_cases h : j < k
        · rw [if_pos h, if_pos (by omega)]
        · rw [if_neg h, if_neg (by omega)]
      show h'.IsTupleIter b l' (if j < k + 1 then i + 1 else i)
      rw [e]
      exact h3.extBut hs.extBut hba
/-- the iterator that is at its end -/
theorem drawEnd {Q : Value → Shared → Prop} {a : Addr} (hh : A.handled = none) (I : Its s.heap its ls rows fun _ => n) (ha : its[0]? = some a) (hl : ∀ r ∈ rows, r.length = n)
    (hE : ∀ h' e, Heap.ExtBut a s.heap h' → (∃ o, h'.get? e = some o ∧ o.cls = .type "StopIteration") → E (.ref e) { s with heap := h' }) : wpAny (model prog w) A (Builtin.SmallTypes.nextOf (.ref a)) Q E s := by
  obtain ⟨l, r, e1, e2, h1, h2⟩ := I 0 a ha
  have hr : r.length = n := hl r (List.mem_of_getElem? e2)
  exact RZ.nextOf_tuple_end hh h1 h2 (by simp; omega) hE
abbrev IsTupA (h : Heap) (T : Addr) (os : Array Value) : Prop := h.get? T = some { cls := .type "tuple", data := .seq os }
theorem col_len : (col rows i).length = rows.length := by
  unfold col
  exact List.length_map ..
/-- a further tuple, while the first one is still there -/
theorem next_held {T : Addr} {f : Bool} {oT : Obj} {Q : Value → Shared → Prop} (D : Apart z TI TO its ls) (hz : IsZipHeld s.heap z TI TO T f) (hT : s.heap.get? T = some oT) (hTI : IsTupL s.heap TI (its.map Value.ref)) (I : Its s.heap its ls rows fun _ => i) (hl : ∀ r ∈ rows, i < r.length) (hm : rows.length = its.length) (hn : its ≠ []) (hsz : its.length ≤ sizeLine)
    (hQ : ∀ h', IsZipHeld h' z TI TO T true → Its h' its ls rows (fun _ => i + 1) → IsTupL h' s.heap.objs.size (col rows i) → h'.objs.size = s.heap.objs.size + 1 → Kp (z :: its) s.heap h' → Q (.ref s.heap.objs.size) { s with heap := h' }) :
    wpAny (model prog w) A (Builtin.«zip.__next__» ⟨[.ref z], []⟩) (fun fin s' => ∃ v, fin = .done (.ret v) ∧ Q v s') E s := by
  show wpAny _ _ (field (.ref z) 2 >>= _) _ _ _
  refine wpAny_bind (wpAny_field hz rfl (x := .bool false) rfl ?_)
  show wpAny _ _ (field (.ref z) 3 >>= _) _ _ _
  refine wpAny_bind (wpAny_field hz rfl (x := .ref TI) rfl ?_)
  refine wpAny_bind (wpAny_seqItems hTI rfl ?_)
  have he : ((its.map Value.ref).toArray).isEmpty = false := by
    cases its with
    | nil => exact absurd rfl hn
    | cons a b => rfl
  simp only [he, Bool.false_eq_true, if_false]
  show wpAny _ _ (Builtin.SmallTypes.ownedTupleIsFree (.ref z) >>= _) _ _ _
  refine wpAny_bind (wpAny_tupleHeld_zip hz hT fun h₁ hz₁ hs₁ => ?_)
  simp only [Bool.false_eq_true, if_false]
  refine wpAny_bind ?_
  refine MeetsSeq2.wpAny_forIn_array _ (fun rest b s' => ∃ k h', rest = (its.map Value.ref).drop k ∧ k ≤ its.length ∧ b = ⟨none, ((col rows i).take k).toArray⟩ ∧ s' = { s with heap := h' } ∧ IsZipHeld h' z TI TO T true ∧ Its h' its ls rows (fun j => if j < k then i + 1 else i) ∧ h'.objs.size = s.heap.objs.size ∧ Kp (z :: its) s.heap h') _ ?turn ?fin _ _ ?start
  case start =>
    exact ⟨0, h₁, by simp, Nat.zero_le _, by simp, rfl, hz₁, I.keep fun c o hc e => hs₁.extBut c o (fun q => by
      subst q
      rcases hc with hc | hc
      · exact D.nz hc
      · exact D.lz c hc rfl) e, hs₁.1, Kp.of (List.mem_cons_self ..) hs₁⟩
  case turn =>
    rintro x rest b s' ⟨k, h', hr, hk, rfl, rfl, hz', I', hs', kp⟩
    have hlt : k < its.length := by
      rcases Nat.lt_or_ge k its.length with h | h
      · exact h
      · rw [List.drop_of_length_le (by rw [List.length_map]; exact h)] at hr
        cases hr
    have hd : (its.map Value.ref).drop k = Value.ref its[k] :: (its.map Value.ref).drop (k + 1) := by
      rw [List.drop_eq_getElem_cons (by rw [List.length_map]; exact hlt), List.getElem_map]
    rw [hd] at hr
    injection hr with hx hr
    subst hx hr
    refine wpAny_bind (wpAny_holding ?_)
    show wpAny _ _ (Builtin.SmallTypes.nextOf (.ref its[k]) >>= _) _ _ _
    refine wpAny_bind (draw D (s := { s with heap := h' }) I' (List.getElem?_eq_getElem hlt) hl fun x h2 hx I2 hs2 => wpAny_pure ?_)
    refine wpAny_pure ⟨k + 1, h2, rfl, hlt, ?_, rfl, hs2.extBut _ _ (fun q => D.nz (by rw [q]; exact List.getElem_mem hlt)) hz', I2, hs2.1.trans hs', kp.trans (Kp.of (List.mem_cons_of_mem _ (List.getElem_mem hlt)) hs2)⟩
    rw [show (col rows i).take (k + 1) = (col rows i).take k ++ [x] by rw [List.take_add_one, hx]; rfl]
    simp
  case fin =>
    rintro b s' ⟨k, h', hr, hk, rfl, rfl, hz', I', hs', kp⟩
    have hke : k = its.length := by
      rcases Nat.lt_or_ge k its.length with h | h
      · have := congrArg List.length hr
        rw [List.length_drop, List.length_map] at this
        simp at this
        omega
      · omega
    subst hke
    have hc : (col rows i).take its.length = col rows i := List.take_of_length_le (by rw [col_len, hm]; exact Nat.le_refl _)
    show wpAny _ _ (newTuple ((col rows i).take its.length).toArray.toList >>= _) _ _ _
    rw [List.toList_toArray, hc]
    refine wpAny_bind (wpAny_newTuple ?_ (by rw [col_len, hm]; exact hsz))
    refine wpAny_pure ⟨_, rfl, ?_⟩
    show Q (.ref h'.objs.size) _
    have hp : IsTupL (h'.push { cls := .type "tuple", data := .seq (col rows i).toArray }) h'.objs.size (col rows i) := Heap.get?_push_size _ rfl
    have hz4 : (h'.push { cls := .type "tuple", data := .seq (col rows i).toArray }).objs.size = h'.objs.size + 1 := Heap.size_push ..
    rw [hs'] at hp hz4 ⊢
    refine hQ _ (Heap.get?_push_of_some _ hz') (Its.keep (fun j a e => ?_) fun c o _ e => Heap.get?_push_of_some _ e) hp hz4 fun c o c1 e => Heap.get?_push_of_some _ (kp c o c1 e)
    obtain ⟨l, r, e1, e2, h1, h2⟩ := I' j a e
    refine ⟨l, r, e1, e2, ?_, h2⟩
    have hj : j < its.length := (List.getElem?_eq_some_iff.mp e).1
    replace h1 : h'.IsTupleIter a l (if j < its.length then i + 1 else i) := h1
    rw [if_pos hj] at h1
    exact h1
theorem updA {T : Addr} {os : Array Value} {x : Value} {k : Nat} {Q : Unit → Shared → Prop} (hT : IsTupA s.heap T os) (hz : os.size ≤ sizeLine)
    (h : ∀ h', IsTupA h' T (os.setIfInBounds k x) → Heap.SameBut T s.heap h' → Q () { s with heap := h' }) : wpAny (model prog w) A (updateSeq T (·.setIfInBounds k x)) Q E s := by
  refine wpAny_updateSeq hT rfl (h _ ?_ (Heap.SameBut.update ..)) hz (by simp; omega)
  show (s.heap.update T (Obj.mapSeq fun x_1 => x_1.setIfInBounds k x)).get? T = _
  rw [Heap.get?_update_self _ hT rfl]
  simp [Obj.mapSeq]
/-- the first tuple -/
theorem next_first {os : Array Value} {Q : Value → Shared → Prop} (D : Apart z TI TO its ls) (hz : IsZip s.heap z TI TO .none) (hTI : IsTupL s.heap TI (its.map Value.ref)) (hTO : IsTupA s.heap TO os) (ho : os.size = its.length) (I : Its s.heap its ls rows fun _ => i) (hl : ∀ r ∈ rows, i < r.length) (hm : rows.length = its.length) (hn : its ≠ []) (hsz : its.length ≤ sizeLine)
    (hQ : ∀ h', IsZipHeld h' z TI TO s.heap.objs.size false → Its h' its ls rows (fun _ => i + 1) → IsTupL h' s.heap.objs.size (col rows i) → h'.objs.size = s.heap.objs.size + 1 → Kp (z :: TO :: its) s.heap h' → Q (.ref s.heap.objs.size) { s with heap := h' }) :
    wpAny (model prog w) A (Builtin.«zip.__next__» ⟨[.ref z], []⟩) (fun fin s' => ∃ v, fin = .done (.ret v) ∧ Q v s') E s := by
  show wpAny _ _ (field (.ref z) 2 >>= _) _ _ _
  refine wpAny_bind (wpAny_field hz rfl (x := .bool false) rfl ?_)
  show wpAny _ _ (field (.ref z) 3 >>= _) _ _ _
  refine wpAny_bind (wpAny_field hz rfl (x := .ref TI) rfl ?_)
  refine wpAny_bind (wpAny_seqItems hTI rfl ?_)
  have he : ((its.map Value.ref).toArray).isEmpty = false := by
    cases its with
    | nil => exact absurd rfl hn
    | cons a b => rfl
  simp only [he, Bool.false_eq_true, if_false]
  show wpAny _ _ (Builtin.SmallTypes.ownedTupleIsFree (.ref z) >>= _) _ _ _
  refine wpAny_bind ?_
  unfold Builtin.SmallTypes.ownedTupleIsFree
  refine wpAny_bind (wpAny_field hz rfl (x := .none) rfl (wpAny_pure ?_))
  simp only [if_true]
  refine wpAny_bind (wpAny_rule ?_)
  refine wpAny_bind (wpAny_field hz rfl (x := .ref TO) rfl ?_)
  refine wpAny_bind (wpAny_setField_rec hz (by simp) fun h₁ hz₁ hs₁ => ?_)
  replace hz₁ : IsZip h₁ z TI TO .ellipsis := hz₁
  refine wpAny_bind ?_
  refine wpAny_forIn_list _ (fun rest b s' => ∃ k h' os', rest = ((its.map Value.ref).zipIdx).drop k ∧ k ≤ its.length ∧ b = ⟨none, PUnit.unit⟩ ∧ s' = { s with heap := h' } ∧ IsZip h' z TI TO .ellipsis ∧ IsTupA h' TO os' ∧ os'.size = its.length ∧ (∀ j, j < k → os'[j]? = (col rows i)[j]?) ∧ Its h' its ls rows (fun j => if j < k then i + 1 else i) ∧ h'.objs.size = s.heap.objs.size ∧ Kp (z :: TO :: its) s.heap h') _ ?turn ?fin _ _ ?start
  case start =>
    exact ⟨0, h₁, os, by simp, Nat.zero_le _, rfl, rfl, hz₁, hs₁.extBut _ _ D.TOz hTO, ho, fun j hj => absurd hj (Nat.not_lt_zero j), I.keep fun c o hc e => hs₁.extBut c o (fun q => by
      subst q
      rcases hc with hc | hc
      · exact D.nz hc
      · exact D.lz c hc rfl) e, hs₁.1, Kp.of (List.mem_cons_self ..) hs₁⟩
  case turn =>
    rintro ⟨x, k'⟩ rest b s' ⟨k, h', os', hr, hk, rfl, rfl, hz', hO', hos, hoc, I', hs', kp⟩
    have hlt : k < its.length := by
      rcases Nat.lt_or_ge k its.length with h | h
      · exact h
      · rw [List.drop_of_length_le (by rw [List.length_zipIdx, List.length_map]; exact h)] at hr
        cases hr
    have hd : ((its.map Value.ref).zipIdx).drop k = (Value.ref its[k], k) :: ((its.map Value.ref).zipIdx).drop (k + 1) := by
      rw [List.drop_eq_getElem_cons (by rw [List.length_zipIdx, List.length_map]; exact hlt), List.getElem_zipIdx, List.getElem_map]
      simp
    rw [hd] at hr
    injection hr with hx hr
    injection hx with hx hk'
    subst k'
    subst hx hr
    have hnz : its[k] ≠ z := fun q => D.nz (by rw [← q]; exact List.getElem_mem hlt)
    have hnT : its[k] ≠ TO := fun q => D.nTO (by rw [← q]; exact List.getElem_mem hlt)
    refine wpAny_bind (wpAny_onRaise ?_)
    show wpAny _ _ (Builtin.SmallTypes.nextOf (.ref its[k]) >>= _) _ _ _
    refine wpAny_bind (draw D (s := { s with heap := h' }) I' (List.getElem?_eq_getElem hlt) hl fun x h2 hx I2 hs2 => wpAny_pure ?_)
    have hO2 : IsTupA h2 TO os' := hs2.extBut _ _ (Ne.symm hnT) hO'
    refine wpAny_bind (wpAny_seqItems (s := { s with heap := h2 }) hO2 rfl ?_)
    refine wpAny_bind (updA (s := { s with heap := h2 }) hO2 (by rw [hos]; exact hsz) fun h3 hO3 hs3 => ?_)
    refine wpAny_bind (wpAny_letGo (wpAny_pure ?_))
    refine ⟨k + 1, h3, os'.setIfInBounds k x, rfl, hlt, rfl, rfl, hs3.extBut _ _ D.TOz.symm (hs2.extBut _ _ (Ne.symm hnz) hz'), hO3, by simp [hos], fun j hj => ?_, I2.keep fun c o hc e => hs3.extBut c o (fun q => ?_) e, (hs3.1.trans hs2.1).trans hs', (kp.trans (Kp.of (List.mem_cons_of_mem _ (List.mem_cons_of_mem _ (List.getElem_mem hlt))) hs2)).trans (Kp.of (List.mem_cons_of_mem _ (List.mem_cons_self ..)) hs3)⟩
    · by_cases e : j = k
      · subst e
        rw [hx]
        simp [hos, hlt]
      · rw [Array.getElem?_setIfInBounds_ne (Ne.symm e)]
        exact hoc j (by omega)
    · subst q
      rcases hc with hc | hc
      · exact D.nTO hc
      · exact D.lTO c hc rfl
  case fin =>
    rintro b s' ⟨k, h', os', hr, hk, rfl, rfl, hz', hO', hos, hoc, I', hs', kp⟩
    have hke : k = its.length := by
      rcases Nat.lt_or_ge k its.length with h | h
      · have := congrArg List.length hr
        rw [List.length_drop, List.length_zipIdx, List.length_map] at this
        simp at this
        omega
      · omega
    subst hke
    have hc : os'.toList = col rows i := by
      refine List.ext_getElem? fun j => ?_
      by_cases hj : j < its.length
      · rw [Array.getElem?_toList]
        exact hoc j hj
      · rw [List.getElem?_eq_none (by rw [Array.length_toList, hos]; omega), List.getElem?_eq_none (by rw [col_len, hm]; omega)]
    show wpAny _ _ (seqItems? (.ref TO) >>= _) _ _ _
    refine wpAny_bind (wpAny_seqItems (s := { s with heap := h' }) hO' rfl ?_)
    show wpAny _ _ (newTuple os'.toList >>= _) _ _ _
    rw [hc]
    refine wpAny_bind (wpAny_newTuple ?_ (by rw [col_len, hm]; exact hsz))
    show wpAny _ _ (Builtin.SmallTypes.ownedTupleHandOut (.ref z) (.ref h'.objs.size) >>= _) _ _ _
    refine wpAny_bind ?_
    unfold Builtin.SmallTypes.ownedTupleHandOut
    have hz₆ : IsZip (h'.push { cls := .type "tuple", data := .seq (col rows i).toArray }) z TI TO .ellipsis := Heap.get?_push_of_some _ hz'
    refine wpAny_bind (wpAny_setField_rec hz₆ (by simp) fun h₇ hz₇ hs₇ => ?_)
    replace hz₇ : IsZip h₇ z TI TO (rawInt h'.objs.size) := hz₇
    refine wpAny_setField_rec hz₇ (by simp) fun h₈ hz₈ hs₈ => ?_
    replace hz₈ : IsZipHeld h₈ z TI TO h'.objs.size false := hz₈
    have hzl : z < h'.objs.size := Heap.lt_size hz'
    have up : ∀ c o, c ≠ z → h'.get? c = some o → h₈.get? c = some o := fun c o c1 e => hs₈.extBut _ _ c1 (hs₇.extBut _ _ c1 (Heap.get?_push_of_some _ e))
    have hT₈ : IsTupL h₈ h'.objs.size (col rows i) := hs₈.extBut _ _ (Nat.ne_of_gt hzl) (hs₇.extBut _ _ (Nat.ne_of_gt hzl) (Heap.get?_push_size _ rfl))
    have hz8 : h₈.objs.size = h'.objs.size + 1 := by rw [hs₈.1, hs₇.1, Heap.size_push]
    rw [hs'] at hz₈ hT₈ hz8
    refine wpAny_pure ⟨_, rfl, ?_⟩
    show Q (.ref h'.objs.size) _
    rw [hs']
    refine hQ h₈ hz₈ (Its.keep (fun j a e => ?_) fun c o hc e => up c o (fun q => by
      subst q
      rcases hc with hc | hc
      · exact D.nz hc
      · exact D.lz c hc rfl) e) hT₈ hz8 fun c o c1 e => up c o (fun q => c1 (by rw [q]; exact List.mem_cons_self ..)) (kp c o c1 e)
    obtain ⟨l, r, e1, e2, h1, h2⟩ := I' j a e
    refine ⟨l, r, e1, e2, ?_, h2⟩
    have hj : j < its.length := (List.getElem?_eq_some_iff.mp e).1
    replace h1 : h'.IsTupleIter a l (if j < its.length then i + 1 else i) := h1
    rw [if_pos hj] at h1
    exact h1
/-- no tuple is left -/
theorem next_end {T : Addr} {f : Bool} {oT : Obj} {Q : Fin → Shared → Prop} (hh : A.handled = none) (D : Apart z TI TO its ls) (hz : IsZipHeld s.heap z TI TO T f) (hT : s.heap.get? T = some oT) (hTI : IsTupL s.heap TI (its.map Value.ref)) (I : Its s.heap its ls rows fun _ => n) (hl : ∀ r ∈ rows, r.length = n) (hn : its ≠ [])
    (hE : ∀ h' e, Kp (z :: its) s.heap h' → (∃ o, h'.get? e = some o ∧ o.cls = .type "StopIteration") → E (.ref e) { s with heap := h' }) :
    wpAny (model prog w) A (Builtin.«zip.__next__» ⟨[.ref z], []⟩) Q E s := by
  show wpAny _ _ (field (.ref z) 2 >>= _) _ _ _
  refine wpAny_bind (wpAny_field hz rfl (x := .bool false) rfl ?_)
  show wpAny _ _ (field (.ref z) 3 >>= _) _ _ _
  refine wpAny_bind (wpAny_field hz rfl (x := .ref TI) rfl ?_)
  refine wpAny_bind (wpAny_seqItems hTI rfl ?_)
  obtain ⟨a, b, rfl⟩ : ∃ a b, its = a :: b := by
    cases its with
    | nil => exact absurd rfl hn
    | cons a b => exact ⟨a, b, rfl⟩
  have he : (((a :: b).map Value.ref).toArray).isEmpty = false := rfl
  simp only [he, Bool.false_eq_true, if_false]
  show wpAny _ _ (Builtin.SmallTypes.ownedTupleIsFree (.ref z) >>= _) _ _ _
  refine wpAny_bind (wpAny_tupleHeld_zip hz hT fun h₁ hz₁ hs₁ => ?_)
  simp only [Bool.false_eq_true, if_false]
  refine wpAny_bind ?_
  rw [← Array.forIn_toList]
  simp only [List.toList_toArray, List.map_cons, List.forIn_cons]
  refine wpAny_bind (wpAny_bind (wpAny_holding ?_))
  show wpAny _ _ (Builtin.SmallTypes.nextOf (.ref a) >>= _) _ _ _
  refine wpAny_bind (drawEnd (s := { s with heap := h₁ }) hh (I.keep fun c o hc e => hs₁.extBut c o (fun q => by
      subst q
      rcases hc with hc | hc
      · exact D.nz hc
      · exact D.lz c hc rfl) e) rfl hl fun h₂ e hs₂ he => ?_)
  exact hE h₂ e (fun c o c1 x => hs₂ _ _ (fun q => c1 (by rw [q]; simp)) (hs₁.extBut _ _ (fun q => c1 (by rw [q]; simp)) x)) he
/-! ### next -/
theorem ne_lo {a b lo : Nat} (h : a < lo) (h2 : lo ≤ b) : b ≠ a := fun q => by omega
theorem ne_pred {b lo : Nat} (h0 : 0 < lo) (h : lo ≤ b) : b ≠ lo - 1 := fun q => by omega
theorem out_of {z TI TO : Addr} {its ls : List Addr} {lo : Nat} {T : Addr} (bz : z < lo) (bTO : TO < lo) (bi : ∀ c ∈ its, c < lo) (h : lo ≤ T) : T ∉ z :: TO :: its := fun hb => by
  rcases List.mem_cons.mp hb with q | hb
  · exact ne_lo bz h q
  · rcases List.mem_cons.mp hb with q | hb
    · exact ne_lo bTO h q
    · exact ne_lo (bi T hb) h rfl
theorem is_last {a j : Nat} {α : Type} {Ts : List α} (hj : ¬ j < Ts.length) (hz : j - Ts.length = 0) (hl : Ts.length = a) : j = a := by omega
def ZSt (rows : List (List Value)) (z TI TO : Addr) (its ls : List Addr) (lo i : Nat) (h : Heap) : Prop :=
  IsTupL h TI (its.map Value.ref) ∧ Its h its ls rows (fun _ => i) ∧
    ((i = 0 ∧ IsZip h z TI TO .none ∧ ∃ os, IsTupA h TO os ∧ os.size = its.length) ∨ (0 < i ∧ ∃ T f oT, IsZipHeld h z TI TO T f ∧ h.get? T = some oT ∧ lo ≤ T))
theorem ZSt.typeIs {lo : Nat} (st : ZSt rows z TI TO its ls lo i s.heap) : s.TypeIs (.ref z) "zip" := by
  obtain ⟨_, _, ⟨_, hz, _⟩ | ⟨_, T, f, oT, hz, _⟩⟩ := st
  · exact ⟨_, hz, rfl⟩
  · exact ⟨_, hz, rfl⟩
/-- all lies below lo -/
structure Below (z TI TO : Addr) (its ls : List Addr) (lo : Nat) : Prop where
  bz : z < lo
  bTI : TI < lo
  bTO : TO < lo
  bi : ∀ c ∈ its, c < lo
  bl : ∀ c ∈ ls, c < lo
theorem ZSt.keep {lo : Nat} {h h' : Heap} (B : Below z TI TO its ls lo) (st : ZSt rows z TI TO its ls lo i h) (k : ∀ c o, c ≠ lo - 1 → h.get? c = some o → h'.get? c = some o) (hlo : ∀ c, (c = z ∨ c = TI ∨ c = TO ∨ c ∈ its ∨ c ∈ ls) → c ≠ lo - 1) (h0 : 0 < lo) : ZSt rows z TI TO its ls lo i h' := by
  obtain ⟨h1, h2, h3⟩ := st
  refine ⟨k _ _ (hlo TI (.inr (.inl rfl))) h1, h2.keep fun c o hc e => k c o (hlo c (.inr (.inr (.inr hc)))) e, ?_⟩
  rcases h3 with ⟨e, hz, os, hO, ho⟩ | ⟨e, T, f, oT, hz, hT, hl⟩
  · exact .inl ⟨e, k _ _ (hlo z (.inl rfl)) hz, os, k _ _ (hlo TO (.inr (.inr (.inl rfl)))) hO, ho⟩
  · exact .inr ⟨e, T, f, oT, k _ _ (hlo z (.inl rfl)) hz, k _ _ (by omega) hT, hl⟩
theorem pyNext_item {lo : Nat} {Q : Option Value → Shared → Prop} (D : Apart z TI TO its ls) (B : Below z TI TO its ls lo) (hlo : lo ≤ s.heap.objs.size) (st : ZSt rows z TI TO its ls lo i s.heap) (hl : ∀ r ∈ rows, i < r.length) (hm : rows.length = its.length) (hn : its ≠ []) (hsz : its.length ≤ sizeLine)
    (hQ : ∀ h', ZSt rows z TI TO its ls lo (i + 1) h' → IsTupL h' s.heap.objs.size (col rows i) → h'.objs.size = s.heap.objs.size + 1 → Kp (z :: TO :: its) s.heap h' → Q (some (.ref s.heap.objs.size)) { s with heap := h' }) : wpAny (model prog w) A (pyNext (.ref z)) Q E s := by
  have hTy := st.typeIs
  obtain ⟨hTI, hI, hst⟩ := st
  have nz : TI ∉ z :: TO :: its := by
    simp only [List.mem_cons, not_or]
    exact ⟨D.TIz, D.TITO, D.nTI⟩
  unfold pyNext
  refine wpAny_bind (wpAny_attempt (wpAny_callSpecial?_slot (name := Str.ofString "__next__") hTy F.slot_zip_next
    (wpAny_call_entry F.slot_zip_next hTy F.entry_zip_next ?_ (F.args_zip_next_1 _))))
  rcases hst with ⟨e, hz, os, hO, ho⟩ | ⟨e, T, f, oT, hz, hT, hl'⟩
  · refine next_first D hz hTI hO ho hI hl hm hn hsz fun h' a1 a2 a3 a4 a5 => wpAny_pure (hQ h' ⟨a5 _ _ nz hTI, a2, .inr ⟨Nat.succ_pos i, _, _, _, a1, a3, hlo⟩⟩ a3 a4 a5)
  · have sub : ∀ b ∈ z :: its, b ∈ z :: TO :: its := fun b hb => by
      rcases List.mem_cons.mp hb with rfl | hb
      · exact List.mem_cons_self ..
      · exact List.mem_cons_of_mem _ (List.mem_cons_of_mem _ hb)
    have nT : T ∉ z :: its := fun hb => out_of (ls := ls) (TI := TI) B.bz B.bTO B.bi hl' (sub T hb)
    refine next_held D hz hT hTI hI hl hm hn hsz fun h' a1 a2 a3 a4 a5 => wpAny_pure (hQ h' ⟨a5 _ _ (fun hb => nz (sub _ hb)) hTI, a2, .inr ⟨Nat.succ_pos i, T, _, _, a1, a5 _ _ nT hT, hl'⟩⟩ a3 a4 (a5.sub sub))
theorem pyNext_end {lo : Nat} {Q : Option Value → Shared → Prop} (hh : A.handled = none) (D : Apart z TI TO its ls) (st : ZSt rows z TI TO its ls lo n s.heap) (h0 : 0 < n) (hl : ∀ r ∈ rows, r.length = n) (hn : its ≠ [])
    (hQ : ∀ h', Kp (z :: TO :: its) s.heap h' → Q none { s with heap := h' }) : wpAny (model prog w) A (pyNext (.ref z)) Q E s := by
  have hTy := st.typeIs
  obtain ⟨hTI, hI, hst⟩ := st
  unfold pyNext
  rcases hst with ⟨e, _⟩ | ⟨e, T, f, oT, hz, hT, hl'⟩
  · omega
  · refine wpAny_bind (wpAny_attempt (wpAny_callSpecial?_slot (name := Str.ofString "__next__") hTy F.slot_zip_next
      (wpAny_call_entry F.slot_zip_next hTy F.entry_zip_next (next_end hh D hz hT hTI hI hl hn fun h' e hk he => ?_) (F.args_zip_next_1 _))))
    obtain ⟨o, ho, hc⟩ := he
    refine wpAny_bind (wpAny_isInstance (T := "StopIteration") (b := true) ⟨o, ho, hc⟩ isSubtype_stop ?_)
    exact wpAny_pure (hQ _ (hk.sub fun b hb => by
      rcases List.mem_cons.mp hb with rfl | hb
      · exact List.mem_cons_self ..
      · exact List.mem_cons_of_mem _ (List.mem_cons_of_mem _ hb)))
end
/-! ### collect -/
theorem nolen_zip : typeLookup (.type "zip") "__len__" = pure none := by rw [typeLookup_type, builtinLookup_eq_fast]; kernel_rfl
theorem nohint_zip : typeLookup (.type "zip") "__length_hint__" = pure none := by rw [typeLookup_type, builtinLookup_eq_fast]; kernel_rfl
def Got (rows : List (List Value)) (lo : Nat) (h : Heap) (Ts : List Addr) (i : Nat) : Prop := Ts.length = i ∧ Ts.Pairwise (· < ·) ∧ (∀ T ∈ Ts, lo ≤ T ∧ T < h.objs.size) ∧ ∀ j T, Ts[j]? = some T → IsTupL h T (col rows j)
section
variable {prog : Program} {w : World} {A : Around} {E : Value → Shared → Prop} {z TI TO : Addr} {its ls : List Addr} {rows : List (List Value)} {n lo : Nat}
theorem Got.keep {h h' : Heap} {Ts : List Addr} {i : Nat} (g : Got rows lo h Ts i) (hz : h.objs.size ≤ h'.objs.size) (k : ∀ c o, lo ≤ c → h.get? c = some o → h'.get? c = some o) : Got rows lo h' Ts i :=
  ⟨g.1, g.2.1, fun T hT => ⟨(g.2.2.1 T hT).1, Nat.lt_of_lt_of_le (g.2.2.1 T hT).2 hz⟩, fun j T e => k _ _ (g.2.2.1 T (List.mem_of_getElem? e)).1 (g.2.2.2 j T e)⟩
theorem extend_zip {R : Result → Shared → Prop} (hh : A.handled = none) (D : Apart z TI TO its ls) (B : Below z TI TO its ls lo) (h0 : 0 < n) (hl : ∀ r ∈ rows, r.length = n) (hm : rows.length = its.length) (hn : its ≠ []) (hsz : its.length ≤ sizeLine) (hz : n ≤ sizeLine)
    (S : Addr) (hS1 : S + 1 = lo) (hS2 : ∀ c, (c = z ∨ c = TI ∨ c = TO ∨ c ∈ its ∨ c ∈ ls) → c ≠ S) (res : Value) :
    ∀ (k i : Nat) (s : Shared) (Ts : List Addr) (c : Nat), n - i = k → i ≤ n → ZSt rows z TI TO its ls lo i s.heap → lo ≤ s.heap.objs.size → s.heap.get? S = some { cls := .type "list", dict := none, data := .seq (Ts.map Value.ref).toArray c, slots := #[] } → Got rows lo s.heap Ts i →
    (∀ h' Ts' c', Kp (S :: z :: TO :: its) s.heap h' → h'.get? S = some { cls := .type "list", dict := none, data := .seq (Ts'.map Value.ref).toArray c', slots := #[] } → Got rows lo h' Ts' n → R (.ok (.ret res)) { s with heap := h' }) →
    codeAny (model prog w) A (.builtin "list.extend.loop" ⟨[.ref S, .ref z, res], []⟩) R s := by
  have hSn : S ∉ z :: TO :: its := fun hb => by
    simp only [List.mem_cons] at hb
    rcases hb with q | q | q
    · exact hS2 z (.inl rfl) q.symm
    · exact hS2 TO (.inr (.inr (.inl rfl))) q.symm
    · exact hS2 S (.inr (.inr (.inr (.inl q)))) rfl
  have hSlo : S = lo - 1 := by rw [← hS1]; rfl
  have hlo0 : 0 < lo := by rw [← hS1]; exact Nat.succ_pos S
  intro k
  induction k with
  | zero =>
    intro i s Ts c hk hi hst hlo hS hg hR
    have hin : i = n := by omega
    subst hin
    refine codeAny_builtin F.entry_extend_loop ?_
    rw [Around.under_plainId F.plain_extend_loop _]
    show wpAny _ A.in1 (pyNext (.ref z) >>= _) _ _ s
    refine wpAny_bind (pyNext_end hh D hst h0 hl hn fun h' hk => ?_)
    refine wpAny_pure (hR h' Ts c (hk.sub fun b hb => List.mem_cons_of_mem _ hb) (hk _ _ hSn hS) ?_)
    refine ⟨hg.1, hg.2.1, fun T hT => ⟨(hg.2.2.1 T hT).1, ?_⟩, fun j T e => hk _ _ (fun hb => ?_) (hg.2.2.2 j T e)⟩
    · obtain ⟨j, hj⟩ := List.mem_iff_getElem?.mp hT
      have e := hg.2.2.2 j T hj
      exact Heap.lt_size (hk _ _ (out_of (ls := ls) (TI := TI) B.bz B.bTO B.bi (hg.2.2.1 T hT).1) e)
    · exact out_of (ls := ls) (TI := TI) B.bz B.bTO B.bi (hg.2.2.1 T (List.mem_of_getElem? e)).1 hb
  | succ k ih =>
    intro i s Ts c hk hi hst hlo hS hg hR
    have hlt : i < n := by omega
    refine codeAny_builtin F.entry_extend_loop ?_
    rw [Around.under_plainId F.plain_extend_loop _]
    show wpAny _ A.in1 (pyNext (.ref z) >>= _) _ _ s
    refine wpAny_bind (pyNext_item D B hlo hst (fun r hr => by rw [hl r hr]; exact hlt) hm hn hsz fun h' st' hT hz' kp => ?_)
    have hS' := kp _ _ hSn hS
    show wpAny _ A.in1 (updateSeq S (·.push (.ref s.heap.objs.size)) >>= _) _ _ _
    refine wpAny_bind ?_
    have eS : h'.get? S = some { cls := .type "list", dict := none, data := .seq (Ts.map Value.ref).toArray c, slots := #[] } := hS'
    have oth : ∀ b o, b ≠ S → h'.get? b = some o → (h'.update S (Obj.mapSeq (·.push (.ref s.heap.objs.size)))).get? b = some o := fun b o hb e => (Heap.get?_update_other _ _ (Ne.symm hb)).trans e
    refine wpAny_updateSeq (s := { s with heap := h' }) eS rfl (wpAny_pure ⟨plainId_quiet F.plain_extend_loop _, ih (i + 1) _ (Ts ++ [s.heap.objs.size]) _ (by omega) hlt ?_ ?_ (by
        have z := Heap.get?_update_self (Obj.mapSeq (·.push (Value.ref s.heap.objs.size))) eS rfl
        refine z.trans ?_
        simp [Obj.mapSeq]; rfl) ?_ fun h2 Ts' c' kp2 hS2' hg2 => ?_⟩) (by rw [List.size_toArray, List.length_map, hg.1]; omega) (by simp [hg.1]; omega)
    · refine ZSt.keep B st' (fun b o hb e => oth b o (by rw [hSlo]; exact hb) e) (fun b hb => by rw [← hSlo]; exact hS2 b hb) hlo0
    · show lo ≤ (h'.update S _).objs.size
      rw [(Heap.SameBut.update (h := h') (a := S) ..).1, hz']
      exact Nat.le_succ_of_le hlo
    · have g1 : Got rows lo h' Ts i := hg.keep (by omega) fun b o hb e => kp _ _ (out_of (ls := ls) (TI := TI) B.bz B.bTO B.bi hb) e
      have g2 : Got rows lo (h'.update S (Obj.mapSeq (·.push (.ref s.heap.objs.size)))) Ts i := g1.keep (by rw [(Heap.SameBut.update (h := h') (a := S) ..).1]; exact Nat.le_refl _) fun b o hb e => oth b o (by rw [hSlo]; exact ne_pred hlo0 hb) e
      refine ⟨by rw [List.length_append, hg.1]; rfl, List.pairwise_append.mpr ⟨hg.2.1, List.pairwise_singleton .., fun a ha b hb => ?_⟩, fun T hT' => ?_, fun j T e => ?_⟩
      · rw [List.mem_singleton.mp hb]
        exact (hg.2.2.1 a ha).2
      · rcases List.mem_append.mp hT' with q | q
        · exact g2.2.2.1 T q
        · rw [List.mem_singleton.mp q]
          refine ⟨hlo, ?_⟩
          show _ < (h'.update S _).objs.size
          rw [(Heap.SameBut.update (h := h') (a := S) ..).1, hz']
          exact Nat.lt_succ_self _
      · by_cases hj : j < Ts.length
        · rw [List.getElem?_append_left hj] at e
          exact g2.2.2.2 j T e
        · rw [List.getElem?_append_right (by omega)] at e
          have hj0 : j - Ts.length = 0 := by
            rcases Nat.eq_zero_or_pos (j - Ts.length) with q | q
            · exact q
            · rw [List.getElem?_eq_none (by simp; omega)] at e
              cases e
          rw [hj0] at e
          cases e
          have hji : j = i := is_last hj hj0 hg.1
          subst hji
          exact oth _ _ (by rw [hSlo]; exact ne_pred hlo0 hlo) hT
    · refine hR h2 Ts' c' (Kp.trans (Kp.trans (kp.sub fun b hb => List.mem_cons_of_mem _ hb) fun b o hb e => oth b o (fun q => hb (by rw [q]; exact List.mem_cons_self ..)) e) kp2) hS2' hg2
end
end ZS
set_option Elab.async false
set_option linter.all false
set_option maxRecDepth 100000
set_option maxHeartbeats 1000000
/-! Zs1: tuple(zip(*rows)) -/
namespace ZS
open PySem PySem.Spec PyProof.Rows
open PySem.Sem (wp)
section
variable {prog : Program} {w : World} {A : Around} {E : Value → Shared → Prop} {s : Shared} {z TI TO : Addr} {its ls : List Addr} {rows : List (List Value)} {n lo : Nat}
theorem Below.up {a b : Nat} (B : Below z TI TO its ls a) (h : a ≤ b) : Below z TI TO its ls b := ⟨Nat.lt_of_lt_of_le B.bz h, Nat.lt_of_lt_of_le B.bTI h, Nat.lt_of_lt_of_le B.bTO h, fun c hc => Nat.lt_of_lt_of_le (B.bi c hc) h, fun c hc => Nat.lt_of_lt_of_le (B.bl c hc) h⟩
theorem Below.ne {a : Nat} (B : Below z TI TO its ls a) : ∀ c, (c = z ∨ c = TI ∨ c = TO ∨ c ∈ its ∨ c ∈ ls) → c ≠ a := fun c hc => Nat.ne_of_lt (by
  rcases hc with q | q | q | q | q
  · rw [q]; exact B.bz
  · rw [q]; exact B.bTI
  · rw [q]; exact B.bTO
  · exact B.bi c q
  · exact B.bl c q)
theorem Got.nil (rows : List (List Value)) (lo : Nat) (h : Heap) : Got rows lo h [] 0 := ⟨rfl, List.Pairwise.nil, (fun _ h => by simp at h), fun j T e => by simp at e⟩
theorem ZSt.first {h : Heap} (st : ZSt rows z TI TO its ls lo 0 h) : IsTupL h TI (its.map Value.ref) ∧ Its h its ls rows (fun _ => 0) ∧ IsZip h z TI TO .none ∧ ∃ os, IsTupA h TO os ∧ os.size = its.length := by
  obtain ⟨h1, h2, ⟨_, h3, h4⟩ | ⟨e, _⟩⟩ := st
  · exact ⟨h1, h2, h3, h4⟩
  · exact absurd e (Nat.lt_irrefl 0)
theorem collect_zip {Q : List Value → Shared → Prop} (hh : A.handled = none) (D : Apart z TI TO its ls) (B : Below z TI TO its ls s.heap.objs.size) (h0 : 0 < n) (hl : ∀ r ∈ rows, r.length = n) (hm : rows.length = its.length) (hn : its ≠ []) (hsz : its.length ≤ sizeLine) (hz : n ≤ sizeLine)
    (st : ZSt rows z TI TO its ls 0 0 s.heap)
    (hQ : ∀ h' Ts, Kp (z :: TO :: its) s.heap h' → Got rows s.heap.objs.size h' Ts n → Q (Ts.map Value.ref) { s with heap := h' }) : wpAny (model prog w) A (collect (.ref z)) Q E s := by
  have hSz : s.heap.objs.size ≠ z := Nat.ne_of_gt B.bz
  unfold collect
  refine wpAny_bind (wpAny_runValue (codeAny_builtin F.entry_proto_collect ?_))
  rw [Around.under_plainId F.plain_proto_collect _]
  show wpAny _ A.in1 (newList [] >>= fun l' => again (.builtin "list.__iadd__" ⟨[l', .ref z], []⟩)) _ _ s
  refine wpAny_bind (wpAny_newObj_type ?_)
  refine wpAny_pure ⟨plainId_quiet F.plain_list_iadd _, codeAny_builtin F.entry_list_iadd ?_⟩
  rw [Around.under_plainId F.plain_list_iadd _]
  have hS₁ : (s.heap.push { cls := .type "list", data := .seq ([] : List Value).toArray }).get? s.heap.objs.size = some { cls := .type "list", data := .seq ([] : List Value).toArray } := Heap.get?_push_size _ rfl
  obtain ⟨a1, a2, a3, os, a4, a5⟩ := st.first
  have st1 : ZSt rows z TI TO its ls (s.heap.objs.size + 1) 0 (s.heap.push { cls := .type "list", data := .seq ([] : List Value).toArray }) := ⟨Heap.get?_push_of_some _ a1, a2.keep fun c o _ e => Heap.get?_push_of_some _ e, .inl ⟨rfl, Heap.get?_push_of_some _ a3, os, Heap.get?_push_of_some _ a4, a5⟩⟩
  have hT : ({ s with heap := s.heap.push { cls := .type "list", data := .seq ([] : List Value).toArray } } : Shared).TypeIs (.ref z) "zip" := ZSt.typeIs (s := { s with heap := s.heap.push { cls := .type "list", data := .seq ([] : List Value).toArray } }) st1
  have h1 : Builtin.List.listSameRef (.ref s.heap.objs.size) (.ref z) = false := by simp [Builtin.List.listSameRef, hSz]
  show wpAny _ A.in1 (Builtin.List.listExtendWith (.ref s.heap.objs.size) (.ref z) (.ref s.heap.objs.size)) _ _ _
  unfold Builtin.List.listExtendWith
  refine wpAny_bind (wpAny_typeOf hT ?_)
  rw [if_neg (by rw [h1]; decide)]
  refine wpAny_bind (wpAny_pyIter_zip (s := { s with heap := s.heap.push { cls := .type "list", data := .seq ([] : List Value).toArray } }) st1.first.2.2.1 ?_)
  refine wpAny_bind (wpAny_holding ?_)
  unfold Builtin.List.listLengthHint
  refine wpAny_bind (wpAny_specialOf hT nolen_zip ?_)
  show wpAny _ A.in1 (specialOf (Value.ref z) (Str.ofString "__length_hint__") >>= _) _ _ _
  refine wpAny_bind (wpAny_specialOf hT nohint_zip ?_)
  refine wpAny_pure ?_
  show wpAny _ A.in1 (rule "list.extend.makes-room" >>= fun _ => Builtin.List.listTouch (.ref s.heap.objs.size) >>= fun _ =>
    again (.builtin "list.extend.loop" ⟨[.ref s.heap.objs.size, .ref z, .ref s.heap.objs.size], []⟩)) _ _ _
  refine wpAny_bind (wpAny_rule ?_)
  refine wpAny_bind ?_
  show wpAny _ A.in1 (updateSeq s.heap.objs.size (·.push .none) >>= fun _ => updateSeq s.heap.objs.size (·.pop)) _ _ _
  refine wpAny_bind (wpAny_updateSeq hS₁ rfl ?_)
  have hS₂ := Heap.get?_update_self (Obj.mapSeq (·.push Value.none)) hS₁ rfl
  refine wpAny_updateSeq hS₂ rfl ?_
  have hS₃ := Heap.get?_update_self (Obj.mapSeq (·.pop)) hS₂ rfl
  have oth : ∀ b o, b ≠ s.heap.objs.size → (s.heap.push { cls := .type "list", data := .seq ([] : List Value).toArray }).get? b = some o →
      (((s.heap.push { cls := .type "list", data := .seq ([] : List Value).toArray }).update s.heap.objs.size (Obj.mapSeq (·.push Value.none))).update s.heap.objs.size (Obj.mapSeq (·.pop))).get? b = some o :=
    fun b o hb e => (Heap.get?_update_other _ _ (Ne.symm hb)).trans ((Heap.get?_update_other _ _ (Ne.symm hb)).trans e)
  have hsz2 : (((s.heap.push { cls := .type "list", data := .seq ([] : List Value).toArray }).update s.heap.objs.size (Obj.mapSeq (·.push Value.none))).update s.heap.objs.size (Obj.mapSeq (·.pop))).objs.size = s.heap.objs.size + 1 := by
    rw [(Heap.SameBut.update ..).1, (Heap.SameBut.update ..).1, Heap.size_push]
  refine wpAny_pure ⟨plainId_quiet F.plain_extend_loop _, extend_zip hh D (B.up (Nat.le_succ _)) h0 hl hm hn hsz hz s.heap.objs.size rfl B.ne _ n 0 _ [] _ rfl (Nat.zero_le _) ?_ (Nat.le_of_eq hsz2.symm) hS₃ (Got.nil _ _ _) fun h' Ts c' kp hS' hg => ?_⟩
  · exact ZSt.keep (B.up (Nat.le_succ _)) st1 (fun c o hc e => oth c o hc e) B.ne (Nat.succ_pos _)
  · show wpAny _ A (load s.heap.objs.size >>= _) _ _ _
    refine wpAny_bind (wpAny_load hS' ?_)
    refine wpAny_pure ?_
    show Q (Ts.map Value.ref).toArray.toList _
    rw [List.toList_toArray]
    refine hQ h' Ts (fun b o hb e => kp _ _ (fun q => ?_) (oth b o (Nat.ne_of_lt (Heap.lt_size e)) (Heap.get?_push_of_some _ e))) ⟨hg.1, hg.2.1, fun T hT => ⟨Nat.le_of_succ_le (hg.2.2.1 T hT).1, (hg.2.2.1 T hT).2⟩, hg.2.2.2⟩
    rcases List.mem_cons.mp q with q | q
    · exact absurd (Heap.lt_size e) (by rw [q]; exact Nat.lt_irrefl _)
    · exact hb q
theorem code_tuple_zip {Q₁ : Value → Shared → Prop} (hh : A.handled = none) (D : Apart z TI TO its ls) (B : Below z TI TO its ls s.heap.objs.size) (h0 : 0 < n) (hl : ∀ r ∈ rows, r.length = n) (hm : rows.length = its.length) (hn : its ≠ []) (hsz : its.length ≤ sizeLine) (hz : n ≤ sizeLine)
    (st : ZSt rows z TI TO its ls 0 0 s.heap)
    (h : ∀ (h' : Heap) (Ts : List Addr), Kp (z :: TO :: its) s.heap h' → Got rows s.heap.objs.size h' Ts n → Q₁ (.ref h'.objs.size) { s with heap := h'.push { cls := .type "tuple", data := .seq (Ts.map Value.ref).toArray } }) :
    codeAny (model prog w) A (.call (.builtin "tuple.__new__") ⟨[.type "tuple", .ref z], []⟩) (wants Q₁ E) s := by
  refine codeAny_of_tree ?_
  show wpAny _ A.in1 (do checkBuiltinCall "tuple.__new__" ⟨[.type "tuple", .ref z], []⟩; again (.builtin "tuple.__new__" ⟨[.type "tuple", .ref z], []⟩)) _ _ s
  refine wpAny_bind (wpAny_of_eq (F.newCall_tuple_1 _) (wpAny_pure ⟨plainId_quiet F.plain_tuple_new _, codeAny_builtin F.entry_tuple_new ?_⟩))
  rw [Around.under_plainId F.plain_tuple_new _]
  have hsub := sub_tuple_self
  have hinit := init_tuple_lookup
  have hmh := madeHere_tuple
  have hTI : s.TypeIs (.ref z) "zip" := st.typeIs
  have hh1 : A.in1.handled = none := hh
  wp_walk using wpAny_typeOf hTI, collect_zip (A := A.in1) hh1 D B h0 hl hm hn hsz hz st
  intro h' Ts hk hg
  show wpAny _ _ (Builtin.Tuple.tupleExact (Ts.map Value.ref).toArray >>= fun v => ret v) _ _ _
  unfold Builtin.Tuple.tupleExact
  refine wpAny_bind (wpAny_newObj_type ?_ (by show (Ts.map Value.ref).toArray.size ≤ sizeLine; rw [List.size_toArray, List.length_map, hg.1]; exact hz))
  exact wpAny_pure (h h' Ts hk hg)
theorem call_tuple_zip {Q : Value → Shared → Prop} (hh : A.handled = none) (D : Apart z TI TO its ls) (B : Below z TI TO its ls s.heap.objs.size) (h0 : 0 < n) (hl : ∀ r ∈ rows, r.length = n) (hm : rows.length = its.length) (hn : its ≠ []) (hsz : its.length ≤ sizeLine) (hz : n ≤ sizeLine)
    (st : ZSt rows z TI TO its ls 0 0 s.heap)
    (hQ : ∀ (h' : Heap) (Ts : List Addr), Kp (z :: TO :: its) s.heap h' → Got rows s.heap.objs.size h' Ts n → Q (.ref h'.objs.size) { s with heap := h'.push { cls := .type "tuple", data := .seq (Ts.map Value.ref).toArray } }) :
    wpAny (model prog w) A (call (.type "tuple") [.ref z]) Q E s := by
  refine callType_codes (Q₁ := fun obj s₁ => s₁.TypeIs obj "tuple" ∧ Q obj s₁) F.called_tuple (F.typeCall_tuple_1 _) F.entry_object_init
    (code_tuple_zip (A := A.in1) hh D B h0 hl hm hn hsz hz st fun h' Ts hk hg => ⟨⟨_, Heap.get?_push_size _ rfl, rfl⟩, hQ h' Ts hk hg⟩) fun obj s₁ h₁ => ?_
  exact ⟨h₁.1, F.args_object_init_2 obj _, object_init_meets F.called_tuple.init.lookup F.called_tuple.made (by decide) prog w A.in1 _ s₁ ⟨h₁.1, rfl, h₁.2⟩⟩
/-! ### zip(*rows) -/
theorem iterAll_tuples {Q : List Value → Shared → Prop} (hlr : ls.length = rows.length) (hT : ∀ (j : Nat) (l : Addr) (r : List Value), ls[j]? = some l → rows[j]? = some r → s.heap.IsTuple l r.toArray)
    (hQ : ∀ h', (∀ j l, ls[j]? = some l → h'.IsTupleIter (s.heap.objs.size + j) l 0) → h'.objs.size = s.heap.objs.size + ls.length → (∀ c o, s.heap.get? c = some o → h'.get? c = some o) → Q ((List.range ls.length).map fun j => .ref (s.heap.objs.size + j)) { s with heap := h' }) :
    wpAny (model prog w) A (Builtin.SmallTypes.iterAll (ls.map Value.ref)) Q E s := by
  unfold Builtin.SmallTypes.iterAll
  refine wpAny_bind ?_
  refine wpAny_forIn_list _ (fun rest b s' => ∃ k h', rest = (ls.map Value.ref).drop k ∧ k ≤ ls.length ∧ b.toList = ((List.range k).map fun j => Value.ref (s.heap.objs.size + j)) ∧ s' = { s with heap := h' } ∧ (∀ j l, j < k → ls[j]? = some l → h'.IsTupleIter (s.heap.objs.size + j) l 0) ∧ h'.objs.size = s.heap.objs.size + k ∧ ∀ c o, s.heap.get? c = some o → h'.get? c = some o) _ ?turn ?fin _ _ ?start
  case start => exact ⟨0, s.heap, by simp, Nat.zero_le _, rfl, rfl, fun j l hj => absurd hj (Nat.not_lt_zero j), rfl, fun _ _ e => e⟩
  case turn =>
    rintro x rest b s' ⟨k, h', hr, hk, hb, rfl, hi, hz, kp⟩
    have hlt : k < ls.length := by
      rcases Nat.lt_or_ge k ls.length with h | h
      · exact h
      · rw [List.drop_of_length_le (by rw [List.length_map]; exact h)] at hr
        cases hr
    have hd : (ls.map Value.ref).drop k = Value.ref ls[k] :: (ls.map Value.ref).drop (k + 1) := by
      rw [List.drop_eq_getElem_cons (by rw [List.length_map]; exact hlt), List.getElem_map]
    rw [hd] at hr
    injection hr with hx hr
    subst hx hr
    have ht := hT k ls[k] rows[k] (List.getElem?_eq_getElem hlt) (List.getElem?_eq_getElem (by omega))
    have ht' : h'.IsTuple ls[k] rows[k].toArray := ht.at fun o e => kp _ o e
    refine wpAny_bind (wpAny_holding (wpAny_pyIter_tuple (s := { s with heap := h' }) ht' ?_))
    refine wpAny_pure ⟨k + 1, _, rfl, hlt, ?_, rfl, fun j l hj e => ?_, by rw [Heap.size_push, hz]; rfl, fun c o e => Heap.get?_push_of_some _ (kp c o e)⟩
    · rw [Array.toList_push, hb, List.range_succ, List.map_append]
      show _ ++ [Value.ref h'.objs.size] = _
      rw [hz]
      rfl
    · by_cases hjk : j = k
      · subst hjk
        rw [List.getElem?_eq_getElem hlt] at e
        cases e
        refine ⟨{ cls := .type "tuple_iterator", data := .fields #[.ref ls[j], .int 0 0] }, ?_, rfl, rfl⟩
        have y := Heap.get?_push_size h' (o := { cls := .type "tuple_iterator", data := .fields #[.ref ls[j], .int 0 0] }) rfl
        rw [hz] at y
        exact y
      · obtain ⟨o, ho, r⟩ := hi j l (by omega) e
        exact ⟨o, Heap.get?_push_of_some _ ho, r⟩
  case fin =>
    rintro b s' ⟨k, h', hr, hk, hb, rfl, hi, hz, kp⟩
    have hke : k = ls.length := by
      rcases Nat.lt_or_ge k ls.length with h | h
      · have := congrArg List.length hr
        rw [List.length_drop, List.length_map] at this
        simp at this
        omega
      · omega
    subst hke
    refine wpAny_pure ?_
    rw [hb]
    exact hQ h' (fun j l e => hi j l (List.getElem?_eq_some_iff.mp e).1 e) hz kp
end
end ZS
set_option Elab.async false
set_option linter.all false
set_option maxRecDepth 100000
set_option maxHeartbeats 1000000
/-! Zs2: zip(*rows) -/
namespace ZS
open PySem PySem.Spec PyProof.Rows
open PySem.Sem (wp)
structure ZNew (ls : List Addr) (h h' : Heap) : Prop where
  it : ∀ j l, ls[j]? = some l → h'.IsTupleIter (h.objs.size + j) l 0
  TI : IsTupL h' (h.objs.size + ls.length) ((List.range ls.length).map fun j => Value.ref (h.objs.size + j))
  TO : IsTupL h' (h.objs.size + ls.length + 1) (((List.range ls.length).map fun j => Value.ref (h.objs.size + j)).map fun _ => Value.none)
  z : IsZip h' (h.objs.size + ls.length + 2) (h.objs.size + ls.length) (h.objs.size + ls.length + 1) .none
  sz : h'.objs.size = h.objs.size + ls.length + 3
  kp : ∀ c o, h.get? c = some o → h'.get? c = some o
def Rows (ls : List Addr) (rows : List (List Value)) (h : Heap) : Prop := ls.length = rows.length ∧ ∀ (j : Nat) (l : Addr) (r : List Value), ls[j]? = some l → rows[j]? = some r → h.IsTuple l r.toArray
theorem meets_zip_new (ls : List Addr) (rows : List (List Value)) (hsz : ls.length ≤ sizeLine) :
    Meets (Builtin.«zip.__new__» ⟨.type "zip" :: ls.map Value.ref, []⟩) (fun _ R s => Rows ls rows s.heap ∧ ∀ h', ZNew ls s.heap h' → R (.ok (.ret (.ref (s.heap.objs.size + ls.length + 2)))) { s with heap := h' }) :=
  .of_wp fun prog w A R s h => by
    obtain ⟨hp, g, d, tk, os⟩ := s
    obtain ⟨⟨hlr, hT⟩, h⟩ := h
    have hsub := sub_zip
    have hq : ∀ {A' : Around} {E : Value → Shared → Prop} {Q : List Value → Shared → Prop}, (∀ h', (∀ j l, ls[j]? = some l → h'.IsTupleIter (hp.objs.size + j) l 0) → h'.objs.size = hp.objs.size + ls.length → (∀ c o, hp.get? c = some o → h'.get? c = some o) → Q ((List.range ls.length).map fun j => .ref (hp.objs.size + j)) ⟨h', g, d, tk, os⟩) → wpAny (model prog w) A' (Builtin.SmallTypes.iterAll (ls.map Value.ref)) Q E ⟨hp, g, d, tk, os⟩ := fun hQ => iterAll_tuples (s := ⟨hp, g, d, tk, os⟩) hlr hT hQ
    wp_walk using hq
    intro h' hi hz kp
    refine wpAny_bind (wpAny_newTuple ?_ (by rw [List.length_map, List.length_range]; exact hsz))
    refine wpAny_bind (wpAny_newTuple ?_ (by rw [List.length_map, List.length_map, List.length_range]; exact hsz))
    wp_walk
    refine ⟨_, rfl, ?_⟩
    have z1 : ∀ o, (h'.push o).objs.size = hp.objs.size + ls.length + 1 := fun o => by rw [Heap.size_push, hz]
    have z2 : ∀ o o2, ((h'.push o).push o2).objs.size = hp.objs.size + ls.length + 2 := fun o o2 => by rw [Heap.size_push, z1]
    have z3 : ∀ o o2 o3, (((h'.push o).push o2).push o3).objs.size = hp.objs.size + ls.length + 3 := fun o o2 o3 => by rw [Heap.size_push, z2]
    show R (.ok (.ret (.ref ((h'.push { cls := .type "tuple", data := .seq ((List.range ls.length).map fun j => Value.ref (hp.objs.size + j)).toArray }).push { cls := .type "tuple", data := .seq (((List.range ls.length).map fun j => Value.ref (hp.objs.size + j)).map fun _ => Value.none).toArray }).objs.size))) _
    rw [z2]
    refine h _ ⟨fun j l e => ?_, ?_, ?_, ?_, z3 _ _ _, fun c o e => Heap.get?_push_of_some _ (Heap.get?_push_of_some _ (Heap.get?_push_of_some _ (kp c o e)))⟩
    · exact (hi j l e).at fun o q => Heap.get?_push_of_some _ (Heap.get?_push_of_some _ (Heap.get?_push_of_some _ q))
    · have y := Heap.get?_push_size h' (o := { cls := .type "tuple", data := .seq ((List.range ls.length).map fun j => Value.ref (hp.objs.size + j)).toArray }) rfl
      rw [hz] at y
      exact Heap.get?_push_of_some _ (Heap.get?_push_of_some _ y)
    · have y := Heap.get?_push_size (h'.push { cls := .type "tuple", data := .seq ((List.range ls.length).map fun j => Value.ref (hp.objs.size + j)).toArray }) (o := { cls := .type "tuple", data := .seq (((List.range ls.length).map fun j => Value.ref (hp.objs.size + j)).map fun _ => Value.none).toArray }) rfl
      rw [z1] at y
      exact Heap.get?_push_of_some _ y
    · have y := Heap.get?_push_size ((h'.push { cls := .type "tuple", data := .seq ((List.range ls.length).map fun j => Value.ref (hp.objs.size + j)).toArray }).push { cls := .type "tuple", data := .seq (((List.range ls.length).map fun j => Value.ref (hp.objs.size + j)).map fun _ => Value.none).toArray }) (o := { cls := .type "zip", data := .fields #[.none, .bool false, .bool false, .ref h'.objs.size, .ref (h'.push { cls := .type "tuple", data := .seq ((List.range ls.length).map fun j => Value.ref (hp.objs.size + j)).toArray }).objs.size] }) rfl
      rw [z2] at y
      exact y.trans (by rw [z1, hz])
section
variable {prog : Program} {w : World} {A : Around} {E : Value → Shared → Prop} {s : Shared} {ls : List Addr} {rows : List (List Value)} {n : Nat}
theorem call_zipS {Q : Value → Shared → Prop} (hsz : ls.length ≤ sizeLine) (hn : ls ≠ []) (hT : Rows ls rows s.heap) (h : ∀ h', ZNew ls s.heap h' → Q (.ref (s.heap.objs.size + ls.length + 2)) { s with heap := h' }) :
    wpAny (model prog w) A (call (.type "zip") (ls.map Value.ref)) Q E s := by
  obtain ⟨a, b, rfl⟩ : ∃ a b, ls = a :: b := by
    cases ls with
    | nil => exact absurd rfl hn
    | cons a b => exact ⟨a, b, rfl⟩
  refine callType_new F.called_zip (by decide) (tcz _) (ncz _ _) (fun obj => aoi obj _) F.entry_zip_new (meets_zip_new (a :: b) rows hsz) ⟨hT, fun h' hz => ⟨⟨_, hz.z, rfl⟩, h h' hz⟩⟩
end
end ZS
set_option Elab.async false
set_option linter.all false
set_option maxRecDepth 100000
set_option maxHeartbeats 1000000
/-! Zs3: tuple(zip(*rows)) over the hand layer -/
namespace ZS
open PySem PySem.Spec PyProof.Rows L2
/-- new objects, one after the other -/
def layL (H : Hp) : List (Addr × HO) → Hp
  | [] => H
  | p :: r => layL (upd H p.1 p.2) r
theorem layL_out {l : List (Addr × HO)} : ∀ {H : Hp} {b : Addr}, (∀ p ∈ l, p.1 ≠ b) → layL H l b = H b := by
  induction l with
  | nil => exact fun _ => rfl
  | cons p r ih =>
    intro H b h
    show layL (upd H p.1 p.2) r b = _
    rw [ih fun q hq => h q (List.mem_cons_of_mem _ hq), upd_ne (fun z => h p (List.mem_cons_self ..) z.symm)]
theorem layL_in {l : List (Addr × HO)} : ∀ {H : Hp} {b : Addr} {o : HO}, l.Pairwise (fun p q => p.1 ≠ q.1) → (b, o) ∈ l → layL H l b = some o := by
  induction l with
  | nil => exact fun _ h => nomatch h
  | cons p r ih =>
    intro H b o hp hm
    obtain ⟨h1, h2⟩ := List.pairwise_cons.mp hp
    show layL (upd H p.1 p.2) r b = _
    rcases List.mem_cons.mp hm with e | hm
    · rw [← e] at h1 ⊢
      rw [layL_out fun q hq => Ne.symm (h1 q hq), upd_same]
    · exact ih h2 hm
section
variable {X : Cx} {pins : List (Addr × Obj)} {σ : L2.St} {H H' : Hp} {s : Shared} {h' : Heap}
/-- many new objects laid and tracked -/
theorem laidAll {t' : Nat} (I : Inv X pins σ H s) (k : ∀ b u, s.heap.get? b = some u → h'.get? b = some u) (old : ∀ b, b < s.heap.objs.size → H' b = H b)
    (new : ∀ b u, s.heap.objs.size ≤ b → H' b = some u → ObjOk X.prog X.w H' h' b u) : Inv X pins σ H' { s with heap := h', toks := t' } := by
  have lt : ∀ {b : Addr} {o : HO}, H b = some o → b < s.heap.objs.size := fun e => I.hok.lt e
  refine I.un ⟨fun b o e _ _ _ => k b o e, fun b o e _ _ _ => ⟨o.slots, k b o e⟩, fun b o e n _ => (old b (Heap.lt_size e)).trans n, fun b o e _ => ⟨o, k b o e⟩, fun b xs e => (old b (lt e)).trans e, fun b o u e => (old b (lt e)).trans e, fun b ps e => ⟨#[], by rw [old b (lt e), e]; simp⟩⟩ fun b u e => ?_
  rcases Nat.lt_or_ge b s.heap.objs.size with hb | hb
  · rw [old b hb] at e
    exact (I.hok b u e).stay (fun c v _ q => k c v q) (fun c q => (old c (lt q)).trans q) fun c xs q => (old c (lt q)).trans q
  · exact new b u hb e
end
/-- what stands in place i of each row -/
def colV (rows : List (List V)) (i : Nat) : List V := rows.map fun r => r.getD i .non
def tZip (K : PySem.W.Frag) (te : TE) : TE := fun σ H Q => te σ H fun y H1 => ∃ (a : Addr) (ps : List Addr) (rows : List (List V)) (n : Nat), y = .ref a ∧ (SqT K H1 a (ps.map V.ref) ∨ SqL K H1 a (ps.map V.ref)) ∧ ps.length = rows.length ∧ (∀ (j : Nat) (p : Addr) (r : List V), ps[j]? = some p → rows[j]? = some r → SqT K H1 p r ∧ r.length = n) ∧
  ps ≠ [] ∧ ps.length ≤ sizeLine ∧ 0 < n ∧ n ≤ sizeLine ∧ ∀ (Ts : List Addr) (T : Addr), Ts.length = n → (∀ b ∈ Ts, H1 b = none) → Ts.Pairwise (· ≠ ·) → H1 T = none → (∀ b ∈ Ts, b ≠ T) → Q (.ref T) (upd (layL H1 (Ts.zip ((List.range n).map fun i => HO.tup (colV rows i)))) T (.tup (Ts.map V.ref)))
theorem vals_refs : ∀ {ps : List Addr} {us : List Value}, Vals (ps.map V.ref) us → us = ps.map Value.ref
  | [], [], .nil => rfl
  | p :: ps, _, .cons r t => by
    rw [vals_refs t]
    obtain rfl := r
    rfl
theorem refs_vals : ∀ (ps : List Addr), Vals (ps.map V.ref) (ps.map Value.ref)
  | [] => .nil
  | p :: ps => .cons rfl (refs_vals ps)
theorem lt_nat {a b : Nat} (h : a < b) : a < b := h
theorem eq_nat {a b : Nat} (h : a = b) : a = b := h
/-- the rows' values -/
theorem rows_vals {X : Cx} {pins : List (Addr × Obj)} {σ : L2.St} {H : Hp} {s : Shared} (I : Inv X pins σ H s) : ∀ (ps : List Addr) (rows : List (List V)), ps.length = rows.length → (∀ (j : Nat) (p : Addr) (r : List V), ps[j]? = some p → rows[j]? = some r → SqT X.K H p r) →
    ∃ us : List (List Value), us.length = rows.length ∧ (∀ (j : Nat) (p : Addr) (u : List Value), ps[j]? = some p → us[j]? = some u → s.heap.IsTuple p u.toArray) ∧ ∀ (j : Nat) (r : List V) (u : List Value), rows[j]? = some r → us[j]? = some u → Vals r u
  | [], [], _, _ => ⟨[], rfl, fun j p u e => by simp at e, fun j r u e => by simp at e⟩
  | p :: ps, r :: rows, hl, h => by
    obtain ⟨u, ru, pu, _⟩ := I.tuple (h 0 p r rfl rfl)
    obtain ⟨us, h1, h2, h3⟩ := rows_vals I ps rows (by simpa using hl) fun j p' r' e1 e2 => h (j + 1) p' r' (by simpa using e1) (by simpa using e2)
    refine ⟨u :: us, by simpa using h1, fun j p' u' e1 e2 => ?_, fun j r' u' e1 e2 => ?_⟩
    · cases j with
      | zero => simp at e1 e2; rw [← e1, ← e2]; exact pu
      | succ j => exact h2 j p' u' (by simpa using e1) (by simpa using e2)
    · cases j with
      | zero => simp at e1 e2; rw [← e1, ← e2]; exact ru
      | succ j => exact h3 j r' u' (by simpa using e1) (by simpa using e2)
theorem vals_getD {r : List V} {u : List Value} (h : Vals r u) {i : Nat} (hi : i < r.length) : RelV (r.getD i .non) (u.getD i .none) := by
  obtain ⟨w, hw, rw_⟩ := h.get (List.getElem?_eq_getElem hi)
  rw [List.getD_eq_getElem?_getD, List.getD_eq_getElem?_getD, List.getElem?_eq_getElem hi, hw]
  exact rw_
theorem col_vals : ∀ {rows : List (List V)} {us : List (List Value)} {i n : Nat}, us.length = rows.length → (∀ (j : Nat) (r : List V) (u : List Value), rows[j]? = some r → us[j]? = some u → Vals r u) → (∀ r ∈ rows, r.length = n) → i < n → Vals (colV rows i) (col us i)
  | [], [], _, _, _, _, _, _ => .nil
  | r :: rows, u :: us, i, n, hl, h, hn, hi => by
    refine .cons (vals_getD (h 0 r u rfl rfl) (by rw [hn r (List.mem_cons_self ..)]; exact hi)) (col_vals (by simpa using hl) (fun j r' u' e1 e2 => h (j + 1) r' u' (by simpa using e1) (by simpa using e2)) (fun r' hr => hn r' (List.mem_cons_of_mem _ hr)) hi)
section
variable {X : Cx} {pins : List (Addr × Obj)} {σ : L2.St} {H : Hp} {s : Shared} {te : TE} {e : Expr} {p p2 ps_ pos pos2 : Pos}
theorem run_tzip {ps : List Addr} {rows : List (List V)} {n : Nat} {Q : VK} {E : Value → Shared → Prop} (hc : X.calm = true) (I : Inv X pins σ H s) (hlr : ps.length = rows.length) (hT : ∀ (j : Nat) (p : Addr) (r : List V), ps[j]? = some p → rows[j]? = some r → SqT X.K H p r ∧ r.length = n)
    (hn : ps ≠ []) (hsz : ps.length ≤ sizeLine) (h0 : 0 < n) (hz : n ≤ sizeLine) (q : ∀ (Ts : List Addr) (T : Addr), Ts.length = n → (∀ b ∈ Ts, H b = none) → Ts.Pairwise (· ≠ ·) → H T = none → (∀ b ∈ Ts, b ≠ T) → Q (.ref T) (upd (layL H (Ts.zip ((List.range n).map fun i => HO.tup (colV rows i)))) T (.tup (Ts.map V.ref)))) :
    wpAny (model X.prog X.w) X.A (call (.type "zip") (ps.map Value.ref)) (fun v s1 => wpAny (model X.prog X.w) X.A (call (.type "tuple") [v]) (EP X pins σ Q) E s1) E s := by
  obtain ⟨us, l1, t1, v1⟩ := rows_vals I ps rows hlr fun j p r e1 e2 => (hT j p r e1 e2).1
  have hrn : ∀ r ∈ rows, r.length = n := fun r hr => by
    obtain ⟨j, hj⟩ := List.mem_iff_getElem?.mp hr
    have hj2 : j < ps.length := by rw [hlr]; exact (List.getElem?_eq_some_iff.mp hj).1
    exact (hT j ps[j] r (List.getElem?_eq_getElem hj2) hj).2
  have hun : ∀ u ∈ us, u.length = n := fun u hu => by
    obtain ⟨j, hj⟩ := List.mem_iff_getElem?.mp hu
    have hj2 : j < rows.length := by rw [← l1]; exact (List.getElem?_eq_some_iff.mp hj).1
    have := (v1 j rows[j] u (List.getElem?_eq_getElem hj2) hj).length
    rw [← this]
    exact hrn _ (List.getElem_mem hj2)
  refine call_zipS hsz hn (rows := us) ⟨by rw [l1]; exact hlr, t1⟩ fun h1 N => ?_
  have psl : ∀ c : Nat, c ∈ ps → c < s.heap.objs.size := fun c hc => by
    obtain ⟨j, hj⟩ := List.mem_iff_getElem?.mp hc
    have hj2 : j < us.length := by rw [l1, ← hlr]; exact (List.getElem?_eq_some_iff.mp hj).1
    obtain ⟨o, ho, _⟩ := t1 j c us[j] hj (List.getElem?_eq_getElem hj2)
    exact Heap.lt_size ho
  let its : List Nat := (List.range ps.length).map fun j => s.heap.objs.size + j
  have itl : its.length = ps.length := by simp [its]
  have itm : ∀ c : Nat, c ∈ its → s.heap.objs.size ≤ c ∧ c < s.heap.objs.size + ps.length := fun c hc => by
    obtain ⟨j, hj, rfl⟩ := List.mem_map.mp hc
    exact ⟨Nat.le_add_right _ _, Nat.add_lt_add_left (List.mem_range.mp hj) _⟩
  have D : Apart (s.heap.objs.size + ps.length + 2) (s.heap.objs.size + ps.length) (s.heap.objs.size + ps.length + 1) its ps := {
    TIz := fun z => by have z : s.heap.objs.size + ps.length = s.heap.objs.size + ps.length + 2 := z; omega
    TOz := fun z => by have z : s.heap.objs.size + ps.length + 1 = s.heap.objs.size + ps.length + 2 := z; omega
    TITO := fun z => by have z : s.heap.objs.size + ps.length = s.heap.objs.size + ps.length + 1 := z; omega
    nz := fun hm => by have := (itm _ hm).2; omega
    nTI := fun hm => by have := (itm _ hm).2; omega
    nTO := fun hm => by have := (itm _ hm).2; omega
    nd := List.Pairwise.map _ (fun a b h z => h (by have z : s.heap.objs.size + a = s.heap.objs.size + b := z; omega)) List.nodup_range
    lz := fun l hl z => by have h := psl l hl; have z := eq_nat z; omega
    lTO := fun l hl z => by have h := psl l hl; have z := eq_nat z; omega
    li := fun l hl z => by have := psl l hl; have := (itm _ z).1; omega }
  have B : Below (s.heap.objs.size + ps.length + 2) (s.heap.objs.size + ps.length) (s.heap.objs.size + ps.length + 1) its ps h1.objs.size := by
    rw [N.sz]
    exact ⟨lt_nat (by omega), lt_nat (by omega), lt_nat (by omega), fun c hc => lt_nat (by have := (itm c hc).2; omega), fun c hc => lt_nat (by have := psl c hc; omega)⟩
  have hI : Its h1 its ps us fun _ => 0 := fun j a e => by
    have hj : j < ps.length := by rw [← itl]; exact (List.getElem?_eq_some_iff.mp e).1
    have hj2 : j < us.length := by rw [l1, ← hlr]; exact hj
    have ea : a = s.heap.objs.size + j := by
      rw [List.getElem?_map, List.getElem?_range hj] at e
      exact (Option.some.inj e).symm
    subst ea
    exact ⟨ps[j], us[j], List.getElem?_eq_getElem hj, List.getElem?_eq_getElem hj2, N.it j _ (List.getElem?_eq_getElem hj), (t1 j _ _ (List.getElem?_eq_getElem hj) (List.getElem?_eq_getElem hj2)).at fun o q => N.kp _ _ q⟩
  have st : ZSt us (s.heap.objs.size + ps.length + 2) (s.heap.objs.size + ps.length) (s.heap.objs.size + ps.length + 1) its ps 0 0 h1 := by
    refine ⟨?_, hI, .inl ⟨rfl, N.z, _, N.TO, ?_⟩⟩
    · have y := N.TI
      simp only [its, List.map_map]
      exact y
    · simp [its]
  have ine : its ≠ [] := fun z => hn (List.length_eq_zero_iff.mp (by rw [← itl, z]; rfl))
  refine call_tuple_zip (s := { s with heap := h1 }) (rows := us) (I.ok.hd hc) D B h0 hun (by rw [l1, itl]; exact hlr.symm) ine (by rw [itl]; exact hsz) hz st fun h2 Ts kp hg => ?_
  have new : ∀ b, s.heap.objs.size ≤ b → H b = none := fun b hb => I.hok.fresh hb
  have tsl : ∀ b : Nat, b ∈ Ts → s.heap.objs.size ≤ b ∧ b < h2.objs.size := fun b hb => ⟨by
    have h := (hg.2.2.1 b hb).1
    have h : h1.objs.size ≤ b := h
    rw [N.sz] at h
    omega, (hg.2.2.1 b hb).2⟩
  have hsz2 : s.heap.objs.size ≤ h2.objs.size := by
    cases Ts with
    | nil =>
      have := hg.1
      simp at this
      omega
    | cons a b => exact Nat.le_of_lt (Nat.lt_of_le_of_lt (tsl a (List.mem_cons_self ..)).1 (tsl a (List.mem_cons_self ..)).2)
  have tne : ∀ b ∈ Ts, b ≠ h2.objs.size := fun b hb => Nat.ne_of_lt (tsl b hb).2
  have pw : Ts.Pairwise (· ≠ ·) := hg.2.1.imp fun h => Nat.ne_of_lt h
  have q' := q Ts h2.objs.size hg.1 (fun b hb => new b (tsl b hb).1) pw (new _ hsz2) tne
  have kall : ∀ b o, s.heap.get? b = some o → (h2.push { cls := .type "tuple", data := .seq (Ts.map Value.ref).toArray }).get? b = some o := fun b o e => by
    refine Heap.get?_push_of_some _ (kp b o (fun hm => ?_) (N.kp b o e))
    have hb := lt_nat (Heap.lt_size e)
    rcases List.mem_cons.mp hm with z | hm
    · have z := eq_nat z
      omega
    · rcases List.mem_cons.mp hm with z | hm
      · have z := eq_nat z
        omega
      · have := (itm b hm).1; omega
  have zl : (Ts.zip ((List.range n).map fun i => HO.tup (colV rows i))).Pairwise (fun p q => p.1 ≠ q.1) := by
    have : ((Ts.zip ((List.range n).map fun i => HO.tup (colV rows i))).map (·.1)).Pairwise (· ≠ ·) := by
      rw [List.map_fst_zip (by rw [List.length_map, List.length_range, hg.1]; exact Nat.le_refl _)]
      exact pw
    exact List.pairwise_map.mp this
  have I2 : Inv X pins σ (upd (layL H (Ts.zip ((List.range n).map fun i => HO.tup (colV rows i)))) h2.objs.size (.tup (Ts.map V.ref))) { s with heap := h2.push { cls := .type "tuple", data := .seq (Ts.map Value.ref).toArray }, toks := s.toks } := by
    refine laidAll I kall (fun b hb => ?_) fun b u hb e => ?_
    · rw [upd_ne (Nat.ne_of_lt (Nat.lt_of_lt_of_le hb hsz2)), layL_out fun p hp z => ?_]
      have := (tsl p.1 (List.of_mem_zip hp).1).1
      rw [z] at this
      exact absurd hb (Nat.not_lt.mpr this)
    · by_cases hbe : b = h2.objs.size
      · subst hbe
        rw [upd_same] at e
        cases e
        exact ⟨by rw [List.length_map, hg.1]; exact hz, Ts.map Value.ref, refs_vals Ts, IsTup.new _ _⟩
      · rw [upd_ne hbe] at e
        by_cases hm : b ∈ Ts
        · obtain ⟨j, hj⟩ := List.mem_iff_getElem?.mp hm
          have hjn : j < n := by rw [← hg.1]; exact (List.getElem?_eq_some_iff.mp hj).1
          have hin : (b, HO.tup (colV rows j)) ∈ Ts.zip ((List.range n).map fun i => HO.tup (colV rows i)) := by
            refine List.mem_iff_getElem?.mpr ⟨j, ?_⟩
            rw [List.getElem?_zip_eq_some]
            exact ⟨hj, by rw [List.getElem?_map, List.getElem?_range hjn]; rfl⟩
          rw [layL_in zl hin] at e
          cases e
          refine ⟨?_, col us j, col_vals l1 v1 hrn hjn, ⟨_, Heap.get?_push_of_some _ (hg.2.2.2 j b hj), rfl, _, rfl⟩⟩
          unfold colV
          rw [List.length_map, ← hlr]
          exact hsz
        · rw [layL_out fun p hp z => hm (by rw [← z]; exact (List.of_mem_zip hp).1), new b hb] at e
          cases e
  exact ⟨.ref h2.objs.size, _, I2, rfl, q'⟩
theorem pe_tzip (hg : Gl X "tuple") (hm : X.mg "tuple" = none) (hg2 : Gl X "zip") (hm2 : X.mg "zip" = none) (hc : X.calm = true) (he : PE X e te)
    (hs : starEach [.Call (.Name "zip" p2) [.Starred e ps_] [] pos2] X.env = [(false, eval (.Call (.Name "zip" p2) [.Starred e ps_] [] pos2) X.env)] := by rfl) (hst : starEach [.Starred e ps_] X.env = [(true, eval e X.env)] := by rfl) :
    PE X (.Call (.Name "tuple" p) [.Call (.Name "zip" p2) [.Starred e ps_] [] pos2] [] pos) (tZip X.K te) := by
  refine ⟨fun pins s σ H Q I h => ?_⟩
  refine Call_ (ld_blt I hg hm boot_tuple (PyProof.Rows.callWith_type1 (args_cons (thn (Q := fun v s1 => wpAny (model X.prog X.w) X.A (call (.type "tuple") [v]) (EP X pins σ Q) X.xe s1) ?_ fun v s1 hv => args_nil hv) hs) hs rfl))
  refine Call_ (ld_blt I hg2 hm2 boot_zip ?_)
  rw [hst]
  refine PySem.W.ks_call (P := fun _ => True) rfl (fun h _ => ⟨.machine, .inr (.inl rfl), PySem.W.Looks.of_pure rfl⟩) (PySem.W.ks_lone (thn (he.run pins s σ H _ I h) fun v s1 ⟨y, H1, I1, ry, a, ps, rows, n, ey, hxs, hlr, hT, hn, hsz, h0, hz, q⟩ => ?_))
  subst ey
  obtain rfl : v = Value.ref a := ry
  refine StX.star_any I1 hxs fun us s2 I2 rv => ⟨trivial, ?_⟩
  rw [vals_refs rv]
  exact run_tzip hc I2 hlr hT hn hsz h0 hz q
end
end ZS
set_option Elab.async false
set_option linter.all false
set_option maxRecDepth 100000
set_option maxHeartbeats 1000000
/-! Zs4: tuple(zip(*rows)) of data -/
namespace Wk
open PySem PySem.Spec L2 ZS
section
variable {K : PySem.W.Frag} {w : Wd} {σ : St} {F H : Hp} {te : TE}
theorem gr_lay {M : Addr → Prop} : ∀ {l : List (Addr × HO)} {F H : Hp}, Same F H → (∀ p ∈ l, H p.1 = none) → l.Pairwise (fun p q => p.1 ≠ q.1) → Gr M F H (layL F l) (layL H l)
  | [], _, _, e, _, _ => Gr.refl e
  | p :: r, F, H, e, h, hp => by
    obtain ⟨h1, h2⟩ := List.pairwise_cons.mp hp
    have g : Gr M F H (upd F p.1 p.2) (upd H p.1 p.2) := Gr.new e (h p (List.mem_cons_self ..))
    exact g.trans (gr_lay g.s (fun q hq => by
      rw [upd_ne (Ne.symm (h1 q hq))]
      exact h q (List.mem_cons_of_mem _ hq)) h2)
def colD (rows : List (List PyData)) (i : Nat) : List PyData := rows.map fun r => r.getD i .none
theorem rpA_getD {r : List V} {d : List PyData} (h : RpA K F r d) {i : Nat} (hi : i < d.length) : Rp K F (r.getD i .non) (d.getD i .none) := by
  obtain ⟨v, h1, h2⟩ := h.get (List.getElem?_eq_getElem hi)
  rw [List.getD_eq_getElem?_getD, List.getD_eq_getElem?_getD, List.getElem?_eq_getElem hi, h1]
  exact h2
theorem rows_of {n : Nat} : ∀ {rows : List (List PyData)} {xs : List V}, RpA K F xs (rows.map .tuple) → (∀ r ∈ rows, r.length = n) →
    ∃ (ps : List Addr) (vs : List (List V)), xs = ps.map V.ref ∧ ps.length = vs.length ∧ vs.length = rows.length ∧ (∀ (j : Nat) (p : Addr) (r : List V), ps[j]? = some p → vs[j]? = some r → SqT K F p r ∧ r.length = n) ∧ ∀ i, i < n → RpA K F (colV vs i) (colD rows i)
  | [], _, .nil, _ => ⟨[], [], rfl, rfl, rfl, fun j p r e => by simp at e, fun _ _ => .nil⟩
  | d :: rows, _, .cons r a, h => by
    obtain ⟨p, x, rfl, hp, ra⟩ := rp_tup r
    obtain ⟨ps, vs, rfl, l1, l2, h1, h2⟩ := rows_of a fun r hr => h r (List.mem_cons_of_mem _ hr)
    have hd := h d (List.mem_cons_self ..)
    refine ⟨p :: ps, x :: vs, rfl, by simpa using l1, by simpa using l2, fun j q r e1 e2 => ?_, fun i hi => .cons (rpA_getD ra (by rw [hd]; exact hi)) (h2 i hi)⟩
    cases j with
    | zero =>
      simp at e1 e2
      rw [← e1, ← e2]
      exact ⟨hp, by rw [ra.len]; exact hd⟩
    | succ j => exact h1 j q r (by simpa using e1) (by simpa using e2)
theorem rpA_cols {F' : Hp} : ∀ {Ts : List Addr} {cs : List (List V)} {ds : List (List PyData)}, Ts.length = cs.length → cs.length = ds.length → (∀ (j : Nat) (T : Addr) (c : List V), Ts[j]? = some T → cs[j]? = some c → F' T = some (.tup c)) → (∀ (j : Nat) (c : List V) (d : List PyData), cs[j]? = some c → ds[j]? = some d → RpA K F' c d) → RpA K F' (Ts.map V.ref) (ds.map .tuple)
  | [], [], [], _, _, _, _ => .nil
  | T :: Ts, c :: cs, d :: ds, l1, l2, h1, h2 => .cons (.tup (.inl (.inl (h1 0 T c rfl rfl))) (h2 0 c d rfl rfl)) (rpA_cols (by simpa using l1) (by simpa using l2) (fun j T' c' e1 e2 => h1 (j + 1) T' c' (by simpa using e1) (by simpa using e2)) fun j c' d' e1 e2 => h2 (j + 1) c' d' (by simpa using e1) (by simpa using e2))
theorem ed_tzip {rows : List (List PyData)} {n : Nat} (ha : ED K w te σ F (.tuple (rows.map .tuple)) ∨ ED K w te σ F (.list (rows.map .tuple))) (hn : rows ≠ []) (hl : ∀ r ∈ rows, r.length = n) (h0 : 0 < n) (hm : rows.length ≤ 100000) (hz : n ≤ 100000) :
    ED K w (tZip K te) σ F (.tuple (((List.range n).map (colD rows)).map .tuple)) := by
  have core : ∀ F1 H1, Same F F1 → w.ok F1 H1 → ∀ Q : VK, (∀ v F2 H2, Gr w.M F1 H1 F2 H2 → w.ok F2 H2 → Rp K F2 v (.tuple (((List.range n).map (colD rows)).map .tuple)) → Q v H2) →
      ∀ v F2 H2, Gr w.M F1 H1 F2 H2 → w.ok F2 H2 → (∃ a xs, v = V.ref a ∧ (SqT K F2 a xs ∨ SqL K F2 a xs) ∧ RpA K F2 xs (rows.map .tuple)) →
      ∃ (a : Addr) (ps : List Addr) (rows : List (List V)) (n : Nat), v = .ref a ∧ (SqT K H2 a (ps.map V.ref) ∨ SqL K H2 a (ps.map V.ref)) ∧ ps.length = rows.length ∧ (∀ (j : Nat) (p : Addr) (r : List V), ps[j]? = some p → rows[j]? = some r → SqT K H2 p r ∧ r.length = n) ∧
        ps ≠ [] ∧ ps.length ≤ sizeLine ∧ 0 < n ∧ n ≤ sizeLine ∧ ∀ (Ts : List Addr) (T : Addr), Ts.length = n → (∀ b ∈ Ts, H2 b = none) → Ts.Pairwise (· ≠ ·) → H2 T = none → (∀ b ∈ Ts, b ≠ T) → Q (.ref T) (upd (layL H2 (Ts.zip ((List.range n).map fun i => HO.tup (colV rows i)))) T (.tup (Ts.map V.ref))) := by
    intro F1 H1 e k Q q v F2 H2 g2 k2 ⟨a, xs, ev, hx, ra⟩
    obtain ⟨ps, vs, rfl, l1, l2, h1, h2⟩ := rows_of ra hl
    refine ⟨a, ps, vs, n, ev, ?_, l1, fun j p r e1 e2 => ⟨sqtM k2.e (h1 j p r e1 e2).1, (h1 j p r e1 e2).2⟩, fun z => hn (List.length_eq_zero_iff.mp (by rw [← l2, ← l1, z]; rfl)), ?_, h0, Nat.le_trans hz (by decide), fun Ts T tl tn tp hT ht => ?_⟩
    · rcases hx with hx | hx
      · exact .inl (sqtM k2.e hx)
      · exact .inr (sqlM k2.e hx)
    · rw [l1, l2]
      exact Nat.le_trans hm (by decide)
    · have zl : (Ts.zip ((List.range n).map fun i => HO.tup (colV vs i))).Pairwise (fun p q => p.1 ≠ q.1) := by
        have : ((Ts.zip ((List.range n).map fun i => HO.tup (colV vs i))).map (·.1)).Pairwise (· ≠ ·) := by
          rw [List.map_fst_zip (by rw [List.length_map, List.length_range, tl]; exact Nat.le_refl _)]
          exact tp
        exact List.pairwise_map.mp this
      have zm : ∀ p ∈ Ts.zip ((List.range n).map fun i => HO.tup (colV vs i)), p.1 ∈ Ts := fun p hp => (List.of_mem_zip hp).1
      have g3 : Gr M0 F2 H2 (layL F2 (Ts.zip ((List.range n).map fun i => HO.tup (colV vs i)))) (layL H2 (Ts.zip ((List.range n).map fun i => HO.tup (colV vs i)))) := gr_lay k2.e (fun p hp => tn p.1 (zm p hp)) zl
      have hT3 : layL H2 (Ts.zip ((List.range n).map fun i => HO.tup (colV vs i))) T = none := by
        rw [layL_out fun p hp => ht p.1 (zm p hp)]
        exact hT
      have g4 : Gr M0 _ _ (upd (layL F2 (Ts.zip ((List.range n).map fun i => HO.tup (colV vs i)))) T (.tup (Ts.map V.ref))) (upd (layL H2 (Ts.zip ((List.range n).map fun i => HO.tup (colV vs i)))) T (.tup (Ts.map V.ref))) := Gr.new g3.s hT3
      have g5 := g3.trans g4
      refine q _ _ _ (g2.trans g5.up) (k2.pure g5) (.tup (.inl (.inl upd_same)) (rpA_cols (cs := (List.range n).map (colV vs)) (by simp [tl]) (by simp) (fun j T' c e1 e2 => ?_) fun j c d e1 e2 => ?_))
      · have hm' : T' ∈ Ts := List.mem_of_getElem? e1
        rw [upd_ne (ht T' hm')]
        refine layL_in zl (List.mem_iff_getElem?.mpr ⟨j, ?_⟩)
        rw [List.getElem?_zip_eq_some]
        refine ⟨e1, ?_⟩
        rw [List.getElem?_map] at e2 ⊢
        cases hr : (List.range n)[j]? with
        | none => rw [hr] at e2; cases e2
        | some i => rw [hr] at e2; cases e2; rfl
      · have hj : j < n := by
          have := (List.getElem?_eq_some_iff.mp e1).1
          simpa using this
        rw [List.getElem?_map, List.getElem?_range hj] at e1 e2
        cases e1
        cases e2
        exact (h2 j hj).mono g5.f
  rcases ha with ha | ha
  · intro F1 H1 e k Q q
    refine ha F1 H1 e k _ fun v F2 H2 g2 k2 r => ?_
    obtain ⟨a, xs, rfl, hx, ra⟩ := rp_tup r
    exact core F1 H1 e k Q q _ F2 H2 g2 k2 ⟨a, xs, rfl, .inl hx, ra⟩
  · intro F1 H1 e k Q q
    refine ha F1 H1 e k _ fun v F2 H2 g2 k2 r => ?_
    obtain ⟨a, xs, rfl, hx, ra⟩ := rp_lst r
    exact core F1 H1 e k Q q _ F2 H2 g2 k2 ⟨a, xs, rfl, .inr (.inl (.inl hx)), ra⟩
end
end Wk
set_option Elab.async false
set_option linter.all false
set_option maxRecDepth 100000
set_option maxHeartbeats 2000000
/-! Mx: what tables of numbers want: f(k = e), zip in a comprehension, sum, int of a bool, tuple + tuple -/
namespace Wk
open PySem PySem.Spec L2 Lt
/-! ### f(k = e, ..) -/
def tCallK0 (m : Nat) (gV : List V → List V) (sp : Sp) (tk : TA) : TE := fun σ H Q => tk σ H fun zs H2 => zs.length = m ∧ sp (gV zs) H2 Q E0
theorem Fun.kbnR {K : PySem.W.Frag} {x qual : Str} {st : Stmt} {f : Addr} {fd : FuncData} {ps ks : List Str} (F : Fun K x qual st f fd)
    (h : ∀ (kV doc pm : Value) (an : Option Addr) (cdv ct : Value) (us ws : List Value), us.length = 0 → ws.length = ks.length → bindArgs (PySem.W.fnOf x qual (defArgs st) (defBody st) (defScope st) .none kV doc pm an cdv ct) ⟨us, ks.zip ws⟩ = pure (ps.zip (us ++ ws.reverse))) : KBn K fd ps 0 ks (fun us ws => us ++ ws.reverse) (fun us ws => us ++ ws.reverse) := by
  obtain ⟨oc, od, kV, doc, pm, an, cdv, ct, osl, rfl, lk, hcd⟩ := F.ex
  refine ⟨fun s us ws _ l1 l2 => .of_eq (h kV doc pm an cdv ct us ws l1 l2), fun a b => a.append ?_⟩
  clear h lk hcd
  induction b with
  | nil => exact .nil
  | cons r t ih =>
    rw [List.reverse_cons, List.reverse_cons]
    exact ih.append (.cons r .nil)
section
variable {X : Cx} {k : Nat} {f : Addr} {fd : FuncData} {ps ks : List Str} {sp : Sp} {x : Str} {p pos : Pos} {kws : List Keyword} {tk : TA} {g : List Value → List Value → List Value} {gV : List V → List V → List V}
theorem pe_callK0 (F : FnOk X.prog X.w X.K X.mg X.base CX0 k f fd ps sp) (hr : Room k X.A) (hg : Gl X x) (hm : X.mg x = some (.ref f)) (hk : PySem.W.keepIn X.K (.ref f) = true) (hb : KBn X.K fd ps 0 ks g gV) (hkw : PK X kws tk)
    (hall : (backToKw pos (keywordEach kws X.env)).all (·.1.isSome) = true := by rfl) (hks : (backToKw pos (keywordEach kws X.env)).filterMap (·.1) = ks := by rfl) (hdb : (x == ("__debug__" : Str)) = false := by decide)
    (hpl : ((backTo pos (starEach [] X.env)).any (·.1) || (backToKw pos (keywordEach kws X.env)).any (·.1.isNone)) = false := by rfl) :
    PE X (.Call (.Name x p) [] kws pos) (tCallK0 ks.length (gV []) sp tk) := by
  refine ⟨fun pins s σ H Q I h => ?_⟩
  refine wpAny_Call_Name_kw (ld_glob I hg hm ?_ hdb)
  refine PySem.W.callWith_KW0 (h₀ := X.base) I.ok.mod.kin hk hall ?_ hpl
  refine thn (hkw.run pos pins s σ H _ I h) fun ws s2 ⟨zs, H2, I2, rz, l1, q2⟩ => ⟨I2.kIn, ?_⟩
  rw [hks]
  refine wpAny_call (codeAny_mono (F.run X.A X.stack s2 H2 ⟨[], ks.zip ws⟩ (g [] ws) (gV [] zs) Q E0 hr I2.env0 (hb.to s2 [] ws I2.kIn rfl (rz.length.symm.trans l1)) (hb.rel .nil rz) q2) fun r s' hq => ?_)
  cases r with
  | error e => exact hq.elim
  | ok fl =>
    cases fl with
    | ret u => exact I2.after hq
    | next => exact hq.elim
    | brk => exact hq.elim
    | cont => exact hq.elim
end
section
variable {K : PySem.W.Frag} {w : Wd} {σ : St} {F F1 F' H H' : Hp} {ta tb te tc tl : TE} {t u : TT} {P : V → Hp → Prop} {tr : TA} {D : Ends} {rest : TS}
theorem ev_callK0 {ι : Type} {pre : ι → List V → Hp → Prop} {post : ι → V → Hp → Prop} {A : List V → Hp → Prop} {m : Nat} {gV : List V → List V} (ha : EA w tr σ F A) (hm : ∀ ws F1, A ws F1 → ws.length = m) (i : List V → Hp → ι) (hp : ∀ vs F1, Same F F1 → A vs F1 → pre (i vs F1) (gV vs) F1) (hq : ∀ vs F1 v F2, Same F F1 → A vs F1 → Same F1 F2 → post (i vs F1) v F2 → P v F2) :
    EV w (tCallK0 m gV (spG pre post) tr) σ F P := fun F1 H1 e k Q q =>
  ha F1 H1 e k _ fun vs F2 H2 g2 k2 p => ⟨hm vs F2 p, F2, i vs F2, k2.e, hp vs F2 (e.trans g2.f) p, fun v F3 H3 g3 p3 => q v F3 H3 (g2.trans g3.up) (k2.pure g3) (hq vs F2 v F3 (e.trans g2.f) p g3.f p3)⟩
/-! ### zip in a comprehension -/
theorem walk_zipT {a b : Addr} {xs ys : List V} {n : Nat} (h1 : xs.length = n) (h2 : ys.length = n) : Walk (RZ.ItzT K a b) n (fun H => SqT K H a xs ∧ SqT K H b ys) (YPair (fun i => xs[i]?) (fun i => ys[i]?)) := by
  refine ⟨fun i _ hi q => ?_, fun _ q => ⟨xs, ys, q.1, q.2, .inl (by omega)⟩, fun i H v H' _ q y => ?_⟩
  · have h1 : i < xs.length := by omega
    have h2 : i < ys.length := by omega
    exact ⟨xs, ys, xs[i], ys[i], q.1, q.2, by simp [h1], by simp [h2]⟩
  · obtain ⟨T, x, z, h1, h2, h3, h4, h5⟩ := y
    exact ⟨T, x, z, h1, h2, h3, h4 xs q.1, h5 ys q.2⟩
theorem ed_zipMap {vs : List Nat} {i j : Nat} {as bs : List PyData} (g : PyData → PyData → PyData) (ha : ED K w ta σ F (.tuple as)) (hb : ED K w tb σ F (.tuple bs)) (hl : as.length = bs.length) (hz : as.length ≤ 100000)
    (hw : ∀ x y, wipe (((wipe σ vs).set i (some x)).set j (some y)) vs = wipe σ vs)
    (he : ∀ (k : Nat) x y a b F1, as[k]? = some a → bs[k]? = some b → Same F F1 → Rp K F1 x a → Rp K F1 y b → ED K w te (((wipe σ vs).set i (some x)).set j (some y)) F1 (g a b)) :
    ED K w (tLc (RZ.iZipA K (tCons ta (tCons tb tNil))) (gTup K 2 (gCons (gName i) (gCons (gName j) gNil))) tYes te vs) σ F (.list ((as.zip bs).map fun p => g p.1 p.2)) := fun F0 H0 e k Q q =>
  ha F0 H0 e k _ fun v F1 H1 g1 k1 r => hb F1 H1 (e.trans g1.f) k1 _ fun u F2 H2 g2 k2 r2 => by
    obtain ⟨a, xs, rfl, hx, ra⟩ := rp_tup r
    obtain ⟨b, ys, rfl, hy, rb⟩ := rp_tup r2
    have hx2 := sqtM g2.f hx
    have ra2 := ra.mono g2.f
    refine ⟨a, b, xs, ys, rfl, .inr ⟨sqtM k2.e hx2, sqtM k2.e hy, fun D hD => ?_⟩⟩
    have lx : xs.length = as.length := ra.len
    have ly : ys.length = as.length := by rw [rb.len, hl]
    refine lc_it (walk_zipT (K := K) (a := a) (b := b) (xs := xs) (ys := ys) lx ly) (fun m H => ∃ F3 acc, Gr w.M F2 H2 F3 H ∧ (w.add D (.lst acc)).ok F3 H ∧ acc.length ≤ m ∧ RpA K F3 acc (((as.zip bs).take m).map fun p => g p.1 p.2)) ?_ ?_ ?_ ?_
    · have hF := freeF k2.e hD
      exact ⟨F2, [], Gr.own k2.e hD, (k2.pure (Gr.own k2.e hD)).plus (k2.npb hD) hF upd_same, Nat.zero_le _, .nil⟩
    · rintro m H hm ⟨F3, acc, g3, k3, _, _⟩
      exact ⟨sqtM (g3.f.trans k3.e) hx2, sqtM (g3.f.trans k3.e) hy⟩
    · rintro m x H H' hm ⟨F3, acc, g3, k3, hla, hacc⟩ ⟨T, y, z, rfl, hT, rfl, hy1, hz1⟩
      obtain ⟨dy, hdy, ry⟩ := ra2.getV hy1
      obtain ⟨dz, hdz, rz⟩ := rb.getV hz1
      have gT : Gr M0 F3 H F3 (upd H T (.tup [y, z])) := Gr.own k3.e hT
      have k4 := k3.pure gT
      refine ⟨T, [y, z], rfl, .inl (.inl upd_same), rfl, y, [z], rfl, z, [], rfl, rfl, hw y z, ?_⟩
      simp only [tYes, if_true]
      refine EV.add (l := D) (o := .lst acc) (he m y z dy dz F3 hdy hdz ((e.trans g1.f).trans (g2.f.trans g3.f)) (ry.mono g3.f) (rz.mono g3.f)) F3 _ (Same.refl F3) k4 _ fun y F4 H4 g4 k4 p4 => ?_
      refine ⟨acc, k4.at.2.2, Nat.lt_of_le_of_lt hla (Nat.lt_of_lt_of_le hm (Nat.le_trans hz (by decide))), F4, acc ++ [y], ((g3.trans gT.up).trans g4).mut hD k4.at.2.1, k4.put (k2.nls hD), by rw [List.length_append]; exact Nat.succ_le_succ hla, ?_⟩
      have hz2 : (as.zip bs)[m]? = some (dy, dz) := List.getElem?_zip_eq_some.mpr ⟨hdy, hdz⟩
      rw [take_some hz2, List.map_append]
      exact (hacc.mono g4.f).snoc p4
    · rintro H ⟨F3, acc, g3, k3, hla, hacc⟩
      have lz : (as.zip bs).length = as.length := by rw [List.length_zip, hl, Nat.min_self]
      rw [List.take_of_length_le (by rw [lz]; exact Nat.le_refl _)] at hacc
      have hD3 := k3.at.2.1
      exact q _ (upd F3 D (.lst acc)) H ((g1.trans g2).trans (g3.frz hD hD3 k3.at.2.2)) (k3.frz (k2.nls hD)) (.lst upd_same (hacc.mono (same_new hD3)))
/-! ### sum, int, + -/
theorem ed_sum {ns : List Int} (ha : ED K w ta σ F (.list (ns.map .int))) : ED K w (tCB (rSum K) (tCons ta tNil)) σ F (.int ns.sum) :=
  ed_cb1 ha fun x F' H k r => by
    obtain ⟨a, xs, rfl, h, ra⟩ := rp_lst r
    rw [rpA_int ra] at h
    exact ⟨.int ns.sum, fun Q q => ⟨a, ns, rfl, rp_sqL k.e h, q⟩, .int _⟩
theorem ed_int1b {b : Bool} (ha : ED K w ta σ F (.bool b)) : ED K w (tCB (fun xs H Q => (∃ i, xs = [.int i] ∧ Q (.int i) H) ∨ ∃ k, xs = [.bl k] ∧ Q (.int (if k then 1 else 0)) H) (tCons ta tNil)) σ F (.int (if b then 1 else 0)) :=
  ed_cb1 ha fun x F' H k r => ⟨.int _, fun Q q => .inr ⟨b, by rw [rp_bl r], q⟩, .int _⟩
theorem ed_catT {as bs : List PyData} (ha : ED K w ta σ F (.tuple as)) (hb : ED K w tb σ F (.tuple bs)) (hz : as.length + bs.length ≤ 100000) : ED K w (tOp (rCatA K) ta tb) σ F (.tuple (as ++ bs)) :=
  ev_op ha (fun x F1 e1 _ => hb.mono e1) fun x y F1 F2 H2 _ p1 e2 p2 k Q q => by
    obtain ⟨a, xs, rfl, hx, ra⟩ := rp_tup p1
    obtain ⟨b, ys, rfl, hy, rb⟩ := rp_tup p2
    have hx2 := sqtM e2 hx
    have ra2 := ra.mono e2
    refine ⟨a, b, xs, ys, rfl, rfl, sqtM k.e hx2, sqtM k.e hy, by rw [ra.len, rb.len]; exact Nat.le_trans hz (by decide), fun h => ?_, fun h1 h2 => ?_, fun h1 h2 p hp => ?_⟩
    · subst h
      cases ra2
      exact q _ F2 H2 (Gr.refl k.e) k (.tup hy rb)
    · subst h2
      cases rb
      rw [List.append_nil] at q
      exact q _ F2 H2 (Gr.refl k.e) k (.tup hx2 ra2)
    · have g3 : Gr M0 F2 H2 (upd F2 p (.tup (xs ++ ys))) (upd H2 p (.tup (xs ++ ys))) := Gr.new k.e hp
      exact q _ _ _ g3.up (k.pure g3) (.tup (.inl (.inl upd_same)) ((ra2.mono g3.f).app (rb.mono g3.f)))
/-- i, j = (e, []) -/
theorem q_tup2own {i j : Nat} {d : PyData} (k : w.ok F H) (ea : ED K w ta σ F d) (q : ∀ v F' H' l, Gr w.M F H F' H' → H l = none → F' l = none → (w.add l (.lst [])).ok F' H' → Rp K F' v d → rest D ((σ.set i (some v)).set j (some (.ref l))) H') :
    tSeq (tAsg (tTup (tCons ta (tCons (tLst tNil) tNil))) (gTup K 2 (gCons (gName i) (gCons (gName j) gNil)))) rest D σ H :=
  ea F H (Same.refl F) k _ fun v F1 H1 g1 k1 p => ⟨Nat.zero_le _, fun l hl => ⟨by show 2 ≤ sizeLine; decide, fun T hT => by
    have hF := freeF k1.e hl
    have h0 : H l = none := Classical.byContradiction fun z => g1.d l z hl
    have gl : Gr M0 F1 H1 F1 (upd H1 l (.lst [])) := Gr.own k1.e hl
    have k2 : (w.add l (.lst [])).ok F1 (upd H1 l (.lst [])) := (k1.pure gl).plus (k1.npb hl) hF upd_same
    have gT : Gr M0 F1 (upd H1 l (.lst [])) F1 (upd (upd H1 l (.lst [])) T (.tup [v, .ref l])) := Gr.own k2.e hT
    exact ⟨T, [v, .ref l], rfl, .inl (.inl upd_same), rfl, v, [.ref l], rfl, .ref l, [], rfl, rfl, q v F1 _ l ((g1.trans gl.up).trans gT.up) h0 hF (k2.pure gT) p⟩⟩⟩
end
end Wk
set_option Elab.async false
set_option linter.all false
set_option maxRecDepth 100000
set_option maxHeartbeats 1000000
/-! Mt: tables of whole numbers: sums, products, words -/
namespace Mt
abbrev Tb := List (List Int)
def sumR (n : Nat) (f : Nat → Int) : Int := ((List.range n).map f).sum
theorem sumR_zero (f : Nat → Int) : sumR 0 f = 0 := rfl
theorem sumR_succ (n : Nat) (f : Nat → Int) : sumR (n + 1) f = sumR n f + f n := by
  unfold sumR
  rw [List.range_succ, List.map_append, List.sum_append]
  simp
theorem sumR_congr {n : Nat} {f g : Nat → Int} (h : ∀ k, k < n → f k = g k) : sumR n f = sumR n g := by
  induction n with
  | zero => rfl
  | succ n ih => rw [sumR_succ, sumR_succ, ih fun k hk => h k (Nat.lt_succ_of_lt hk), h n (Nat.lt_succ_self n)]
theorem sumR_add (n : Nat) (f g : Nat → Int) : sumR n (fun k => f k + g k) = sumR n f + sumR n g := by
  induction n with
  | zero => rfl
  | succ n ih =>
    rw [sumR_succ, sumR_succ, sumR_succ, ih]
    omega
theorem sumR_mulL (n : Nat) (c : Int) (f : Nat → Int) : sumR n (fun k => c * f k) = c * sumR n f := by
  induction n with
  | zero => rw [sumR_zero, sumR_zero, Int.mul_zero]
  | succ n ih => rw [sumR_succ, sumR_succ, ih, Int.mul_add]
theorem sumR_mulR (n : Nat) (c : Int) (f : Nat → Int) : sumR n (fun k => f k * c) = sumR n f * c := by
  rw [Int.mul_comm, ← sumR_mulL]
  exact sumR_congr fun k _ => Int.mul_comm ..
theorem sumR_nul (n : Nat) : sumR n (fun _ => 0) = 0 := by
  induction n with
  | zero => rfl
  | succ n ih => rw [sumR_succ, ih]; rfl
theorem sumR_comm (n m : Nat) (f : Nat → Nat → Int) : sumR n (fun i => sumR m fun j => f i j) = sumR m fun j => sumR n fun i => f i j := by
  induction n with
  | zero =>
    rw [sumR_zero]
    exact (sumR_nul m).symm
  | succ n ih =>
    rw [sumR_succ, ih, ← sumR_add]
    exact sumR_congr fun k _ => (sumR_succ n _).symm
theorem sumR_one {n : Nat} {i : Nat} (hi : i < n) (f : Nat → Int) : sumR n (fun k => (if i = k then 1 else 0) * f k) = f i := by
  induction n with
  | zero => exact absurd hi (Nat.not_lt_zero i)
  | succ n ih =>
    rw [sumR_succ]
    by_cases h : i = n
    · subst h
      rw [sumR_congr (g := fun _ => 0) fun k hk => by rw [if_neg (by omega), Int.zero_mul], sumR_nul, if_pos rfl, Int.one_mul, Int.zero_add]
    · rw [ih (by omega), if_neg h, Int.zero_mul, Int.add_zero]
theorem sumR_abs {n : Nat} {f : Nat → Int} {B : Nat} (h : ∀ k, k < n → (f k).natAbs ≤ B) : (sumR n f).natAbs ≤ n * B := by
  induction n with
  | zero => rw [sumR_zero]; simp
  | succ n ih =>
    rw [sumR_succ, Nat.succ_mul]
    exact Nat.le_trans (Int.natAbs_add_le ..) (Nat.add_le_add (ih fun k hk => h k (Nat.lt_succ_of_lt hk)) (h n (Nat.lt_succ_self n)))
/-! ### tables -/
structure Sq (n : Nat) (t : Tb) : Prop where
  len : t.length = n
  row : ∀ r ∈ t, r.length = n
def ent (t : Tb) (i j : Nat) : Int := (t.getD i []).getD j 0
def Bd (B : Nat) (t : Tb) : Prop := ∀ r ∈ t, ∀ x ∈ r, x.natAbs ≤ B
def dotL (r c : List Int) : Int := ((r.zip c).map fun p => p.1 * p.2).sum
def colL (t : Tb) (j : Nat) : List Int := t.map fun r => r.getD j 0
def mulT (n : Nat) (a b : Tb) : Tb := a.map fun r => (List.range n).map fun j => dotL r (colL b j)
def tabF (n : Nat) (f : Nat → Nat → Int) : Tb := (List.range n).map fun i => (List.range n).map fun j => f i j
def oneT (n : Nat) : Tb := tabF n fun i j => if i = j then 1 else 0
theorem sq_tabF (n : Nat) (f : Nat → Nat → Int) : Sq n (tabF n f) := by
  refine ⟨by unfold tabF; rw [List.length_map, List.length_range], fun r hr => ?_⟩
  obtain ⟨i, _, rfl⟩ := List.mem_map.mp hr
  rw [List.length_map, List.length_range]
theorem getD_lt {α : Type} {l : List α} {i : Nat} (h : i < l.length) (d : α) : l.getD i d = l[i] := by
  rw [List.getD_eq_getElem?_getD, List.getElem?_eq_getElem h]
  rfl
theorem ent_tabF {n : Nat} {f : Nat → Nat → Int} {i j : Nat} (hi : i < n) (hj : j < n) : ent (tabF n f) i j = f i j := by
  have h1 : (tabF n f).getD i [] = (List.range n).map fun j => f i j := by
    unfold tabF
    rw [getD_lt (by rw [List.length_map, List.length_range]; exact hi), List.getElem_map, List.getElem_range]
  unfold ent
  rw [h1, getD_lt (by rw [List.length_map, List.length_range]; exact hj), List.getElem_map, List.getElem_range]
theorem sum_zip : ∀ {n : Nat} {r c : List Int}, r.length = n → c.length = n → dotL r c = sumR n fun k => r.getD k 0 * c.getD k 0 := by
  intro n
  induction n with
  | zero =>
    intro r c hr hc
    rw [List.length_eq_zero_iff.mp hr]
    rfl
  | succ n ih =>
    intro r c hr hc
    have e1 : r = r.take n ++ [r.getD n 0] := by
      rw [getD_lt (by omega)]
      rw [List.take_append_getElem (by omega), List.take_of_length_le (by omega)]
    have e2 : c = c.take n ++ [c.getD n 0] := by
      rw [getD_lt (by omega)]
      rw [List.take_append_getElem (by omega), List.take_of_length_le (by omega)]
    have l1 : (r.take n).length = n := by rw [List.length_take]; omega
    have l2 : (c.take n).length = n := by rw [List.length_take]; omega
    have z : dotL r c = dotL (r.take n) (c.take n) + r.getD n 0 * c.getD n 0 := by
      conv => lhs; rw [e1, e2]
      unfold dotL
      rw [List.zip_append (by rw [l1, l2]), List.map_append, List.sum_append]
      simp
    rw [z, ih l1 l2, sumR_succ]
    congr 1
    refine sumR_congr fun k hk => ?_
    rw [List.getD_eq_getElem?_getD, List.getD_eq_getElem?_getD, List.getD_eq_getElem?_getD, List.getD_eq_getElem?_getD, List.getElem?_take_of_lt hk, List.getElem?_take_of_lt hk]
theorem Sq.at {n : Nat} {t : Tb} (s : Sq n t) {i : Nat} (hi : i < n) : t.getD i [] ∈ t ∧ (t.getD i []).length = n := by
  have h : i < t.length := by rw [s.len]; exact hi
  rw [getD_lt h]
  exact ⟨List.getElem_mem h, s.row _ (List.getElem_mem h)⟩
theorem colL_len {t : Tb} {j : Nat} : (colL t j).length = t.length := by
  unfold colL
  exact List.length_map ..
theorem colL_get {n : Nat} {t : Tb} {j k : Nat} (s : Sq n t) (hk : k < n) : (colL t j).getD k 0 = ent t k j := by
  have h1 : t.getD k [] = t[k]'(by rw [s.len]; exact hk) := getD_lt (by rw [s.len]; exact hk) []
  unfold ent
  rw [h1, getD_lt (by rw [colL_len, s.len]; exact hk)]
  unfold colL
  rw [List.getElem_map]
theorem sq_mul {n : Nat} {a b : Tb} (s : Sq n a) : Sq n (mulT n a b) := by
  refine ⟨by unfold mulT; rw [List.length_map]; exact s.len, fun r hr => ?_⟩
  obtain ⟨i, _, rfl⟩ := List.mem_map.mp hr
  rw [List.length_map, List.length_range]
theorem sq_one (n : Nat) : Sq n (oneT n) := sq_tabF n _
theorem ent_one {n i j : Nat} (hi : i < n) (hj : j < n) : ent (oneT n) i j = if i = j then 1 else 0 := ent_tabF hi hj
theorem ent_mul {n : Nat} {a b : Tb} {i j : Nat} (sa : Sq n a) (sb : Sq n b) (hi : i < n) (hj : j < n) : ent (mulT n a b) i j = sumR n fun k => ent a i k * ent b k j := by
  have h1 : (mulT n a b).getD i [] = (List.range n).map fun j => dotL (a.getD i []) (colL b j) := by
    rw [getD_lt (by rw [(sq_mul sa).len]; exact hi), getD_lt (by rw [sa.len]; exact hi)]
    unfold mulT
    rw [List.getElem_map]
  unfold ent
  rw [h1, getD_lt (by rw [List.length_map, List.length_range]; exact hj), List.getElem_map, List.getElem_range, sum_zip (sa.at hi).2 (by rw [colL_len, sb.len])]
  refine sumR_congr fun k hk => ?_
  rw [colL_get sb hk]
  rfl
theorem ext {n : Nat} {a b : Tb} (sa : Sq n a) (sb : Sq n b) (h : ∀ i j, i < n → j < n → ent a i j = ent b i j) : a = b := by
  refine List.ext_getElem (by rw [sa.len, sb.len]) fun i h1 h2 => ?_
  have hi : i < n := by rw [← sa.len]; exact h1
  refine List.ext_getElem (by rw [sa.row _ (List.getElem_mem h1), sb.row _ (List.getElem_mem h2)]) fun j h3 h4 => ?_
  have hj : j < n := by rw [← sa.row _ (List.getElem_mem h1)]; exact h3
  have z := h i j hi hj
  unfold ent at z
  rw [getD_lt h1, getD_lt h2, getD_lt h3, getD_lt h4] at z
  exact z
theorem mul_assoc {n : Nat} {a b c : Tb} (sa : Sq n a) (sb : Sq n b) (sc : Sq n c) : mulT n (mulT n a b) c = mulT n a (mulT n b c) := by
  refine ext (sq_mul (sq_mul sa)) (sq_mul sa) fun i j hi hj => ?_
  rw [ent_mul (sq_mul sa) sc hi hj, ent_mul sa (sq_mul sb) hi hj]
  rw [sumR_congr (g := fun k => sumR n fun l => ent a i l * ent b l k * ent c k j) fun k hk => by rw [ent_mul sa sb hi hk, ← sumR_mulR]]
  rw [sumR_comm]
  refine sumR_congr fun l hl => ?_
  rw [ent_mul sb sc hl hj, ← sumR_mulL]
  exact sumR_congr fun k _ => Int.mul_assoc ..
theorem one_mul {n : Nat} {a : Tb} (sa : Sq n a) : mulT n (oneT n) a = a := by
  refine ext (sq_mul (sq_one n)) sa fun i j hi hj => ?_
  rw [ent_mul (sq_one n) sa hi hj, sumR_congr (g := fun k => (if i = k then 1 else 0) * ent a k j) fun k hk => by rw [ent_one hi hk]]
  exact sumR_one hi fun k => ent a k j
theorem mul_one {n : Nat} {a : Tb} (sa : Sq n a) : mulT n a (oneT n) = a := by
  refine ext (sq_mul sa) sa fun i j hi hj => ?_
  rw [ent_mul sa (sq_one n) hi hj, sumR_congr (g := fun k => (if j = k then 1 else 0) * ent a i k) fun k hk => by
    rw [ent_one hk hj, Int.mul_comm]
    congr 1
    by_cases h : k = j
    · rw [if_pos h, if_pos h.symm]
    · rw [if_neg h, if_neg fun z => h z.symm]]
  exact sumR_one hj fun k => ent a i k
/-- the product by sums of one's own -/
theorem mul_eq {n : Nat} {a b : Tb} (sa : Sq n a) (sb : Sq n b) : tabF n (fun i j => sumR n fun k => ent a i k * ent b k j) = mulT n a b :=
  ext (sq_tabF n _) (sq_mul sa) fun i j hi hj => by rw [ent_tabF hi hj, ent_mul sa sb hi hj]
theorem bd_ent {n : Nat} {t : Tb} {B i j : Nat} (s : Sq n t) (b : Bd B t) (hi : i < n) (hj : j < n) : (ent t i j).natAbs ≤ B := by
  unfold ent
  have h := s.at hi
  rw [getD_lt (by rw [h.2]; exact hj)]
  exact b _ h.1 _ (List.getElem_mem _)
theorem bd_of {n : Nat} {t : Tb} {B : Nat} (s : Sq n t) (h : ∀ i j, i < n → j < n → (ent t i j).natAbs ≤ B) : Bd B t := fun r hr x hx => by
  obtain ⟨i, hi, rfl⟩ := List.mem_iff_getElem.mp hr
  obtain ⟨j, hj, rfl⟩ := List.mem_iff_getElem.mp hx
  have z := h i j (by rw [← s.len]; exact hi) (by rw [← s.row _ (List.getElem_mem hi)]; exact hj)
  unfold ent at z
  rw [getD_lt hi, getD_lt hj] at z
  exact z
theorem Bd.mono {t : Tb} {A B : Nat} (h : Bd A t) (hl : A ≤ B) : Bd B t := fun r hr x hx => Nat.le_trans (h r hr x hx) hl
theorem bd_one (n : Nat) : Bd 1 (oneT n) := bd_of (sq_one n) fun i j hi hj => by
  rw [ent_one hi hj]
  split <;> decide
theorem bd_mul {n : Nat} {a b : Tb} {A B : Nat} (sa : Sq n a) (sb : Sq n b) (ha : Bd A a) (hb : Bd B b) : Bd (n * (A * B)) (mulT n a b) := bd_of (sq_mul sa) fun i j hi hj => by
  rw [ent_mul sa sb hi hj]
  refine sumR_abs fun k hk => ?_
  rw [Int.natAbs_mul]
  exact Nat.mul_le_mul (bd_ent sa ha hi hk) (bd_ent sb hb hk hj)
/-! ### words -/
def prodT (n : Nat) (ts : List Tb) (w : List Nat) : Tb := w.foldl (fun m i => mulT n m (ts.getD i [])) (oneT n)
theorem prod_nil (n : Nat) (ts : List Tb) : prodT n ts [] = oneT n := rfl
theorem prod_snoc (n : Nat) (ts : List Tb) (w : List Nat) (i : Nat) : prodT n ts (w ++ [i]) = mulT n (prodT n ts w) (ts.getD i []) := by
  unfold prodT
  rw [List.foldl_append]
  rfl
structure Lot (n : Nat) (ts : List Tb) : Prop where
  sq : ∀ t ∈ ts, Sq n t
def Word (ts : List Tb) (w : List Nat) : Prop := ∀ i ∈ w, i < ts.length
theorem lot_at {n : Nat} {ts : List Tb} {i : Nat} (L : ∀ t ∈ ts, Sq n t) (hi : i < ts.length) : ts.getD i [] ∈ ts ∧ Sq n (ts.getD i []) := by
  rw [getD_lt hi]
  exact ⟨List.getElem_mem hi, L _ (List.getElem_mem hi)⟩
theorem rev_ind {α : Type} {P : List α → Prop} (h0 : P []) (h1 : ∀ l a, P l → P (l ++ [a])) (l : List α) : P l := by
  have : ∀ r : List α, P r.reverse := fun r => by
    induction r with
    | nil => exact h0
    | cons a r ih =>
      rw [List.reverse_cons]
      exact h1 _ _ ih
  have z := this l.reverse
  rwa [List.reverse_reverse] at z
theorem sq_prod {n : Nat} {ts : List Tb} (w : List Nat) : Sq n (prodT n ts w) := by
  induction w using rev_ind with
  | h0 => exact sq_one n
  | h1 w i ih =>
    rw [prod_snoc]
    exact sq_mul ih
theorem prod_app {n : Nat} {ts : List Tb} (L : ∀ t ∈ ts, Sq n t) (w : List Nat) (v : List Nat) (hv : Word ts v) : prodT n ts (w ++ v) = mulT n (prodT n ts w) (prodT n ts v) := by
  induction v using rev_ind with
  | h0 => rw [List.append_nil, prod_nil, mul_one (sq_prod w)]
  | h1 v i ih =>
    have hi : i < ts.length := hv i (by simp)
    rw [← List.append_assoc, prod_snoc, prod_snoc, ih fun j hj => hv j (by simp [hj])]
    exact mul_assoc (sq_prod w) (sq_prod v) (lot_at L hi).2
theorem prod_one {n : Nat} {ts : List Tb} (L : ∀ t ∈ ts, Sq n t) {i : Nat} (hi : i < ts.length) : prodT n ts [i] = ts.getD i [] := one_mul (lot_at L hi).2
theorem bd_prod {n M : Nat} {ts : List Tb} (L : ∀ t ∈ ts, Sq n t) (hM : ∀ t ∈ ts, Bd M t) (w : List Nat) (hw : Word ts w) : Bd ((n * M) ^ w.length) (prodT n ts w) := by
  induction w using rev_ind with
  | h0 => exact bd_one n
  | h1 w i ih =>
    have hi : i < ts.length := hw i (by simp)
    have z := bd_mul (sq_prod w) (lot_at L hi).2 (ih fun j hj => hw j (by simp [hj])) (hM _ (lot_at L hi).1)
    rw [prod_snoc, List.length_append]
    refine z.mono (Nat.le_of_eq ?_)
    show n * ((n * M) ^ w.length * M) = (n * M) ^ (w.length + 1)
    rw [Nat.pow_succ, Nat.mul_left_comm]
end Mt
set_option Elab.async false
set_option linter.all false
set_option maxRecDepth 100000
set_option maxHeartbeats 2000000
/-! Mx2: tables of numbers as data -/
namespace Wk
open PySem PySem.Spec L2 Lt Mt
section
variable {X : Cx} (K : PySem.W.Frag) (hK : X.K = K)
include hK
theorem pK_zip {e e2 : Expr} {ta : TA} {p pos tpos : Pos} {elts : List Expr} {kk : Nat} (hg : Gl X "zip") (hm : X.mg "zip" = none) (ha : PA X [e, e2] ta)
    (hs : starEach [e, e2] X.env = (false, eval e X.env) :: starEach [e2] X.env := by rfl) (hpl : (backTo pos (starEach [e2] X.env)).any (·.1) = false := by rfl) :
    PI X (.Tuple elts kk tpos) (.Call (.Name "zip" p) [e, e2] [] pos) (RZ.iZipA K ta) := by
  subst hK
  exact RZ.pi_zipA hg hm ha hs hpl
theorem gK_tup {es : List Expr} {k : Nat} {t : TGs} {n : Nat} {pos : Pos} (hc : X.calm = true) (h : PGs X es t)
    (hn : (assignEach es X.env).length = n := by rfl) (hst : (assignEach es X.env).findIdx? (·.1) = none := by rfl) : PG X (.Tuple es k pos) (gTup K n t) := by
  subst hK
  exact pg_tup hc h hn hst
theorem eK_tzip {te : TE} {e : Expr} {p p2 ps_ pos pos2 : Pos} (hg : Gl X "tuple") (hm : X.mg "tuple" = none) (hg2 : Gl X "zip") (hm2 : X.mg "zip" = none) (hc : X.calm = true) (he : PE X e te)
    (hs : starEach [.Call (.Name "zip" p2) [.Starred e ps_] [] pos2] X.env = [(false, eval (.Call (.Name "zip" p2) [.Starred e ps_] [] pos2) X.env)] := by rfl) (hst : starEach [.Starred e ps_] X.env = [(true, eval e X.env)] := by rfl) :
    PE X (.Call (.Name "tuple" p) [.Call (.Name "zip" p2) [.Starred e ps_] [] pos2] [] pos) (ZS.tZip K te) := by
  subst hK
  exact ZS.pe_tzip hg hm hg2 hm2 hc he hs hst
end
section
variable {K : PySem.W.Frag} {w : Wd} {σ : St} {F F1 F' H H' : Hp} {ta tb te tc tl : TE} {t u : TT} {P : V → Hp → Prop} {tr : TA} {D : Ends} {rest : TS}
/-- each by a function of its index -/
theorem ed_mapR {vs : List Nat} {j : Nat} {n : Int} (g : Nat → PyData) (hl : EDA K w tr σ F [.int n]) (hz : n ≤ 100000) (hw : ∀ x, wipe ((wipe σ vs).set j (some x)) vs = wipe σ vs)
    (he : ∀ (i : Nat) F1, (i : Int) < n → Same F F1 → ED K w te ((wipe σ vs).set j (some (.int i))) F1 (g i)) (hn : -1000000 ≤ n) :
    ED K w (tLc (iRng1 tr) (gName j) tYes te vs) σ F (.list ((List.range n.toNat).map g)) :=
  ev_lcR hl hz hw (AccD K fun i => (List.range i).map g) (fun _ => .nil) (fun i F1 hi e acc ha hla F2 H2 e2 k Q q => by
    have ha : RpA K F1 acc ((List.range i).map g) := ha
    refine q true F2 H2 (Gr.refl k.e) k ?_
    refine iteT ?_
    refine ((he i F1 hi e).mono e2).mono2 fun y F4 e4 p4 => ?_
    show RpA K F4 (acc ++ [y]) ((List.range (i + 1)).map g)
    rw [List.range_succ, List.map_append]
    exact (ha.mono (e2.trans e4)).snoc p4) (fun p acc F1 F2 h ha e => by
    have ha : RpA K F2 acc ((List.range n.toNat).map g) := ha
    exact .lst h (ha.mono e)) hn
/-- a drawn number of items of a kind -/
theorem er_mapRE {vs : List Nat} {j : Nat} {R : Int → Prop} {m : Nat} (R' : PyData → Prop) (hl : EI w te σ F R) (hz : ∀ n, R n → 0 ≤ n ∧ n ≤ m) (hm : m ≤ 100000) (hw : ∀ x, wipe ((wipe σ vs).set j (some x)) vs = wipe σ vs)
    (he : ∀ (i : Nat) F1, (i : Int) < m → Same F F1 → ER K w tb ((wipe σ vs).set j (some (.int i))) F1 R') :
    ER K w (tLc (iRng1 (tCons te tNil)) (gName j) tYes tb vs) σ F (fun d => ∃ es, d = .list es ∧ es.length ≤ m ∧ ∀ e ∈ es, R' e) := fun F0 H0 e k Q q =>
  hl F0 H0 e k _ fun v F1 H1 g1 k1 ⟨n, ev, rn⟩ => by
    obtain ⟨n0, nm⟩ := hz n rn
    refine ⟨n, by rw [ev], by omega, by omega, fun D hD => ?_⟩
    refine lcGen (Y := fun i x => x = .int ((0 : Int) + (i : Nat))) (n := n.toNat) (w := w) (F0 := F1) (fun Pv h0 hs' hF hd' => lc_range (lo := 0) (n := n.toNat) Pv h0
      (fun i H hi p => hs' i _ H hi rfl p) hd') k1 hD (by omega) hw (fun i acc F => ∃ es, RpA K F acc es ∧ es.length = i ∧ ∀ e ∈ es, R' e) ⟨[], .nil, rfl, fun _ h => nomatch h⟩ ?_ ?_
    · intro i x F2 H2 hi e2 hy k2 acc ha hla
      subst hy
      rw [Int.zero_add]
      obtain ⟨es, h1, h2, h3⟩ := ha
      intro F3 H3 e3 k3 Q q
      refine q true F3 H3 (Gr.refl k3.e) k3 ?_
      refine iteT ?_
      refine ((he i F2 (by omega) ((e.trans g1.f).trans e2)).mono e3).mono2 fun y F4 e4 p4 => ?_
      obtain ⟨d', r1, r2⟩ := p4
      refine ⟨es ++ [d'], (h1.mono (e3.trans e4)).snoc r2, by rw [List.length_append, h2]; rfl, fun z hz => ?_⟩
      rcases List.mem_append.mp hz with hz | hz
      · exact h3 z hz
      · rw [List.mem_singleton.mp hz]
        exact r1
    · rintro acc F2 H2 g2 k2 hD2 ⟨F3, ⟨es, h1, h2, h3⟩, e3⟩
      exact q _ F2 H2 (g1.trans g2) k2 ⟨.list es, ⟨es, rfl, by omega, h3⟩, .lst hD2 (h1.mono e3)⟩
end
/-! ### numbers that are not too great -/
def big : Nat := 2 ^ 4000
theorem mulX_of {i j : Int} (hi : i.natAbs ≤ big) (hj : j.natAbs ≤ big) : CMulX i j := by
  have h : big < 2 ^ (4000 + 1) := Nat.pow_lt_pow_right (Nat.lt_succ_self 1) (Nat.lt_succ_self 4000)
  exact mulx_ok (Nat.lt_of_le_of_lt hi h) (Nat.lt_of_le_of_lt hj h) (by decide)
theorem big_ge {k : Nat} (h : k ≤ 4000) : 2 ^ k ≤ big := Nat.pow_le_pow_right (by decide) h
theorem big_pow {n k : Nat} (hn : n ≤ 4) (hk : k ≤ 180) : (n * 1000000) ^ k ≤ big := by
  refine Nat.le_trans (Nat.pow_le_pow_left (show n * 1000000 ≤ 2 ^ 22 by omega) k) ?_
  rw [← Nat.pow_mul]
  exact big_ge (by omega)
/-! ### tables of numbers -/
theorem _root_.Lt.Good.sq {n : Nat} {ts : List Tb} (g : Good n ts) : ∀ t ∈ ts, Sq n t := fun t ht => ⟨(g.tab t ht).len, fun r hr => ((g.tab t ht).row r hr).len⟩
theorem _root_.Lt.Good.bd {n : Nat} {ts : List Tb} (g : Good n ts) : ∀ t ∈ ts, Bd 1000000 t := fun t ht r hr x hx => ((g.tab t ht).row r hr).le x hx
theorem _root_.Lt.Good.bdw {n : Nat} {ts : List Tb} (g : Good n ts) {w : List Nat} (hw : Word ts w) (hl : w.length ≤ 180) : Bd big (prodT n ts w) := (bd_prod g.sq g.bd w hw).mono (big_pow g.n4 hl)
theorem _root_.Lt.Good.bdt {n : Nat} {ts : List Tb} (g : Good n ts) : ∀ t ∈ ts, Bd big t := fun t ht => (g.bd t ht).mono (Nat.le_trans (by decide) (big_ge (k := 20) (by decide)))
theorem encT_map {n : Nat} (f : Nat → Nat → Int) : PyData.tuple ((List.range n).map fun i => PyData.tuple ((List.range n).map fun j => PyData.int (f i j))) = encT (tabF n f) := by
  unfold encT tabF encR
  rw [List.map_map]
  congr 1
  refine List.map_congr_left fun i _ => ?_
  show _ = PyData.tuple (((List.range n).map fun j => f i j).map .int)
  rw [List.map_map]
  rfl
/-- turned over the corner line -/
def trT (n : Nat) (t : Tb) : Tb := (List.range n).map (colL t)
theorem encT_rows (t : Tb) : encT t = .tuple ((t.map fun r => r.map PyData.int).map .tuple) := by
  unfold encT
  rw [List.map_map]
  rfl
theorem colD_int {n : Nat} {t : Tb} {i : Nat} (h : ∀ r ∈ t, r.length = n) (hi : i < n) : colD (t.map fun r => r.map PyData.int) i = (colL t i).map PyData.int := by
  unfold colD colL
  rw [List.map_map, List.map_map]
  refine List.map_congr_left fun r hr => ?_
  show (r.map PyData.int).getD i .none = PyData.int (r.getD i 0)
  have hl := h r hr
  rw [getD_lt (by rw [List.length_map]; omega), getD_lt (by omega), List.getElem_map]
section
variable {K : PySem.W.Frag} {w : Wd} {σ : St} {F : Hp} {te : TE}
theorem ed_trT {n : Nat} {t : Tb} (ha : ED K w te σ F (encT t)) (hl : ∀ r ∈ t, r.length = n) (h0 : 0 < n) (hn : n ≤ 1000) (hm : 0 < t.length) (hm2 : t.length ≤ 1000) : ED K w (ZS.tZip K te) σ F (encT (trT n t)) := by
  refine (ed_tzip (n := n) (rows := t.map fun r => r.map PyData.int) (.inl (by rw [← encT_rows]; exact ha)) (fun z => ?_) (fun r hr => ?_) h0 (by rw [List.length_map]; omega) (by omega)).is ?_
  · have := congrArg List.length z
    rw [List.length_map] at this
    simp at this
    rw [this] at hm
    exact absurd hm (by decide)
  · obtain ⟨r', hr', rfl⟩ := List.mem_map.mp hr
    rw [List.length_map]
    exact hl r' hr'
  · unfold encT trT
    rw [List.map_map, List.map_map]
    congr 1
    refine List.map_congr_left fun i hi => ?_
    show PyData.tuple (colD _ i) = encR (colL t i)
    rw [colD_int hl (List.mem_range.mp hi)]
    rfl
end
end Wk
set_option Elab.async false
set_option linter.all false
set_option maxRecDepth 100000
set_option maxHeartbeats 2000000
/-! Mx3: tables of great numbers, shown and compared -/
namespace Wk
open PySem PySem.Spec L2 Lt Mt
def dec (k : Nat) : Nat := 10 ^ k
theorem sh_big {n k : Nat} {t : Tb} (s : Sq n t) (hn : n ≤ 4) (b : Bd (dec k) t) (hk : k < 480) : Sh (encT t) 7751 2 := (sh_tup (k := 4) (m := 1935) (e := 1) (fun d hd => by
  obtain ⟨r, hr, rfl⟩ := List.mem_map.mp hd
  exact (sh_tup (k := 4) (m := 481) (e := 0) (fun d hd => by
    obtain ⟨i, hi, rfl⟩ := List.mem_map.mp hd
    refine sh_int (k := 480) (Nat.lt_of_le_of_lt (b r hr i hi) ?_) (by decide) (Nat.le_refl _)
    exact Nat.pow_lt_pow_right (by decide) hk) (by rw [List.length_map, s.row r hr]; exact hn)).mono (by decide) (Nat.le_refl _)) (by rw [List.length_map, s.len]; exact hn)).mono (by decide) (Nat.le_refl _)
theorem lay_table (t : Tb) : (encT t).canLay0 = true := by
  simp only [encT, PyData.canLay0]
  refine canLay_all fun r _ => ?_
  simp only [encR, PyData.canLay0]
  exact canLay_all fun i _ => by simp only [PyData.canLay0]
theorem depth_all {m : Nat} : ∀ {ds : List PyData}, (∀ d ∈ ds, d.depth ≤ m) → PyData.depthAll ds ≤ m
  | [], _ => by simp only [PyData.depthAll]; exact Nat.zero_le _
  | d :: ds, h => by
    simp only [PyData.depthAll]
    exact Nat.max_le.mpr ⟨h d (List.mem_cons_self ..), depth_all fun x hx => h x (List.mem_cons_of_mem _ hx)⟩
theorem nd_all : ∀ {ds : List PyData}, (∀ d ∈ ds, d.hasDict = false) → PyData.hasDictAll ds = false
  | [], _ => by simp only [PyData.hasDictAll]
  | d :: ds, h => by
    simp only [PyData.hasDictAll, Bool.or_eq_false_iff]
    exact ⟨h d (List.mem_cons_self ..), nd_all fun x hx => h x (List.mem_cons_of_mem _ hx)⟩
theorem depth_tup {ds : List PyData} {m : Nat} (h : ∀ d ∈ ds, d.depth ≤ m) : (PyData.tuple ds).depth ≤ m + 1 := by
  simp only [PyData.depth]
  have := depth_all h
  omega
theorem nd_tup {ds : List PyData} (h : ∀ d ∈ ds, d.hasDict = false) : (PyData.tuple ds).hasDict = false := by
  simp only [PyData.hasDict]
  exact nd_all h
theorem cmp_table (t : Tb) : Cmp (encT t) := by
  refine ⟨?_, nd_tup fun d hd => ?_⟩
  · unfold SeqAt.shaped
    rw [lay_table, Bool.true_and, decide_eq_true_eq]
    refine Nat.le_trans (depth_tup (m := 1) fun d hd => ?_) (by decide)
    obtain ⟨r, hr, rfl⟩ := List.mem_map.mp hd
    refine depth_tup (m := 0) fun d hd => ?_
    obtain ⟨i, hi, rfl⟩ := List.mem_map.mp hd
    simp only [PyData.depth]
    exact Nat.le_refl _
  · obtain ⟨r, hr, rfl⟩ := List.mem_map.mp hd
    refine nd_tup fun d hd => ?_
    obtain ⟨i, hi, rfl⟩ := List.mem_map.mp hd
    simp only [PyData.hasDict]
theorem dec_pow {n k : Nat} (hn : n ≤ 4) : (n * 1000000) ^ k ≤ dec (7 * k) := by
  unfold dec
  rw [Nat.pow_mul]
  exact Nat.pow_le_pow_left (by omega) k
theorem _root_.Lt.Good.decw {n : Nat} {ts : List Tb} (g : Good n ts) {w : List Nat} (hw : Word ts w) : Bd (dec (7 * w.length)) (prodT n ts w) := (bd_prod g.sq g.bd w hw).mono (dec_pow g.n4)
theorem sh_prod {n : Nat} {ts : List Tb} (g : Good n ts) {w : List Nat} (hw : Word ts w) (hl : w.length ≤ 68) : Sh (encT (prodT n ts w)) 7751 2 := sh_big (sq_prod w) g.n4 (g.decw hw) (by omega)
end Wk
set_option Elab.async false
set_option linter.all false
set_option maxRecDepth 100000
set_option maxHeartbeats 2000000
/-! Mx4: enumerate in a comprehension, slices of tuples, traces -/
namespace Wk
open PySem PySem.Spec L2 Lt Mt
section
variable {K : PySem.W.Frag} {w : Wd} {σ : St} {F F1 F' H H' : Hp} {ta tb te tc tl : TE} {t u : TT} {P : V → Hp → Prop} {tr : TA} {D : Ends} {rest : TS}
theorem walk_enumT {a : Addr} {xs : List V} : Walk (IteT K a) xs.length (fun H => SqT K H a xs) (YPair (fun i => some (.int (i : Nat))) (fun i => xs[i]?)) := by
  refine ⟨fun i _ hi q => ⟨xs, xs[i], q, by simp [hi]⟩, fun _ q => ⟨xs, q, Nat.le_refl _⟩, fun i H v H' _ q y => ?_⟩
  obtain ⟨T, x, h1, h2, h3, h4⟩ := y
  exact ⟨T, _, x, h1, h2, h3, rfl, h4 xs q⟩
theorem ed_enumMap {vs : List Nat} {i j : Nat} {as : List PyData} (g : Nat → PyData → PyData) (ha : ED K w ta σ F (.tuple as)) (hz : as.length ≤ 100000)
    (hw : ∀ x y, wipe (((wipe σ vs).set i (some x)).set j (some y)) vs = wipe σ vs)
    (he : ∀ (k : Nat) y a F1, as[k]? = some a → Same F F1 → Rp K F1 y a → ED K w te (((wipe σ vs).set i (some (.int (k : Int)))).set j (some y)) F1 (g k a)) :
    ED K w (tLc (iEnumT K (tCons ta tNil)) (gTup K 2 (gCons (gName i) (gCons (gName j) gNil))) tYes te vs) σ F (.list (as.zipIdx.map fun p => g p.2 p.1)) := fun F0 H0 e k Q q =>
  ha F0 H0 e k _ fun v F2 H2 g2 k2 r => by
    obtain ⟨a, xs, rfl, hx, ra⟩ := rp_tup r
    refine ⟨a, xs, rfl, sqtM k2.e hx, fun D hD => ?_⟩
    have lx : xs.length = as.length := ra.len
    refine lc_it (walk_enumT (K := K) (a := a) (xs := xs)) (fun m H => ∃ F3 acc, Gr w.M F2 H2 F3 H ∧ (w.add D (.lst acc)).ok F3 H ∧ acc.length ≤ m ∧ RpA K F3 acc ((as.zipIdx.take m).map fun p => g p.2 p.1)) ?_ ?_ ?_ ?_
    · have hF := freeF k2.e hD
      exact ⟨F2, [], Gr.own k2.e hD, (k2.pure (Gr.own k2.e hD)).plus (k2.npb hD) hF upd_same, Nat.zero_le _, .nil⟩
    · rintro m H hm ⟨F3, acc, g3, k3, _, _⟩
      exact sqtM (g3.f.trans k3.e) hx
    · rintro m x H H' hm ⟨F3, acc, g3, k3, hla, hacc⟩ ⟨T, y, z, rfl, hT, rfl, hy1, hz1⟩
      cases hy1
      obtain ⟨dz, hdz, rz⟩ := ra.getV hz1
      have gT : Gr M0 F3 H F3 (upd H T (.tup [.int (m : Nat), z])) := Gr.own k3.e hT
      have k4 := k3.pure gT
      refine ⟨T, [.int (m : Nat), z], rfl, .inl (.inl upd_same), rfl, .int (m : Nat), [z], rfl, z, [], rfl, rfl, hw _ z, ?_⟩
      simp only [tYes, if_true]
      refine EV.add (l := D) (o := .lst acc) (he m z dz F3 hdz (e.trans (g2.f.trans g3.f)) (rz.mono g3.f)) F3 _ (Same.refl F3) k4 _ fun y F4 H4 g4 k4 p4 => ?_
      refine ⟨acc, k4.at.2.2, Nat.lt_of_le_of_lt hla (Nat.lt_of_lt_of_le hm (Nat.le_trans (by rw [lx]; exact hz) (by decide))), F4, acc ++ [y], ((g3.trans gT.up).trans g4).mut hD k4.at.2.1, k4.put (k2.nls hD), by rw [List.length_append]; exact Nat.succ_le_succ hla, ?_⟩
      have hz2 : as.zipIdx[m]? = some (dz, m) := by
        rw [List.getElem?_zipIdx, hdz]
        simp
      rw [take_some hz2, List.map_append]
      exact (hacc.mono g4.f).snoc p4
    · rintro H ⟨F3, acc, g3, k3, hla, hacc⟩
      rw [List.take_of_length_le (by rw [List.length_zipIdx, lx]; exact Nat.le_refl _)] at hacc
      have hD3 := k3.at.2.1
      exact q _ (upd F3 D (.lst acc)) H (g2.trans (g3.frz hD hD3 k3.at.2.2)) (k3.frz (k2.nls hD)) (.lst upd_same (hacc.mono (same_new hD3)))
/-- a slice of a tuple -/
theorem ed_sliceT {ds : List PyData} {lo hi : Option Int} {tlo thi : TO} (ha : ED K w ta σ F (.tuple ds)) (hl : EO w tlo σ F lo) (hh : EO w thi σ F hi) : ED K w (tSl (rSlA K) ta tlo thi) σ F (.tuple (cutD ds lo hi)) := fun F1 H1 e k Q q =>
  ha F1 H1 e k _ fun x F2 H2 g2 k2 p2 => hl F2 H2 (e.trans g2.f) k2 _ fun F3 H3 g3 k3 => hh F3 H3 ((e.trans g2.f).trans g3.f) k3 _ fun F4 H4 g4 k4 => by
    obtain ⟨a, xs, rfl, h1, ra⟩ := rp_tup p2
    have e4 := g3.f.trans g4.f
    refine ⟨a, xs, rfl, sqtM (e4.trans k4.e) h1, fun hw => ?_, fun hw p hp => ?_⟩
    · refine q _ F4 H4 ((g2.trans g3).trans g4) k4 ?_
      have hd : cutD ds lo hi = ds := by
        unfold cutD
        rw [← ra.len, hw.1, hw.2, ra.len]
        simp
      rw [hd]
      exact .tup (sqtM e4 h1) (ra.mono e4)
    · have g5 : Gr M0 F4 H4 (upd F4 p (.tup (cutV xs lo hi))) (upd H4 p (.tup (cutV xs lo hi))) := Gr.new k4.e hp
      exact q _ _ _ (((g2.trans g3).trans g4).trans g5.up) (k4.pure g5) (.tup (.inl (.inl upd_same)) ((cut_rp ra lo hi).mono (e4.trans g5.f)))
theorem cut_drop {ds : List PyData} {k : Nat} : cutD ds (some (k : Int)) none = ds.drop k := by
  unfold cutD
  rw [HT.sIx_nat, HT.sIx_none]
  by_cases h : k ≤ ds.length
  · rw [Nat.min_eq_left h, List.take_of_length_le (by rw [List.length_drop]; exact Nat.le_refl _)]
  · rw [Nat.min_eq_right (by omega), List.drop_of_length_le (Nat.le_refl _), List.drop_of_length_le (by omega), List.take_nil]
theorem cut_take {ds : List PyData} {k : Nat} : cutD ds none (some (k : Int)) = ds.take k := by
  unfold cutD
  rw [HT.sIx_nat, HT.sIx_none, List.drop_zero, Nat.sub_zero]
  by_cases h : k ≤ ds.length
  · rw [Nat.min_eq_left h]
  · rw [Nat.min_eq_right (by omega), List.take_of_length_le (Nat.le_refl _), List.take_of_length_le (by omega)]
end
end Wk
namespace Mt
theorem ent_at {n : Nat} {t : Tb} {i j : Nat} (s : Sq n t) (hi : i < n) (hj : j < n) : (t.getD i [])[j]? = some (ent t i j) := by
  have h := (s.at hi).2
  unfold ent
  generalize t.getD i [] = r at h ⊢
  rw [List.getElem?_eq_getElem (by rw [h]; exact hj), getD_lt (by rw [h]; exact hj)]
theorem row_at {n : Nat} {t : Tb} {i : Nat} (s : Sq n t) (hi : i < n) : t[i]? = some (t.getD i []) := by
  have h : i < t.length := by rw [s.len]; exact hi
  rw [List.getElem?_eq_getElem h, getD_lt h]
/-- the sum along the corner line -/
def trc (n : Nat) (t : Tb) : Int := sumR n fun k => ent t k k
theorem trc_comm {n : Nat} {a b : Tb} (sa : Sq n a) (sb : Sq n b) : trc n (mulT n a b) = trc n (mulT n b a) := by
  unfold trc
  rw [sumR_congr fun k hk => ent_mul sa sb hk hk, sumR_comm, sumR_congr (f := fun k => ent (mulT n b a) k k) fun k hk => ent_mul sb sa hk hk]
  exact sumR_congr fun k _ => sumR_congr fun l _ => Int.mul_comm ..
theorem trc_turn {n : Nat} {ts : List Tb} (L : ∀ t ∈ ts, Sq n t) {w : List Nat} (hw : Word ts w) (k : Nat) : trc n (prodT n ts (w.drop k ++ w.take k)) = trc n (prodT n ts w) := by
  have h1 : Word ts (w.take k) := fun i hi => hw i (List.mem_of_mem_take hi)
  have h2 : Word ts (w.drop k) := fun i hi => hw i (List.mem_of_mem_drop hi)
  rw [prod_app L _ _ h1, trc_comm (sq_prod _) (sq_prod _), ← prod_app L _ _ h2, List.take_append_drop]
theorem trc_one (n : Nat) : trc n (oneT n) = n := by
  unfold trc
  rw [sumR_congr (g := fun _ => 1) fun k hk => by rw [ent_one hk hk, if_pos rfl]]
  induction n with
  | zero => rfl
  | succ n ih =>
    rw [sumR_succ, ih]
    omega
theorem trc_abs {n : Nat} {t : Tb} {B : Nat} (s : Sq n t) (b : Bd B t) : (trc n t).natAbs ≤ n * B := sumR_abs fun k hk => bd_ent s b hk hk
end Mt
set_option Elab.async false
set_option linter.all false
set_option maxRecDepth 100000
set_option maxHeartbeats 2000000
/-! Te: one clause with a tuple of classes and a name -/
namespace Wk
open PySem PySem.Spec PyProof.Rows
open L2 hiding St
theorem fly_kept {B h h' : Heap} {l : List Env} {a : Addr} {Z : Obj → Prop} (k : ∀ b o, h.get? b = some o → h'.get? b = some o) (x : HandSPX.FlyingZ B l a Z h) : HandSPX.FlyingZ B l a Z h' := by
  obtain ⟨x1, x2, x3, oe, vs, T, oT, ts, y1, y2, y3, y4, y5, y6, y7, y8⟩ := x
  exact ⟨fun b o e => k b o (x1 b o e), x2, x3.of_keeps (fun b o e _ => ⟨o, k b o e, rfl⟩), oe, vs, T, oT, ts, k _ _ y1, y2, y3, y4, y5, y6, k _ _ y7, y8⟩
/-- what is asked of the clause's test: a (its class cls) is held; the test tells yes -/
def Told (X : Cx) (test : Expr) (ok : Value → Prop) : Prop := ∀ (a : Addr) (oe : Obj) (pn : List (Addr × Obj)) (σ : L2.St) (H : Hp) (s : Shared) (cls : Value) (Q E : Value → Shared → Prop), Inv (X.suite a ((a, oe) :: pn)) [] σ H s →
  PySem.W.Looks (model X.prog X.w) s.heap (typeOf (.ref a)) cls → ok cls →
  (∀ c h' tk, (∀ b o, s.heap.get? b = some o → h'.get? b = some o) → PySem.W.Looks (model X.prog X.w) h' (excMatches (.ref a) c) true → Q c { s with heap := h', toks := tk }) → wpAny (model X.prog X.w) (X.A.mark (some (.ref a))) (eval test X.env) Q E s
/-- the wish: it is one of them, and the suite goes well -/
def wTold (m : Nat) (ok : Value → Prop) (i : Nat) (ts : Addr → Value → Option Addr → TS) (D : Ends) : WX := fun cls d σ H => ok cls ∧ ∀ a, H a = none → σ.length = m →
  ts a cls d { nx := fun σ2 H2 => D.nx (σ2.set i none) H2, rt := D.rt, bk := fun σ2 H2 => D.bk (σ2.set i none) H2, ct := fun σ2 H2 => D.ct (σ2.set i none) H2 } (σ.set i (some (.ref a))) H
section
variable {X : Cx} {n : Str} {test : Expr} {ok : Value → Prop} {i : Nat} {body rst : List Stmt} {st0 : Stmt} {p1 p2 : Pos} {tb : WX → TS} {ts : Addr → Value → Option Addr → TS}
theorem ps_try_told (st : X.stack = X.env :: X.outer) (fr : X.env.frame = some X.env.locals) (nd : X.N.Nodup) (ni : X.N[i]? = some n) (nk : X.env.kindOf n = some .local) (hc : Told X test ok)
    (hb : ∀ (W : WX) (pn : List (Addr × Obj)) (xe : Value → Shared → Prop), Takes (X.tr pn xe) W → PassesOwn (model X.prog X.w) X.A X.env xe → PSs (X.tr pn xe) body (tb W))
    (hs : ∀ (a : Addr) (oe : Obj) (cls : Value) (d : Option Addr) (pn : List (Addr × Obj)), Zc cls d oe → (∃ vs, oe.data = .fields vs) → PSs (X.suite a ((a, oe) :: pn)) (st0 :: rst) (ts a cls d)) :
    PS X (.Try body [.ExceptHandler (some test) (some n) (st0 :: rst) p2] [] [] p1) (fun D σ H => tb (wTold X.N.length ok i ts D) D σ H) := ⟨fun pins s σ H D I h => by
  have hX := I.ok
  have frm : X.A.frames = some (X.env :: X.outer) := hX.frames.trans (by rw [st])
  have caught : Takes (X.tr (X.pn ++ pins) fun e sa => wpAny (model X.prog X.w) X.A (noteFrame e X.env) (fun _ sb => wpAny (model X.prog X.w) X.A (setFlight e none) (fun _ sc => wpAny (model X.prog X.w) X.A
      (handleBy e X.env [.ExceptHandler (some test) (some n) (st0 :: rst) p2]) (SP X pins D) X.xe sc) X.xe sb) X.xe sa) (wTold X.N.length ok i ts D) := fun u se air => by
    obtain ⟨a, B, si, pins2, σ2, H2, cls, d, rfl, I2, into, ups, sky, fresh, eos, bare, yes, go⟩ := air
    have I3 := I2.ofTry hX
    have landed : ∀ {h2 : Heap}, HandSPX.FlyingZ B (X.env :: X.outer) a (Zc cls d) h2 → si.heap.UpToSlots h2 → ∀ tk, Inv X pins σ2 H2 { se with heap := h2, toks := tk } := fun f u2 tk => I3.landed (s' := { se with heap := _, toks := tk }) into f.1 u2 eos bare
    have far : ∀ {h2 : Heap}, HandSPX.FlyingZ B (X.env :: X.outer) a (Zc cls d) h2 → a ≠ X.env.locals ∧ a ∉ X.fs := fun {h2} f => by
      obtain ⟨oe, vs, e1, _, e3⟩ := f.there
      have off : a ∉ frs (X.env :: X.outer) := fun z => by
        obtain ⟨_, o2, e4, e5⟩ := f.2.2.1.mem z
        cases e1.symm.trans e4
        exact e5 vs e3
      refine ⟨fun z => off (List.mem_filterMap.mpr ⟨X.env, List.mem_cons_self, fr.trans (by rw [z])⟩), fun z => ?_⟩
      obtain ⟨e, m, q⟩ := List.mem_filterMap.mp z
      exact off (List.mem_filterMap.mpr ⟨e, List.mem_cons_of_mem _ m, q⟩)
    refine Sky.land Zc.steady frm fr (by rw [← st]; exact sky) fun hA fA uA => ?_
    obtain ⟨oA, vA, gA, zA, dA⟩ := fA.there
    have IA := (landed fA (ups.trans uA) se.toks).suite gA dA fresh (far fA).1 (far fA).2
    refine wpAny_handleBy_cons (codeAny_handlers_test (hc a oA (X.pn ++ pins) σ2 H2 { se with heap := hA } cls _ _ IA (fun A Q E s kk q => wpAny_typeOf_ref (kk _ _ gA) (by rw [zA.1]; exact q)) yes fun c hB tk kB mB => mB.here ?_)) (fun z => nomatch z)
    have fB := fly_kept kB fA
    refine codeAny_handlers_suite_as (HandSPX.lands_againZ (s := { se with heap := hB, toks := tk }) fB fun hC fC uC => ?_)
    obtain ⟨oC, vC, gC, zC, dC⟩ := fC.there
    have IC := (landed fC (((ups.trans uA).trans (Heap.UpToSlots.of_keeps kB)).trans uC) tk).suite gC dC fresh (far fC).1 (far fC).2
    refine store_ok (X := X.suite a ((a, oC) :: (X.pn ++ pins))) (v := .ref a) IC nd ni (.inl nk) rfl (fun sD ID => ?_) (.inr nk)
    refine wpAny_mono ((hs a oC cls d (X.pn ++ pins) zC ⟨_, dC⟩).run [] sD _ H2 _ ID (go a fresh I2.len)) (fun fl sE hE => ?_) (fun _ _ z => z.elim)
    have leave : ∀ {σ6 : L2.St} {H6 : Hp} {Q : Shared → Prop}, Inv (X.suite a ((a, oC) :: (X.pn ++ pins))) [] σ6 H6 sE → (∀ s7, Inv X pins (σ6.set i none) H6 s7 → Q s7) →
        wpAny (model X.prog X.w) X.A (do bindName X.env n .none; unbindBehindTheSuite X.env n p2) (fun _ s7 => Q s7) X.xe sE := fun I6 q => gone_ok (I6.unsuite hX) nd ni nk q
    match fl, hE with
    | .next, ⟨_, _, I6, q6⟩ => exact leave I6 fun s7 J => ⟨_, _, J, q6⟩
    | .brk, ⟨_, _, I6, q6⟩ => exact leave I6 fun s7 J => ⟨_, _, J, q6⟩
    | .cont, ⟨_, _, I6, q6⟩ => exact leave I6 fun s7 J => ⟨_, _, J, q6⟩
    | .ret u, ⟨_, _, _, I6, r6, q6⟩ => exact leave I6 fun s7 J => ⟨_, _, _, J, r6, q6⟩
  refine wpAny_Try_except (wpAny_mono ((hb _ _ _ caught PassesOwn.looking).run [] s σ H D (I.toTry _) h) (fun fl s1 q => ?_) fun _ _ z => z)
  match fl, q with
  | .next, ⟨_, _, J, q⟩ => exact wpAny_execs_nil ⟨_, _, J.ofTry hX, q⟩
  | .brk, ⟨_, _, J, q⟩ => exact ⟨_, _, J.ofTry hX, q⟩
  | .cont, ⟨_, _, J, q⟩ => exact ⟨_, _, J.ofTry hX, q⟩
  | .ret u, ⟨_, _, _, J, r, q⟩ => exact ⟨_, _, _, J.ofTry hX, r, q⟩⟩
/-- three own classes, written as a tuple -/
theorem told3 {x y z : Str} {c1 c2 c3 : Value} {q1 q2 q3 q4 : Pos} {kk : Nat} (h1 : Gl X x) (h2 : Gl X y) (h3 : Gl X z) (m1 : X.mg x = some c1) (m2 : X.mg y = some c2) (m3 : X.mg z = some c3) (n1 : (x == ("__debug__" : Str)) = false) (n2 : (y == ("__debug__" : Str)) = false) (n3 : (z == ("__debug__" : Str)) = false) :
    Told X (.Tuple [.Name x q1, .Name y q2, .Name z q3] kk q4) fun cls => PySem.W.exmAny X.K cls [c1, c2, c3] = some true := fun a oe pn σ H s cls Q E I lt yes go => by
  refine wpAny_Tuple_spliced ?_
  refine Calls.spliced_cons (ld_glob (X := X.suite a ((a, oe) :: pn)) I h1 m1 ?_ n1)
  refine Calls.spliced_cons (ld_glob (X := X.suite a ((a, oe) :: pn)) I h2 m2 ?_ n2)
  refine Calls.spliced_cons (ld_glob (X := X.suite a ((a, oe) :: pn)) I h3 m3 ?_ n3)
  refine Calls.spliced_nil ⟨by rw [sizeLine_eq]; show 3 ≤ _; omega, ?_⟩
  have kp : ∀ b o, s.heap.get? b = some o → (s.heap.push { cls := .type "tuple", data := .seq [c1, c2, c3].toArray }).get? b = some o := fun b o e => Heap.get?_push_of_some _ e
  exact go _ _ s.toks kp (PySem.W.exm_tup3 ((I.kIn).keeps kp) (lt.keeps kp) (Heap.get?_push_size s.heap rfl) yes)
end
end Wk
set_option Elab.async false
set_option linter.all false
set_option maxRecDepth 100000
set_option maxHeartbeats 2000000
/-! Tf: a def that is called with the exception that the suite holds -/
namespace Wk
open PySem PySem.Spec PyProof.Rows
open L2 hiding St
open L2H (RoomH PinOk)
/-- the promise: p is the exception's place and object -/
structure FnE (P : Program) (w : World) (K : PySem.W.Frag) (mg : Str → Option Value) (base : Heap) (k : Nat) (f : Addr) (fd : FuncData) (x : Str) (sp : Addr → Value → Option Addr → Hp → VK → Prop) : Prop where
  run : ∀ (A : Around) (outer : List Env) (s : Shared) (H : Hp) (Q : VK) (args : Args) (p : Addr × Obj) (cls : Value) (d : Option Addr), RoomH k A → A.handled = some (.ref p.1) → A.guards = some [] → PinOk outer H s p → Zc cls d p.2 → (∃ vs, p.2.data = .fields vs) →
    Env0 P w K mg base A outer s H → BindsTo s fd args [(x, .ref p.1)] → sp p.1 cls d H Q → codeAny (model P w) A (.call (.ref f) args) (CR CX0 outer P w H s Q E0) s
/-- the context of its body -/
abbrev cxE (P : Program) (w : World) (K : PySem.W.Frag) (mg : Str → Option Value) (base : Heap) (N : List Str) (qual : Str) (st : Stmt) (f : Addr) (cdv : Value) (A : Around) (outer : List Env) (s : Shared) (H : Hp) (p : Addr × Obj) : Cx :=
  (cxOf CX0 P w K mg base N qual (defScope st) f cdv A outer s H E0).nox.suite p.1 [p]
section
variable {P : Program} {w : World} {K : PySem.W.Frag} {mg : Str → Option Value} {base : Heap}
theorem mark_same {A : Around} {v : Value} (h : A.handled = some v) : A.mark (some v) = A := by
  cases A
  dsimp only at h
  subst h
  rfl
theorem fnE_ok {x qual par : Str} {st : Stmt} {f : Addr} {fd : FuncData} {N : List Str} {k : Nat} {sp : Addr → Value → Option Addr → Hp → VK → Prop} (F : Fun K x qual st f fd) (S : FnScope N [par] (defScope st))
    (hb : ∀ (cdv : Value) (A : Around) (outer : List Env) (s : Shared) (H : Hp) (Q : VK) (p : Addr × Obj) (cls : Value) (d : Option Addr), RoomH k (A.deeper (PyProof.Rows.envOfC qual (defScope st) s.heap.objs.size f cdv)) → A.guards = some [] → Zc cls d p.2 → (∃ vs, p.2.data = .fields vs) → sp p.1 cls d H Q →
      ∃ t, PSs (cxE P w K mg base N qual st f cdv A outer s H p) (defBody st) t ∧ t { nx := fun _ H' => Q .non H', rt := Q } (L2.start N [.ref p.1]) H) : FnE P w K mg base (k + 1) f fd par sp := by
  obtain ⟨oc, od, kV, doc, pm, an, cdv, ct, osl, rfl, lk, hcd⟩ := F.ex
  refine ⟨fun A outer s H Q args p cls d hr hd hg hp hz hf e0 hbind hs => ?_⟩
  have old : ∀ b o, base.get? b = some o → s.heap.get? b = some o := fun b o e => (e0.bs b o e).1
  have kx : K.In s.heap := e0.mod.kin.keeps old
  refine codeAny_call_function hr.depth (kx _ _ lk) rfl S.co S.gen rfl (PySem.W.codeRec_of kx hcd) (hbind _ _ _ _ ?_)
  refine wpAny_newFunctionEnv_cells S.kind (fun q hq => ?_) fun env he s1 ic => ?_
  · cases List.mem_singleton.mp hq
    exact (S.par par List.mem_cons_self).imp id fun z => ⟨z, PySem.W.cellsFrom_some _ _ _ (.inl z)⟩
  · subst he
    refine ⟨(e0.mod.nolimit.keeps old).keeps ic.toInCall.keep, codeAny_func ?_⟩
    obtain ⟨t, ht, hq⟩ := hb cdv A outer s H Q p cls d (hr.deeper _) hg hz hf hs
    have I := L2H.inv_startH (CX := CX0) (E := E0) (p := p) (us := [.ref p.1]) (vs := [.ref p.1]) S hp e0 rfl (.cons rfl .nil) ic
    have ok := I.ok
    have J : Inv (cxE P w K mg base N qual st f cdv A outer s H p) [] (L2.start N [.ref p.1]) H s1 :=
      ⟨⟨ok.mod, ok.kind, ok.glob, ok.blt, ok.above, ok.inj, ok.has, ok.cab, (fun z => nomatch z), ok.frames, ok.stk, ok.exf, ok.bs, ok.bsz, ok.noex, ok.exfs, ok.funs, ok.frf⟩, I.os, I.bare, I.base, I.loc, I.cell, I.free, I.freeC, I.pin, I.hok, I.len⟩
    have go := ht.run [] s1 _ H _ J hq
    rw [show (cxE P w K mg base N qual st f cdv A outer s H p).A = A.deeper (PyProof.Rows.envOfC qual (defScope st) s.heap.objs.size f cdv) from mark_same (show (A.deeper _).handled = _ from hd)] at go
    refine wpAny_mono go (fun fl s' hs' => ?_) fun _ _ z => z.elim
    cases fl with
    | ret u =>
      obtain ⟨v, σ', H', J', rv, q⟩ := hs'
      exact ⟨v, H', J'.os, J'.bare, J'.base, J'.hok, rv, q⟩
    | next =>
      obtain ⟨σ', H', J', q⟩ := hs'
      exact ⟨.non, H', J'.os, J'.bare, J'.base, J'.hok, rfl, q⟩
    | brk =>
      obtain ⟨_, _, _, q⟩ := hs'
      exact q.elim
    | cont =>
      obtain ⟨_, _, _, q⟩ := hs'
      exact q.elim
end
section
variable {X : Cx} {a : Addr} {oe : Obj} {cls : Value} {d : Option Addr} {pn : List (Addr × Obj)} {k i : Nat} {f : Addr} {fd : FuncData} {x par n : Str} {sp : Addr → Value → Option Addr → Hp → VK → Prop} {p0 p1 p2 : Pos}
/-- f(e), e the name of the exception: slot i -/
def tCallE (sp : Addr → Value → Option Addr → Hp → VK → Prop) (a : Addr) (cls : Value) (d : Option Addr) (i : Nat) : TE := fun σ H Q => σ[i]? = some (some (.ref a)) ∧ sp a cls d H Q
theorem pe_callE (F : FnE X.prog X.w X.K X.mg X.base k f fd par sp) (hz : Zc cls d oe) (hf : ∃ vs, oe.data = .fields vs) (hr : RoomH k X.A) (hG : X.A.guards = some []) (hg : Gl X x) (hm : X.mg x = some (.ref f)) (hk : PySem.W.keepIn X.K (.ref f) = true)
    (hb : L2.Binds X.K fd [par] []) (hN : X.N[i]? = some n) (hv : Vis X.env.scope n) (d1 : (n == ("__debug__" : Str)) = false := by decide) (d2 : (n == ("__classdict__" : Str)) = false := by decide) (d3 : (x == ("__debug__" : Str)) = false := by decide) :
    PE (X.suite a ((a, oe) :: pn)) (.Call (.Name x p0) [.Name n p2] [] p1) (tCallE sp a cls d i) := by
  refine ⟨fun pins s σ H Q I ⟨hs, h⟩ => ?_⟩
  refine wpAny_Call_Name_kw (ld_glob (X := X.suite a ((a, oe) :: pn)) I hg hm ?_ d3)
  refine PySem.W.callWith_K (h₀ := X.base) I.ok.mod.kin hk ?_ (by rfl) (by rfl)
  show wpAny _ _ (spliced ((false, eval (.Name n p2) X.env) :: backTo p1 (starEach [] X.env))) _ _ s
  refine Calls.spliced_cons (thn ((pe_var (X := X.suite a ((a, oe) :: pn)) (pos := p2) (i := i) hN hv d1 d2).run pins s σ H (fun v H1 => v = .ref a ∧ H1 = H) I ⟨.ref a, hs, rfl, rfl⟩) fun u s1 ⟨v, H1, I1, r1, e1, e2⟩ => ?_)
  subst e1
  subst e2
  obtain rfl : u = Value.ref a := r1
  refine Calls.spliced_nil ⟨I1.kIn, ?_⟩
  have pa := I1.pin (a, oe) (List.mem_append_left _ List.mem_cons_self)
  have hp : PinOk X.stack H1 s1 (a, oe) := ⟨pa.1, pa.2.1, fun z => (List.mem_cons.mp (I1.stkSub a z)).elim pa.2.2.1 pa.2.2.2.1, pa.2.2.2.2⟩
  have b := hb s1 [.ref a] I1.kIn rfl
  refine wpAny_call (codeAny_mono (F.run (X.A.mark (some (.ref a))) X.stack s1 H1 Q ⟨[.ref a], []⟩ (a, oe) cls d ⟨hr.dp, hr.un⟩ rfl hG hp hz hf I1.env0 b h) fun r s' hq => ?_)
  cases r with
  | error e => exact hq.elim
  | ok fl =>
    cases fl with
    | ret u => exact I1.after hq
    | next => exact hq.elim
    | brk => exact hq.elim
    | cont => exact hq.elim
end
end Wk
set_option Elab.async false
set_option linter.all false
set_option maxRecDepth 100000
set_option maxHeartbeats 2000000
/-! Tg: a lambda handed to a def, what stands in the table told exactly -/
namespace Wk
open PySem PySem.Spec PyProof.Rows
open L2 hiding St
open LamX (CodeO TabB LamS lamEnv lamCx GivesTo)
/-- the table at P with one code more, or as it was -/
def LamStep (P : Addr) (q : Str) (ps : Array Value) (H H1 : Hp) : Prop := H1 = H ∨ ∃ (c : Addr) (more : Array Value), H c = none ∧ H1 = upd (upd H P (.tbl (ps ++ more))) c (CodeO c q) ∧ TriplesOk (ps ++ more).toList ∧
  ∀ (pos : Pos) (cv : Value), codeAmong pos (ps ++ more).toList = some cv → codeAmong pos ps.toList = some cv ∨ cv = .ref c
/-- x(lambda: ..) -/
def tLamP (P : Addr) (q : Str) (TT : (XK → Hp → VK → Prop) → Hp → VK → Prop) (t : XK → TE) : TE := fun σ H Q => ∃ ps : Array Value, H P = some (.tbl ps) ∧ TriplesOk ps.toList ∧ (∀ (pos : Pos) (cv : Value), codeAmong pos ps.toList = some cv → ∃ c, cv = .ref c ∧ H c = some (CodeO c q)) ∧
  ∀ H1, LamStep P q ps H H1 → TT (fun E H' Q' => t E σ H' Q') H1 Q
section
variable {X : Cx} {pins : List (Addr × Obj)} {σ : L2.St} {H : Hp} {s : Shared}
theorem lam_made {c P : Addr} {q : Str} {ps : Array Value} {params : Arguments} {body : Expr} {scope : Scope} {pos : Pos} {E Q : Value → Shared → Prop} (I : Inv X pins σ H s) (B : TabB X.base X.mg c P) (ec : X.env.code = .ref c) (eq : X.env.qual ++ "<lambda>" = q)
    (tP : H P = some (.tbl ps)) (tO : TriplesOk ps.toList) (tC : ∀ (pos : Pos) (cv : Value), codeAmong pos ps.toList = some cv → ∃ c, cv = .ref c ∧ H c = some (CodeO c q)) (ed : defaultsOf params X.env = ([], [])) (ef : ∀ y ∈ scope.names, y.2 = .free → ∃ c, X.env.cells.lookup y.1 = some c)
    (go : ∀ (f c1 : Addr) (pm ct : Value) (H1 : Hp) (s1 : Shared), Inv X pins σ H1 s1 → LamStep P q ps H H1 → s1.heap.get? f = some (PySem.W.kla_obj "<lambda>" (X.env.qual ++ "<lambda>") params body scope (cloFrom X.env.cells scope.names []) pm c1 ct) →
      H1 f = none → f ∉ frs X.stack → H1 c1 = some (CodeO c1 q) → Q (.ref f) s1) : wpAny (model X.prog X.w) X.A (eval (.Lambda params body scope pos) X.env) Q E s := by
  have offstack : ∀ f, s.heap.objs.size ≤ f → f ∉ frs X.stack := fun f le z => (List.mem_cons.mp (I.stkSub f z)).elim (fun y => absurd (Nat.lt_of_lt_of_le I.lt (y ▸ le)) (Nat.lt_irrefl _)) (I.nofs le)
  have kP : s.heap.get? P = some { cls := .none, data := .fields ps } := I.hok P _ tP
  have bP := B.bm.keeps I.bk
  refine PySem.W.kla_eval ed ?_
  rcases hit : codeAmong pos ps.toList with _ | cv
  · refine PySem.W.kla_makeFunction (closure_ok ef) I.ok.glob (I.mod.glob.keeps I.bk) ec (B.code.keeps I.bk) kP tO hit B.gP bP fun c1 ct h2 tk ext lo hi rc tab => ?_
    obtain ⟨_, oc, vs, tq, e1, e2, e3, e4⟩ := rc
    cases e1
    have fr : H c1 = none := I.hok.fresh lo
    have neP : P ≠ c1 := ne_of_none tP fr
    have sz : s.heap.objs.size ≤ h2.objs.size := Nat.le_trans lo (Nat.le_of_lt hi)
    have I1 := LamX.inv_table (t' := tk) (q := q) (ps := ps) (more := #[rawInt pos.line, rawInt pos.col, .ref c1]) (h' := h2.push (PySem.W.kla_obj "<lambda>" (X.env.qual ++ "<lambda>") params body scope (cloFrom X.env.cells scope.names []) ((X.mg "__name__").getD .none) c1 ct)) I tP
      (fun b o nb e => Heap.get?_push_of_some _ (ext b o nb e)) (Heap.get?_push_of_some _ tab) lo ⟨oc, vs, tq, Heap.get?_push_of_some _ e2, e3, by rw [← eq]; exact e4⟩
    have es : (ps ++ #[rawInt pos.line, rawInt pos.col, .ref c1]).toList = ps.toList ++ [rawInt pos.line, rawInt pos.col, .ref c1] := Array.toList_append
    refine go h2.objs.size c1 _ ct _ _ I1 (.inr ⟨c1, _, fr, rfl, by rw [es]; exact PySem.TriplesOk_snoc _ _ _ _ tO, fun p2 cv z => LamX.among_app _ tO (by rw [es] at z; exact z)⟩) (Heap.get?_push_size _ rfl) ?_ (offstack _ sz) upd_same
    rw [upd_ne (Nat.ne_of_gt hi), upd_ne (Nat.ne_of_gt (Nat.lt_of_lt_of_le (Heap.lt_size kP) sz))]
    exact I.hok.fresh sz
  · obtain ⟨c1, rfl, e2⟩ := tC pos cv hit
    refine PySem.W.kla_makeFunctionHit (closure_ok ef) I.ok.glob (I.mod.glob.keeps I.bk) ec (B.code.keeps I.bk) kP tO hit bP fun ct h2 tk ext sz => ?_
    exact go h2.objs.size c1 _ ct H _ (I.kept (t' := tk) fun b o e => Heap.get?_push_of_some _ (ext b o e)) (.inl rfl) (Heap.get?_push_size _ rfl) (I.hok.fresh sz) (offstack _ sz) e2
theorem pe_lamP {P c g : Addr} {q x a : Str} {TT : (XK → Hp → VK → Prop) → Hp → VK → Prop} {k : Nat} {gs : Stmt} {gd : FuncData} {Ng : List Str} {params : Arguments} {body : Expr} {scope : Scope} {t : XK → TE} {p lpos pos : Pos}
    (G : Fun X.K x x gs g gd) (gg : Gl X x) (gm : X.mg x = some (.ref g)) (gb : L2.Binds X.K gd [a] []) (gS : FnScope Ng [a] (defScope gs)) (gN : Ng[0]? = some a) (gv : Vis (defScope gs) a)
    (hG : ∀ cdg, GivesTo X Ng x (defScope gs) g cdg (defBody gs) a q TT) (B : TabB X.base X.mg c P) (ec : X.env.code = .ref c) (eq : X.env.qual ++ "<lambda>" = q) (hr : Room (k + 2) X.A) (L : LamS X.env.scope scope) (ed : defaultsOf params X.env = ([], []))
    (eb : ∀ (qq : Str) (cl : List (Str × Addr)) (pm cv ct : Value), bindArgs (PySem.W.kla_fn "<lambda>" qq params body scope cl pm cv ct) ⟨[], []⟩ = pure [])
    (hbody : ∀ (A : Around) (outer : List Env) (s : Shared) (H : Hp) (E : XK) (f c1 : Addr), Room k (A.deeper (lamEnv X scope s.heap.objs.size f c1)) → PE (lamCx X A outer s H E scope f c1) body (t E))
    (d1 : (x == ("__debug__" : Str)) = false := by decide) (d2 : (a == ("__debug__" : Str)) = false := by decide) (d3 : (a == ("__classdict__" : Str)) = false := by decide) : PE X (.Call (.Name x p) [.Lambda params body scope lpos] [] pos) (tLamP P q TT t) := by
  obtain ⟨oc, od, kV, doc, pm, an, cdv, ct, osl, rfl, lk, hcd⟩ := G.ex
  refine ⟨fun pins s σ H Q I ⟨ps, tP, tO, tC, h⟩ => ?_⟩
  refine wpAny_Call_Name_kw (ld_glob I gg gm ?_ d1)
  refine PySem.W.callWith_K (h₀ := X.base) I.ok.mod.kin G.kp ?_ (by rfl) (by rfl)
  show wpAny _ _ (spliced ((false, eval (.Lambda params body scope lpos) X.env) :: backTo pos (starEach [] X.env))) _ _ s
  refine Calls.spliced_cons (lam_made I B ec eq tP tO tC ed (L.has I.ok) fun f c1 pm1 ct1 H1 s1 I1 st hf hn hs hc => Calls.spliced_nil ⟨I1.kIn, ?_⟩)
  refine wpAny_call (codeAny_mono (LamX.run_ofS (N := Ng) (ps := [a]) (us := [.ref f]) (vs := [.ref f]) (CX := CX0) (E := E0) (Q := Q) lk hcd gS hr I1.env0 (gb s1 [.ref f] I1.kIn rfl) (.cons rfl .nil) rfl fun hr2 => ?_) fun r s2 z => ?_)
  · exact Exists.elim (hG cdv f c1 s1 H1 Q (fun E H' Q' => t E σ H' Q') (fun W pn xe E p1 p2 tk hW => by
      subst eq
      exact LamX.pe_act (i := 0) I1 L hf hn hs (eb _ _ _ _ _) tk hW hr2 (fun A outer s H hr3 => hbody A outer s H E f c1 hr3) gN gv d2 d3) hc (h H1 st)) fun t2 z => ⟨t2, z.1.nox, z.2⟩
  · cases r with
    | error e => exact (show False from z).elim
    | ok fl =>
      cases fl with
      | ret u => exact I1.after z
      | next => exact z.elim
      | brk => exact z.elim
      | cont => exact z.elim
end
end Wk
set_option Elab.async false
set_option linter.all false
set_option maxRecDepth 100000
set_option maxHeartbeats 2000000
/-! Th: defs that may raise; lambdas made within the world -/
namespace Wk
open PySem PySem.Spec
open L2
open LamX (CodeO)
/-! ### what an expression evaluates to, or raises -/
abbrev PErr := Value → Addr → Hp → Prop
def EXe (w : Wd) (te : TE) (E : XK) (σ : St) (F : Hp) (P : V → Hp → Prop) (R : PErr) : Prop := ∀ F1 H1, Same F F1 → w.ok F1 H1 → ∀ Q : VK, (∀ v F2 H2, Gr w.M F1 H1 F2 H2 → w.ok F2 H2 → P v F2 → Q v H2) →
  (∀ c d F2 H2, Gr w.M F1 H1 F2 H2 → w.ok F2 H2 → R c d F2 → E c (some d) H2) → te σ H1 Q
section
variable {K : PySem.W.Frag} {w : Wd} {σ : St} {F F1 F' H H' H1 : Hp} {ta tb te : TE} {tr : TA} {P : V → Hp → Prop} {R R' : PErr} {E : XK}
theorem EV.x (h : EV w te σ F P) : EXe w te E σ F P R := fun F1 H1 e k Q q _ => h F1 H1 e k Q q
theorem EXe.mono (e : Same F F1) (h : EXe w te E σ F P R) : EXe w te E σ F1 P R := fun F2 H2 e2 k Q q r => h F2 H2 (e.trans e2) k Q q r
theorem EXe.imp {P' : V → Hp → Prop} (h : EXe w te E σ F P R) (i : ∀ v F', Same F F' → P v F' → P' v F') (j : ∀ c d F', Same F F' → R c d F' → R' c d F') : EXe w te E σ F P' R' := fun F2 H2 e2 k Q q r =>
  h F2 H2 e2 k Q (fun v F3 H3 g k3 p => q v F3 H3 g k3 (i _ _ (e2.trans g.f) p)) fun c d F3 H3 g k3 p => r c d F3 H3 g k3 (j _ _ _ (e2.trans g.f) p)
/-! ### a def that leaves all as it was, or raises -/
def spX {ι : Type} (pre : ι → List V → Hp → Prop) (post : ι → V → Hp → Prop) (err : ι → PErr) : Sp := fun vs H Q E => ∃ (F : Hp) (i : ι), Same F H ∧ pre i vs F ∧ (∀ v F' H', Gr M0 F H F' H' → post i v F' → Q v H') ∧
  ∀ c d F' H', Gr M0 F H F' H' → err i c d F' → E c (some d) H'
theorem ex_call {ι : Type} {pre : ι → List V → Hp → Prop} {post : ι → V → Hp → Prop} {err : ι → PErr} {A : List V → Hp → Prop} (ha : EA w tr σ F A) (i : List V → Hp → ι) (hp : ∀ vs F1, Same F F1 → A vs F1 → pre (i vs F1) vs F1) (hq : ∀ vs F1 v F2, Same F F1 → A vs F1 → Same F1 F2 → post (i vs F1) v F2 → P v F2)
    (hr : ∀ vs F1 c d F2, Same F F1 → A vs F1 → Same F1 F2 → err (i vs F1) c d F2 → R c d F2) : EXe w (tCall (spX pre post err) [] E tr) E σ F P R := fun F1 H1 e k Q q r =>
  ha F1 H1 e k _ fun vs F2 H2 g2 k2 p => by
    rw [List.append_nil]
    exact ⟨F2, i vs F2, k2.e, hp vs F2 (e.trans g2.f) p, fun v F3 H3 g3 p3 => q v F3 H3 (g2.trans g3.up) (k2.pure g3) (hq vs F2 v F3 (e.trans g2.f) p g3.f p3), fun c d F3 H3 g3 p3 => r c d F3 H3 (g2.trans g3.up) (k2.pure g3) (hr vs F2 c d F3 (e.trans g2.f) p g3.f p3)⟩
/-- C.m(..), a classmethod that may raise -/
theorem ex_cmeth {C : Addr} {ι : Type} {pre : ι → List V → Hp → Prop} {post : ι → V → Hp → Prop} {err : ι → PErr} {A : List V → Hp → Prop} (hc : ED' w ta σ F (.ref C)) (ha : EA w tr σ F A) (i : List V → Hp → ι) (hp : ∀ vs F1, Same F F1 → A vs F1 → pre (i vs F1) (.ref C :: vs) F1)
    (hq : ∀ vs F1 v F2, Same F F1 → A vs F1 → Same F1 F2 → post (i vs F1) v F2 → P v F2) (hr : ∀ vs F1 c d F2, Same F F1 → A vs F1 → Same F1 F2 → err (i vs F1) c d F2 → R c d F2) : EXe w (ClX.tCMeth C (spX pre post err) E ta tr) E σ F P R := fun F1 H1 e k Q q r =>
  hc F1 H1 e k _ fun x F2 H2 g2 k2 p2 => ⟨p2, ha F2 H2 (e.trans g2.f) k2 _ fun vs F3 H3 g3 k3 p3 => ⟨F3, i vs F3, k3.e, hp vs F3 ((e.trans g2.f).trans g3.f) p3, fun v F4 H4 g4 p4 => q v F4 H4 ((g2.trans g3).trans g4.up) (k3.pure g4) (hq vs F3 v F4 ((e.trans g2.f).trans g3.f) p3 g4.f p4),
    fun c d F4 H4 g4 p4 => r c d F4 H4 ((g2.trans g3).trans g4.up) (k3.pure g4) (hr vs F3 c d F4 ((e.trans g2.f).trans g3.f) p3 g4.f p4)⟩⟩
/-- a property read of what may raise -/
theorem ex_prop {C : Addr} {ι : Type} {pre : ι → List V → Hp → Prop} {post : ι → V → Hp → Prop} {E2 : XK} {A : V → Hp → Prop} (ha : EXe w ta E σ F A R) (hi : ∀ v F1, A v F1 → ∃ a dx fs, v = .ref a ∧ F1 a = some (.ins C dx fs)) (i : V → Hp → ι) (hp : ∀ v F1, Same F F1 → A v F1 → pre (i v F1) [v] F1)
    (hq : ∀ x F1 v F2, Same F F1 → A x F1 → Same F1 F2 → post (i x F1) v F2 → P v F2) : EXe w (tProp C (spG pre post) [] E2 ta) E σ F P R := fun F1 H1 e k Q q r =>
  ha F1 H1 e k _ (fun x F2 H2 g2 k2 p => by
    obtain ⟨a, dx, fs, rfl, h⟩ := hi x F2 p
    exact ⟨a, dx, fs, rfl, k2.e _ _ h, F2, i (.ref a) F2, k2.e, hp _ F2 (e.trans g2.f) p, fun v F3 H3 g3 p3 => q v F3 H3 (g2.trans g3.up) (k2.pure g3) (hq _ F2 v F3 (e.trans g2.f) p g3.f p3)⟩) r
/-! ### __init__ that may raise -/
def spIX {ι : Type} (C : Addr) (pre : ι → List V → Hp → Prop) (fs : ι → List V → List (Str × V)) (ok : ι → Prop) (err : ι → PErr) : Sp := fun vs H Q E => ∃ (F : Hp) (i : ι) (x dx : Addr) (ws : List V), vs = .ref x :: ws ∧ Same F H ∧ F x = none ∧ H x = some (.ins C dx []) ∧ pre i ws F ∧
  (ok i → ∀ F' H', Gr (fun a => a = x) F H F' H' → F' x = none → H' x = some (.ins C dx (fs i ws)) → Q .non H') ∧ ∀ c d F' H', Gr (fun a => a = x) F H F' H' → err i c d F' → E c (some d) H'
theorem make_coreX {C : Addr} {ι : Type} {pre : ι → List V → Hp → Prop} {fsf : ι → List V → List (Str × V)} {ok : ι → Prop} {err : ι → PErr} {ws : List V} {Q : VK} (i : ι) (k : w.ok F H) (hp : pre i ws F)
    (q : ok i → ∀ x dx F' H', Gr w.M F H (upd F' x (.ins C dx (fsf i ws))) H' → w.ok (upd F' x (.ins C dx (fsf i ws))) H' → Same F F' → F' x = none → Q (.ref x) H') (r : ∀ c d F' H', Gr w.M F H F' H' → w.ok F' H' → err i c d F' → E c (some d) H') :
    ∀ x dx, H x = none → H dx = none → dx ≠ x → spIX C pre fsf ok err (.ref x :: (ws ++ [])) (upd (upd H dx (.own x)) x (.ins C dx [])) (fun v H2 => v = .non ∧ Q (.ref x) H2) E := fun x dx hx hdx hne => by
  rw [List.append_nil]
  have hFx := freeF k.e hx
  have hx2 : (upd H dx (.own x)) x = none := by rw [upd_ne (Ne.symm hne)]; exact hx
  have k1 : w.ok F (upd H dx (.own x)) := k.pure (Gr.own k.e hdx)
  have k2 : w.ok F (upd (upd H dx (.own x)) x (.ins C dx [])) := k1.pure (Gr.own k1.e hx2)
  have g2 : Gr w.M F H F (upd (upd H dx (.own x)) x (.ins C dx [])) := (Gr.own k.e hdx).trans (Gr.own k1.e hx2)
  refine ⟨F, i, x, dx, ws, rfl, k2.e, hFx, upd_same, hp, fun hok F' H' g3 hF' hH' => ⟨rfl, ?_⟩, fun c d F' H' g3 he => r c d F' H' (g2.thenNew g3 hx) (k2.other g3 (k.npb hx) (k.nls hx)) he⟩
  have k3 := k2.other g3 (k.npb hx) (k.nls hx)
  exact q hok x dx F' H' ((g2.thenNew g3 hx).frz hx hF' hH') ((k3.plus (k.npb hx) hF' hH').frz (k.nls hx)) g3.f hF'
theorem ex_make {C : Addr} {ι : Type} {pre : ι → List V → Hp → Prop} {fsf : ι → List V → List (Str × V)} {ok : ι → Prop} {err : ι → PErr} {A : List V → Hp → Prop} (ha : EA w tr σ F A) (i : List V → Hp → ι) (hp : ∀ ws F1, Same F F1 → A ws F1 → pre (i ws F1) ws F1)
    (hq : ∀ ws F1 x dx F2, Same F F1 → A ws F1 → ok (i ws F1) → Same F1 F2 → F2 x = none → P (.ref x) (upd F2 x (.ins C dx (fsf (i ws F1) ws)))) (hr : ∀ ws F1 c d F2, Same F F1 → A ws F1 → Same F1 F2 → err (i ws F1) c d F2 → R c d F2) : EXe w (tMake C (spIX C pre fsf ok err) [] E tr) E σ F P R := fun F1 H1 e k Q q r =>
  ha F1 H1 e k _ fun ws F2 H2 g2 k2 p => make_coreX (i ws F2) k2 (hp ws F2 (e.trans g2.f) p) (fun hok x dx F' H' g k' e' hF' => q _ _ H' (g2.trans g) k' (hq ws F2 x dx F' (e.trans g2.f) p hok e' hF')) fun c d F' H' g k' he => r c d F' H' (g2.trans g) k' (hr ws F2 c d F' (e.trans g2.f) p g.f he)
theorem ex_makeK {C : Addr} {ι : Type} {pre : ι → List V → Hp → Prop} {fsf : ι → List V → List (Str × V)} {ok : ι → Prop} {err : ι → PErr} {tk : TA} {A : List V → Hp → Prop} {m : Nat} {gV : List V → List V → List V} (ha : EA w tk σ F A) (hm : ∀ ws F1, A ws F1 → ws.length = m) (hg : ∀ x ws, ws.length = m → gV [x] ws = x :: ws) (i : List V → Hp → ι) (hp : ∀ ws F1, Same F F1 → A ws F1 → pre (i ws F1) ws F1)
    (hq : ∀ ws F1 x dx F2, Same F F1 → A ws F1 → ok (i ws F1) → Same F1 F2 → F2 x = none → P (.ref x) (upd F2 x (.ins C dx (fsf (i ws F1) ws)))) (hr : ∀ ws F1 c d F2, Same F F1 → A ws F1 → Same F1 F2 → err (i ws F1) c d F2 → R c d F2) : EXe w (tMakeK C 0 m (spIX C pre fsf ok err) gV E tNil tk) E σ F P R := fun F1 H1 e k Q q r =>
  ha F1 H1 e k _ fun ws F2 H2 g2 k2 p => ⟨rfl, hm ws F2 p, fun x dx hx hdx hne => by
    rw [hg (.ref x) ws (hm ws F2 p)]
    have z := make_coreX (C := C) (E := E) (fsf := fsf) (ok := ok) (err := err) (i ws F2) k2 (hp ws F2 (e.trans g2.f) p) (Q := Q) (fun hok x dx F' H' g k' e' hF' => q _ _ H' (g2.trans g) k' (hq ws F2 x dx F' (e.trans g2.f) p hok e' hF')) (fun c d F' H' g k' he => r c d F' H' (g2.trans g) k' (hr ws F2 c d F' (e.trans g2.f) p g.f he)) x dx hx hdx hne
    rw [List.append_nil] at z
    exact z⟩
/-! ### the world's tables -/
theorem Wd.ok.lam {Pt : Addr} {q : Str} {ps : Array Value} (k : w.ok F H) (hp : (Pt, q) ∈ w.T) (hu : ∀ p ∈ w.T, p.1 = Pt → p.2 = q) (hP : H Pt = some (.tbl ps)) (hc : ∀ (pos : Pos) (cv : Value), codeAmong pos ps.toList = some cv → ∃ c, cv = .ref c ∧ F c = some (CodeO c q)) (st : LamStep Pt q ps H H1) :
    ∃ F1, Gr w.M F H F1 H1 ∧ w.ok F1 H1 := by
  rcases st with rfl | ⟨c, more, nc, rfl, hO, hm⟩
  · exact ⟨F, Gr.refl k.e, k⟩
  · have tk := k.2.2.2 _ hp
    have fc : F c = none := freeF k.e nc
    have neP : Pt ≠ c := ne_of_none hP nc
    have at_ : ∀ {a o}, H a = some o → a ≠ Pt → upd (upd H Pt (.tbl (ps ++ more))) c (CodeO c q) a = some o := fun {a o} z n => by rw [upd_ne (ne_of_none z nc), upd_ne n]; exact z
    have fo : ∀ {a o}, F a = some o → upd F c (CodeO c q) a = some o := fun {a o} z => by rw [upd_ne (ne_of_none z fc)]; exact z
    have fn : ∀ {a o}, F a = none → H a = some o → upd F c (CodeO c q) a = none := fun {a o} z y => by rw [upd_ne (ne_of_none y nc)]; exact z
    have nP : ∀ {a o}, F a = some o → a ≠ Pt := fun {a o} z y => by
      rw [y, tk.1] at z
      cases z
    have nM : ∀ {a}, ¬ w.M a → a ≠ Pt := fun {a} n y => n (y ▸ Wd.mt hp)
    have sm : Same (upd F c (CodeO c q)) (upd (upd H Pt (.tbl (ps ++ more))) c (CodeO c q)) := fun a o z => by
      by_cases e : a = c
      · rw [e, upd_same] at z ⊢
        exact z
      · rw [upd_ne e] at z
        exact at_ (k.e _ _ z) (nP z)
    refine ⟨upd F c (CodeO c q), ⟨fun a o z => fo z, sm, fun a o n z => at_ z (nM n), fun a z => upd_ne (fun y => z (by rw [y]; exact nc)), fun a z => upd_none (upd_none z)⟩, sm, fun b e => ?_, fun p h => ?_, fun p h => ?_⟩
    · obtain ⟨h1, x, y, z, h2, h3⟩ := k.2.1 b e
      exact ⟨fn h1 h2, x, y, z, at_ h2 (fun y => tk.2.1 (e.trans (by rw [y]))), h3⟩
    · obtain ⟨h0, h1, h2⟩ := k.2.2.1 p h
      exact ⟨h0, fn h1 h2, at_ h2 (nM h0)⟩
    · by_cases e : p.1 = Pt
      · have e2 := hu p h e
        refine ⟨by rw [e]; exact fn tk.1 hP, by rw [e]; exact tk.2.1, ps ++ more, by rw [e, upd_ne neP, upd_same], hO, fun pos cv z => ?_⟩
        rcases hm pos cv z with z | z
        · obtain ⟨c2, e3, e4⟩ := hc pos cv z
          exact ⟨c2, e3, by rw [e2]; exact fo e4⟩
        · exact ⟨c, z, by rw [e2]; exact upd_same⟩
      · have t := k.2.2.2 p h
        obtain ⟨qs, y1, y2, y3⟩ := t.2.2
        exact ⟨fn t.1 y1, t.2.1, qs, at_ y1 e, y2, fun pos cv z => (y3 pos cv z).imp fun _ y => ⟨y.1, fo y.2⟩⟩
/-! ### statements -/
variable {D : Ends} {rest : TS}
theorem q_dropX (k : w.ok F H) (ex : EXe w te E σ F P R) (q : ∀ v F' H', Gr w.M F H F' H' → w.ok F' H' → P v F' → rest D σ H') (r : ∀ c d F' H', Gr w.M F H F' H' → w.ok F' H' → R c d F' → E c (some d) H') : tSeq (tDrop te) rest D σ H := ex F H (Same.refl F) k _ q r
theorem q_setX {i : Nat} (k : w.ok F H) (ex : EXe w te E σ F P R) (q : ∀ v F' H', Gr w.M F H F' H' → w.ok F' H' → P v F' → rest D (σ.set i (some v)) H') (r : ∀ c d F' H', Gr w.M F H F' H' → w.ok F' H' → R c d F' → E c (some d) H') : tSeq (tAsg te (gName i)) rest D σ H := ex F H (Same.refl F) k _ q r
theorem s_retX (k : w.ok F H) (ex : EXe w te E σ F P R) (q : ∀ v F' H', Gr w.M F H F' H' → w.ok F' H' → P v F' → D.rt v H') (r : ∀ c d F' H', Gr w.M F H F' H' → w.ok F' H' → R c d F' → E c (some d) H') : tRet te D σ H := ex F H (Same.refl F) k _ q r
/-! ### raise -/
/-- an __init__ that stores its one argument in the field f of a new exception -/
def spE1 (C : Addr) (f : Str) : Sp := fun vs H Q _ => ∃ (x : Addr) (y : V), vs = [.ref x, y] ∧ H x = some (exo x C none) ∧ ∀ d, H d = none → d ≠ x → Q .non (upd (upd H d (exd d [(f, y)])) x (exo x C (some d)))
theorem del_upd {H : Hp} {a d : Addr} {o o' : HO} {f : Str} {y : V} {C : Addr} (ha : H a = none) (hd : d ≠ a) : upd (del (upd (upd (upd H a o) d (exd d [(f, y)])) a o') a) d (.xd [(f, y)]) = upd H d (.xd [(f, y)]) := by
  funext b
  by_cases h1 : b = d
  · rw [h1, upd_same, upd_same]
  · rw [upd_ne h1, upd_ne h1]
    by_cases h2 : b = a
    · rw [h2, del_same, ha]
    · rw [del_ne h2, upd_ne h2, upd_ne h1, upd_ne h2]
def tRaise (C : Addr) (f : Str) (W : WX) (ta : TA) : TS := fun _ σ H => tMkO C (spE1 C f) [] ta σ H fun cls d H' => W cls d σ H'
theorem s_raise {C : Addr} {f : Str} {W : WX} {Pv : V → Hp → Prop} (k : w.ok F H) (ev : EV w te σ F Pv) (r : ∀ v d F' H', Gr w.M F H (upd F' d (.xd [(f, v)])) H' → w.ok (upd F' d (.xd [(f, v)])) H' → Same F' (upd F' d (.xd [(f, v)])) → Pv v F' → W (.ref C) (some d) σ H') : tRaise C f W (tCons te tNil) D σ H :=
  ev F H (Same.refl F) k _ fun v F2 H2 g2 k2 p => ⟨(by decide : 1 ≤ 1000), fun a ha => by
    refine ⟨a, v, rfl, upd_same, fun d hd hne => ⟨rfl, d, [(f, v)], upd_same, ?_, ?_, ?_⟩⟩
    · rw [upd_ne hne, upd_same]
    · rw [upd_ne hne] at hd
      exact hd
    · rw [del_upd (C := C) ha hne]
      have hd2 : H2 d = none := by rw [upd_ne hne] at hd; exact hd
      have g3 : Gr M0 F2 H2 (upd F2 d (.xd [(f, v)])) (upd H2 d (.xd [(f, v)])) := Gr.new k2.e hd2
      exact r v d F2 _ (g2.trans g3.up) (k2.pure g3) (same_new (freeF k2.e hd2)) p⟩
end
section
variable {P : Program} {w : World} {K : PySem.W.Frag} {mg : Str → Option Value} {base : Heap}
/-- a def that may raise, by its body -/
theorem x_ok {ι : Type} {x qual : Str} {st : Stmt} {f : Addr} {fd : FuncData} {N ps : List Str} {k : Nat} {pre : ι → List V → Hp → Prop} {post : ι → V → Hp → Prop} {err : ι → PErr} (F : Fun K x qual st f fd) (S : FnScope N ps (defScope st)) (hl : ∀ i vs F, pre i vs F → vs.length = ps.length)
    (hb : ∀ (cdv : Value) (A : Around) (outer : List Env) (s : Shared) (H : Hp) (E : XK), Room k (A.deeper (PyProof.Rows.envOfC qual (defScope st) s.heap.objs.size f cdv)) →
      ∃ t, PSs (cxOf (L2.CX P w) P w K mg base N qual (defScope st) f cdv A outer s H E) (defBody st) t ∧ ∀ i vs F (Q : VK), pre i vs F → w0.ok F H → (∀ v F' H', Gr M0 F H F' H' → post i v F' → Q v H') → (∀ c d F' H', Gr M0 F H F' H' → err i c d F' → E c (some d) H') → t { nx := fun _ H' => Q .non H', rt := Q } (start N vs) H) :
    FnOk P w K mg base (L2.CX P w) (k + 1) f fd ps (spX pre post err) := by
  refine F.okX S (fun vs H Q E h => ?_) (fun cdv A outer s H vs Q E hr h => ?_)
  · obtain ⟨F, i, e, r, q⟩ := h
    exact hl i vs F r
  · obtain ⟨F, i, e, r, q, q2⟩ := h
    obtain ⟨t, h1, h2⟩ := hb cdv A outer s H E hr
    exact ⟨t, h1, h2 i vs F Q r (ok0 e) q q2⟩
/-- an __init__ that may raise, by its body -/
theorem init_okX {ι : Type} {x qual : Str} {st : Stmt} {f C : Addr} {fd : FuncData} {N ps : List Str} {k : Nat} {pre : ι → List V → Hp → Prop} {fsf : ι → List V → List (Str × V)} {ok : ι → Prop} {err : ι → PErr} (F : Fun K x qual st f fd) (S : FnScope N ps (defScope st)) (hl : ∀ i ws F, pre i ws F → ws.length + 1 = ps.length)
    (hb : ∀ (cdv : Value) (A : Around) (outer : List Env) (s : Shared) (H : Hp) (E : XK), Room k (A.deeper (PyProof.Rows.envOfC qual (defScope st) s.heap.objs.size f cdv)) →
      ∃ t, PSs (cxOf (L2.CX P w) P w K mg base N qual (defScope st) f cdv A outer s H E) (defBody st) t ∧ ∀ i x dx ws F (Q : VK), pre i ws F → F x = none → H x = some (.ins C dx []) → (w0.add x (.ins C dx [])).ok F H → (ok i → ∀ F' H', Gr (fun a => a = x) F H F' H' → F' x = none → H' x = some (.ins C dx (fsf i ws)) → Q .non H') →
        (∀ c d F' H', Gr (fun a => a = x) F H F' H' → err i c d F' → E c (some d) H') → t { nx := fun _ H' => Q .non H', rt := Q } (start N (.ref x :: ws)) H) : FnOk P w K mg base (L2.CX P w) (k + 1) f fd ps (spIX C pre fsf ok err) := by
  refine F.okX S (fun vs H Q E h => ?_) (fun cdv A outer s H vs Q E hr h => ?_)
  · obtain ⟨F, i, x, dx, ws, rfl, e, _, _, hp, q⟩ := h
    exact hl i ws F hp
  · obtain ⟨F, i, x, dx, ws, rfl, e, h1, h2, hp, q, q2⟩ := h
    obtain ⟨t, t1, t2⟩ := hb cdv A outer s H E hr
    exact ⟨t, t1, t2 i x dx ws F Q hp h1 h2 ((ok0 e).plus (fun z => z) h1 h2) q q2⟩
/-- X.__init__ by its body self.f = f -/
theorem e1_ok {x qual p0 p1 : Str} {st : Stmt} {f C : Addr} {fd : FuncData} {N : List Str} {k : Nat} {fld : Str} (F : Fun K x qual st f fd) (S : FnScope N [p0, p1] (defScope st)) (hN : N = [p0, p1]) (T : OexC K C) (hno : PySem.W.findIn K (.ref C) fld = some none)
    (hb : ∀ (cdv : Value) (A : Around) (outer : List Env) (s : Shared) (H : Hp) (E : XK), PSs (cxOf CX0 P w K mg base N qual (defScope st) f cdv A outer s H E).nox (defBody st) (tOst K fld (tVar 0) (tVar 1))) : FnOk P w K mg base CX0 (k + 1) f fd [p0, p1] (spE1 C fld) := by
  refine F.ok S (fun vs H Q E h => ?_) (fun cdv A outer s H vs Q E hr h => ⟨_, hb cdv A outer s H E, ?_⟩)
  · obtain ⟨x, y, rfl, _⟩ := h
    rfl
  · obtain ⟨x, y, rfl, hx, q⟩ := h
    subst hN
    exact ⟨y, rfl, .ref x, rfl, x, C, rfl, T, hno, .inl ⟨hx, fun d h1 h2 => q d h1 h2⟩⟩
end
end Wk
set_option Elab.async false
set_option linter.all false
set_option maxRecDepth 100000
set_option maxHeartbeats 2000000
/-! Ti: the def that calls what it got, and tells what came back or what was raised -/
namespace Wk
open PySem PySem.Spec
open L2
open LamX (CodeO GivesTo)
/-- what it makes of the lambda's reading -/
def TAns (K : PySem.W.Frag) (c1 c2 c3 : Value) (sp : Addr → Value → Option Addr → Hp → VK → Prop) : (XK → Hp → VK → Prop) → Hp → VK → Prop := fun tl H Q =>
  tl (fun cls d H' => PySem.W.exmAny K cls [c1, c2, c3] = some true ∧ ∀ a, H' a = none → sp a cls d H' Q) H fun v H' => ∃ v', some (some v) = some (some v') ∧ ([V.str "back", v'].length ≤ sizeLine ∧ ∀ p, H' p = none → Q (.ref p) (upd H' p (.lst [.str "back", v'])))
theorem ans_gives {X : Cx} {a n e y1 y2 y3 sx par q x : Str} {sg : Scope} {g f3 : Addr} {cdg c1 c2 c3 : Value} {k kk : Nat} {fd3 : FuncData} {sp : Addr → Value → Option Addr → Hp → VK → Prop} {p1 p2 p3 p4 p5 p6 p7 p8 p9 p10 q1 q2 q3 q4 q5 q6 q7 q8 : Pos}
    (nd : [a, n, e].Nodup) (hn : sg.names.lookup n = some .local) (he : sg.names.lookup e = some .local) (h1 : sg.names.lookup y1 = some .globalImplicit) (h2 : sg.names.lookup y2 = some .globalImplicit) (h3 : sg.names.lookup y3 = some .globalImplicit) (hs : sg.names.lookup sx = some .globalImplicit)
    (m1 : X.mg y1 = some c1) (m2 : X.mg y2 = some c2) (m3 : X.mg y3 = some c3) (F3 : FnE X.prog X.w X.K X.mg X.base k f3 fd3 par sp) (m4 : X.mg sx = some (.ref f3)) (k4 : PySem.W.keepIn X.K (.ref f3) = true) (b4 : L2.Binds X.K fd3 [par] [])
    (hr : Room (k + 1) X.A) (hG : X.A.guards = some []) (d1 : (y1 == ("__debug__" : Str)) = false := by decide) (d2 : (y2 == ("__debug__" : Str)) = false := by decide) (d3 : (y3 == ("__debug__" : Str)) = false := by decide) (d4 : (sx == ("__debug__" : Str)) = false := by decide)
    (d5 : (e == ("__debug__" : Str)) = false := by decide) (d6 : (e == ("__classdict__" : Str)) = false := by decide) (d7 : (n == ("__debug__" : Str)) = false := by decide) (d8 : (n == ("__classdict__" : Str)) = false := by decide) :
    GivesTo X [a, n, e] x sg g cdg [.Try [.Assign [.Name n p1] (.Call (.Name a p2) [] [] p3) p4] [.ExceptHandler (some (.Tuple [.Name y1 q1, .Name y2 q2, .Name y3 q3] kk q4)) (some e) [.Return (some (.Call (.Name sx q5) [.Name e q6] [] q7)) q8] p5] [] [] p6,
      .Return (some (.List [.Constant (.str "back") 0 p7, .Name n p8] p9)) p10] a q (TAns X.K c1 c2 c3 sp) := by
  intro f c' s H Q tl act hc h
  let Y := (cxOf CX0 X.prog X.w X.K X.mg X.base [a, n, e] x sg g cdg X.A X.stack s H E0).nox
  have gl : ∀ z, sg.names.lookup z = some .globalImplicit → Gl Y z := fun _ h => h
  have hrY : L2H.RoomH k Y.A := ⟨by have := hr.dp; show (X.A.depth + 1) + 3 * k + 5 < recursionLimit; omega, by have := hr.un; show (X.A.units + 3) + 16 * k + 200 < cLine; omega⟩
  refine ⟨_, pss_cons (ps_try_told (X := Y) (i := 2) (ok := fun cls => PySem.W.exmAny X.K cls [c1, c2, c3] = some true) (ts := fun a cls d => tRet (tCallE sp a cls d 2))
    (tb := fun W D σ H => ∃ Ech : XK, (∀ cls d σ' H', Ech cls d H' → W cls d σ' H') ∧ σ[0]? = some (some (.ref f)) ∧ H c' = some (CodeO c' q) ∧ tl Ech H fun v H1 => D.nx (σ.set 1 (some v)) H1)
    rfl rfl nd rfl he (told3 (gl _ h1) (gl _ h2) (gl _ h3) m1 m2 m3 d1 d2 d3) (fun W pn xe tk _ => ?_) (fun a oe cls d pn hz hf => pss_one (ps_ret (pe_callE (X := Y) (i := 2) F3 hz hf hrY hG (gl _ hs) m4 k4 b4 rfl (.inl he) d5 d6 d4)))) (pss_one (ps_ret (pe_lst (pa_cons pe_str (pa_cons (pv 1 rfl (.inl hn) d7 d8) pa_nil))))), ?_⟩
  · refine ⟨fun pins s' σ H' D I h' => ?_⟩
    obtain ⟨Ech, hW, z1, z2, z3⟩ := h'
    exact (pss_one (ps_set (X := Y.tr pn xe) (i := 1) (pos := p4) nd rfl (Or.inl hn) (act W pn xe Ech p2 p3 tk hW))).run pins s' σ H' D I ⟨z1, z2, z3⟩
  · refine ⟨fun cls d H' => PySem.W.exmAny X.K cls [c1, c2, c3] = some true ∧ ∀ a, H' a = none → sp a cls d H' Q, fun cls d σ' H' z => ⟨z.1, fun a ha hl => ⟨?_, z.2 a ha⟩⟩, rfl, hc, ?_⟩
    · rw [List.getElem?_set_self (by rw [hl]; show 2 < 3; omega)]
    · exact (show TAns X.K c1 c2 c3 sp tl H Q from h)
section
variable {K : PySem.W.Frag} {w : Wd} {σ : St} {F : Hp} {P PN PS : V → Hp → Prop} {PR : PErr} {Pt : Addr} {q : Str} {c1 c2 c3 : Value} {sp : Addr → Value → Option Addr → Hp → VK → Prop} {t : XK → TE}
theorem ev_ans (hp : (Pt, q) ∈ w.T) (hu : ∀ p ∈ w.T, p.1 = Pt → p.2 = q) (hb : ∀ E, EXe w (t E) E σ F PN PR)
    (hs : ∀ c d F', Same F F' → PR c d F' → PySem.W.exmAny K c [c1, c2, c3] = some true ∧ ∀ a H (Q : VK), Same F' H → (∀ v F2 H2, Gr M0 F' H F2 H2 → PS v F2 → Q v H2) → sp a c (some d) H Q)
    (hn : ∀ x F1 p F2, Same F F1 → PN x F1 → Same F1 F2 → F2 p = some (.lst [.str "back", x]) → P (.ref p) F2) (he : ∀ v F', Same F F' → PS v F' → P v F') : EV w (tLamP Pt q (TAns K c1 c2 c3 sp) t) σ F P := fun F1 H1 e k Q qq => by
  have tk := k.2.2.2 _ hp
  obtain ⟨ps, h1, h2, h3⟩ := tk.2.2
  refine ⟨ps, h1, h2, fun pos cv z => (h3 pos cv z).imp fun c y => ⟨y.1, k.e _ _ y.2⟩, fun H2 st => ?_⟩
  obtain ⟨F2, g2, k2⟩ := k.lam hp hu h1 h3 st
  refine hb _ F2 H2 (e.trans g2.f) k2 _ (fun v F3 H3 g3 k3 p3 => ⟨v, rfl, (by show 2 ≤ sizeLine; decide), fun p hp3 => ?_⟩) (fun c d F3 H3 g3 k3 p3 => ?_)
  · have g4 : Gr M0 F3 H3 (upd F3 p (.lst [.str "back", v])) (upd H3 p (.lst [.str "back", v])) := Gr.new k3.e hp3
    exact qq _ _ _ ((g2.trans g3).trans g4.up) (k3.pure g4) (hn v F3 p _ ((e.trans g2.f).trans g3.f) p3 g4.f upd_same)
  · obtain ⟨y1, y2⟩ := hs c d F3 ((e.trans g2.f).trans g3.f) p3
    exact ⟨y1, fun a _ => y2 a H3 Q k3.e fun v F4 H4 g4 p4 => qq v F4 H4 ((g2.trans g3).trans g4.up) (k3.pure g4) (he v F4 (((e.trans g2.f).trans g3.f).trans g4.f) p4)⟩
end
end Wk
set_option Elab.async false
set_option linter.all false
set_option maxRecDepth 100000
set_option maxHeartbeats 2000000
/-! Tk: raise of an own class, isinstance and fields of the exception that is held, count of truth values, == with an empty display -/
namespace Wk
open PySem PySem.Spec PyProof.Rows
open L2 hiding St
section
variable {X : Cx} {W : WX} {C fI : Addr} {f x p0 p1 : Str} {fd : FuncData} {k : Nat} {e : Expr} {es : List Expr} {ta : TA} {pos pos2 p : Pos}
theorem ps_raise1 (hc : X.calm = true) (tk : Takes X W) (T : OexC X.K C) (iC : PySem.W.findIn X.K (.ref C) "__init__" = some (some (.ref fI))) (tI : PySem.W.typeIn X.K (.ref fI) = some (.type "function")) (F1 : FnOk X.prog X.w X.K X.mg X.base CX0 k fI fd [p0, p1] (spE1 C f)) (hr : Room (k + 1) X.A)
    (hb : Binds X.K fd [p0, p1] []) (hg : Gl X x) (hm : X.mg x = some (.ref C)) (ha : PA X (e :: es) ta) (hdb : (x == ("__debug__" : Str)) = false := by decide) (he : starEach (e :: es) X.env = (false, eval e X.env) :: starEach es X.env := by rfl)
    (hpl : (backTo pos (starEach es X.env)).any (·.1) = false := by rfl) : PS X (.Raise (some (.Call (.Name x p) (e :: es) [] pos)) none pos2) (tRaise C f W ta) := ps_raise hc tk (pmk_oex T iC tI F1 hr hb .nil pass0 hg hm ha hdb he hpl)
end
/-! ### the exception that the suite holds -/
/-- what its class D tells -/
structure ExcD (K : PySem.W.Frag) (D : Addr) : Prop where
  hg : PySem.W.findIn K (.ref D) "__getattribute__" = some (some (.builtin "BaseException.__getattribute__"))
  hk : PySem.W.findIn K (.ref D) "__getattr__" = some none
  hs : PySem.W.subIn K (.ref D) (.type "BaseException") = some true
  hd : PySem.W.hasDictIn K D = true
  ha : PySem.W.findIn K (.ref D) "__class__" = some (some (.builtin "object.__class__"))
  hn : PySem.W.specialIn K (.builtin "object.__class__") "__get__" = some (some (.builtin "getset_descriptor.__get__"))
  ht : PySem.W.takesIn K (.builtin "object.__class__") = some true
  hm : PySem.W.mroIn K D (.type "object") = some true
theorem ExcD.xf {K : PySem.W.Frag} {D : Addr} (h : ExcD K D) : XfC K D := ⟨h.hg, h.hk, h.hs, h.hd⟩
theorem clsIn_of {K : PySem.W.Frag} {D : Addr} (h : PySem.W.hasDictIn K D = true) : (PySem.W.clsIn K D).isSome = true := by
  obtain ⟨cd, hc, _⟩ := PySem.W.any_some h
  rw [hc]
  rfl
/-- isinstance(e, c): e stands at a, is of the class D, its dict at dd -/
def rIsX (K : PySem.W.Frag) (a : Addr) (cls : Value) (d : Option Addr) : List V → Hp → VK → Prop := fun xs H Q => ∃ (c : V) (cv : Value) (b : Bool) (D dd : Addr) (fs : List (Str × V)), xs = [.ref a, c] ∧ cls = .ref D ∧ d = some dd ∧ ExcD K D ∧ (∀ u, RelV c u → u = cv) ∧ PySem.W.kitOne K (.ref D) cv = some b ∧ H dd = some (.xd fs) ∧ Q (.bl b) H
theorem cX_is {X : Cx} (K : PySem.W.Frag) (hK : X.K = K) {a : Addr} {oe : Obj} {cls : Value} {d : Option Addr} {pn : List (Addr × Obj)} (hz : Zc cls d oe) (hf : ∃ vs, oe.data = .fields vs) : CallR (X.suite a ((a, oe) :: pn)) (.builtin "isinstance") (rIsX K a cls d) := by
  subst hK
  intro pins s σ H xs us Q I r h
  obtain ⟨c, cv, b, D, dd, fs, rfl, rfl, rfl, C, hcv, e, ea, q⟩ := h
  cases r with
  | cons rx rr =>
    cases rr with
    | cons rt rr =>
      cases rr
      cases rx
      have ec := hcv _ rt
      subst ec
      obtain ⟨hget, _⟩ := I.pin (a, oe) (List.mem_append.mpr (.inl List.mem_cons_self))
      obtain ⟨vs, hv⟩ := hf
      have hx : ObjOk X.prog X.w H s.heap dd (.xd fs) := I.hok dd _ ea
      obtain ⟨mA, hns, _⟩ := hx
      obtain ⟨od, ho, _⟩ := lookIn_ns hns
      have J : PySem.W.InstAt s.heap a oe D (some od) := ⟨hget, hz.1, by unfold PySem.W.notCls; rw [hv] <;> rfl, by rw [hz.2]; exact ho⟩
      exact PySem.W.kia_one (PySem.W.kitx_exc (clsIn_of C.hd) C.hg C.hk C.hs C.ha C.hn C.ht C.hm) I.kIn J e (fun z => nomatch z) fun tk => ⟨.bl b, H, I.kept (t' := tk) fun _ _ z => z, rfl, q⟩
/-! ### xs.count(b), xs of truth values -/
def eqb (k : Bool) (v : Value) : Bool := match v with
  | .bool n => n == k
  | _ => false
theorem vals_bools : ∀ {bs : List Bool} {us : List Value}, Vals (bs.map V.bl) us → us = bs.map Value.bool
  | [], _, .nil => rfl
  | b :: bs, _, .cons r t => by rw [vals_bools t, show _ = Value.bool b from r]; rfl
theorem count_eqb (k : Bool) : ∀ bs : List Bool, (bs.map Value.bool).countP (eqb k) = bs.count k
  | [] => rfl
  | b :: bs => by rw [List.map_cons, List.countP_cons, List.count_cons, count_eqb k bs]; rfl
def rCntB (K : PySem.W.Frag) : V → List V → Hp → VK → Prop := fun x xs H Q => ∃ (p : Addr) (bs : List Bool) (k : Bool), x = .ref p ∧ xs = [.bl k] ∧ SqL K H p (bs.map V.bl) ∧ Q (.int (bs.count k : Nat)) H
theorem mt_bcount {X : Cx} (K : PySem.W.Frag) (hK : X.K = K) : MtR X "list.count" (rCntB K) := by
  subst hK
  intro pins s σ H x xs v us Q I rx rxs h
  obtain ⟨p, bs, k, rfl, rfl, hs, q⟩ := h
  cases rx
  obtain ⟨u, rfl, ru⟩ := rxs.one
  obtain rfl : u = Value.bool k := ru
  obtain ⟨its, rv, ⟨⟨cls, dd, data, sl⟩, n, ho, hc, hdn, hd⟩, hlen⟩ := I.list hs
  simp only at hc hd
  subst hc hd
  have ei := vals_bools rv
  refine call_meets PySem.F.slot_list_count ⟨_, ho, rfl⟩ PySem.F.entry_list_count (PySem.F.args_list_count_2 _ _) (SeqAt.list_countAt p its.toArray n dd sl (.bool k) (eqb k)) ⟨ho, fun y hy => ?_, ?_⟩
  · have hy' : y ∈ its := by simpa using hy
    rw [ei] at hy'
    obtain ⟨b, _, rfl⟩ := List.mem_map.mp hy'
    exact SeqAt.EqAt.bool_bool b k
  · have ec : its.toArray.toList.countP (eqb k) = bs.count k := by
      show its.countP (eqb k) = _
      rw [ei]
      exact count_eqb k bs
    refine ⟨.int (bs.count k : Nat), H, I.tok _, ⟨s.toks, ?_⟩, q⟩
    show Value.int ((its.toArray.toList.countP (eqb k) : Nat) : Int) s.toks = Value.int ((bs.count k : Nat) : Int) s.toks
    rw [ec]
/-! ### == and != where the right side is empty -/
def Emp (K : PySem.W.Frag) (H : Hp) (x y : V) (n : Nat) : Prop := ∃ (p q : Addr) (xs : List V), x = .ref p ∧ y = .ref q ∧ xs.length = n ∧ ((SqL K H p xs ∧ SqL K H q []) ∨ (SqT K H p xs ∧ SqT K H q []))
def rEqE (K : PySem.W.Frag) : R2 := fun x y H Q => ∃ n, Emp K H x y n ∧ Q (.bl (decide (n = 0))) H
def rNeE (K : PySem.W.Frag) : R2 := fun x y H Q => ∃ n, Emp K H x y n ∧ Q (.bl (!decide (n = 0))) H
theorem vals_nil {us : List Value} (r : Vals [] us) : us = [] := by
  cases r
  rfl
theorem size_eq0 {its : List Value} {n : Nat} (h : its.length = n) : (its.toArray.size == (#[] : Array Value).size) = decide (n = 0) := by
  rw [List.size_toArray, h]
  rfl
theorem oK_eqE {X : Cx} (K : PySem.W.Frag) (hK : X.K = K) (hu : X.A.units + 64 < cLine) : OpR X (compareOp .Eq) (rEqE K) := by
  subst hK
  intro pins s σ H x y v u Q I rx ry h
  obtain ⟨n, ⟨p, q, xs, rfl, rfl, hn, h⟩, hq⟩ := h
  cases rx
  cases ry
  rcases h with ⟨h1, h2⟩ | ⟨h1, h2⟩
  · obtain ⟨its, rv, ⟨o, kk, ho, hc, _, hd⟩, _⟩ := I.list h1
    obtain ⟨its2, rv2, ⟨o2, kk2, ho2, hc2, _, hd2⟩, _⟩ := I.list h2
    have e2 := vals_nil rv2
    subst e2
    have l1 : its.length = n := by rw [← rv.length]; exact hn
    by_cases hz : n = 0
    · have e1 : its = [] := List.length_eq_zero_iff.mp (by omega)
      subst e1
      show wpAny _ _ (richCompare .Eq _ _) _ _ _
      refine SeqAt.rcIn_lists (items := #[]) (items2 := #[]) (e := fun _ => true) ⟨o, ho, hc, kk, hd⟩ ⟨o2, ho2, hc2, kk2, hd2⟩ rfl (by omega) (fun j h1 _ => absurd h1 (Nat.not_lt_zero _)) ⟨.bl true, H, I, rfl, ?_⟩
      rw [decide_eq_true hz] at hq
      exact hq
    · show wpAny _ _ (richCompare .Eq _ _) _ _ _
      have ne : (its.toArray.size != (#[] : Array Value).size) = true := by
        rw [List.size_toArray, l1]
        exact bne_iff_ne.mpr hz
      refine SeqAt.RcAt.lists_lengths ⟨o, ho, hc, kk, hd⟩ ⟨o2, ho2, hc2, kk2, hd2⟩ ne (by omega) _ _ _ _ ⟨.bl false, H, I, rfl, ?_⟩
      rw [decide_eq_false hz] at hq
      exact hq
  · obtain ⟨its, rv, ⟨o, ho, hc, kk, hd⟩, _⟩ := I.tuple h1
    obtain ⟨its2, rv2, ⟨o2, ho2, hc2, kk2, hd2⟩, _⟩ := I.tuple h2
    have e2 := vals_nil rv2
    subst e2
    have l1 : its.length = n := by rw [← rv.length]; exact hn
    show wpAny _ _ (richCompare .Eq _ _) _ _ _
    refine SeqAt.rcIn_tuples (items := its.toArray) (items2 := #[]) (e := fun _ => true) ⟨o, ho, hc, kk, hd⟩ ⟨o2, ho2, hc2, kk2, hd2⟩ (by omega) (fun j _ h2 => absurd h2 (Nat.not_lt_zero _)) ⟨.bl (decide (n = 0)), H, I, ?_, hq⟩
    rw [size_eq0 l1, List.size_toArray, show (#[] : Array Value).size = 0 from rfl, Nat.min_zero]
    rfl
theorem oK_neE {X : Cx} (K : PySem.W.Frag) (hK : X.K = K) (hu : X.A.units + 64 < cLine) : OpR X (compareOp .NotEq) (rNeE K) := by
  subst hK
  intro pins s σ H x y v u Q I rx ry h
  obtain ⟨n, ⟨p, q, xs, rfl, rfl, hn, h⟩, hq⟩ := h
  cases rx
  cases ry
  rcases h with ⟨h1, h2⟩ | ⟨h1, h2⟩
  · obtain ⟨its, rv, ⟨o, kk, ho, hc, _, hd⟩, _⟩ := I.list h1
    obtain ⟨its2, rv2, ⟨o2, kk2, ho2, hc2, _, hd2⟩, _⟩ := I.list h2
    have e2 := vals_nil rv2
    subst e2
    have l1 : its.length = n := by rw [← rv.length]; exact hn
    by_cases hz : n = 0
    · have e1 : its = [] := List.length_eq_zero_iff.mp (by omega)
      subst e1
      refine SeqAt.RcNeAt.lists (items := #[]) (items2 := #[]) (e := fun _ => true) ⟨o, ho, hc, kk, hd⟩ ⟨o2, ho2, hc2, kk2, hd2⟩ rfl (by omega) (fun j h1 _ => absurd h1 (Nat.not_lt_zero _)) _ _ _ _ ⟨.bl false, H, I, rfl, ?_⟩
      rw [decide_eq_true hz] at hq
      exact hq
    · have ne : (its.toArray.size != (#[] : Array Value).size) = true := by
        rw [List.size_toArray, l1]
        exact bne_iff_ne.mpr hz
      refine SeqAt.RcNeAt.lists_lengths ⟨o, ho, hc, kk, hd⟩ ⟨o2, ho2, hc2, kk2, hd2⟩ ne (by omega) _ _ _ _ ⟨.bl true, H, I, rfl, ?_⟩
      rw [decide_eq_false hz] at hq
      exact hq
  · obtain ⟨its, rv, ⟨o, ho, hc, kk, hd⟩, _⟩ := I.tuple h1
    obtain ⟨its2, rv2, ⟨o2, ho2, hc2, kk2, hd2⟩, _⟩ := I.tuple h2
    have e2 := vals_nil rv2
    subst e2
    have l1 : its.length = n := by rw [← rv.length]; exact hn
    refine SeqAt.RcNeAt.tuples (items := its.toArray) (items2 := #[]) (e := fun _ => true) ⟨o, ho, hc, kk, hd⟩ ⟨o2, ho2, hc2, kk2, hd2⟩ (by omega) (fun j _ h2 => absurd h2 (Nat.not_lt_zero _)) _ _ _ _ ⟨.bl (!decide (n = 0)), H, I, ?_, hq⟩
    rw [size_eq0 l1, List.size_toArray, show (#[] : Array Value).size = 0 from rfl, Nat.min_zero]
    rfl
section
variable {K : PySem.W.Frag} {w : Wd} {σ : L2.St} {F : Hp} {ta tb : TE}
theorem emp_of {F' H : Hp} {x y : V} {ds : List PyData} (k : w.ok F' H) (p : Rp K F' x (.tuple ds)) (q : Rp K F' y (.tuple [])) : Emp K H x y ds.length := by
  obtain ⟨a, xs, rfl, h1, ra⟩ := rp_tup p
  obtain ⟨b, ys, rfl, h2, rb⟩ := rp_tup q
  cases rb
  exact ⟨a, b, xs, rfl, rfl, ra.len, .inr ⟨sqtM k.e h1, sqtM k.e h2⟩⟩
theorem emp_ofL {F' H : Hp} {x y : V} {ds : List PyData} (k : w.ok F' H) (p : Rp K F' x (.list ds)) (q : Rp K F' y (.list [])) : Emp K H x y ds.length := by
  obtain ⟨a, xs, rfl, h1, ra⟩ := rp_lst p
  obtain ⟨b, ys, rfl, h2, rb⟩ := rp_lst q
  cases rb
  exact ⟨a, b, xs, rfl, rfl, ra.len, .inl ⟨rp_sqL k.e h1, rp_sqL k.e h2⟩⟩
theorem ed_eqE {ds : List PyData} (ha : ED K w ta σ F (.tuple ds)) (hb : ED K w tb σ F (.tuple [])) : ED K w (tOp (rEqE K) ta tb) σ F (.bool (decide (ds.length = 0))) :=
  ed_op ha hb fun x y F' H k p q => ⟨.bl _, fun Q z => ⟨ds.length, emp_of k p q, z⟩, .bl _⟩
theorem ed_neE {ds : List PyData} (ha : ED K w ta σ F (.tuple ds)) (hb : ED K w tb σ F (.tuple [])) : ED K w (tOp (rNeE K) ta tb) σ F (.bool (!decide (ds.length = 0))) :=
  ed_op ha hb fun x y F' H k p q => ⟨.bl _, fun Q z => ⟨ds.length, emp_of k p q, z⟩, .bl _⟩
theorem ed_neEL {ds : List PyData} (ha : ED K w ta σ F (.list ds)) (hb : ED K w tb σ F (.list [])) : ED K w (tOp (rNeE K) ta tb) σ F (.bool (!decide (ds.length = 0))) :=
  ed_op ha hb fun x y F' H k p q => ⟨.bl _, fun Q z => ⟨ds.length, emp_ofL k p q, z⟩, .bl _⟩
theorem ed_isX {a : Addr} {cls : Value} {d : Option Addr} {D dd : Addr} {fs : List (Str × V)} {c : V} {cv : Value} {b : Bool} (hd : cls = .ref D) (hdd : d = some dd) (C : ExcD K D) (ha : ED' w ta σ F (.ref a)) (hb : ED' w tb σ F c) (hc : ∀ u, RelV c u → u = cv) (hk : PySem.W.kitOne K (.ref D) cv = some b) (hx : F dd = some (.xd fs)) :
    ED K w (tCB (rIsX K a cls d) (tCons ta (tCons tb tNil))) σ F (.bool b) := fun F1 H1 e k Q q =>
  ha F1 H1 e k _ fun x F2 H2 g2 k2 p2 => hb F2 H2 (e.trans g2.f) k2 _ fun y F3 H3 g3 k3 p3 => by
    subst p2 p3
    exact ⟨_, cv, b, D, dd, fs, rfl, hd, hdd, C, hc, hk, k3.e _ _ (((e.trans g2.f).trans g3.f) _ _ hx), q _ F3 H3 (g2.trans g3) k3 (.bl _)⟩
theorem ed_xf {a D dd : Addr} {cls : Value} {d : Option Addr} {f : Str} {v : V} {z : PyData} (hd : cls = .ref D) (hdd : d = some dd) (ha : ED' w ta σ F (.ref a)) (hx : F dd = some (.xd [(f, v)])) (hv : Rp K F v z) : ED K w (tXf a cls d D f ta) σ F z := fun F1 H1 e k Q q =>
  ha F1 H1 e k _ fun x F2 H2 g2 k2 p2 => ⟨p2, hd, dd, [(f, v)], v, hdd, k2.e _ _ ((e.trans g2.f) _ _ hx), by simp [List.lookup], q _ F2 H2 g2 k2 (hv.mono (e.trans g2.f))⟩
theorem ed_countB {bs : List Bool} {k : Bool} (ha : ED K w ta σ F (.list (bs.map .bool))) (hb : ED K w tb σ F (.bool k)) : ED K w (tBM K "list" (rCntB K) ta (tCons tb tNil)) σ F (.int (bs.count k : Nat)) := fun F1 H1 e kk Q q =>
  ha F1 H1 e kk _ fun x F2 H2 g2 k2 p2 => by
    obtain ⟨a, xs, rfl, h1, ra⟩ := rp_lst p2
    rw [rpA_bl ra] at h1
    refine ⟨.inl ⟨rfl, _, rp_sqL k2.e h1⟩, hb F2 H2 (e.trans g2.f) k2 _ fun y F3 H3 g3 k3 p3 => ?_⟩
    rw [rp_bl p3]
    exact ⟨a, bs, k, rfl, rfl, rp_sqL (g3.f.trans k3.e) h1, q _ F3 H3 (g2.trans g3) k3 (.int _)⟩
end
end Wk
set_option Elab.async false
set_option linter.all false
set_option maxRecDepth 100000
set_option maxHeartbeats 2000000
/-! Tj: defs that make lambdas; the end of a law with tables -/
namespace Wk
open PySem PySem.Spec
open L2
open LamX (CodeO TabB)
/-- a def of the text whose code object is the one at c -/
structure FunC (K : PySem.W.Frag) (x qual : Str) (st : Stmt) (f : Addr) (fd : FuncData) (c : Addr) : Prop where
  ex : ∃ (oc : Value) (od : Option Addr) (kV doc pm : Value) (an : Option Addr) (ct : Value) (osl : Array (Option Value)), fd = PySem.W.fnOf x qual (defArgs st) (defBody st) (defScope st) .none kV doc pm an (.ref c) ct ∧ K.lookup f = some ⟨oc, od, .func fd, osl⟩ ∧ PySem.W.codeIn K (.ref c) qual = true
  kp : PySem.W.keepIn K (.ref f) = true
theorem FunC.fn {K : PySem.W.Frag} {x qual : Str} {st : Stmt} {f c : Addr} {fd : FuncData} (F : FunC K x qual st f fd c) : Fun K x qual st f fd := by
  obtain ⟨oc, od, kV, doc, pm, an, ct, osl, h⟩ := F.ex
  exact ⟨⟨oc, od, kV, doc, pm, an, .ref c, ct, osl, h⟩, F.kp⟩
abbrev Wd.tab (b : Option Addr) (T : List (Addr × Str)) : Wd := ⟨b, [], T⟩
def spBT {ι : Type} (T : List (Addr × Str)) (pre : ι → List V → Hp → Prop) (post : ι → V → Hp → Prop) : Sp := fun vs H Q _ => ∃ (F : Hp) (i : ι) (b : Addr) (ws : List V), vs = .ref b :: ws ∧ (Wd.tab (some b) T).ok F H ∧ pre i ws F ∧ ∀ v F' H', Gr (Wd.tab (some b) T).M F H F' H' → (Wd.tab (some b) T).ok F' H' → post i v F' → Q v H'
def spGT {ι : Type} (T : List (Addr × Str)) (pre : ι → List V → Hp → Prop) (post : ι → V → Hp → Prop) : Sp := fun vs H Q _ => ∃ (F : Hp) (i : ι), (Wd.tab none T).ok F H ∧ pre i vs F ∧ ∀ v F' H', Gr (Wd.tab none T).M F H F' H' → (Wd.tab none T).ok F' H' → post i v F' → Q v H'
section
variable {P : Program} {w : World} {K : PySem.W.Frag} {mg : Str → Option Value} {base : Heap}
theorem okTG {x qual : Str} {st : Stmt} {f c : Addr} {fd : FuncData} {N ps : List Str} {k : Nat} {sp : Sp} (F : FunC K x qual st f fd c) (S : FnScope N ps (defScope st)) (len : ∀ vs H Q E, sp vs H Q E → vs.length = ps.length)
    (hbody : ∀ (A : Around) (outer : List Env) (s : Shared) (H : Hp) (vs : List V) (Q : VK) (E : XK), Room k (A.deeper (envOfC qual (defScope st) s.heap.objs.size f (.ref c))) → A.guards = some [] → sp vs H Q E →
      ∃ t, PSs (cxOf CX0 P w K mg base N qual (defScope st) f (.ref c) A outer s H E).nox (defBody st) t ∧ t { nx := fun _ H' => Q .non H', rt := Q } (start N vs) H) : FnOkG P w K mg base (k + 1) f fd ps sp := by
  obtain ⟨oc, od, kV, doc, pm, an, ct, osl, rfl, lk, hcd⟩ := F.ex
  refine ⟨len, fun A outer s H args us vs Q E hr hg e0 hb r hsp => ?_⟩
  have inH : ∀ b o, base.get? b = some o → s.heap.get? b = some o := fun b o e => (e0.bs b o e).1
  have kx : K.In s.heap := e0.mod.kin.keeps inH
  refine codeAny_call_function hr.depth (kx _ _ lk) rfl S.co S.gen rfl (PySem.W.codeRec_of kx hcd) (hb _ _ _ _ ?_)
  refine wpAny_newFunctionEnv_cells S.kind (fun p hp => ?_) fun env he s1 x => ?_
  · obtain ⟨n, v⟩ := p
    exact (S.par n (List.of_mem_zip hp).1).imp id fun q => ⟨q, PySem.W.cellsFrom_some _ _ _ (.inl q)⟩
  · subst he
    refine ⟨(e0.mod.nolimit.keeps inH).keeps x.toInCall.keep, codeAny_func ?_⟩
    obtain ⟨t, ht, hq⟩ := hbody A outer s H vs Q E (hr.deeper _) hg hsp
    have I := inv_start (CX := CX0) (E := E) S hr.hd e0 (len _ _ _ _ hsp) r x
    refine wpAny_mono (ht.nox.run [] s1 (start N vs) H _ I hq) (fun fl s' hs => ?_) fun e s' hs => hs
    cases fl with
    | ret u =>
      obtain ⟨v, σ', H', J, rv, q⟩ := hs
      exact ⟨v, H', J.os, J.bare, J.base, J.hok, rv, q⟩
    | next =>
      obtain ⟨σ', H', J, q⟩ := hs
      exact ⟨.non, H', J.os, J.bare, J.base, J.hok, rfl, q⟩
    | brk =>
      obtain ⟨_, _, _, q⟩ := hs
      exact q.elim
    | cont =>
      obtain ⟨_, _, _, q⟩ := hs
      exact q.elim
theorem pail_okT {ι : Type} {T : List (Addr × Str)} {x qual : Str} {st : Stmt} {f c : Addr} {fd : FuncData} {N ps : List Str} {k : Nat} {pre : ι → List V → Hp → Prop} {post : ι → V → Hp → Prop} (F : FunC K x qual st f fd c) (S : FnScope N ps (defScope st)) (hl : ∀ i vs F, pre i vs F → vs.length + 1 = ps.length)
    (hb : ∀ (A : Around) (outer : List Env) (s : Shared) (H : Hp) (E : XK), Room k (A.deeper (envOfC qual (defScope st) s.heap.objs.size f (.ref c))) → A.guards = some [] →
      ∃ t, PSs (cxOf CX0 P w K mg base N qual (defScope st) f (.ref c) A outer s H E).nox (defBody st) t ∧ ∀ i b vs F (Q : VK), pre i vs F → (Wd.tab (some b) T).ok F H → (∀ v F' H', Gr (Wd.tab (some b) T).M F H F' H' → (Wd.tab (some b) T).ok F' H' → post i v F' → Q v H') → t { nx := fun _ H' => Q .non H', rt := Q } (start N (.ref b :: vs)) H) :
    FnOkG P w K mg base (k + 1) f fd ps (spBT T pre post) := by
  refine okTG F S (fun vs H Q E h => ?_) (fun A outer s H vs Q E hr hg h => ?_)
  · obtain ⟨F, i, b, ws, rfl, e, r, q⟩ := h
    exact hl i ws F r
  · obtain ⟨F, i, b, ws, rfl, e, r, q⟩ := h
    obtain ⟨t, h1, h2⟩ := hb A outer s H E hr hg
    exact ⟨t, h1, h2 i b ws F Q r e q⟩
theorem gen_okT {ι : Type} {T : List (Addr × Str)} {x qual : Str} {st : Stmt} {f c : Addr} {fd : FuncData} {N ps : List Str} {k : Nat} {pre : ι → List V → Hp → Prop} {post : ι → V → Hp → Prop} (F : FunC K x qual st f fd c) (S : FnScope N ps (defScope st)) (hl : ∀ i vs F, pre i vs F → vs.length = ps.length)
    (hb : ∀ (A : Around) (outer : List Env) (s : Shared) (H : Hp) (E : XK), Room k (A.deeper (envOfC qual (defScope st) s.heap.objs.size f (.ref c))) → A.guards = some [] →
      ∃ t, PSs (cxOf CX0 P w K mg base N qual (defScope st) f (.ref c) A outer s H E).nox (defBody st) t ∧ ∀ i vs F (Q : VK), pre i vs F → (Wd.tab none T).ok F H → (∀ v F' H', Gr (Wd.tab none T).M F H F' H' → (Wd.tab none T).ok F' H' → post i v F' → Q v H') → t { nx := fun _ H' => Q .non H', rt := Q } (start N vs) H) :
    FnOkG P w K mg base (k + 1) f fd ps (spGT T pre post) := by
  refine okTG F S (fun vs H Q E h => ?_) (fun A outer s H vs Q E hr hg h => ?_)
  · obtain ⟨F, i, e, r, q⟩ := h
    exact hl i vs F r
  · obtain ⟨F, i, e, r, q⟩ := h
    obtain ⟨t, h1, h2⟩ := hb A outer s H E hr hg
    exact ⟨t, h1, h2 i vs F Q r e q⟩
end
section
variable {σ : St} {F : Hp} {P : V → Hp → Prop} {tr : TA} {T : List (Addr × Str)}
/-- the same for a def without lambdas, made to be called from one with them -/
theorem spGT_tab {b : Option Addr} {F H : Hp} (k : (Wd.tab b T).ok F H) : ∀ p ∈ T, TabOk b F H p := k.2.2.2
/-- f(new(..)), f a def that draws and makes lambdas -/
theorem ev_onNewT {ι κ : Type} {pre : ι → List V → Hp → Prop} {preN : κ → List V → Hp → Prop} {post : ι → V → Hp → Prop} {E E' : XK} {A : List V → Hp → Prop} (ha : EA (Wd.tab none T) tr σ F A) (j : List V → Hp → κ) (hpN : ∀ vs F1, Same F F1 → A vs F1 → preN (j vs F1) vs F1) (i : ι) (hp : ∀ F1, Same F F1 → pre i [] F1)
    (hq : ∀ v F1, Same F F1 → post i v F1 → P v F1) : EV (Wd.tab none T) (tCall (spBT T pre post) [] E (tCons (tCall (spN preN) [] E' tr) tNil)) σ F P := fun F1 H1 e k Q q =>
  ha F1 H1 e k _ fun vs F2 H2 g2 k2 p2 => by
    rw [List.append_nil]
    refine ⟨F2, j vs F2, k2.e, hpN vs F2 (e.trans g2.f) p2, fun b F3 H3 g3 h0 pk => ?_⟩
    have e3 := (e.trans g2.f).trans g3.f
    have k3 := k2.pure g3
    refine ⟨F3, i, b, [], rfl, ⟨g3.s, fun c z => ?_, (fun _ z => nomatch z), fun p hp => ⟨(k3.2.2.2 p hp).1, fun z => ?_, (k3.2.2.2 p hp).2.2⟩⟩, hp F3 e3, fun v F4 H4 g4 k4 p4 => ?_⟩
    · cases z
      exact pk
    · have y := (k2.2.2.2 p hp).2.2.ne
      rw [← Option.some.inj z] at y
      exact y h0
    · refine q v F4 H4 (g2.trans ⟨g3.f.trans g4.f, g4.s, fun a o n z => ?_, fun a z => (g4.n a (g3.d a z)).trans (g3.n a z), fun a z => g4.d a (g3.d a z)⟩) ⟨g4.s, (fun _ z => nomatch z), (fun _ z => nomatch z), fun p hp => ⟨(k4.2.2.2 p hp).1, (fun z => nomatch z), (k4.2.2.2 p hp).2.2⟩⟩ (hq v F4 (e3.trans g4.f) p4)
      refine g4.h a o (fun y => ?_) (g3.h a o id z)
      rcases Mtb_iff.mp y with y | y
      · rw [show a = b from y, h0] at z
        cases z
      · exact n (Mtb_iff.mpr (.inr y))
end
/-! ### the end -/
/-- nothing is tracked but the script, known to the object, and empty tables -/
def OnlyT (ts : List Addr) (H : Hp) : Prop := ∀ b, H b = none ∨ (∃ o xs, H b = some (.frz o (.lst xs))) ∨ (b ∈ ts ∧ H b = some (.tbl #[]))
section
open PyProof.Rows
variable {P : Program} {w : World} {K : PySem.W.Frag} {mg mb : Str → Option Value} {k : Nat} {fa a : Addr} {fd : FuncData} {x : Str} {sp : Sp} {s₁ : Shared} {vs : List Value} {ns : List Int} {cs : List (Addr × Addr)}
theorem groundT {H : Hp} (KX : K.In s₁.heap) (hns : s₁.heap.Ns mainGlobals mg) (hb : s₁.heap.Ns builtinsNs mb) (hbb : ∀ x : Str, x ≠ "__name__" → mb x = bootBuiltins x) (hlim : s₁.heap.NoLimit) (hg : s₁.gens = #[])
    (hbm : ∃ (bm : Addr) (ob : Obj), mg "__builtins__" = some (.ref bm) ∧ bm ≠ builtinsNs ∧ s₁.heap.get? bm = some ob ∧ ob.cls = .type "module" ∧ ob.dict = some builtinsNs ∧ ob.data = .plain)
    (hT : ∀ p ∈ cs, s₁.heap.get? p.2 = some { cls := .none, data := .fields #[] }) (nT : ∀ p ∈ cs, K.lookup p.2 = none) (C : ∀ p ∈ cs, PySem.W.CodeHd s₁.heap p.1 p.2)
    (ha : s₁.heap.get? a = some { cls := .type "list", data := .seq vs.toArray }) (hok : HOk P w H s₁.heap) (hA : ∀ b, H b ≠ none → (b = a ∧ K.lookup a = none) ∨ b ∈ cs.map (·.2)) :
    K.In (hidT s₁.heap H) ∧ (hidT s₁.heap H).Ns mainGlobals mg ∧ (∀ p ∈ cs, TabB (hidT s₁.heap H) mg p.1 p.2) ∧ Env0 P w K mg (hidT s₁.heap H) callerA [] s₁ H := by
  have tabAt : ∀ {b}, b ∈ cs.map (·.2) → ∃ p ∈ cs, p.2 = b := fun h => by
    obtain ⟨p, hp, e⟩ := List.mem_map.mp h
    exact ⟨p, hp, e⟩
  have free : ∀ {b : Addr} {o : Obj}, s₁.heap.get? b = some o → (∀ us n, o.data ≠ .seq us n) → o.data ≠ .fields #[] → (hidT s₁.heap H).get? b = some o := fun {b o} e n1 n2 => hidT_get e (Classical.byContradiction fun z => by
    rcases hA b z with ⟨rfl, _⟩ | m
    · rw [ha] at e
      cases e
      exact n1 _ _ rfl
    · obtain ⟨p, hp, rfl⟩ := tabAt m
      rw [hT p hp] at e
      cases e
      exact n2 rfl)
  have nsK : ∀ {b : Addr} {m : Str → Option Value}, s₁.heap.Ns b m → (hidT s₁.heap H).Ns b m := fun {b m} ⟨o, es, ep, e, d, r⟩ => ⟨o, es, ep, free e (fun us n z => by rw [d] at z; cases z) (fun z => by rw [d] at z; cases z), d, r⟩
  have kin : K.In (hidT s₁.heap H) := fun b o e => hidT_get (KX b o e) (Classical.byContradiction fun z => by
    rcases hA b z with ⟨rfl, n⟩ | m
    · rw [n] at e
      cases e
    · obtain ⟨p, hp, rfl⟩ := tabAt m
      rw [nT p hp] at e
      cases e)
  have lim : (hidT s₁.heap H).NoLimit := by
    obtain ⟨mc, h1, h2⟩ := hlim
    exact ⟨mc, nsK h1, h2⟩
  refine ⟨kin, nsK hns, fun p hp => ⟨?_, ?_, fun z => ?_⟩, ⟨rfl, ⟨kin, nsK hns, ⟨mb, nsK hb, hbb⟩, lim⟩, fun b o e => of_hidT e, Nat.le_of_eq (hidT_size _ _), trivial, fun b hb => absurd (show b ∈ ([] : List Addr) from hb) List.not_mem_nil, hok, .of_eq hg⟩⟩
  · obtain ⟨o, us, fl, tf, fg, tg, iF, tx, tt, e1, r1, r2, r3, rr⟩ := C p hp
    exact ⟨o, us, fl, tf, fg, tg, iF, tx, tt, free e1 (fun _ _ z => by rw [r2] at z; cases z) (fun z => by rw [r2] at z; cases z; simp at r3), r1, r2, r3, rr⟩
  · obtain ⟨bm, ob, b1, b2, b3, b4, b5, b6⟩ := hbm
    refine ⟨bm, ob, b1, b2, fun z => ?_, fun z => ?_, free b3 (fun _ _ z => by rw [b6] at z; cases z) (fun z => by rw [b6] at z; cases z), b4, b5, b6⟩
    · obtain ⟨o, es, ep, e, hd, _⟩ := hns
      rw [z, e] at b3
      cases b3
      rw [hd] at b6
      cases b6
    · rw [z, hT p hp] at b3
      cases b3
      cases b6
  · obtain ⟨o, es, ep, e, hd, _⟩ := hns
    rw [z, hT p hp] at e
    cases e
    cases hd
theorem law_callT (KX : K.In s₁.heap) (hns : s₁.heap.Ns mainGlobals mg) (hb : s₁.heap.Ns builtinsNs mb) (hbb : ∀ x : Str, x ≠ "__name__" → mb x = bootBuiltins x) (hlim : s₁.heap.NoLimit) (hg : s₁.gens = #[])
    (hbm : ∃ (bm : Addr) (ob : Obj), mg "__builtins__" = some (.ref bm) ∧ bm ≠ builtinsNs ∧ s₁.heap.get? bm = some ob ∧ ob.cls = .type "module" ∧ ob.dict = some builtinsNs ∧ ob.data = .plain)
    (hT : ∀ p ∈ cs, s₁.heap.get? p.2 = some { cls := .none, data := .fields #[] }) (nT : ∀ p ∈ cs, K.lookup p.2 = none) (C : ∀ p ∈ cs, PySem.W.CodeHd s₁.heap p.1 p.2)
    (ha : s₁.heap.get? a = some { cls := .type "list", data := .seq vs.toArray }) (hi : IntsAre vs ns) (hl : ns.length ≤ sizeLine) (hr : Room k callerA) (hG : callerA.guards = some [])
    (F : ∀ base : Heap, K.In base → base.Ns mainGlobals mg → (∀ p ∈ cs, TabB base mg p.1 p.2) → FnOkG P w K mg base k fa fd [x] sp) (hbind : ∀ (s : Shared) (u : Value), BindsTo s fd ⟨[u], []⟩ [(x, u)])
    (hsp : ∀ H : Hp, OnlyT (cs.map (·.2)) H → (∀ p ∈ cs, H p.2 = some (.tbl #[])) → SqL K H a (ns.map V.int) → sp [.ref a] H (fun v _ => v = .bl true) fun _ _ _ => False) :
    codeAny (model P w) callerA (.call (.ref fa) ⟨[.ref a], []⟩) (fun r s' => r = .ok (.ret (.bool true)) ∧ OldK s₁.heap s'.heap ∧ s'.os = s₁.os ∧ AllBare s'.gens) s₁ := by
  have isT : ∀ {b}, b ∈ cs.map (·.2) → s₁.heap.get? b = some { cls := .none, data := .fields #[] } := fun h => by
    obtain ⟨p, hp, rfl⟩ := List.mem_map.mp h
    exact hT p hp
  have aT : a ∉ cs.map (·.2) := fun z => by
    have e := (isT z).symm.trans ha
    cases e
  have go : ∀ H : Hp, OnlyT (cs.map (·.2)) H → (∀ p ∈ cs, H p.2 = some (.tbl #[])) → SqL K H a (ns.map V.int) → HOk P w H s₁.heap → (∀ b, H b ≠ none → (b = a ∧ K.lookup a = none) ∨ b ∈ cs.map (·.2)) →
      codeAny (model P w) callerA (.call (.ref fa) ⟨[.ref a], []⟩) (fun r s' => r = .ok (.ret (.bool true)) ∧ OldK s₁.heap s'.heap ∧ s'.os = s₁.os ∧ AllBare s'.gens) s₁ := fun H hO hH hS hok hA => by
    obtain ⟨k1, k2, k3, k4⟩ := groundT KX hns hb hbb hlim hg hbm hT nT C ha hok hA
    refine codeAny_mono ((F _ k1 k2 k3).run callerA [] s₁ H ⟨[.ref a], []⟩ [.ref a] [.ref a] _ _ hr hG k4 (hbind s₁ (.ref a)) (.cons rfl .nil) (hsp H hO hH hS)) fun r s' h => ?_
    cases r with
    | error e => exact h.elim
    | ok fl =>
      cases fl with
      | next => exact h.elim
      | brk => exact h.elim
      | cont => exact h.elim
      | ret u =>
        obtain ⟨v, H', os, bare, un, hok', rv, q⟩ := h
        cases (show v = .bl true from q)
        cases (show u = Value.bool true from rv)
        have big : ∀ {b}, b ∈ cs.map (·.2) → ∃ more : Array Value, s'.heap.get? b = some { cls := .none, data := .fields more } := fun {b} m => by
          obtain ⟨p, hp, rfl⟩ := List.mem_map.mp m
          obtain ⟨more, z⟩ := un.tbls p.2 #[] (hH p hp)
          exact ⟨_, hok' p.2 _ z⟩
        have same : ∀ b o, b ∉ cs.map (·.2) → s₁.heap.get? b = some o → s'.heap.get? b = some o := fun b o n e => by
          rcases hO b with z | ⟨ou, xs, z⟩ | ⟨z, _⟩
          · exact un.keep b o e z (fun y => List.not_mem_nil (show b ∈ ([] : List Addr) from y)) List.not_mem_nil
          · cases (hok b _ z).1.symm.trans e
            exact (hok' b _ (un.frzs b _ _ z)).1
          · exact (n z).elim
        refine ⟨rfl, ⟨fun b o e => ?_, fun b o e => ?_⟩, os, bare⟩
        · by_cases m : b ∈ cs.map (·.2)
          · obtain ⟨more, z⟩ := big m
            have e2 := (isT m).symm.trans e
            cases e2
            obtain ⟨p, hp, rfl⟩ := List.mem_map.mp m
            exact .inr (.inl ⟨((C p hp).tab (hT p hp)).isCodeTable, rfl, #[], more, rfl, by rw [Array.empty_append]; exact z⟩)
          · exact .inl (same b o m e)
        · by_cases m : b ∈ cs.map (·.2)
          · obtain ⟨more, z⟩ := big m
            exact ⟨_, z⟩
          · exact ⟨o, same b o m e⟩
  obtain ⟨tb, htb⟩ : ∃ tb : Hp, tb = fun b => if b ∈ cs.map (·.2) then some (.tbl #[]) else none := ⟨_, rfl⟩
  have tb1 : ∀ {b}, b ∈ cs.map (·.2) → tb b = some (.tbl #[]) := fun h => by rw [htb]; exact if_pos h
  have tb0 : ∀ {b}, b ∉ cs.map (·.2) → tb b = none := fun h => by rw [htb]; exact if_neg h
  cases hk : K.lookup a with
  | some o =>
    have e := KX a o hk
    rw [ha] at e
    cases e
    refine go tb (fun b => ?_) (fun p hp => tb1 (List.mem_map.mpr ⟨p, hp, rfl⟩)) (.inr ⟨_, vs.toArray, _, hk, rfl, rfl, rfl, by rw [List.size_toArray, hi.length]; exact hl, by simpa using vals_ints hi⟩) (fun b u z => ?_) fun b z => ?_
    · exact (Classical.em (b ∈ cs.map (·.2))).elim (fun m => .inr (.inr ⟨m, tb1 m⟩)) fun m => .inl (tb0 m)
    · by_cases m : b ∈ cs.map (·.2)
      · cases (tb1 m).symm.trans z
        exact isT m
      · cases (tb0 m).symm.trans z
    · exact (Classical.em (b ∈ cs.map (·.2))).elim .inr fun m => (z (tb0 m)).elim
  | none =>
    obtain ⟨hh, hhh⟩ : ∃ hh : Hp, hh = fun b => if b = a then some (.frz { cls := .type "list", data := .seq vs.toArray } (.lst (ns.map V.int))) else tb b := ⟨_, rfl⟩
    have ha1 : hh a = some (.frz { cls := .type "list", data := .seq vs.toArray } (.lst (ns.map V.int))) := by rw [hhh]; exact if_pos rfl
    have hn1 : ∀ {b}, b ≠ a → hh b = tb b := fun h => by rw [hhh]; exact if_neg h
    have hm1 : ∀ {b}, b ∈ cs.map (·.2) → hh b = some (.tbl #[]) := fun {b} m => (hn1 (fun z => aT (z ▸ m))).trans (tb1 m)
    refine go hh (fun b => ?_) (fun p hp => hm1 (List.mem_map.mpr ⟨p, hp, rfl⟩)) (.inl (.inr ⟨_, ha1⟩)) (fun b u z => ?_) fun b z => ?_
    · by_cases e : b = a
      · exact .inr (.inl ⟨_, _, by rw [e]; exact ha1⟩)
      · exact (Classical.em (b ∈ cs.map (·.2))).elim (fun m => .inr (.inr ⟨m, hm1 m⟩)) fun m => .inl ((hn1 e).trans (tb0 m))
    · by_cases e : b = a
      · subst e
        cases ha1.symm.trans z
        exact ⟨ha, by rw [List.length_map]; exact hl, vs, _, vals_ints hi, ha⟩
      · by_cases m : b ∈ cs.map (·.2)
        · cases (hm1 m).symm.trans z
          exact isT m
        · cases ((hn1 e).trans (tb0 m)).symm.trans z
    · by_cases e : b = a
      · exact .inl ⟨e, hk⟩
      · exact (Classical.em (b ∈ cs.map (·.2))).elim .inr fun m => (z ((hn1 e).trans (tb0 m))).elim
end
/-- the tracked heap without the tables -/
def noT (H : Hp) : Hp := fun b => match H b with
  | some (.tbl _) => none
  | o => o
theorem noT_same (H : Hp) : Same (noT H) H := fun b o z => by
  unfold noT at z
  split at z
  · cases z
  · exact z
theorem noT_of {H : Hp} {b : Addr} {o : HO} (h : H b = some o) (n : ∀ ps, o ≠ .tbl ps) : noT H b = some o := by
  unfold noT
  split
  · rename_i ps z
    rw [h] at z
    exact (n ps (Option.some.inj z)).elim
  · exact h
theorem noT_tbl {H : Hp} {b : Addr} {ps : Array Value} (h : H b = some (.tbl ps)) : noT H b = none := by
  unfold noT
  rw [h]
/-- the world of the law's call -/
theorem ok_start {cs : List (Addr × Addr)} {T : List (Addr × Str)} {H : Hp} (hH : ∀ p ∈ cs, H p.2 = some (.tbl #[])) (hT : ∀ p ∈ T, p.1 ∈ cs.map (·.2)) : (Wd.tab none T).ok (noT H) H := by
  refine ⟨noT_same H, (fun _ z => nomatch z), (fun _ z => nomatch z), fun p hp => ?_⟩
  obtain ⟨c, hc, e⟩ := List.mem_map.mp (hT p hp)
  have h := hH c hc
  rw [e] at h
  refine ⟨noT_tbl h, (fun z => nomatch z), #[], h, trivial, fun pos cv z => ?_⟩
  have z' : codeAmong pos [] = some cv := z
  simp [codeAmong] at z'
/-- the script stays known -/
theorem sql_noT {K : PySem.W.Frag} {H : Hp} {a : Addr} {xs : List V} (h : SqL K H a xs) : SqL K (noT H) a xs := by
  rcases h with (h | ⟨o, h⟩) | h
  · exact .inl (.inl (noT_of h fun _ z => nomatch z))
  · exact .inl (.inr ⟨o, noT_of h fun _ z => nomatch z⟩)
  · exact .inr h
theorem walk_ofT {l : PySem.W.OpenLaw} {n k : Nat} {q : Program} {loose : List Str} {XP : (Str → Option Value) → Heap → Prop} {YP : World → Heap → Prop} {d : DefRec} {K : Params → PySem.W.Frag} {sp : World → Sp} {x : Str} (cs : List (Addr × Addr))
    (hn : l.most = some n) (hn2 : n ≤ sizeLine) (hdf : d.params.defaults = []) (hr : Room k callerA) (hG : callerA.guards = some [])
    (hY : ∀ (w : World) (h : Heap), YP w h → (K w.params).In h) (hYt : ∀ (w : World) (h : Heap), YP w h → ∀ p ∈ cs, h.get? p.2 = some { cls := .none, data := .fields #[] }) (nT : ∀ w : World, ∀ p ∈ cs, (K w.params).lookup p.2 = none) (hC : ∀ w : World, ∀ p ∈ cs, PySem.W.codeHdIn (K w.params) p.1 p.2 = true)
    (F : ∀ (w : World) (mg : Str → Option Value) (fa : Addr) (h : Heap), (K w.params).In h → h.Ns mainGlobals mg → mg d.name = some (.ref fa) →
      ∃ fd : FuncData, (∀ (s : Shared) (u : Value), BindsTo s fd ⟨[u], []⟩ [(x, u)]) ∧
        ∀ base : Heap, (K w.params).In base → base.Ns mainGlobals mg → (∀ p ∈ cs, TabB base mg p.1 p.2) → FnOkG l.prog w (K w.params) mg base k fa fd [x] (sp w))
    (hsp : ∀ (w : World) (H : Hp) (a : Addr) (ns : List Int), ns.length ≤ n → (∀ z ∈ ns, Builtin.Int.intBits z ≤ 1048576) → OnlyT (cs.map (·.2)) H → (∀ p ∈ cs, H p.2 = some (.tbl #[])) → SqL (K w.params) H a (ns.map V.int) → sp w [.ref a] H (fun v _ => v = .bl true) fun _ _ _ => False) :
    PySem.W.WalkO q loose XP YP l.row.toRowW d [] (fun f vs => PySem.call f vs) := by
  refine Att.attach_callB hn hdf fun w s₀ s₁ mg mb fa o pm cd doc a vs ns G Y ho hd hcd hmg hobj hints hlen hbits hg => ?_
  have KX := hY w _ Y
  obtain ⟨fd, hb, hF⟩ := F w mg fa _ KX G.T.g hmg
  exact law_callT KX G.T.g G.T.b G.T.builtins G.T.nolimit hg G.T.bmain (hYt w _ Y) (nT w) (fun p hp => PySem.W.codeHd_of_K KX (hC w p hp)) hobj hints (Nat.le_trans hlen hn2) hr hG hF hb fun H hO hH hS => hsp w H a ns hlen hbits hO hH hS
end Wk
set_option Elab.async false
set_option linter.all false
set_option maxRecDepth 100000
set_option maxHeartbeats 1000000
/-! Zs5: t[::-1] of a tuple -/
namespace HT
open PySem PySem.Spec PyProof.Rows
section
variable {prog : Program} {w : World} {A : Around} {E : Value → Shared → Prop} {s : Shared}
theorem adjust_rev (n : Nat) : Builtin.Slice.sliceAdjust none none (-1) (n : Int) = ((n : Int) - 1, -1) := rfl
theorem places_rev (n : Nat) : Builtin.Slice.slicePlaces ((n : Int) - 1) (-1) (-1) = n := by
  unfold Builtin.Slice.slicePlaces
  have h1 : ¬ ((-1 : Int) > 0) := by decide
  rw [if_neg h1]
  by_cases h : (n : Int) - 1 > -1
  · rw [if_pos h, show (- -1 : Int) = 1 by decide, Int.ediv_one]
    omega
  · rw [if_neg h]
    omega
theorem sliceApplied_rev {sl : Addr} {vl vu vs : Value} {n : Nat} {Q : Int × Int × Nat → Shared → Prop} (hs : s.heap.IsSliceOf sl vl vu vs) (pl : IsPart vl none) (pu : IsPart vu none) (ps : IsPart vs (some (-1)))
    (h : Q ((n : Int) - 1, -1, n) s) : wpAny (model prog w) A (Builtin.Slice.sliceApplied (.ref sl) (pure (n : Int))) Q E s := by
  obtain ⟨os, hos, hcs, hds⟩ := id hs
  unfold Builtin.Slice.sliceApplied Builtin.Slice.sliceFields
  refine wpAny_bind (wpAny_bind (wpAny_field hos hds (x := vl) rfl (wpAny_bind (wpAny_field hos hds (x := vu) rfl (wpAny_bind (wpAny_field hos hds (x := vs) rfl (wpAny_pure ?_)))))))
  refine wpAny_bind (slicePart_ ps ?_)
  show wpAny _ _ (if ((-1 : Int) == 0) = true then _ else _) _ _ s
  rw [if_neg (by decide)]
  refine wpAny_bind (slicePart_ pl (wpAny_bind (slicePart_ pu (wpAny_bind (wpAny_pure ?_)))))
  show wpAny _ _ (match Builtin.Slice.sliceAdjust none none (-1) (n : Int) with | (lo, hi) => pure (lo, (-1 : Int), Builtin.Slice.slicePlaces lo hi (-1))) _ _ s
  rw [adjust_rev n]
  show wpAny _ _ (pure ((n : Int) - 1, (-1 : Int), Builtin.Slice.slicePlaces ((n : Int) - 1) (-1) (-1))) _ _ s
  rw [places_rev]
  exact wpAny_pure h
theorem fm_congr {α β : Type} {f g : α → Option β} : ∀ l : List α, (∀ x ∈ l, f x = g x) → l.filterMap f = l.filterMap g
  | [], _ => rfl
  | a :: l, h => by
    rw [List.filterMap_cons, List.filterMap_cons, h a (List.mem_cons_self ..), fm_congr l fun x hx => h x (List.mem_cons_of_mem _ hx)]
theorem pick_rev (xs : Array Value) : ((List.range xs.size).filterMap fun (m : Nat) => xs[((xs.size : Int) - 1 + (m : Int) * -1).toNat]?).toArray = xs.toList.reverse.toArray := by
  rw [← PySem.W.krv_all xs, ← List.filterMap_reverse, ← PySem.W.krv_range, List.filterMap_map]
  congr 1
  refine fm_congr _ fun m hm => ?_
  have := List.mem_range.mp hm
  show xs[((xs.size : Int) - 1 + (m : Int) * -1).toNat]? = xs[xs.size - 1 - m]?
  congr 1
  omega
theorem getItem_tuple_rev {t sl : Addr} {items : Array Value} {vl vu vs : Value} {Q : Value → Shared → Prop} (ht : IsTup s.heap t items) (hs : s.heap.IsSliceOf sl vl vu vs) (pl : IsPart vl none) (pu : IsPart vu none) (ps : IsPart vs (some (-1)))
    (h : Q (.ref s.heap.objs.size) { s with heap := s.heap.push { cls := .type "tuple", data := .seq items.toList.reverse.toArray } })
    (hsz : items.size ≤ sizeLine) : wpAny (model prog w) A (getItem (.ref t) (.ref sl)) Q E s := by
  have htake : sizeOk (.seq items.toList.reverse.toArray) := by
    show items.toList.reverse.toArray.size ≤ sizeLine
    rw [List.size_toArray, List.length_reverse, Array.length_toList]
    exact hsz
  obtain ⟨os, hos, hcs, hds⟩ := id hs
  have hTs : s.TypeIs (.ref sl) "slice" := ⟨os, hos, hcs⟩
  unfold getItem
  try with_reducible refine wpAny_holding ?_
  first | refine wpAny_bind (wpAny_pure ?_) | skip
  refine wpAny_bind (wpAny_sequenceKey ht.typeIs (by decide) ?_)
  refine wpAny_bind (wpAny_callSpecial?_slot (name := Str.ofString "__getitem__") ht.typeIs PyProof.Rows.slot_tuple_getitem
    (wpAny_call_entry PyProof.Rows.slot_tuple_getitem ht.typeIs entry_tuple_getitem ?_ (args_tuple_getitem _ _)))
  show wpAny _ _ (Builtin.Tuple.tupleItemsOf (.ref t) >>= _) _ _ s
  refine wpAny_bind (tupleItemsOf_ ht ?_)
  refine wpAny_bind (wpAny_typeOf hTs ?_)
  rw [if_pos (by decide)]
  refine wpAny_bind (sliceApplied_rev hs pl pu ps ?_)
  show wpAny _ _ (if (((items.size : Int) - 1) == 0 && (-1 : Int) == 1 && items.size == items.size) = true then _ else _) _ _ s
  rw [show ((-1 : Int) == 1) = false by decide, Bool.and_false, Bool.false_and, if_neg (fun z => nomatch z)]
  rw [pick_rev]
  first
    | exact wpAny_bind (m := Builtin.Tuple.tupleExact _) (wpAny_newObj_type (wpAny_pure ⟨_, rfl, wpAny_pure h⟩) htake)
    | exact wpAny_bind (m := Builtin.Tuple.tupleExact _) (wpAny_newObj_type (wpAny_bind (wpAny_pure (wpAny_pure ⟨_, rfl, wpAny_pure h⟩))) htake)
    | exact wpAny_bind (wpAny_bind (m := Builtin.Tuple.tupleExact _) (wpAny_newObj_type (wpAny_pure (wpAny_pure ⟨_, rfl, wpAny_pure h⟩)) htake))
    | exact wpAny_bind (wpAny_bind (m := Builtin.Tuple.tupleExact _) (wpAny_newObj_type (wpAny_pure ⟨_, rfl, wpAny_pure h⟩) htake))
end
end HT
namespace L2
open PySem PySem.Spec PyProof.Rows
section
variable {X : Cx}
def tRevT (K : PySem.W.Frag) (te : TE) : TE := fun σ H Q => te σ H fun x H1 => ∃ a xs, x = .ref a ∧ SqT K H1 a xs ∧ ∀ p, H1 p = none → Q (.ref p) (upd H1 p (.tup xs.reverse))
theorem pe_revT {e : Expr} {te : TE} {k : Nat} {p1 p2 p3 pos : Pos} (he : PE X e te) : PE X (.Subscript e (.Slice none none (some (.UnaryOp .USub (.Constant (.int 1) k p1) p2)) p3) pos) (tRevT X.K te) := by
  refine ⟨fun pins s σ H Q I h => ?_⟩
  refine Subscript_ (thn (he.run pins s σ H _ I h) fun v s1 ⟨x, H1, I1, r1, q1⟩ => ?_)
  obtain ⟨a, xs, ex, hx, q⟩ := q1
  subst ex
  cases r1
  have hst : PO X (some (.UnaryOp .USub (.Constant (.int 1) k p1) p2)) (tPart (tUn (rU fun i => .int (-i)) (tC (.int 1)))) := po_some (pe_un un_neg pe_int)
  refine wpAny_Slice (thn (po_none.run pins s1 σ H1 (fun o H2 => o = none ∧ H2 = H1) I1 ⟨rfl, rfl⟩) fun vl s2 ⟨l, H2, I2, pl, el, e2⟩ => ?_)
  subst el e2
  refine thn (po_none.run pins s2 σ H2 (fun o H3 => o = none ∧ H3 = H2) I2 ⟨rfl, rfl⟩) fun vu s3 ⟨u, H3, I3, pu, eu, e3⟩ => ?_
  subst eu e3
  refine thn (hst.run pins s3 σ H3 (fun o H4 => o = some (-1) ∧ H4 = H3) I3 ⟨1, rfl, -1, rfl, rfl, rfl⟩) fun vs s4 ⟨o, H4, I4, ps, eo, e4⟩ => ?_
  subst eo e4
  have I5 : Inv X pins σ H4 { s4 with heap := s4.heap.push { cls := .type "slice", data := .fields #[vl, vu, vs] } } := I4.kept (t' := s4.toks) fun b ob q => Heap.get?_push_of_some _ q
  obtain ⟨its, r, ht, hz⟩ := I5.tuple hx
  have hlen := r.length
  show wpAny (model X.prog X.w) X.A (subscriptTail e (.Slice none none (some (.UnaryOp .USub (.Constant (.int 1) k p1) p2)) p3) (.ref a) (.ref s4.heap.objs.size)) (EP X pins σ Q) X.xe { s4 with heap := s4.heap.push { cls := .type "slice", data := .fields #[vl, vu, vs] } }
  refine tail_any (ops := [.ref a, .ref s4.heap.objs.size]) ht.typeIs (PyProof.Rows.slot_tuple_getitem.lookup) ?_ (by with_unfolding_all rfl)
  refine HT.getItem_tuple_rev ht (Heap.IsSliceOf.new _ vl vu vs) pl pu ps ?_ (by rw [List.size_toArray]; omega)
  refine ⟨.ref _, _, I5.laid (t' := s4.toks) (o := .tup xs.reverse) (fun b ob q => Heap.get?_push_of_some _ q) (Nat.le_refl _) ?_, rfl, q _ (I5.hok.fresh (Nat.le_refl _))⟩
  exact ⟨by rw [List.length_reverse]; omega, _, r.reverse, IsTup.new _ _⟩
end
end L2
namespace Wk
open PySem PySem.Spec L2
section
variable {X : Cx} (K : PySem.W.Frag) (hK : X.K = K)
include hK
theorem eK_revT {e : Expr} {te : TE} {k : Nat} {p1 p2 p3 pos : Pos} (he : PE X e te) : PE X (.Subscript e (.Slice none none (some (.UnaryOp .USub (.Constant (.int 1) k p1) p2)) p3) pos) (tRevT K te) := by
  subst hK
  exact pe_revT he
end
section
variable {K : PySem.W.Frag} {w : Wd} {σ : St} {F H : Hp} {te : TE}
theorem rpA_rev {xs : List V} {ds : List PyData} (h : RpA K F xs ds) : RpA K F xs.reverse ds.reverse := by
  induction ds generalizing xs with
  | nil => cases h; exact .nil
  | cons d ds ih =>
    cases h with
    | cons r a =>
      rw [List.reverse_cons, List.reverse_cons]
      exact (ih a).snoc r
theorem ed_revT {ds : List PyData} (ha : ED K w te σ F (.tuple ds)) : ED K w (tRevT K te) σ F (.tuple ds.reverse) := fun F1 H1 e k Q q =>
  ha F1 H1 e k _ fun v F2 H2 g2 k2 r => by
    obtain ⟨a, xs, rfl, h, ra⟩ := rp_tup r
    refine ⟨a, xs, rfl, sqtM k2.e h, fun p hp => ?_⟩
    have g3 : Gr M0 F2 H2 (upd F2 p (.tup xs.reverse)) (upd H2 p (.tup xs.reverse)) := Gr.new k2.e hp
    exact q _ _ _ (g2.trans g3.up) (k2.pure g3) (.tup (.inl (.inl upd_same)) ((rpA_rev ra).mono g3.f))
end
end Wk
namespace Wk
open PySem PySem.Spec L2
section
variable {K : PySem.W.Frag} {w : Wd} {σ : St} {F : Hp} {tl te : TE}
/-- each of a family by a function -/
theorem ed_mapTF {α : Type} {vs : List Nat} {j : Nat} {as : List α} (f g : α → PyData) (hl : ED K w tl σ F (.tuple (as.map f))) (hz : as.length ≤ 100000) (hw : ∀ x, wipe ((wipe σ vs).set j (some x)) vs = wipe σ vs)
    (he : ∀ x a F1, a ∈ as → Same F F1 → Rp K F1 x (f a) → ED K w te ((wipe σ vs).set j (some x)) F1 (g a)) :
    ED K w (tLc (iTup K tl) (gName j) tYes te vs) σ F (.list (as.map g)) :=
  ev_lcT hl (by rw [List.length_map]; exact hz) hw (AccD K fun i => (as.take i).map g) (fun _ => .nil) (fun i x d F1 hi e r acc ha hla F2 H2 e2 k Q q => by
    obtain ⟨a, hia, rfl⟩ := Option.map_eq_some_iff.mp ((List.getElem?_map ..).symm.trans hi)
    have ha : RpA K F1 acc ((as.take i).map g) := ha
    refine q true F2 H2 (Gr.refl k.e) k ?_
    refine iteT ?_
    refine ((he x a F1 (List.mem_of_getElem? hia) e r).mono e2).mono2 fun y F4 e4 p4 => ?_
    show RpA K F4 (acc ++ [y]) ((as.take (i + 1)).map g)
    rw [take_some hia, List.map_append]
    exact (ha.mono (e2.trans e4)).snoc p4) fun p acc F1 F2 h ha e => by
    have ha : RpA K F2 acc ((as.take (as.map f).length).map g) := ha
    rw [List.length_map, List.take_length] at ha
    exact .lst h (ha.mono e)
end
end Wk
namespace Mt
open Wk
theorem ent_colL {n : Nat} {t : Tb} {i j : Nat} (s : Sq n t) (hi : i < n) (hj : j < n) : ent (trT n t) i j = ent t j i := by
  have h1 : (trT n t).getD i [] = colL t i := by
    unfold trT
    rw [getD_lt (by rw [List.length_map, List.length_range]; exact hi), List.getElem_map, List.getElem_range]
  show ((trT n t).getD i []).getD j 0 = _
  rw [h1]
  exact colL_get s hj
theorem sq_trT {n : Nat} {t : Tb} (s : Sq n t) : Sq n (trT n t) := by
  refine ⟨by unfold trT; rw [List.length_map, List.length_range], fun r hr => ?_⟩
  obtain ⟨i, _, rfl⟩ := List.mem_map.mp hr
  rw [colL_len, s.len]
theorem trT_trT {n : Nat} {t : Tb} (s : Sq n t) : trT n (trT n t) = t := ext (sq_trT (sq_trT s)) s fun i j hi hj => by rw [ent_colL (sq_trT s) hi hj, ent_colL s hj hi]
theorem trT_one (n : Nat) : trT n (oneT n) = oneT n := ext (sq_trT (sq_one n)) (sq_one n) fun i j hi hj => by
  rw [ent_colL (sq_one n) hi hj, ent_one hj hi, ent_one hi hj]
  by_cases h : i = j
  · rw [if_pos h, if_pos h.symm]
  · rw [if_neg h, if_neg fun z => h z.symm]
theorem trT_mul {n : Nat} {a b : Tb} (sa : Sq n a) (sb : Sq n b) : trT n (mulT n a b) = mulT n (trT n b) (trT n a) := ext (sq_trT (sq_mul sa)) (sq_mul (sq_trT sb)) fun i j hi hj => by
  rw [ent_colL (sq_mul sa) hi hj, ent_mul sa sb hj hi, ent_mul (sq_trT sb) (sq_trT sa) hi hj]
  refine sumR_congr fun k hk => ?_
  rw [ent_colL sb hi hk, ent_colL sa hk hj, Int.mul_comm]
theorem bd_trT {n B : Nat} {t : Tb} (s : Sq n t) (b : Bd B t) : Bd B (trT n t) := bd_of (sq_trT s) fun i j hi hj => by
  rw [ent_colL s hi hj]
  exact bd_ent s b hj hi
theorem trc_trT {n : Nat} {t : Tb} (s : Sq n t) : trc n (trT n t) = trc n t := sumR_congr fun k hk => ent_colL s hk hk
theorem getD_mapT {ts : List Tb} {f : Tb → Tb} {i : Nat} (hi : i < ts.length) : (ts.map f).getD i [] = f (ts.getD i []) := by
  rw [getD_lt (by rw [List.length_map]; exact hi), getD_lt hi, List.getElem_map]
theorem word_map {ts : List Tb} {f : Tb → Tb} {w : List Nat} (h : Word ts w) : Word (ts.map f) w := fun i hi => by
  rw [List.length_map]
  exact h i hi
theorem word_rev {ts : List Tb} {w : List Nat} (h : Word ts w) : Word ts w.reverse := fun i hi => h i (List.mem_reverse.mp hi)
/-- the word backwards of the tables turned over -/
theorem prod_trT {n : Nat} {ts : List Tb} (L : ∀ t ∈ ts, Sq n t) (w : List Nat) (hw : Word ts w) : prodT n (ts.map (trT n)) w.reverse = trT n (prodT n ts w) := by
  have L' : ∀ t ∈ ts.map (trT n), Sq n t := fun t ht => by
    obtain ⟨u, hu, rfl⟩ := List.mem_map.mp ht
    exact sq_trT (L u hu)
  induction w using rev_ind with
  | h0 => exact (trT_one n).symm
  | h1 w i ih =>
    have hi : i < ts.length := hw i (by simp)
    have hw' : Word ts w := fun j hj => hw j (by simp [hj])
    rw [List.reverse_append, List.reverse_singleton, prod_app L' _ _ (word_map (word_rev hw')), ih hw', prod_snoc, trT_mul (sq_prod w) (lot_at L hi).2, prod_one L' (by rw [List.length_map]; exact hi), getD_mapT hi]
end Mt
namespace Wk
open Lt Mt
theorem _root_.Lt.Good.over {n : Nat} {ts : List Tb} (g : Good n ts) : Good n (ts.map (trT n)) := by
  refine ⟨g.n1, g.n4, by rw [List.length_map]; exact g.l1, by rw [List.length_map]; exact g.l3, fun t ht => ?_⟩
  obtain ⟨u, hu, rfl⟩ := List.mem_map.mp ht
  have s := sq_trT (g.sq u hu)
  have b := bd_trT (g.sq u hu) (g.bd u hu)
  exact ⟨s.len, fun r hr => ⟨s.row r hr, fun x hx => b r hr x hx⟩⟩
theorem over_over {n : Nat} {ts : List Tb} (g : Good n ts) : (ts.map (trT n)).map (trT n) = ts := by
  rw [List.map_map]
  refine (List.map_congr_left fun t ht => ?_).trans (List.map_id' ts)
  exact trT_trT (g.sq t ht)
end Wk
set_option Elab.async false
set_option linter.all false
set_option maxRecDepth 100000
set_option maxHeartbeats 1000000
/-! Zs6: lists with drawn items, pairs unpacked, tables multiplied by numbers -/
namespace Wk
open PySem PySem.Spec L2 Lt Mt
section
variable {K : PySem.W.Frag} {w : Wd} {σ : St} {F H : Hp} {ta tb te tm : TE} {tr : TA} {D : Ends} {rest : TS} {i j : Nat}
abbrev ERA (K : PySem.W.Frag) (w : Wd) (t : TA) (σ : St) (F : Hp) (R : List PyData → Prop) : Prop := EA w t σ F fun vs F' => ∃ ds, R ds ∧ RpA K F' vs ds
theorem era_nil : ERA K w tNil σ F fun ds => ds = [] := ea_nil fun _ => ⟨[], rfl, .nil⟩
theorem era_cons {R1 : PyData → Prop} {R2 : List PyData → Prop} (ha : ER K w ta σ F R1) (hb : ∀ F1, Same F F1 → ERA K w tr σ F1 R2) : ERA K w (tCons ta tr) σ F fun ds => ∃ d r, ds = d :: r ∧ R1 d ∧ R2 r :=
  ea_cons (B := fun _ vs F' => ∃ ds, R2 ds ∧ RpA K F' vs ds) ha (fun x F1 e1 _ => hb F1 e1) fun x xs F1 F2 _ ⟨d, r1, rx⟩ e2 ⟨ds, r2, rs⟩ => ⟨d :: ds, ⟨d, ds, rfl, r1, r2⟩, .cons (rx.mono e2) rs⟩
theorem er_lst {R : List PyData → Prop} (ha : ERA K w tr σ F R) (hl : ∀ ds, R ds → ds.length ≤ 100000) : ER K w (tLst tr) σ F fun d => ∃ ds, d = .list ds ∧ R ds := fun F1 H1 e k Q q =>
  ha F1 H1 e k _ fun vs F2 H2 g2 k2 ⟨ds, r, p⟩ => ⟨Nat.le_trans (by rw [p.len]; exact hl ds r) (by decide), fun a hp => by
    have g3 : Gr M0 F2 H2 (upd F2 a (.lst vs)) (upd H2 a (.lst vs)) := Gr.new k2.e hp
    exact q _ _ _ (g2.trans g3.up) (k2.pure g3) ⟨.list ds, ⟨ds, rfl, r⟩, .lst upd_same (p.mono g3.f)⟩⟩
/-- one of a drawn list -/
theorem er_anyR {b : Addr} {E : XK} {R : PyData → Prop} (hb : w.b = some b) (hi : σ[i]? = some (some (.ref b))) (em : ER K w tm σ F fun d => ∃ ds, d = .list ds ∧ 0 < ds.length ∧ ds.length < 1000000 ∧ ∀ x ∈ ds, R x) :
    ER K w (tCall (spAny K) [] E (tCons (tVar i) (tCons tm tNil))) σ F R := by
  classical
  let C : List V → Hp → List PyData → Prop := fun vs F' ds => RpA K F' vs [.list ds] ∧ 0 < ds.length ∧ ds.length < 1000000 ∧ ∀ x ∈ ds, R x
  have hc : ∀ vs F', (h : ∃ ds, C vs F' ds) → C vs F' (if h : ∃ ds, C vs F' ds then Classical.choose h else []) := fun vs F' h => by
    rw [dif_pos h]
    exact Classical.choose_spec h
  refine ev_callB hb (ed'_var hi) (A := fun vs F' => ∃ ds, C vs F' ds) ?_ (fun vs F' => if h : ∃ ds, C vs F' ds then Classical.choose h else []) (fun vs F1 _ p => ?_) fun vs F1 v F2 _ p _ r => ?_
  · exact ea_cons (B := fun _ vs _ => vs = []) em (fun _ _ _ _ => ea_nil fun _ => rfl) fun x xs F1 F2 _ ⟨d, ⟨ds, e, h⟩, rx⟩ e2 p => ⟨ds, by
      subst e p
      exact .cons (rx.mono e2) .nil, h⟩
  · have z := hc vs F1 p
    exact ⟨z.1, z.2.1, z.2.2.1⟩
  · have z := hc vs F1 p
    obtain ⟨d, hd, rv⟩ := r
    exact ⟨d, z.2.2.2 d hd, rv⟩
/-- x, y = a, b by a tuple -/
theorem q_tup2 {A B : V → Hp → Prop} (k : w.ok F H) (ea : EV w ta σ F A) (eb : ∀ v F1, Same F F1 → A v F1 → EV w tb σ F1 B) (hA : ∀ v F1 F2, Same F1 F2 → A v F1 → A v F2)
    (q : ∀ v u F' H', Gr w.M F H F' H' → w.ok F' H' → A v F' → B u F' → rest D ((σ.set i (some v)).set j (some u)) H') : tSeq (tAsg (tTup (tCons ta (tCons tb tNil))) (gTup K 2 (gCons (gName i) (gCons (gName j) gNil)))) rest D σ H :=
  ea F H (Same.refl F) k _ fun v F1 H1 g1 k1 p1 => eb v F1 g1.f p1 F1 H1 (Same.refl F1) k1 _ fun u F2 H2 g2 k2 p2 => ⟨show 2 ≤ sizeLine by decide, fun p hp => by
    have gT : Gr M0 F2 H2 F2 (upd H2 p (.tup [v, u])) := Gr.own k2.e hp
    exact ⟨p, [v, u], rfl, .inl (.inl upd_same), rfl, v, [u], rfl, u, [], rfl, rfl, q v u F2 _ ((g1.trans g2).trans gT.up) (k2.pure gT) (hA v F1 F2 g2.f p1) p2⟩⟩
theorem q_parZ {A B : V → Hp → Prop} (k : w.ok F H) (ea : EV w ta σ F A) (eb : ∀ v F1, Same F F1 → A v F1 → EV w tb σ F1 B) (hA : ∀ v F1 F2, Same F1 F2 → A v F1 → A v F2)
    (q : ∀ v u F' H', Gr w.M F H F' H' → w.ok F' H' → A v F' → B u F' → rest D ((σ.set i (some v)).set j (some u)) H') : tSeq (tPar i j (tCons ta (tCons tb tNil))) rest D σ H :=
  ea F H (Same.refl F) k _ fun v F1 H1 g1 k1 p1 => eb v F1 g1.f p1 F1 H1 (Same.refl F1) k1 _ fun u F2 H2 g2 k2 p2 => ⟨v, u, rfl, q v u F2 H2 (g1.trans g2) k2 (hA v F1 F2 g2.f p1) p2⟩
end
end Wk
namespace Mt
def scT (c : Int) (t : Tb) : Tb := t.map fun r => r.map fun x => c * x
theorem sq_scT {n : Nat} {c : Int} {t : Tb} (s : Sq n t) : Sq n (scT c t) := by
  refine ⟨by unfold scT; rw [List.length_map]; exact s.len, fun r hr => ?_⟩
  obtain ⟨r', hr', rfl⟩ := List.mem_map.mp hr
  rw [List.length_map]
  exact s.row r' hr'
theorem ent_scT {n : Nat} {c : Int} {t : Tb} {i j : Nat} (s : Sq n t) (hi : i < n) (hj : j < n) : ent (scT c t) i j = c * ent t i j := by
  have h1 : (scT c t).getD i [] = (t.getD i []).map fun x => c * x := by
    rw [getD_lt (by rw [(sq_scT (c := c) s).len]; exact hi), getD_lt (by rw [s.len]; exact hi)]
    unfold scT
    rw [List.getElem_map]
  have hl := (s.at hi).2
  unfold ent
  rw [h1]
  generalize t.getD i [] = r at hl ⊢
  rw [getD_lt (by rw [List.length_map, hl]; exact hj), getD_lt (by rw [hl]; exact hj), List.getElem_map]
theorem mul_scT {n : Nat} {c d : Int} {a b : Tb} (sa : Sq n a) (sb : Sq n b) : mulT n (scT c a) (scT d b) = scT (c * d) (mulT n a b) := ext (sq_mul (sq_scT sa)) (sq_scT (sq_mul sa)) fun i j hi hj => by
  rw [ent_mul (sq_scT sa) (sq_scT sb) hi hj, ent_scT (sq_mul sa) hi hj, ent_mul sa sb hi hj, ← sumR_mulL]
  refine sumR_congr fun k hk => ?_
  rw [ent_scT sa hi hk, ent_scT sb hk hj, Int.mul_assoc, Int.mul_assoc, Int.mul_left_comm d]
theorem scT_one {n : Nat} {t : Tb} (s : Sq n t) : scT 1 t = t := ext (sq_scT s) s fun i j hi hj => by rw [ent_scT s hi hj, Int.one_mul]
theorem bd_scT {n : Nat} {c : Int} {t : Tb} {A B : Nat} (s : Sq n t) (b : Bd B t) (h : c.natAbs ≤ A) : Bd (A * B) (scT c t) := bd_of (sq_scT s) fun i j hi hj => by
  rw [ent_scT s hi hj, Int.natAbs_mul]
  exact Nat.mul_le_mul h (bd_ent s b hi hj)
theorem trc_scT {n : Nat} {c : Int} {t : Tb} (s : Sq n t) : trc n (scT c t) = c * trc n t := by
  unfold trc
  rw [← sumR_mulL]
  exact sumR_congr fun k hk => ent_scT s hk hk
/-- the numbers of all letters -/
def bysP (zs : List Int) (w : List Nat) : Int := w.foldl (fun p i => p * zs.getD i 0) 1
theorem bys_snoc (zs : List Int) (w : List Nat) (i : Nat) : bysP zs (w ++ [i]) = bysP zs w * zs.getD i 0 := by
  unfold bysP
  rw [List.foldl_append]
  rfl
theorem bys_abs {zs : List Int} {B : Nat} (h : ∀ z ∈ zs, z.natAbs ≤ B) (w : List Nat) : (bysP zs w).natAbs ≤ B ^ w.length := by
  induction w using rev_ind with
  | h0 => exact Nat.le_refl 1
  | h1 w i ih =>
    rw [bys_snoc, Int.natAbs_mul, List.length_append]
    show _ ≤ B ^ (w.length + 1)
    rw [Nat.pow_succ]
    refine Nat.mul_le_mul ih ?_
    by_cases hi : i < zs.length
    · rw [getD_lt hi]
      exact h _ (List.getElem_mem hi)
    · rw [List.getD_eq_getElem?_getD, List.getElem?_eq_none (by omega)]
      exact Nat.zero_le _
def scaledL (zs : List Int) (ts : List Tb) (m : Nat) : List Tb := (List.range m).map fun k => scT (zs.getD k 0) (ts.getD k [])
theorem scaled_at {zs : List Int} {ts : List Tb} {m i : Nat} (hi : i < m) : (scaledL zs ts m).getD i [] = scT (zs.getD i 0) (ts.getD i []) := by
  unfold scaledL
  rw [getD_lt (by rw [List.length_map, List.length_range]; exact hi), List.getElem_map, List.getElem_range]
theorem scaled_len {zs : List Int} {ts : List Tb} {m : Nat} : (scaledL zs ts m).length = m := by
  unfold scaledL
  rw [List.length_map, List.length_range]
theorem prod_scT {n : Nat} {zs : List Int} {ts : List Tb} (L : ∀ t ∈ ts, Sq n t) (w : List Nat) (hw : Word ts w) : prodT n (scaledL zs ts ts.length) w = scT (bysP zs w) (prodT n ts w) := by
  induction w using rev_ind with
  | h0 => exact (scT_one (sq_one n)).symm
  | h1 w i ih =>
    have hi : i < ts.length := hw i (by simp)
    rw [prod_snoc, prod_snoc, bys_snoc, ih fun j hj => hw j (by simp [hj]), scaled_at hi, mul_scT (sq_prod w) (lot_at L hi).2]
end Mt
namespace Wk
open PySem PySem.Spec Lt Mt
/-- small tables, multiplied by small numbers -/
theorem good_scaled {n : Nat} {zs : List Int} {ts : List Tb} (g : Good n ts) (hb : ∀ t ∈ ts, Bd 1000 t) (hz : ∀ z ∈ zs, z.natAbs ≤ 1000) : Good n (scaledL zs ts ts.length) := by
  refine ⟨g.n1, g.n4, by rw [scaled_len]; exact g.l1, by rw [scaled_len]; exact g.l3, fun t ht => ?_⟩
  obtain ⟨k, hk, rfl⟩ := List.mem_map.mp ht
  have hk : k < ts.length := List.mem_range.mp hk
  have la := lot_at g.sq hk
  have s := sq_scT (c := zs.getD k 0) la.2
  have b : Bd (1000 * 1000) (scT (zs.getD k 0) (ts.getD k [])) := bd_scT la.2 (hb _ la.1) (by
    by_cases hi : k < zs.length
    · rw [getD_lt hi]
      exact hz _ (List.getElem_mem hi)
    · rw [List.getD_eq_getElem?_getD, List.getElem?_eq_none (by omega)]
      exact Nat.zero_le _)
  exact ⟨s.len, fun r hr => ⟨s.row r hr, fun x hx => b r hr x hx⟩⟩
theorem dec_big {k : Nat} (h : k ≤ 1000) : dec k ≤ big := by
  refine Nat.le_trans ?_ (big_ge (k := 4 * k) (by omega))
  unfold dec
  rw [Nat.pow_mul]
  exact Nat.pow_le_pow_left (by decide) k
theorem trc_decZ {n : Nat} {ts : List Tb} (g : Good n ts) {wd : List Nat} (hw : Word ts wd) : (trc n (prodT n ts wd)).natAbs ≤ dec (7 * wd.length + 1) := by
  refine Nat.le_trans (trc_abs (sq_prod _) (g.decw hw)) ?_
  have n4 := g.n4
  unfold dec
  rw [Nat.pow_succ, Nat.mul_comm]
  exact Nat.mul_le_mul_left _ (by omega)
theorem bys_big {zs : List Int} (h : ∀ z ∈ zs, z.natAbs ≤ 1000) {w : List Nat} (hw : w.length ≤ 40) : (bysP zs w).natAbs ≤ big := by
  refine Nat.le_trans (bys_abs h w) ?_
  have e : 1000 ^ w.length = dec (3 * w.length) := by
    unfold dec
    rw [Nat.pow_mul]
  rw [e]
  exact dec_big (by omega)
end Wk
namespace Wk
open PySem PySem.Spec L2
section
variable {K : PySem.W.Frag} {w : Wd} {σ : St} {F H : Hp} {ta te tm : TE} {tr : TA}
/-- items all of one kind -/
theorem eraS_nil {S : PyData → Prop} : ERA K w tNil σ F fun ds => ds.length = 0 ∧ ∀ d ∈ ds, S d := ea_nil fun _ => ⟨[], ⟨rfl, fun _ h => nomatch h⟩, .nil⟩
theorem eraS_cons {S : PyData → Prop} {n : Nat} (ha : ER K w ta σ F S) (hb : ∀ F1, Same F F1 → ERA K w tr σ F1 fun ds => ds.length = n ∧ ∀ d ∈ ds, S d) : ERA K w (tCons ta tr) σ F fun ds => ds.length = n + 1 ∧ ∀ d ∈ ds, S d :=
  ea_cons (B := fun _ vs F' => ∃ ds, (ds.length = n ∧ ∀ d ∈ ds, S d) ∧ RpA K F' vs ds) ha (fun x F1 e1 _ => hb F1 e1) fun x xs F1 F2 _ ⟨d, r1, rx⟩ e2 ⟨ds, r2, rs⟩ => ⟨d :: ds, ⟨by rw [List.length_cons, r2.1], fun y hy => by
    rcases List.mem_cons.mp hy with rfl | hy
    · exact r1
    · exact r2.2 y hy⟩, .cons (rx.mono e2) rs⟩
end
end Wk
set_option Elab.async false
set_option linter.all false
set_option maxRecDepth 100000
set_option maxHeartbeats 2000000
/-! Tl: what is a table, what is wrong with tables; values nested and wide to some measure; repr of any value -/
theorem L2H.RoomH.units {k : Nat} {A : PySem.Around} (r : L2H.RoomH k A) : A.units + 64 < PySem.cLine := by have := r.un; omega
namespace Wk
open PySem PySem.Spec Lt
open L2 hiding St
/-! ### repr of any value -/
def rReprV (K : PySem.W.Frag) : List V → Hp → VK → Prop := fun xs H Q => ∃ v d, xs = [v] ∧ Rp K H v d ∧ Shows d ∧ Q (.str d.shown) H
theorem cG_reprV {X : Cx} (K : PySem.W.Frag) (hK : X.K = K) (hu : X.A.units + 64 < cLine) (hg : X.A.guards = some []) : CallR X (.builtin "repr") (rReprV K) := by
  subst hK
  intro pins s σ H xs us Q I r h
  obtain ⟨v, d, rfl, rp, sw, q⟩ := h
  cases r with
  | cons r1 r2 =>
    cases r2
    have hsh := sw.sh
    have hsz := sw.sz
    have ref : ∀ {a : Addr}, Rp X.K H (.ref a) d → wpAny (model X.prog X.w) X.A (call (.builtin "repr") [.ref a]) (EP X pins σ Q) X.xe s := fun {a} rp => by
      obtain ⟨as, rd⟩ := Rp.reads I d _ (.ref a) rp rfl sw.nd
      have := sw.dp
      exact repr_of_reads' rd sw.sh (PyData.noDict_hsm sw.nd) hg (by omega) (fun _ _ e => e) (fun h' u tk k => ⟨.str d.shown, H, I.kept k, ⟨u, rfl⟩, q⟩) sw.sz
    cases rp with
    | non =>
      cases r1
      exact PySem.P.repr_of_none ⟨.str _, H, I.tok _, ⟨_, rfl⟩, q⟩
    | bl b =>
      cases r1
      exact PySem.P.repr_of_bool ⟨.str (if b then "True" else "False"), H, I.tok _, ⟨_, rfl⟩, q⟩
    | int i =>
      obtain ⟨t, rfl⟩ := r1
      exact PySem.P.repr_of_int (of_decide_eq_true hsh) ⟨.str _, H, I.tok _, ⟨_, rfl⟩, q⟩
    | str x =>
      obtain ⟨t, rfl⟩ := r1
      exact PySem.P.repr_of_str ⟨.str _, H, I.tok _, ⟨_, rfl⟩, q⟩ hsz
    | lst h a =>
      cases r1
      exact ref (.lst h a)
    | tup h a =>
      cases r1
      exact ref (.tup h a)
    | dct h a =>
      cases r1
      exact ref (.dct h a)
section
variable {K : PySem.W.Frag} {F : Hp} {w : Wd} {σ : L2.St} {ta tb : TE}
theorem ed_reprV {d : PyData} (ha : ED K w ta σ F d) (sw : Shows d) : ED K w (tCB (rReprV K) (tCons ta tNil)) σ F (.str d.shown) :=
  ed_cb1 ha fun x F' H k r => ⟨.str d.shown, fun Q q => ⟨x, d, rfl, r.mono k.e, sw, q⟩, .str _⟩
theorem ed_eqEL {ds : List PyData} (ha : ED K w ta σ F (.list ds)) (hb : ED K w tb σ F (.list [])) : ED K w (tOp (rEqE K) ta tb) σ F (.bool (decide (ds.length = 0))) :=
  ed_op ha hb fun x y F' H k p q => ⟨.bl _, fun Q z => ⟨ds.length, emp_ofL k p q, z⟩, .bl _⟩
theorem ed_lst0 : ED K w (tLst tNil) σ F (.list []) := ed_lst eda_nil (Nat.zero_le _)
theorem ed_tup0 : ED K w (tTup tNil) σ F (.tuple []) := ed_tup eda_nil (Nat.zero_le _)
end
/-! ### tables among any values -/
def isTab : PyData → Bool
  | .tuple ds => (decide (1 ≤ ds.length) && decide (ds.length ≤ 4)) && ds.all fun r => isRow r ds.length
  | _ => false
def lenT : PyData → Nat
  | .tuple ds => ds.length
  | _ => 0
def badAt (d0 : PyData) (i : Nat) (d : PyData) : Bool := decide (i = 3) || (!isTab d || !decide (lenT d = lenT d0))
def fstBad (d0 : PyData) : Nat → List PyData → Option Nat
  | _, [] => none
  | i, d :: ds => if badAt d0 i d = true then some i else fstBad d0 (i + 1) ds
/-- what InvalidTables tells of it; none for a lot's tables -/
def tabsErr : PyData → Option PyData
  | .tuple [] => some .none
  | .tuple (d :: ds) => (fstBad d 0 (d :: ds)).map fun i : Nat => PyData.int (i : Int)
  | _ => some .none
theorem fstBad_none {d0 : PyData} : ∀ {ds : List PyData} {i : Nat}, fstBad d0 i ds = none → ∀ j d, ds[j]? = some d → badAt d0 (i + j) d = false
  | [], _, _ => fun j d h => by simp at h
  | e :: ds, i, h => by
    unfold fstBad at h
    split at h
    · cases h
    · rename_i hb
      intro j d hj
      cases j with
      | zero =>
        simp at hj
        subst hj
        exact Bool.eq_false_iff.mpr hb
      | succ j =>
        have := fstBad_none h j d (by simpa using hj)
        rw [show i + (j + 1) = i + 1 + j by omega]
        exact this
theorem fstBad_at {d0 : PyData} : ∀ {ds : List PyData} {i j : Nat} {d : PyData}, (∀ k e, k < j → ds[k]? = some e → badAt d0 (i + k) e = false) → ds[j]? = some d → badAt d0 (i + j) d = true → fstBad d0 i ds = some (i + j)
  | [], _, _, _ => fun _ h => by simp at h
  | e :: ds, i, j, d => fun hb hj ht => by
    unfold fstBad
    cases j with
    | zero =>
      simp at hj
      subst hj
      rw [if_pos (show badAt d0 i e = true from ht)]
      rfl
    | succ j =>
      rw [if_neg (show ¬ badAt d0 i e = true by rw [show badAt d0 i e = false from hb 0 e (Nat.succ_pos _) (by simp)]; exact Bool.false_ne_true), fstBad_at (j := j) (d := d) (fun k x hk hx => by
        have := hb (k + 1) x (Nat.succ_lt_succ hk) (by simpa using hx)
        rw [show i + 1 + k = i + (k + 1) by omega]
        exact this) (by simpa using hj) (by rw [show i + 1 + j = i + (j + 1) by omega]; exact ht)]
      congr 1
      omega
theorem fstBad_all {d0 : PyData} : ∀ {ds : List PyData} {i : Nat}, (∀ k e, ds[k]? = some e → badAt d0 (i + k) e = false) → fstBad d0 i ds = none
  | [], _, _ => rfl
  | e :: ds, i, hb => by
    unfold fstBad
    rw [if_neg (show ¬ badAt d0 i e = true by rw [show badAt d0 i e = false from hb 0 e (by simp)]; exact Bool.false_ne_true)]
    exact fstBad_all fun k x hx => by
      have := hb (k + 1) x (by simpa using hx)
      rw [show i + 1 + k = i + (k + 1) by omega]
      exact this
theorem num_of {d : PyData} (h : isNum d = true) : ∃ i : Int, d = .int i ∧ i.natAbs ≤ 1000000 := by
  cases d <;> first | cases h | skip
  rename_i i
  have := (Bool.and_eq_true _ _).mp h
  exact ⟨i, rfl, by have h1 := of_decide_eq_true this.1; have h2 := of_decide_eq_true this.2; omega⟩
theorem each_ex {α : Type} {f : α → PyData} {P : α → Prop} : ∀ {ds : List PyData}, (∀ d ∈ ds, ∃ x, d = f x ∧ P x) → ∃ xs : List α, ds = xs.map f ∧ ∀ x ∈ xs, P x
  | [], _ => ⟨[], rfl, fun _ h => nomatch h⟩
  | d :: ds, h => by
    obtain ⟨x, rfl, hx⟩ := h d (List.mem_cons_self ..)
    obtain ⟨xs, rfl, hxs⟩ := each_ex fun y hy => h y (List.mem_cons_of_mem _ hy)
    exact ⟨x :: xs, rfl, fun y hy => (List.mem_cons.mp hy).elim (fun z => z ▸ hx) (hxs y)⟩
theorem row_of {d : PyData} {n : Nat} (h : isRow d n = true) : ∃ r : List Int, d = encR r ∧ GoodR n r := by
  cases d <;> first | cases h | skip
  rename_i ds
  obtain ⟨h1, h2⟩ := (Bool.and_eq_true _ _).mp h
  have h1 := of_decide_eq_true h1
  obtain ⟨r, rfl, hr⟩ := each_ex (f := PyData.int) fun d hd => num_of (List.all_eq_true.mp h2 d hd)
  rw [List.length_map] at h1
  exact ⟨r, rfl, by omega, hr⟩
theorem tab_of {d : PyData} (h : isTab d = true) : ∃ t : List (List Int), d = encT t ∧ 1 ≤ t.length ∧ t.length ≤ 4 ∧ GoodT t.length t := by
  cases d <;> first | cases h | skip
  rename_i ds
  obtain ⟨h1, h2⟩ := (Bool.and_eq_true _ _).mp h
  obtain ⟨h3, h4⟩ := (Bool.and_eq_true _ _).mp h1
  have h3 := of_decide_eq_true h3
  have h4 := of_decide_eq_true h4
  obtain ⟨t, rfl, ht⟩ := each_ex (f := encR) fun d hd => row_of (List.all_eq_true.mp h2 d hd)
  rw [List.length_map] at h3 h4 ht
  exact ⟨t, rfl, h3, h4, rfl, ht⟩
theorem lenT_enc (t : List (List Int)) : lenT (encT t) = t.length := List.length_map ..
/-- no error: a lot's tables -/
theorem good_of {d : PyData} (h : tabsErr d = none) : ∃ n ts, Good n ts ∧ d = encTs ts := by
  cases d <;> first | cases h | skip
  rename_i ds
  cases ds with
  | nil => cases h
  | cons d0 ds =>
    have hn : fstBad d0 0 (d0 :: ds) = none := by
      cases e : fstBad d0 0 (d0 :: ds) with
      | none => rfl
      | some i =>
        have h' : (fstBad d0 0 (d0 :: ds)).map (fun i : Nat => PyData.int (i : Int)) = none := h
        rw [e] at h'
        cases h'
    have hb := fstBad_none hn
    have each : ∀ j d, (d0 :: ds)[j]? = some d → j ≠ 3 ∧ isTab d = true ∧ lenT d = lenT d0 := fun j d hj => by
      have := hb j d hj
      unfold badAt at this
      rw [Bool.or_eq_false_iff, Bool.or_eq_false_iff] at this
      obtain ⟨z1, z2, z3⟩ := this
      exact ⟨by have := of_decide_eq_false z1; omega, by simpa using z2, by simpa using z3⟩
    have hl : (d0 :: ds).length ≤ 3 := by
      refine Nat.le_of_not_lt fun z => ?_
      exact (each 3 _ (List.getElem?_eq_getElem z)).1 rfl
    obtain ⟨ts, hts, ht⟩ := each_ex (f := encT) (ds := d0 :: ds) (P := fun t => 1 ≤ t.length ∧ t.length ≤ 4 ∧ GoodT t.length t ∧ t.length = lenT d0) fun d hd => by
      obtain ⟨j, hj⟩ := List.getElem?_of_mem hd
      obtain ⟨_, z2, z3⟩ := each j d hj
      obtain ⟨t, rfl, a1, a2, a3⟩ := tab_of z2
      exact ⟨t, rfl, a1, a2, a3, by rw [← lenT_enc]; exact z3⟩
    have lts : ts.length = (d0 :: ds).length := by rw [hts, List.length_map]
    have h0 : 0 < ts.length := by rw [lts]; exact Nat.succ_pos _
    have p0 := ht _ (List.getElem_mem h0)
    refine ⟨lenT d0, ts, ⟨by rw [← p0.2.2.2]; exact p0.1, by rw [← p0.2.2.2]; exact p0.2.1, h0, by rw [lts]; exact hl, fun t hm => ?_⟩, congrArg PyData.tuple hts⟩
    have p := ht t hm
    have := p.2.2.1
    rw [p.2.2.2] at this
    exact this
theorem isRow_enc {n : Nat} {r : List Int} (g : GoodR n r) : isRow (encR r) n = true := by
  show (decide ((((r.map PyData.int).length : Nat) : Int) = (n : Int)) && (r.map PyData.int).all isNum) = true
  rw [List.length_map, g.len, decide_eq_true rfl, List.all_map]
  exact List.all_eq_true.mpr fun i hi => by
    have z := g.le i hi
    show (decide (-1000000 ≤ i) && decide (i ≤ 1000000)) = true
    rw [decide_eq_true (by omega), decide_eq_true (by omega)]
    rfl
theorem isTab_enc {n : Nat} {t : List (List Int)} (h1 : 1 ≤ n) (h4 : n ≤ 4) (g : GoodT n t) : isTab (encT t) = true := by
  show ((decide (1 ≤ (t.map encR).length) && decide ((t.map encR).length ≤ 4)) && (t.map encR).all fun r => isRow r (((t.map encR).length : Nat) : Int)) = true
  rw [List.length_map, g.len, decide_eq_true h1, decide_eq_true h4, List.all_map]
  exact List.all_eq_true.mpr fun r hr => isRow_enc (g.row r hr)
theorem tabsErr_good {n : Nat} {ts : List (List (List Int))} (g : Good n ts) : tabsErr (encTs ts) = none := by
  cases ts with
  | nil => exact absurd g.l1 (by decide)
  | cons t0 tr =>
    show (fstBad (encT t0) 0 (encT t0 :: tr.map encT)).map (fun i : Nat => PyData.int (i : Int)) = none
    rw [show encT t0 :: tr.map encT = (t0 :: tr).map encT from rfl, fstBad_all (d0 := encT t0) (i := 0) fun k e hk => ?_]
    · rfl
    · rw [List.getElem?_map] at hk
      cases hx : (t0 :: tr)[k]? with
      | none => rw [hx] at hk; cases hk
      | some t =>
        rw [hx] at hk
        cases hk
        have gt := g.tab t (List.mem_of_getElem? hx)
        have g0 := g.tab t0 (List.mem_cons_self ..)
        have hk3 : k < 3 := Nat.lt_of_lt_of_le (List.getElem?_eq_some_iff.mp hx).1 g.l3
        unfold badAt
        rw [isTab_enc g.n1 g.n4 gt, lenT_enc, lenT_enc, gt.len, g0.len, decide_eq_false (by omega), decide_eq_true rfl]
        rfl
/-! ### how deep, how wide -/
/-- tuples within tuples at most k deep, each with at most m items -/
def wfB (m : Nat) : Nat → PyData → Bool
  | 0, .tuple _ => false
  | k + 1, .tuple ds => decide (ds.length ≤ m) && ds.all (wfB m k)
  | _, _ => true
theorem wf_tup {m k : Nat} {ds : List PyData} (h : wfB m k (.tuple ds) = true) : ∃ j, k = j + 1 ∧ ds.length ≤ m ∧ ∀ d ∈ ds, wfB m j d = true := by
  cases k with
  | zero => cases h
  | succ j =>
    obtain ⟨h1, h2⟩ := (Bool.and_eq_true _ _).mp (show (decide (ds.length ≤ m) && ds.all (wfB m j)) = true from h)
    exact ⟨j, rfl, of_decide_eq_true h1, List.all_eq_true.mp h2⟩
theorem wf_mk {m k : Nat} {ds : List PyData} (h1 : ds.length ≤ m) (h2 : ∀ d ∈ ds, wfB m k d = true) : wfB m (k + 1) (.tuple ds) = true := by
  show (decide (ds.length ≤ m) && ds.all (wfB m k)) = true
  rw [decide_eq_true h1]
  exact List.all_eq_true.mpr h2
theorem wf_atom {m k : Nat} {d : PyData} (h : isTup d = false) : wfB m k d = true := by
  cases d <;> first | (cases h; done) | (cases k <;> (unfold wfB; rfl)) | (cases k <;> simp [wfB])
theorem wf_mono {m m' : Nat} (hm : m ≤ m') : ∀ {k k' : Nat} {d : PyData}, k ≤ k' → wfB m k d = true → wfB m' k' d = true := by
  intro k
  induction k with
  | zero =>
    intro k' d _ h
    refine wf_atom ?_
    cases d <;> first | rfl | cases h
  | succ k ih =>
    intro k' d hk h
    by_cases ht : isTup d = true
    · obtain ⟨ds, rfl⟩ : ∃ ds, d = .tuple ds := by cases d <;> first | exact ⟨_, rfl⟩ | cases ht
      obtain ⟨j, e, h1, h2⟩ := wf_tup h
      cases e
      obtain ⟨k2, rfl⟩ : ∃ k2, k' = k2 + 1 := ⟨k' - 1, by omega⟩
      exact wf_mk (by omega) fun d hd => ih (by omega) (h2 d hd)
    · exact wf_atom (Bool.eq_false_iff.mpr ht)
theorem wf_encR {m k : Nat} (r : List Int) (h : r.length ≤ m) : wfB m (k + 1) (encR r) = true := wf_mk (by rw [List.length_map]; exact h) fun d hd => by
  obtain ⟨i, _, rfl⟩ := List.mem_map.mp hd
  exact wf_atom rfl
theorem wf_encT {m k n : Nat} {t : List (List Int)} (g : GoodT n t) (h : n ≤ m) : wfB m (k + 2) (encT t) = true := wf_mk (by rw [List.length_map, g.len]; exact h) fun d hd => by
  obtain ⟨r, hr, rfl⟩ := List.mem_map.mp hd
  exact wf_encR r (by rw [(g.row r hr).len]; exact h)
/-- rows among the parts of a value are no wider -/
theorem wf_rows {m k : Nat} {d : PyData} (h : wfB m k d = true) : ∀ ds, d = .tuple ds → ds.length ≤ m ∧ ∀ r ∈ ds, ∀ es, r = .tuple es → es.length ≤ m := by
  rintro ds rfl
  obtain ⟨j, _, h1, h2⟩ := wf_tup h
  refine ⟨h1, fun r hr es he => ?_⟩
  subst he
  obtain ⟨_, _, h3, _⟩ := wf_tup (h2 _ hr)
  exact h3
end Wk
set_option Elab.async false
set_option linter.all false
set_option maxRecDepth 100000
set_option maxHeartbeats 2000000
/-! Tm: lots made of any values -/
namespace Wk
open PySem PySem.Spec Lt
open L2 hiding St
/-- an error of the class at C whose field f is e -/
def ErrF (C : Addr) (f : Str) (K : PySem.W.Frag) (e : PyData) : PErr := fun c d F => c = .ref C ∧ ∃ v, F d = some (.xd [(f, v)]) ∧ Rp K F v e
abbrev ErrT (C : Addr) (K : PySem.W.Frag) (e : PyData) : PErr := ErrF C "index" K e
/-- values whose parts are not too wide -/
def Lens (d : PyData) : Prop := ∀ ds, d = .tuple ds → ds.length ≤ 20000 ∧ ∀ r ∈ ds, ∀ es, r = .tuple es → es.length ≤ 20000 ∧ ∀ s ∈ es, ∀ fs, s = .tuple fs → fs.length ≤ 20000
theorem lens_of {m k : Nat} {d : PyData} (hm : m ≤ 20000) (h : wfB m k d = true) : Lens d := by
  rintro ds rfl
  obtain ⟨j, _, h1, h2⟩ := wf_tup h
  refine ⟨by omega, fun r hr es he => ?_⟩
  subst he
  obtain ⟨i, _, h3, h4⟩ := wf_tup (h2 _ hr)
  refine ⟨by omega, fun s hs fs hf => ?_⟩
  subst hf
  obtain ⟨_, _, h5, _⟩ := wf_tup (h4 _ hs)
  omega
theorem lens_good {n : Nat} {ts : List (List (List Int))} (g : Good n ts) : Lens (encTs ts) := by
  have n4 := g.n4
  have l3 := g.l3
  rintro ds h
  cases h
  refine ⟨by rw [List.length_map]; omega, fun r hr es he => ?_⟩
  obtain ⟨t, ht, rfl⟩ := List.mem_map.mp hr
  have gt := g.tab t ht
  cases he
  refine ⟨by rw [List.length_map, gt.len]; omega, fun s hs fs hf => ?_⟩
  obtain ⟨rw', hrw, rfl⟩ := List.mem_map.mp hs
  cases hf
  rw [List.length_map, (gt.row rw' hrw).len]
  omega
theorem errF_mono {C : Addr} {f : Str} {K : PySem.W.Frag} {e : PyData} {c : Value} {d : Addr} {F F' : Hp} (h : Same F F') (p : ErrF C f K e c d F) : ErrF C f K e c d F' := ⟨p.1, p.2.imp fun v z => ⟨h _ _ z.1, z.2.mono h⟩⟩
theorem isTab_tup {d : PyData} (h : isTab d = true) : ∃ ds, d = .tuple ds := by
  cases d <;> first | exact ⟨_, rfl⟩ | cases h
abbrev spChk (K : PySem.W.Frag) (C : Addr) : Sp := spX (ι := PyData) (fun d vs F => RpA K F vs [d] ∧ Lens d) (fun d v _ => tabsErr d = none ∧ v = .non) (fun d c dd F' => ∃ e, tabsErr d = some e ∧ ErrT C K e c dd F')
abbrev LotX := PyData × LotI
abbrev preLotX (K : PySem.W.Frag) : LotX → List V → Hp → Prop := fun i ws F => ∃ tv, ws = [tv] ∧ Rp K F tv i.1 ∧ Lens i.1 ∧ (tabsErr i.1 = none → i.1 = encTs i.2.2 ∧ Good i.2.1 i.2.2)
/-- Lot.__init__, of any value -/
abbrev spLotI (K : PySem.W.Frag) (C CE : Addr) : Sp := spIX C (preLotX K) (fun i ws => fsLot i.2 ws) (fun i => tabsErr i.1 = none) (fun i c dd F' => ∃ e, tabsErr i.1 = some e ∧ ErrT CE K e c dd F')
/-- a lot of the tables d -/
def IsLotD (K : PySem.W.Frag) (C : Addr) (d : PyData) (v : V) (F : Hp) : Prop := ∃ n ts, d = encTs ts ∧ Good n ts ∧ IsLot K C n ts v F
abbrev RTab (K : PySem.W.Frag) (CE : Addr) (d : PyData) : PErr := fun c dd F' => ∃ e, tabsErr d = some e ∧ ErrT CE K e c dd F'
section
variable {K : PySem.W.Frag} {C CE : Addr} {v : V} {F F' H : Hp} {w : Wd} {σ : L2.St} {ta : TE} {tr : TA} {E E2 : XK} {d : PyData}
theorem lot_pick (d : PyData) : ∃ i : LotI, tabsErr d = none → d = encTs i.2 ∧ Good i.1 i.2 := by
  by_cases h : tabsErr d = none
  · obtain ⟨n, ts, g, e⟩ := good_of h
    exact ⟨(n, ts), fun _ => ⟨e, g⟩⟩
  · exact ⟨(0, []), fun z => (h z).elim⟩
theorem ex_mkLot (ha : EDA K w tr σ F [d]) (hl : Lens d) : EXe w (tMake C (spLotI K C CE) [] E tr) E σ F (IsLotD K C d) (RTab K CE d) := by
  obtain ⟨i, hi⟩ := lot_pick d
  refine ex_make ha (fun _ _ => (d, i)) (fun ws F1 _ p => ?_) (fun ws F1 x dx F2 _ p hok e2 hx => ?_) fun ws F1 c dd F2 _ _ _ h => h
  · cases p with
    | cons r m =>
      cases m
      exact ⟨_, rfl, r, hl, hi⟩
  · cases p with
    | cons r m =>
      cases m
      obtain ⟨e, g⟩ := hi hok
      subst e
      exact ⟨i.1, i.2, rfl, g, x, dx, _, rfl, upd_same, (r.mono e2).mono (same_new hx)⟩
theorem ex_mkLotK (ha : EDA K w tr σ F [d]) (hl : Lens d) : EXe w (tMakeK C 0 1 (spLotI K C CE) (fun us ws => us ++ ws) E tNil tr) E σ F (IsLotD K C d) (RTab K CE d) := by
  obtain ⟨i, hi⟩ := lot_pick d
  refine ex_makeK ha (fun ws F1 p => by rw [p.len]; rfl) (fun _ _ _ => rfl) (fun _ _ => (d, i)) (fun ws F1 _ p => ?_) (fun ws F1 x dx F2 _ p hok e2 hx => ?_) fun ws F1 c dd F2 _ _ _ h => h
  · cases p with
    | cons r m =>
      cases m
      exact ⟨_, rfl, r, hl, hi⟩
  · cases p with
    | cons r m =>
      cases m
      obtain ⟨e, g⟩ := hi hok
      subst e
      exact ⟨i.1, i.2, rfl, g, x, dx, _, rfl, upd_same, (r.mono e2).mono (same_new hx)⟩
theorem ex_lotProp {f : Nat → List (List (List Int)) → PyData} {R : PErr} {P : V → Hp → Prop} (ha : EXe w ta E σ F (IsLotD K C d) R) (hp : ∀ n ts v F', d = encTs ts → Good n ts → Rp K F' v (f n ts) → P v F') : EXe w (tProp C (spL K C f) [] E2 ta) E σ F P R := fun F1 H1 e k Q q r =>
  ha F1 H1 e k _ (fun x F2 H2 g2 k2 p => by
    obtain ⟨n, ts, hd, g, l⟩ := p
    obtain ⟨a, dx, tv, rfl, h1, _⟩ := id l
    exact ⟨a, dx, _, rfl, k2.e _ _ h1, F2, (n, ts), k2.e, ⟨_, rfl, l, g⟩, fun v F3 H3 g3 p3 => q v F3 H3 (g2.trans g3.up) (k2.pure g3) (hp n ts v F3 hd g p3)⟩) r
/-- .. which are its tables -/
theorem ex_lotTabs {R : PErr} (ha : EXe w ta E σ F (IsLotD K C d) R) : EXe w (tProp C (spL K C fun _ ts => encTs ts) [] E2 ta) E σ F (fun v F' => tabsErr d = none ∧ Rp K F' v d) R :=
  ex_lotProp ha fun n ts v F' e g p => by
    subst e
    exact ⟨tabsErr_good g, p⟩
theorem IsLotD.err {F' : Hp} (h : IsLotD K C d v F') : tabsErr d = none := by
  obtain ⟨n, ts, rfl, g, _⟩ := h
  exact tabsErr_good g
end
end Wk
set_option Elab.async false
set_option linter.all false
set_option maxRecDepth 100000
set_option maxHeartbeats 4000000
/-! Zs7: tuple * int from 0 on -/
namespace L2
open PySem PySem.Spec PyProof.Rows
theorem tuple_mulW0 (l : Addr) (items : Array Value) (n : Nat) (dd : Option Addr) (sl : Array (Option Value)) (x : Int) (u : Tok) (c0 : (decide (x < -(2 ^ 63)) || decide (x ≥ 2 ^ 63)) = false) (c1 : (items.isEmpty || x == 1) = false) (c2 : (decide (x ≤ 0) || items.isEmpty) = true) :
    Meets (Builtin.«tuple.__mul__» ⟨[.ref l, .int x u], []⟩) (fun _ R s => s.heap.get? l = some { cls := .type "tuple", dict := dd, data := .seq items n, slots := sl } ∧
      R (.ok (.ret (Value.ref s.heap.objs.size))) { s with heap := s.heap.push { cls := Value.type "tuple", data := Data.seq #[] }, toks := s.toks }) :=
  .of_wp fun prog w A R s h => by
    obtain ⟨hp, g, d, tk, os⟩ := s
    obtain ⟨hl, h⟩ := h
    have f1 := AutoSeq1.idx_int
    wp_walk using wpAny_loadPart' hl
    repeat (first
      | (refine wpAny_ite_false (decide_eq_false (by rw [c0]; exact Bool.false_ne_true)) ?_; wp_walk using wpAny_loadPart' hl)
      | (refine wpAny_ite_false (decide_eq_false (by rw [c1]; exact Bool.false_ne_true)) ?_; wp_walk using wpAny_loadPart' hl)
      | (refine wpAny_ite_true (decide_eq_true c2) ?_; wp_walk using wpAny_loadPart' hl)
      | (refine wpAny_ite_false (decide_eq_false (by decide)) ?_; wp_walk using wpAny_loadPart' hl))
    exact ⟨_, rfl, h⟩
theorem tuple_mulW1 (l : Addr) (items : Array Value) (n : Nat) (dd : Option Addr) (sl : Array (Option Value)) (u : Tok) :
    Meets (Builtin.«tuple.__mul__» ⟨[.ref l, .int 1 u], []⟩) (fun _ R s => s.heap.get? l = some { cls := .type "tuple", dict := dd, data := .seq items n, slots := sl } ∧
      R (.ok (.ret (Value.ref l))) s) :=
  .of_wp fun prog w A R s h => by
    obtain ⟨hp, g, d, tk, os⟩ := s
    obtain ⟨hl, h⟩ := h
    have f1 := AutoSeq1.idx_int
    have c1 : (items.isEmpty || (1 : Int) == 1) = true := by rw [show ((1 : Int) == 1) = true from rfl, Bool.or_true]
    wp_walk using wpAny_loadPart' hl
    repeat (first
      | (refine wpAny_ite_false (decide_eq_false (by decide)) ?_; wp_walk using wpAny_loadPart' hl)
      | (refine wpAny_ite_true (decide_eq_true c1) ?_; wp_walk using wpAny_loadPart' hl)
      | (refine wpAny_ite_true rfl ?_; wp_walk using wpAny_loadPart' hl))
    exact ⟨_, rfl, h⟩
end L2
namespace L2
open PySem PySem.Spec PyProof.Rows
def rRepA (K : PySem.W.Frag) : R2 := fun x y H Q => ∃ l k xs, x = .ref l ∧ y = .int k ∧ SqT K H l xs ∧ xs ≠ [] ∧ 0 ≤ k ∧ k ≤ 1000 ∧ xs.length ≤ 1000 ∧ (k = 1 → Q (.ref l) H) ∧ (k ≠ 1 → ∀ p, H p = none → Q (.ref p) (upd H p (.tup (List.replicate k.toNat xs).flatten)))
section
variable {X : Cx}
theorem op_repA : OpR X (binaryOp .Mult) (rRepA X.K) := by
  intro pins s σ H x y v u Q I rx ry h
  obtain ⟨l, k, xs, rfl, rfl, hT, hne, h1, h2, hz, q1, q⟩ := h
  by_cases hk : 2 ≤ k
  · exact op_repT pins s σ H _ _ v u Q I rx ry ⟨l, k, xs, rfl, rfl, hT, hne, hk, h2, hz, q (by omega)⟩
  cases rx
  obtain ⟨t, rfl⟩ := ry
  obtain ⟨its, r, ⟨⟨cls, dd, data, sl⟩, ho, hc, n, hd⟩, hs⟩ := I.tuple hT
  simp only at hc hd
  subst hc hd
  have hle : its.length = xs.length := r.length.symm
  have hn : its ≠ [] := fun e => hne (by
    rw [e] at hle
    exact List.eq_nil_of_length_eq_zero hle.symm)
  have hi : its.toArray.isEmpty = false := by
    cases its with
    | nil => exact absurd rfl hn
    | cons a b => rfl
  by_cases hk1 : k = 1
  · subst hk1
    refine wpAny_binaryOp_repeat_ref (T := "tuple") (U := "int") (by decide) ⟨_, ho, rfl⟩ (fun s' => typeIs_int s' 1 t) noFill_tuple_mul F.fills_int_mul F.slot_int_rmul repeat_tuple F.slot_int_index.lookup
      (call_meets F.slot_int_rmul (typeIs_int s 1 t) F.entry_int_rmul (F.args_int_rmul_2 _ _) (int_rmul_tuple 1 t l its.toArray n dd sl)
        ⟨ho, rfl, ⟨_, ho, rfl⟩, call_meets F.slot_tuple_mul ⟨_, ho, rfl⟩ F.entry_tuple_mul (F.args_tuple_mul_2 _ _) (tuple_mulW1 l its.toArray n dd sl t) ⟨ho, ?_⟩⟩)
    exact ⟨.ref l, H, I, rfl, q1 rfl⟩
  · have hk0 : k = 0 := by omega
    subst hk0
    refine wpAny_binaryOp_repeat_ref (T := "tuple") (U := "int") (by decide) ⟨_, ho, rfl⟩ (fun s' => typeIs_int s' 0 t) noFill_tuple_mul F.fills_int_mul F.slot_int_rmul repeat_tuple F.slot_int_index.lookup
      (call_meets F.slot_int_rmul (typeIs_int s 0 t) F.entry_int_rmul (F.args_int_rmul_2 _ _) (int_rmul_tuple 0 t l its.toArray n dd sl)
        ⟨ho, rfl, ⟨_, ho, rfl⟩, call_meets F.slot_tuple_mul ⟨_, ho, rfl⟩ F.entry_tuple_mul (F.args_tuple_mul_2 _ _) (tuple_mulW0 l its.toArray n dd sl 0 t (by decide) (by rw [hi]; rfl) (by rw [show (decide ((0 : Int) ≤ 0)) = true from rfl, Bool.true_or])) ⟨ho, ?_⟩⟩)
    refine ⟨.ref s.heap.objs.size, _, I.laid (t' := s.toks) (o := .tup []) (fun b ob q => Heap.get?_push_of_some _ q) (Nat.le_refl _) ?_, rfl, q (by decide) _ (I.hok.fresh (Nat.le_refl _))⟩
    exact ⟨Nat.zero_le _, [], .nil, IsTup.new _ _⟩
end
end L2
namespace Wk
open PySem PySem.Spec L2 Lt Mt
section
variable {X : Cx} (K : PySem.W.Frag) (hK : X.K = K)
include hK
theorem oK_repA : OpR X (binaryOp .Mult) (rRepA K) := by
  subst hK
  exact op_repA
end
section
variable {K : PySem.W.Frag} {w : Wd} {σ : St} {F : Hp} {ta tb : TE}
theorem rpA_app {xs ys : List V} {as bs : List PyData} (h : RpA K F xs as) (h2 : RpA K F ys bs) : RpA K F (xs ++ ys) (as ++ bs) := by
  induction as generalizing xs with
  | nil => cases h; exact h2
  | cons d ds ih =>
    cases h with
    | cons r a => exact .cons r (ih a)
theorem rpA_rep {xs : List V} {as : List PyData} (h : RpA K F xs as) (k : Nat) : RpA K F (List.replicate k xs).flatten (List.replicate k as).flatten := by
  induction k with
  | zero => exact .nil
  | succ k ih =>
    rw [List.replicate_succ, List.replicate_succ, List.flatten_cons, List.flatten_cons]
    exact rpA_app h ih
theorem ed_repA {ds : List PyData} {k : Nat} (ha : ED K w ta σ F (.tuple ds)) (hb : ED K w tb σ F (.int (k : Int))) (h0 : ds ≠ []) (h1 : ds.length ≤ 1000) (h2 : k ≤ 1000) : ED K w (tOp (rRepA K) ta tb) σ F (.tuple (List.replicate k ds).flatten) := fun F1 H1 e kk Q q =>
  ha F1 H1 e kk _ fun x F2 H2 g2 k2 p2 => hb F2 H2 (e.trans g2.f) k2 _ fun y F3 H3 g3 k3 p3 => by
    obtain ⟨a, xs, rfl, h, ra⟩ := rp_tup p2
    obtain rfl := rp_int p3
    refine ⟨a, k, xs, rfl, rfl, sqtM (g3.f.trans k3.e) h, fun z => h0 (List.length_eq_zero_iff.mp (by rw [← ra.len, z]; rfl)), by omega, by omega, by rw [ra.len]; exact h1, fun z => ?_, fun _ p hp => ?_⟩
    · refine q _ F3 H3 (g2.trans g3) k3 ?_
      obtain rfl : k = 1 := by omega
      rw [List.replicate_one, List.flatten_singleton]
      exact p2.mono g3.f
    · have g4 : Gr M0 F3 H3 (upd F3 p (.tup (List.replicate (k : Int).toNat xs).flatten)) (upd H3 p (.tup (List.replicate (k : Int).toNat xs).flatten)) := Gr.new k3.e hp
      refine q _ _ _ ((g2.trans g3).trans g4.up) (k3.pure g4) (.tup (.inl (.inl upd_same)) ?_)
      rw [Int.toNat_natCast]
      exact (rpA_rep ra k).mono (g3.f.trans g4.f)
end
theorem rep_one {α : Type} (k : Nat) (a : α) : (List.replicate k [a]).flatten = List.replicate k a := by
  induction k with
  | zero => rfl
  | succ k ih => rw [List.replicate_succ, List.flatten_cons, ih, List.replicate_succ]; rfl
end Wk
set_option Elab.async false
set_option linter.all false
set_option maxRecDepth 100000
set_option maxHeartbeats 1000000
/-! Zs9: popped one by one into a list, index, in, drawn slices -/
namespace Wk
theorem erase_map {α β : Type} (f : α → β) : ∀ (l : List α) (i : Nat), (l.eraseIdx i).map f = (l.map f).eraseIdx i
  | [], _ => rfl
  | _ :: _, 0 => rfl
  | a :: l, i + 1 => by
    rw [List.eraseIdx_cons_succ, List.map_cons, List.map_cons, List.eraseIdx_cons_succ, erase_map f l i]
theorem erase_perm {α : Type} : ∀ {l : List α} {i : Nat} (h : i < l.length), List.Perm (l[i] :: l.eraseIdx i) l
  | _ :: _, 0, _ => List.Perm.refl _
  | a :: l, i + 1, h => by
    rw [List.eraseIdx_cons_succ, List.getElem_cons_succ]
    exact (List.Perm.swap ..).trans ((erase_perm (Nat.lt_of_succ_lt_succ h)).cons a)
open PySem PySem.Spec L2 Lt Mt
section
variable {K : PySem.W.Frag} {w : Wd} {σ : St} {F H F0 H0 : Hp} {ta tb te tm : TE} {tr : TA} {D : Ends} {rest : TS} {i j m p : Nat}
theorem rpA_ints : ∀ (ns : List Int), RpA K F (ns.map V.int) (ns.map PyData.int)
  | [] => .nil
  | n :: ns => .cons (.int n) (rpA_ints ns)
theorem q_tup2ownL {A : V → Hp → Prop} {ds : List V} (k : w.ok F H) (ea : EV w ta σ F A) (hA : ∀ v F1 F2, Same F1 F2 → A v F1 → A v F2) (er : ∀ F1, EA w tr σ F1 fun vs _ => vs = ds) (hz : ds.length ≤ 100000)
    (q : ∀ v F' H' l, Gr w.M F H F' H' → H l = none → F' l = none → (w.add l (.lst ds)).ok F' H' → A v F' → rest D ((σ.set i (some v)).set j (some (.ref l))) H') :
    tSeq (tAsg (tTup (tCons ta (tCons (tLst tr) tNil))) (gTup K 2 (gCons (gName i) (gCons (gName j) gNil)))) rest D σ H :=
  ea F H (Same.refl F) k _ fun v F0 H0 g0 k0 p => er F0 F0 H0 (Same.refl F0) k0 _ fun vs F1 H1 g1 k1 e => ⟨by rw [e]; exact Nat.le_trans hz (by decide), fun l hl => ⟨by show 2 ≤ sizeLine; decide, fun T hT => by
    subst e
    have hF := freeF k1.e hl
    have h0 : H l = none := Classical.byContradiction fun z => (g0.trans g1).d l z hl
    have gl : Gr M0 F1 H1 F1 (upd H1 l (.lst vs)) := Gr.own k1.e hl
    have k2 : (w.add l (.lst vs)).ok F1 (upd H1 l (.lst vs)) := (k1.pure gl).plus (k1.npb hl) hF upd_same
    have gT : Gr M0 F1 (upd H1 l (.lst vs)) F1 (upd (upd H1 l (.lst vs)) T (.tup [v, .ref l])) := Gr.own k2.e hT
    exact ⟨T, [v, .ref l], rfl, .inl (.inl upd_same), rfl, v, [.ref l], rfl, .ref l, [], rfl, rfl, q v F1 _ l (((g0.trans g1).trans gl.up).trans gT.up) h0 hF (k2.pure gT) (hA v F0 F1 g1.f p)⟩⟩⟩
theorem q_pops {b l : Addr} {N : Nat} {ns : List Int} {E : XK} (hb : w.b = some b) (hp : ∀ x, ((wipe σ [j]).set j (some x))[p]? = some (some (.ref b))) (hm : ∀ x, ((wipe σ [j]).set j (some x))[m]? = some (some (.ref l)))
    (hw : ∀ x, wipe ((wipe σ [j]).set j (some x)) [j] = wipe σ [j]) (k : (w.add l (.lst (ns.map V.int))).ok F H) (hls : ∀ q ∈ w.ls, q.1 ≠ l) (hn : ns.length = N) (hN : N ≤ 100) (g : Gr w.M F0 H0 F H) (h0 : H0 l = none)
    (q : ∀ v F' H' ps, Gr w.M F0 H0 F' H' → w.ok F' H' → Same F F' → List.Perm ps ns → Rp K F' v (.list (ps.map .int)) → rest D (σ.set m (some v)) H') :
    tSeq (tAsg (tLc (iRng1 (tCons (tC (.int (N : Int))) tNil)) (gName j) tYes (tBM K "list" rPopAt (tVar m) (tCons (tCall spCast [] E (tCons (tVar p) (tCons (tCB (rLenS K) (tCons (tVar m) tNil)) tNil))) tNil)) [j]) (gName m)) rest D σ H := by
  refine ⟨(N : Int), rfl, by omega, by omega, fun Dd hD => ?_⟩
  have hD0 : H0 Dd = none := Classical.byContradiction fun z => g.d Dd z hD
  refine lc_range (lo := 0) (n := (N : Int).toNat) (fun i H' => ∃ (F1 : Hp) (acc rst : List Int), Gr w.M F0 H0 F1 H' ∧ Same F F1 ∧ ((w.add l (.lst (rst.map V.int))).add Dd (.lst (acc.map V.int))).ok F1 H' ∧ acc.length = i ∧ List.Perm (acc ++ rst) ns) ?_ ?_ ?_
  · have gD : Gr M0 F H F (upd H Dd (.lst [])) := Gr.own k.1 hD
    exact ⟨F, [], ns, g.trans gD.up, Same.refl F, (k.pure gD).plus (k.npb hD) (freeF k.1 hD) upd_same, rfl, List.Perm.refl _⟩
  · rintro i H' hi ⟨F1, acc, rst, g1, e1, kk, hl, hpm⟩
    refine ⟨hw _, ?_⟩
    simp only [tYes, if_true]
    refine ⟨.ref l, hm _, .inl ⟨rfl, _, .inl (.inl kk.sub.at.2.2)⟩, ?_⟩
    have hlen : rst.length = N - i := by
      have z := hpm.length_eq
      rw [List.length_append] at z
      omega
    have em : ED K ((w.add l (.lst (rst.map V.int))).add Dd (.lst (acc.map V.int))) (tCB (rLenS K) (tCons (tVar m) tNil)) ((wipe σ [j]).set j (some (.int (0 + (i : Nat))))) F1 (.int (rst.length : Int)) := fun F2 H2 e2 k2 Q2 q2 =>
      ⟨.ref l, hm _, l, rst.map V.int, rfl, .inl (.inl (.inl k2.sub.at.2.2)), by
        rw [List.length_map]
        exact q2 _ F2 H2 (Gr.refl k2.1) k2 (.int _)⟩
    refine ei_cast (w := (w.add l (.lst (rst.map V.int))).add Dd (.lst (acc.map V.int))) (K := K) hb (hp _) em ⟨by omega, by omega⟩ F1 H' (Same.refl F1) kk _ fun v F2 H2 g2 k2 ⟨r, er, r0, r1⟩ => ?_
    obtain ⟨c, rfl⟩ : ∃ c : Nat, r = c := ⟨r.toNat, by omega⟩
    have hc : c < rst.length := by omega
    have hne : l ≠ Dd := fun z => by
      have := k2.at.2.2
      rw [← z, k2.sub.at.2.2] at this
      have kd := kk.sub.2.2.1 (l, _) (List.mem_cons_self ..)
      exact absurd (k.nls hD (l, _) (List.mem_cons_self ..)) (fun h => h z)
    refine ⟨l, rst.map V.int, (c : Int), c, .int rst[c], rfl, by rw [er], k2.sub.at.2.2, by omega, by omega, ?_, by rw [List.getElem?_map, List.getElem?_eq_getElem hc]; rfl, ?_⟩
    · rw [List.length_map]
      unfold seqIndex?
      simp
      omega
    refine ⟨acc.map V.int, by rw [upd_ne (Ne.symm hne)]; exact k2.at.2.2, Nat.lt_of_lt_of_le (show (acc.map V.int).length < 1000 by rw [List.length_map]; omega) (by decide), F2, acc ++ [rst[c]], rst.eraseIdx c, ?_, e1.trans g2.f, ?_, by rw [List.length_append, hl]; rfl, ?_⟩
    · exact ((g1.trans g2).mut h0 k2.sub.at.2.1).mut hD0 k2.at.2.1
    · have kA := k2.sub.put (o' := .lst ((rst.map V.int).eraseIdx c)) hls
      have kB := kA.plus k2.at.1 k2.at.2.1 (o := .lst (acc.map V.int)) (by rw [upd_ne (Ne.symm hne)]; exact k2.at.2.2)
      have kC := kB.put (o' := .lst (acc.map V.int ++ [.int rst[c]])) (fun q hq => by
        rcases List.mem_cons.mp hq with rfl | hq
        · exact hne
        · exact k.sub.nls hD q hq)
      rw [List.map_append]
      rw [erase_map]
      exact kC
    · refine List.Perm.trans ?_ hpm
      rw [List.append_assoc]
      exact List.Perm.append_left acc (erase_perm hc)
  · rintro H' ⟨F1, acc, rst, g1, e1, kk, hl, hpm⟩
    have hr : rst = [] := by
      have z := hpm.length_eq
      rw [List.length_append] at z
      exact List.length_eq_zero_iff.mp (by omega)
    subst hr
    rw [List.append_nil] at hpm
    refine q _ (upd F1 Dd (.lst (acc.map V.int))) H' acc (g1.frz hD0 kk.at.2.1 kk.at.2.2) (kk.frz (fun q hq => k.nls hD (l, .lst (ns.map V.int)) (List.mem_cons_self ..) |> fun hne => by
      rcases List.mem_cons.mp hq with rfl | hq
      · exact hne
      · exact k.sub.nls hD q hq)).sub (e1.trans (same_new kk.at.2.1)) hpm (.lst upd_same ?_)
    exact rpA_ints acc
end
end Wk
namespace Wk
open PySem PySem.Spec L2 Lt Mt
section
variable {K : PySem.W.Frag} {w : Wd} {σ : St} {F H : Hp} {ta tb : TE} {R : Int → Prop}
theorem er_sliceLT {ds : List PyData} (ha : ED K w ta σ F (.list ds)) (hb : EI w tb σ F fun r => 0 ≤ r ∧ R r) : ER K w (tSl (rSlL K) ta tNoPart (tPart tb)) σ F fun d => ∃ n : Nat, R n ∧ d = .list (ds.take n) := fun F1 H1 e k Q q =>
  ha F1 H1 e k _ fun x F2 H2 g2 k2 p2 => hb F2 H2 (e.trans g2.f) k2 _ fun y F3 H3 g3 k3 ⟨r, er, r0, hr⟩ => ⟨r, er, by
    obtain ⟨n, rfl⟩ : ∃ n : Nat, r = n := ⟨r.toNat, by omega⟩
    obtain ⟨a, xs, rfl, h1, ra⟩ := rp_lst p2
    refine ⟨a, xs, rfl, rp_sqL (g3.f.trans k3.e) h1, fun p hp => ?_⟩
    have g5 : Gr M0 F3 H3 (upd F3 p (.lst (cutV xs none (some (n : Int))))) (upd H3 p (.lst (cutV xs none (some (n : Int))))) := Gr.new k3.e hp
    refine q _ _ _ ((g2.trans g3).trans g5.up) (k3.pure g5) ⟨_, ⟨n, hr, rfl⟩, ?_⟩
    rw [← cut_take]
    exact .lst upd_same ((cut_rp ra none (some (n : Int))).mono (g3.f.trans g5.f))⟩
theorem er_sliceTT {ds : List PyData} (ha : ED K w ta σ F (.tuple ds)) (hb : EI w tb σ F fun r => 0 ≤ r ∧ R r) : ER K w (tSl (rSlA K) ta tNoPart (tPart tb)) σ F fun d => ∃ n : Nat, R n ∧ d = .tuple (ds.take n) := fun F1 H1 e k Q q =>
  ha F1 H1 e k _ fun x F2 H2 g2 k2 p2 => hb F2 H2 (e.trans g2.f) k2 _ fun y F3 H3 g3 k3 ⟨r, er, r0, hr⟩ => ⟨r, er, by
    obtain ⟨n, rfl⟩ : ∃ n : Nat, r = n := ⟨r.toNat, by omega⟩
    obtain ⟨a, xs, rfl, h1, ra⟩ := rp_tup p2
    refine ⟨a, xs, rfl, sqtM (g3.f.trans k3.e) h1, fun hw => ?_, fun hw p hp => ?_⟩
    · refine q _ F3 H3 (g2.trans g3) k3 ⟨_, ⟨n, hr, rfl⟩, ?_⟩
      rw [← cut_take]
      have hd : cutD ds none (some (n : Int)) = ds := by
        unfold cutD
        rw [← ra.len, hw.1, hw.2, ra.len]
        simp
      rw [hd]
      exact .tup (sqtM g3.f h1) (ra.mono g3.f)
    · have g5 : Gr M0 F3 H3 (upd F3 p (.tup (cutV xs none (some (n : Int))))) (upd H3 p (.tup (cutV xs none (some (n : Int))))) := Gr.new k3.e hp
      refine q _ _ _ ((g2.trans g3).trans g5.up) (k3.pure g5) ⟨_, ⟨n, hr, rfl⟩, ?_⟩
      rw [← cut_take]
      exact .tup (.inl (.inl upd_same)) ((cut_rp ra none (some (n : Int))).mono (g3.f.trans g5.f))⟩
theorem flat_ints : ∀ ns : List Int, (ns.map V.int).all flatV = true
  | [] => rfl
  | _ :: ns => flat_ints ns
theorem ed_indexI {ns : List Int} {n : Int} {j : Nat} (ha : ED K w ta σ F (.list (ns.map .int))) (hb : ED K w tb σ F (.int n)) (hj : ns[j]? = some n) (hno : ∀ m, m < j → ns[m]? ≠ some n) : ED K w (tBM K "list" (rIndex K) ta (tCons tb tNil)) σ F (.int (j : Int)) := fun F1 H1 e k Q q =>
  ha F1 H1 e k _ fun x F2 H2 g2 k2 p2 => by
    obtain ⟨a, xs, rfl, h1, ra⟩ := rp_lst p2
    obtain rfl := rpA_int ra
    refine ⟨.inl ⟨rfl, _, rp_sqL k2.e h1⟩, ?_⟩
    refine hb F2 H2 (e.trans g2.f) k2 _ fun y F3 H3 g3 k3 p3 => ?_
    obtain rfl := rp_int p3
    refine ⟨a, ns.map V.int, .int n, j, .int n, rfl, rfl, rp_sqL (g3.f.trans k3.e) h1, rfl, flat_ints ns, by rw [List.getElem?_map, hj]; rfl, by simp [eqV], fun m z hm hz => ?_, q _ F3 H3 (g2.trans g3) k3 (.int _)⟩
    rw [List.getElem?_map] at hz
    obtain ⟨c, hc, rfl⟩ := Option.map_eq_some_iff.mp hz
    show (c == n) = false
    refine beq_eq_false_iff_ne.mpr fun z => hno m hm ?_
    rw [hc, z]
theorem inV_ints (n : Int) : ∀ ns : List Int, inV (.int n) (ns.map V.int) = decide (n ∈ ns)
  | [] => by simp [inV]
  | c :: ns => by
    have ih := inV_ints n ns
    unfold inV at ih ⊢
    rw [List.map_cons, List.any_cons, ih]
    show ((c == n) || decide (n ∈ ns)) = _
    by_cases h : c = n
    · subst h
      simp
    · have h' : ¬ n = c := fun z => h z.symm
      simp [h, h']
theorem eb_notInI {ns : List Int} {n : Int} (ha : ED K w ta σ F (.int n)) (hb : ED K w tb σ F (.tuple (ns.map .int))) : ED K w (tOp (rIn K true) ta tb) σ F (.bool (!decide (n ∈ ns))) := fun F1 H1 e k Q q =>
  ha F1 H1 e k _ fun x F2 H2 g2 k2 p2 => hb F2 H2 (e.trans g2.f) k2 _ fun y F3 H3 g3 k3 p3 => by
    obtain rfl := rp_int p2
    obtain ⟨a, xs, rfl, h1, ra⟩ := rp_tup p3
    obtain rfl := rpA_int ra
    refine ⟨a, ns.map V.int, rfl, .inr (sqtM k3.e h1), rfl, flat_ints ns, ?_⟩
    rw [if_pos rfl, inV_ints]
    exact q _ F3 H3 (g2.trans g3) k3 (.bl _)
end
end Wk
namespace Wk
open PySem PySem.Spec L2
section
variable {X : Cx} (K : PySem.W.Frag) (hK : X.K = K)
include hK
theorem mK_index : MtR X "list.index" (rIndex K) := by
  subst hK
  exact mt_index
end
end Wk
set_option Elab.async false
set_option linter.all false
set_option maxRecDepth 100000
set_option maxHeartbeats 1000000
/-! M12: known tables, long words -/
namespace Mt
def zer (k : Nat) : List Nat := List.replicate k 0
theorem zer_succ (k : Nat) : zer (k + 1) = zer k ++ [0] := List.replicate_succ'
theorem zer_len (k : Nat) : (zer k).length = k := List.length_replicate
theorem zer_word {ts : List Tb} (h : 0 < ts.length) (k : Nat) : Word ts (zer k) := fun i hi => by
  rw [List.eq_of_mem_replicate hi]
  exact h
theorem zer_take (k m : Nat) : (zer k).take m = zer (min m k) := List.take_replicate
def tGrow (b : Int) : Tb := [[1, b], [0, 1]]
def tDia (a b : Int) : Tb := [[a, 0], [0, b]]
def tTurn : Tb := [[0, -1], [1, 0]]
def tFall (a b : Int) : Tb := [[0, a, 0], [0, 0, b], [0, 0, 0]]
def nul3 : Tb := [[0, 0, 0], [0, 0, 0], [0, 0, 0]]
theorem grow_pow (b : Int) (k : Nat) : prodT 2 [tGrow b] (zer k) = [[1, k * b], [0, 1]] := by
  induction k with
  | zero => simp [zer, prodT, oneT, tabF, List.range_succ]
  | succ k ih =>
    rw [zer_succ, prod_snoc, ih]
    simp [tGrow, mulT, dotL, colL, List.range_succ, Int.add_mul]
    omega
theorem one_pow (a : Int) (ts : List Tb) (k : Nat) : prodT 1 ([[a]] :: ts) (zer k) = [[a ^ k]] := by
  induction k with
  | zero => simp [zer, prodT, oneT, tabF, List.range_succ]
  | succ k ih =>
    rw [zer_succ, prod_snoc, ih]
    simp [mulT, dotL, colL, List.range_succ, Int.pow_succ]
theorem one_far (a b : Int) (k : Nat) : prodT 1 [[[a]], [[b]]] (zer k ++ [1]) = [[a ^ k * b]] := by
  rw [prod_snoc, one_pow]
  simp [mulT, dotL, colL, List.range_succ]
theorem dia_pow (a b : Int) (k : Nat) : prodT 2 [tDia a b] (zer k) = [[a ^ k, 0], [0, b ^ k]] := by
  induction k with
  | zero => simp [zer, prodT, oneT, tabF, List.range_succ]
  | succ k ih =>
    rw [zer_succ, prod_snoc, ih]
    simp [tDia, mulT, dotL, colL, List.range_succ, Int.pow_succ]
theorem fall2 (a b : Int) : prodT 3 [tFall a b] [0, 0] = [[0, 0, a * b], [0, 0, 0], [0, 0, 0]] := by
  simp [tFall, prodT, mulT, dotL, colL, oneT, tabF, List.range_succ]
theorem fall3 (a b : Int) (k : Nat) : prodT 3 [tFall a b] (zer (k + 3)) = nul3 := by
  induction k with
  | zero => simp [zer, List.replicate, tFall, prodT, mulT, dotL, colL, oneT, tabF, List.range_succ, nul3]
  | succ k ih =>
    rw [zer_succ, prod_snoc, ih]
    simp [tFall, mulT, dotL, colL, List.range_succ, nul3]
def turns : List Tb := [[[1, 0], [0, 1]], [[0, -1], [1, 0]], [[-1, 0], [0, -1]], [[0, 1], [-1, 0]]]
theorem turn_pow : ∀ k, k < 41 → prodT 2 [tTurn] (zer k) = turns.getD (k % 4) [] := by decide +kernel
def bothT : List Tb := [[[0, 1], [0, 0]], [[0, 0], [1, 0]]]
def pairW : List Nat := (List.replicate 20 [0, 1]).flatten
theorem both1 : prodT 2 bothT pairW = [[1, 0], [0, 0]] := by decide +kernel
theorem both2 : prodT 2 bothT (pairW.drop 1) = [[0, 0], [1, 0]] := by decide +kernel
theorem both3 : prodT 2 bothT ([0, 0] ++ pairW.take 38) = [[0, 0], [0, 0]] := by decide +kernel
theorem both4 : trc 2 (prodT 2 bothT (pairW.drop 1 ++ [0])) = 1 := by decide +kernel
theorem pair_word : Word bothT pairW := by
  show ∀ i ∈ pairW, i < bothT.length
  decide +kernel
theorem trc1 (a : Int) : trc 1 [[a]] = a := by simp [trc, sumR, ent, List.range_succ]
theorem trc2 (a b c d : Int) : trc 2 [[a, b], [c, d]] = a + d := by simp [trc, sumR, ent, List.range_succ]
end Mt
namespace Wk
open PySem PySem.Spec L2 Lt Mt
theorem good1 {n : Nat} {ts : List Tb} (n1 : 1 ≤ n ∧ n ≤ 4) (l : 1 ≤ ts.length ∧ ts.length ≤ 3) (h : ∀ t ∈ ts, t.length = n ∧ ∀ r ∈ t, r.length = n ∧ ∀ x ∈ r, x.natAbs ≤ 1000000) : Good n ts :=
  ⟨n1.1, n1.2, l.1, l.2, fun t ht => ⟨(h t ht).1, fun r hr => ⟨((h t ht).2 r hr).1, ((h t ht).2 r hr).2⟩⟩⟩
theorem good_grow {b : Int} (h : b.natAbs ≤ 1000000) : Good 2 [tGrow b] := good1 (by decide) (by simp) (by simp [tGrow]; omega)
theorem good_one {a b : Int} (h : a.natAbs ≤ 1000000) (h2 : b.natAbs ≤ 1000000) : Good 1 [[[a]], [[b]]] := good1 (by decide) (by simp) (by simp; omega)
theorem good_dia {a b : Int} (h : a.natAbs ≤ 1000000) (h2 : b.natAbs ≤ 1000000) : Good 2 [tDia a b] := good1 (by decide) (by simp) (by simp [tDia]; omega)
theorem good_turn : Good 2 [tTurn] := good1 (by decide) (by simp) (by simp [tTurn])
theorem good_fall {a b : Int} (h : a.natAbs ≤ 1000000) (h2 : b.natAbs ≤ 1000000) : Good 3 [tFall a b] := good1 (by decide) (by simp) (by simp [tFall]; omega)
theorem good_both : Good 2 bothT := good1 (by decide) (by decide) (by simp [bothT])
theorem pow_dec {a : Int} (h : a.natAbs ≤ 1000000) (k : Nat) : (a ^ k).natAbs ≤ dec (6 * k) := by
  rw [Int.natAbs_pow]
  refine Nat.le_trans (Nat.pow_le_pow_left h k) ?_
  unfold dec
  rw [Nat.pow_mul]
  exact Nat.le_refl _
theorem pow_big {a : Int} (h : a.natAbs ≤ 1000000) {k : Nat} (hk : k ≤ 100) : (a ^ k).natAbs ≤ big := Nat.le_trans (pow_dec h k) (dec_big (by omega))
section
variable {K : PySem.W.Frag} {w : Wd} {σ : St} {F : Hp} {ta tb tc : TE} {a b c : PyData}
theorem t1 (ha : ED K w ta σ F a) : ED K w (tTup (tCons ta tNil)) σ F (.tuple [a]) := ed_tup (eda_cons ha eda_nil) (show 1 ≤ 100000 by decide)
theorem t2 (ha : ED K w ta σ F a) (hb : ED K w tb σ F b) : ED K w (tTup (tCons ta (tCons tb tNil))) σ F (.tuple [a, b]) := ed_tup (eda_cons ha (eda_cons hb eda_nil)) (show 2 ≤ 100000 by decide)
theorem t3 (ha : ED K w ta σ F a) (hb : ED K w tb σ F b) (hc : ED K w tc σ F c) : ED K w (tTup (tCons ta (tCons tb (tCons tc tNil)))) σ F (.tuple [a, b, c]) := ed_tup (eda_cons ha (eda_cons hb (eda_cons hc eda_nil))) (show 3 ≤ 100000 by decide)
end
end Wk
set_option Elab.async false
set_option linter.all false
set_option maxRecDepth 100000
set_option maxHeartbeats 1000000
/-! M09: tables near some -/
namespace Wk
open PySem PySem.Spec L2 Lt Mt
/-- one table put otherwise -/
def putT (ts : List Tb) (a : Nat) (u : Tb) : List Tb := ts.take a ++ [u] ++ ts.drop (a + 1)
theorem good_put {n : Nat} {ts : List Tb} (g : Good n ts) {a : Nat} (ha : a < ts.length) {u : Tb} (gu : GoodT n u) : Good n (putT ts a u) := by
  have l : (putT ts a u).length = ts.length := by
    unfold putT
    rw [List.length_append, List.length_append, List.length_take, List.length_drop]
    show min a ts.length + 1 + _ = _
    omega
  refine ⟨g.n1, g.n4, by rw [l]; exact g.l1, by rw [l]; exact g.l3, fun t ht => ?_⟩
  rcases List.mem_append.mp ht with ht | ht
  · rcases List.mem_append.mp ht with ht | ht
    · exact g.tab t (List.mem_of_mem_take ht)
    · rw [List.mem_singleton.mp ht]
      exact gu
  · exact g.tab t (List.mem_of_mem_drop ht)
theorem good_less {n : Nat} {ts : List Tb} (g : Good n ts) {a : Nat} (ha : a < ts.length) (h : 1 < ts.length) : Good n (ts.take a ++ ts.drop (a + 1)) := by
  have l : (ts.take a ++ ts.drop (a + 1)).length = ts.length - 1 := by
    rw [List.length_append, List.length_take, List.length_drop]
    omega
  have l3 := g.l3
  refine ⟨g.n1, g.n4, by rw [l]; omega, by rw [l]; omega, fun t ht => ?_⟩
  rcases List.mem_append.mp ht with ht | ht
  · exact g.tab t (List.mem_of_mem_take ht)
  · exact g.tab t (List.mem_of_mem_drop ht)
theorem good_rev {n : Nat} {ts : List Tb} (g : Good n ts) : Good n ts.reverse :=
  ⟨g.n1, g.n4, by rw [List.length_reverse]; exact g.l1, by rw [List.length_reverse]; exact g.l3, fun t ht => g.tab t (List.mem_reverse.mp ht)⟩
theorem goodT_tr {n : Nat} {t : Tb} (g : GoodT n t) : GoodT n (trT n t) := by
  have s : Sq n t := ⟨g.len, fun r hr => (g.row r hr).len⟩
  have b := bd_trT (B := 1000000) s fun r hr x hx => (g.row r hr).le x hx
  exact ⟨(sq_trT s).len, fun r hr => ⟨(sq_trT s).row r hr, fun x hx => b r hr x hx⟩⟩
/-- the first number of a table, one more -/
def bumpT : Tb → Tb
  | (x :: r) :: t => ((x + 1) :: r) :: t
  | t => t
theorem goodT_bump {n : Nat} {x : Int} {r : List Int} {t : Tb} (g : GoodT n ((x :: r) :: t)) (h : x < 1000000) : GoodT n (bumpT ((x :: r) :: t)) := by
  have g0 := g.row _ (List.mem_cons_self ..)
  refine ⟨g.len, fun q hq => ?_⟩
  rcases List.mem_cons.mp hq with rfl | hq
  · refine ⟨g0.len, fun y hy => ?_⟩
    rcases List.mem_cons.mp hy with rfl | hy
    · have := g0.le x (List.mem_cons_self ..)
      omega
    · exact g0.le y (List.mem_cons_of_mem _ hy)
  · exact g.row q (List.mem_cons_of_mem _ hq)
section
variable {K : PySem.W.Frag} {w : Wd} {σ : St} {F : Hp} {ta tb tu : TE} {ds : List PyData}
/-- xs[:a] + (u,) + xs[a + 1:] -/
theorem ed_putT {a : Nat} {u : PyData} (ha : ED K w ta σ F (.tuple ds)) (hb : ED K w tb σ F (.int (a : Int))) (hu : ED K w tu σ F u) (hz : ds.length ≤ 1000) :
    ED K w (tOp (rCatA K) (tOp (rCatA K) (tSl (rSlA K) ta tNoPart (tPart tb)) (tTup (tCons tu tNil))) (tSl (rSlA K) ta (tPart (tOp (rI0 fun i j => .int (i + j)) tb (tC (.int 1)))) tNoPart)) σ F (.tuple (ds.take a ++ [u] ++ ds.drop (a + 1))) := by
  refine ed_catT (ed_catT ((ed_sliceT ha eo_none (eo_some hb)).is (by rw [cut_take])) (ed_tup (ds := [u]) (eda_cons hu eda_nil) (show 1 ≤ 100000 by decide)) ?_) ((ed_sliceT (lo := some ((a + 1 : Nat) : Int)) ha (eo_some ((ed_add hb ed_int).is (by rw [Int.natCast_add]; rfl))) eo_none).is (by rw [cut_drop])) ?_
  · rw [List.length_take]
    show min a _ + 1 ≤ 100000
    omega
  · rw [List.length_append, List.length_take, List.length_drop]
    show min a _ + 1 + _ ≤ 100000
    omega
theorem ed_lessT {a : Nat} (ha : ED K w ta σ F (.tuple ds)) (hb : ED K w tb σ F (.int (a : Int))) (hz : ds.length ≤ 1000) :
    ED K w (tOp (rCatA K) (tSl (rSlA K) ta tNoPart (tPart tb)) (tSl (rSlA K) ta (tPart (tOp (rI0 fun i j => .int (i + j)) tb (tC (.int 1)))) tNoPart)) σ F (.tuple (ds.take a ++ ds.drop (a + 1))) := by
  refine ed_catT ((ed_sliceT ha eo_none (eo_some hb)).is (by rw [cut_take])) ((ed_sliceT (lo := some ((a + 1 : Nat) : Int)) ha (eo_some ((ed_add hb ed_int).is (by rw [Int.natCast_add]; rfl))) eo_none).is (by rw [cut_drop])) ?_
  rw [List.length_take, List.length_drop]
  omega
end
end Wk
namespace Wk
open PySem PySem.Spec L2 Lt Mt
section
variable {K : PySem.W.Frag} {w : Wd} {σ : St} {F H : Hp}
theorem upd2 {H : Hp} {p : Addr} {x y : HO} : upd (upd H p x) p y = upd H p y := by
  funext a
  by_cases h : a = p
  · subst h
    rw [upd_same, upd_same]
  · rw [upd_ne h, upd_ne h, upd_ne h]
theorem ed_dict0 : ED K w tDNewK σ F (.dict []) := fun F1 H1 e k Q q p hp => by
  have g : Gr M0 F1 H1 (upd F1 p (.dK [])) (upd H1 p (.dK [])) := Gr.new k.e hp
  exact q _ _ _ g.up (k.pure g) (.dct (kvs := []) upd_same .nil)
theorem ed_dict1 {x : Str} {i : Int} : ED K w (tDisp [(tC (.str x), tC (.int i))]) σ F (.dict [(.str x, .int i)]) := fun F1 H1 e k Q q p hp => by
  have g : Gr M0 F1 H1 (upd F1 p (.dK [(.inr x, .int i)])) (upd H1 p (.dK [(.inr x, .int i)])) := Gr.new k.e hp
  refine ⟨upd_same, [(.inr x, .int i)], rfl, (show 1 ≤ 15 by decide), ?_⟩
  rw [upd2]
  exact q _ _ _ g.up (k.pure g) (.dct (kvs := [(.inr x, .int i)]) upd_same (.cons (.int i) .nil))
end
end Wk
set_option Elab.async false
set_option linter.all false
set_option maxRecDepth 100000
set_option maxHeartbeats 2000000
/-! Tn: tuples put together of drawn parts; the laws' own look at tables -/
namespace Wk
open PySem PySem.Spec Lt
open L2 hiding St
section
variable {K : PySem.W.Frag} {w : Wd} {σ : L2.St} {F H : Hp} {ta tb te tu : TE} {R : PyData → Prop}
theorem cat_step {x y : V} {ds es : List PyData} {Q : VK} (rx : Rp K F x (.tuple ds)) (ry : Rp K F y (.tuple es)) (k : w.ok F H) (hz : ds.length + es.length ≤ 100000) (q : ∀ v F3 H3, Gr w.M F H F3 H3 → w.ok F3 H3 → Rp K F3 v (.tuple (ds ++ es)) → Q v H3) : rCatA K x y H Q := by
  have z := ed_catT (K := K) (w := w) (ta := tVar 0) (tb := tVar 1) (σ := [some x, some y]) (F := F) (ed_var rfl rx) (ed_var rfl ry) hz F H (Same.refl F) k Q q
  obtain ⟨v, h, v', h', z⟩ := z
  cases h
  cases h'
  exact z
/-- xs[:a] + (u,) + xs[a + 1:], u drawn -/
theorem er_putT {ds : List PyData} {a : Nat} (ha : ED K w ta σ F (.tuple ds)) (hb : ED K w tb σ F (.int (a : Int))) (hu : ER K w tu σ F R) (hz : ds.length ≤ 1000) :
    ER K w (tOp (rCatA K) (tOp (rCatA K) (tSl (rSlA K) ta tNoPart (tPart tb)) (tTup (tCons tu tNil))) (tSl (rSlA K) ta (tPart (tOp (rI0 fun i j => .int (i + j)) tb (tC (.int 1)))) tNoPart)) σ F fun d => ∃ u, R u ∧ d = .tuple (ds.take a ++ [u] ++ ds.drop (a + 1)) := fun F1 H1 e k Q q =>
  ((ed_sliceT ha eo_none (eo_some hb)).is (d' := .tuple (ds.take a)) (by rw [cut_take])) F1 H1 e k _ fun x F2 H2 g2 k2 r1 => hu F2 H2 (e.trans g2.f) k2 _ fun y F3 H3 g3 k3 ⟨u, hu, r2⟩ => ⟨(by show 1 ≤ sizeLine; decide), fun p hp => by
    have g4 : Gr M0 F3 H3 (upd F3 p (.tup [y])) (upd H3 p (.tup [y])) := Gr.new k3.e hp
    refine cat_step (es := [u]) ((r1.mono g3.f).mono g4.f) (.tup (.inl (.inl upd_same)) (.cons (r2.mono g4.f) .nil)) (k3.pure g4) (by rw [List.length_take]; show min a _ + 1 ≤ 100000; omega) fun v F5 H5 g5 k5 r5 => ?_
    have e5 := (((e.trans g2.f).trans g3.f).trans g4.f).trans g5.f
    refine ((ed_sliceT (lo := some ((a + 1 : Nat) : Int)) ha (eo_some ((ed_add hb ed_int).is (by rw [Int.natCast_add]; rfl))) eo_none).is (d' := .tuple (ds.drop (a + 1))) (by rw [cut_drop])) F5 H5 e5 k5 _ fun z F6 H6 g6 k6 r6 => ?_
    refine cat_step (r5.mono g6.f) r6 k6 ?_ fun v7 F7 H7 g7 k7 r7 => q v7 F7 H7 (((((g2.trans g3).trans g4.up).trans g5).trans g6).trans g7) k7 ⟨_, ⟨u, hu, rfl⟩, r7⟩
    rw [List.length_append, List.length_take, List.length_drop]
    show min a _ + 1 + _ ≤ 100000
    omega⟩
/-- list(t) -/
theorem ed_listOf {ds : List PyData} (ha : ED K w ta σ F (.tuple ds)) : ED K w (tCB (rListOf K) (tCons ta tNil)) σ F (.list ds) :=
  ev_cb1N ha fun x F' H k e r => by
    obtain ⟨a, xs, rfl, h, ra⟩ := rp_tup r
    exact ⟨.lst xs, fun Q q => ⟨a, xs, rfl, .inr (sqtM k.e h), q⟩, fun p hp => .lst upd_same (ra.mono (same_new hp))⟩
end
theorem tabsErr_not {d : PyData} (h : ¬ ∃ d0 ds, d = .tuple (d0 :: ds)) : tabsErr d = some .none := by
  match d, h with
  | .tuple [], _ => rfl
  | .tuple (a :: b), h => exact (h ⟨a, b, rfl⟩).elim
  | .none, _ => rfl
  | .bool _, _ => rfl
  | .int _, _ => rfl
  | .str _, _ => rfl
  | .list _, _ => rfl
  | .dict _, _ => rfl
/-- what is no number of a table -/
def noNum (d : PyData) : Bool := !isInt d || !isNum d
theorem noNum_eq (d : PyData) : noNum d = !isNum d := by
  cases d <;> rfl
theorem absNum (i : Int) : decide ((if i < 0 then -i else i) ≤ (10 : Int) ^ 6) = isNum (.int i) := by
  show _ = (decide (-1000000 ≤ i) && decide (i ≤ 1000000))
  rw [show (10 : Int) ^ 6 = 1000000 by decide]
  by_cases h : i < 0
  · rw [if_pos h]
    by_cases h2 : -1000000 ≤ i
    · rw [decide_eq_true h2, decide_eq_true (by omega), decide_eq_true (by omega)]
      rfl
    · rw [decide_eq_false h2, decide_eq_false (by omega)]
      rfl
  · rw [if_neg h]
    by_cases h2 : i ≤ 1000000
    · rw [decide_eq_true h2, decide_eq_true (show -1000000 ≤ i by omega)]
      rfl
    · rw [decide_eq_false h2, decide_eq_true (show -1000000 ≤ i by omega)]
      rfl
theorem filter_len0 {f : PyData → Bool} : ∀ ds : List PyData, decide (((ds.filter fun d => !f d).map id).length = 0) = ds.all f := fun ds => by
  rw [List.map_id]
  cases h : ds.all f with
  | true =>
    have : ds.filter (fun d => !f d) = [] := List.filter_eq_nil_iff.mpr fun d hd => by
      rw [List.all_eq_true.mp h d hd]
      exact Bool.false_ne_true
    rw [this]
    rfl
  | false =>
    refine decide_eq_false fun z => ?_
    have := List.length_eq_zero_iff.mp z
    have h2 : ds.all f = true := List.all_eq_true.mpr fun d hd => by
      have := List.filter_eq_nil_iff.mp this d hd
      simpa using this
    rw [h] at h2
    cases h2
end Wk
set_option Elab.async false
set_option linter.all false
set_option maxRecDepth 100000
set_option maxHeartbeats 2000000
/-! Od: == of a value of a builtin kind with an instance -/
namespace PySem
section
variable {M : Model} {A : Around} {E : Value → Shared → Prop} {s : Shared} {x : Addr} {ox : Obj}
theorem int_dec (b : Int) (u : Tok) {C dd : Addr} (hx : s.heap.get? x = some { cls := .ref C, dict := some dd }) {Q : Fin → Shared → Prop} (h : Q (.done (.ret .notImplemented)) s) : wpAny M A (Builtin.«int.__eq__» ⟨[.int b u, .ref x], []⟩) Q E s := by
  obtain ⟨hp, g, d, tk, os⟩ := s
  wp_walk using wpAny_loadPart' hx, wpAny_load hx
  exact h
theorem bool_dec (b : Bool) {C dd : Addr} (hx : s.heap.get? x = some { cls := .ref C, dict := some dd }) {Q : Fin → Shared → Prop} (h : Q (.done (.ret .notImplemented)) s) : wpAny M A (Builtin.«int.__eq__» ⟨[.bool b, .ref x], []⟩) Q E s := by
  obtain ⟨hp, g, d, tk, os⟩ := s
  wp_walk using wpAny_loadPart' hx, wpAny_load hx
  exact h
theorem str_dec (b : Str) (u : Tok) {C dd : Addr} (hx : s.heap.get? x = some { cls := .ref C, dict := some dd }) {Q : Fin → Shared → Prop} (h : Q (.done (.ret .notImplemented)) s) : wpAny M A (Builtin.«str.__eq__» ⟨[.str b u, .ref x], []⟩) Q E s := by
  obtain ⟨hp, g, d, tk, os⟩ := s
  wp_walk using wpAny_loadPart' hx, wpAny_load hx
  exact h
theorem list_dec {K : W.Frag} {l : Addr} {items : Array Value} {n : Nat} {dl : Option Addr} {sl : Array (Option Value)} {C dd : Addr} (X : K.In s.heap) (hm : W.mroIn K C (.type "list") = some false) (hl : s.heap.get? l = some { cls := .type "list", dict := dl, data := .seq items n, slots := sl }) (hx : s.heap.get? x = some { cls := .ref C, dict := some dd })
    {Q : Fin → Shared → Prop} (h : Q (.done (.ret .notImplemented)) s) : wpAny M A (Builtin.«list.__eq__» ⟨[.ref l, .ref x], []⟩) Q E s := by
  obtain ⟨hp, g, d, tk, os⟩ := s
  wp_walk using wpAny_loadPart' hl, wpAny_loadPart' hx
  refine (W.looks_mroIn (M := M) X hm).here ?_
  repeat wp_step
  exact h
theorem tuple_dec {K : W.Frag} {l : Addr} {items : Array Value} {n : Nat} {dl : Option Addr} {sl : Array (Option Value)} {C dd : Addr} (X : K.In s.heap) (hm : W.mroIn K C (.type "tuple") = some false) (hl : s.heap.get? l = some { cls := .type "tuple", dict := dl, data := .seq items n, slots := sl }) (hx : s.heap.get? x = some { cls := .ref C, dict := some dd })
    {Q : Fin → Shared → Prop} (h : Q (.done (.ret .notImplemented)) s) : wpAny M A (Builtin.«tuple.__eq__» ⟨[.ref l, .ref x], []⟩) Q E s := by
  obtain ⟨hp, g, d, tk, os⟩ := s
  wp_walk using wpAny_loadPart' hl, wpAny_loadPart' hx
  refine (W.looks_mroIn (M := M) X hm).here ?_
  repeat wp_step
  exact h
theorem dict_dec {K : W.Frag} {l : Addr} {es : Array DictEntry} {n : Nat} {dl : Option Addr} {sl : Array (Option Value)} {C dd : Addr} (X : K.In s.heap) (hm : W.mroIn K C (.type "dict") = some false) (hl : s.heap.get? l = some { cls := .type "dict", dict := dl, data := .dict es n, slots := sl }) (hx : s.heap.get? x = some { cls := .ref C, dict := some dd })
    {Q : Fin → Shared → Prop} (h : Q (.done (.ret .notImplemented)) s) : wpAny M A (Builtin.«dict.__eq__» ⟨[.ref l, .ref x], []⟩) Q E s := by
  obtain ⟨hp, g, d, tk, os⟩ := s
  wp_walk using wpAny_loadPart' hl, wpAny_loadPart' hx
  refine (W.looks_mroIn (M := M) X hm).here ?_
  repeat wp_step
  exact h
end
section
variable {prog : Program} {w : World} {A : Around} {E : Value → Shared → Prop} {s : Shared} {K : W.Frag} {x C f : Addr} {ox : Obj} {od : Option Obj} {v : Value} {T id : String}
/-- v == x where v's kind says nothing of x: x is asked -/
theorem rc_right {Q : Value → Shared → Prop} (hu : A.units < cLine) (hv : s.TypeIs v T) (X : K.In s.heap) (I : W.InstAt s.heap x ox C od) (hm : W.mroIn K C (.type T) = some false) (hs : W.findIn K (.ref C) "__eq__" = some (some (.ref f))) (hf : W.isFn K (.ref f) = true)
    (slot : Slot T "__eq__" id) (dec : ∀ Q' : Value → Shared → Prop, Q' .notImplemented s → wpAny (model prog w) A (call (.builtin id) [v, .ref x]) Q' E s)
    (h : wpAny (model prog w) A (call (.ref f) [.ref x, v]) (fun r s' => ∃ k, r = .bool k ∧ Q (.bool k) s') E s) : wpAny (model prog w) A (richCompare .Eq v (.ref x)) Q E s := by
  have own : wpAny (model prog w) A (tryCompare (.ref x) "__eq__" v) (fun r s' => ∃ k, r = some (.bool k) ∧ Q (.bool k) s') E s := by
    unfold tryCompare
    exact wpAny_bind (W.ifBound_K X I hs hf (wpAny_mono h (fun r s' ⟨k, e, q⟩ => by
      subst e
      exact wpAny_pure ⟨k, rfl, q⟩) fun _ _ e => e))
  have ne : (Value.type T != .ref C) = true := rfl
  simp only [richCompare, cmpInfo, hv.oneThing_none]
  refine wpAny_holding (wpAny_bind (wpAny_cRoomFor hu ?_))
  refine wpAny_bind (wpAny_typeOf hv (wpAny_bind (I.type.here ?_)))
  simp only [ne, if_true]
  refine wpAny_bind ((W.looks_mroIn X hm).here ?_)
  simp only [Bool.false_eq_true, if_false, Bool.not_false, if_true]
  refine wpAny_bind (m := tryCompare v _ (.ref x)) (wpAny_tryCompare_declines hv slot (dec _ ⟨rfl, ?_⟩))
  refine wpAny_bind (m := tryCompare (.ref x) _ v) (wpAny_mono own (fun r s' ⟨k, e, q⟩ => ?_) fun _ _ e => e)
  subst e
  exact wpAny_pure q
end
end PySem
set_option Elab.async false
set_option linter.all false
set_option maxRecDepth 100000
set_option maxHeartbeats 2000000
/-! Of: a value of a builtin kind == an instance with its own == -/
namespace Wk
open PySem PySem.Spec L2
/-- values of builtin kinds, whatever they hold -/
inductive Kd (K : PySem.W.Frag) (H : Hp) : V → String → Prop
  | non : Kd K H .non "NoneType"
  | bl (b : Bool) : Kd K H (.bl b) "bool"
  | int (i : Int) : Kd K H (.int i) "int"
  | str (x : Str) : Kd K H (.str x) "str"
  | lst {a : Addr} {xs : List V} : SqL K H a xs → Kd K H (.ref a) "list"
  | tup {a : Addr} {xs : List V} : SqT K H a xs → Kd K H (.ref a) "tuple"
  | dct {a : Addr} {kvs : List (Key × V)} : H a = some (.dK kvs) → Kd K H (.ref a) "dict"
/-- the class is below none of these -/
structure NoKind (K : PySem.W.Frag) (C : Addr) : Prop where
  non : PySem.W.mroIn K C (.type "NoneType") = some false
  bl : PySem.W.mroIn K C (.type "bool") = some false
  int : PySem.W.mroIn K C (.type "int") = some false
  str : PySem.W.mroIn K C (.type "str") = some false
  lst : PySem.W.mroIn K C (.type "list") = some false
  tup : PySem.W.mroIn K C (.type "tuple") = some false
  dct : PySem.W.mroIn K C (.type "dict") = some false
section
variable {prog : Program} {w : World} {A : Around} {E : Value → Shared → Prop} {s : Shared} {K : PySem.W.Frag} {x : Addr} {Q' : Value → Shared → Prop}
theorem dec_of {T id : String} {B : Builtin} {v : Value} (slot : Slot T "__eq__" id) (hv : s.TypeIs v T) (entry : entryFor table id = some B) (args : argsOk id ⟨[v, .ref x], []⟩)
    (dec : ∀ Q : Fin → Shared → Prop, Q (.done (.ret .notImplemented)) s → wpAny (model prog w) A.in1 (B ⟨[v, .ref x], []⟩) Q E s) (q : Q' .notImplemented s) : wpAny (model prog w) A (call (.builtin id) [v, .ref x]) Q' E s :=
  wpAny_call (codeAny_call_builtin slot.plain entry (slot.check _ _ _ _ _ _ _ _ hv args (dec _ q)))
end
section
variable {X : Cx} {k : Nat} {C f : Addr} {fd : FuncData} {sp : Sp}
def rEqR (K : PySem.W.Frag) (C : Addr) (sp : Sp) : R2 := fun x y H Q => ∃ T b dy gs, Kd K H x T ∧ y = .ref b ∧ H b = some (.ins C dy gs) ∧ sp [.ref b, x] H (fun v H' => ∃ c, v = .bl c ∧ Q (.bl c) H') E0
theorem run_eqR {pins : List (Addr × Obj)} {σ : L2.St} {H : Hp} {s : Shared} {A : Around} {b : Addr} {y : V} {u : Value} {ps : List Str} {Q : VK} (Fn : FnOk X.prog X.w X.K X.mg X.base CX0 k f fd ps sp) (hr : Room k A) (hb : Binds X.K fd ps []) (e0 : Env0 X.prog X.w X.K X.mg X.base A X.stack s H) (I : Inv X pins σ H s) (ry : RelV y u) (h : sp [.ref b, y] H Q E0) :
    wpAny (model X.prog X.w) A (call (.ref f) [.ref b, u]) (EP X pins σ Q) X.xe s := by
  have r2 : Vals [V.ref b, y] [Value.ref b, u] := .cons rfl (.cons ry .nil)
  have bd := hb s [.ref b, u] I.kIn (by simpa using Fn.len _ _ _ _ h)
  rw [List.append_nil] at bd
  refine wpAny_call (codeAny_mono (Fn.run A X.stack s H ⟨[.ref b, u], []⟩ [.ref b, u] [.ref b, y] Q E0 hr e0 bd r2 h) fun r s' hq => ?_)
  cases r with
  | error er => exact hq.elim
  | ok fl =>
    cases fl with
    | ret u => exact I.after hq
    | next => exact hq.elim
    | brk => exact hq.elim
    | cont => exact hq.elim
theorem oE_eqR {ps : List Str} (O : OwnEq X.K C f) (N : NoKind X.K C) (Fn : FnOk X.prog X.w X.K X.mg X.base CX0 k f fd ps sp) (hr : Room k X.A) (hb : Binds X.K fd ps []) : OpR X (compareOp .Eq) (rEqR X.K C sp) := by
  intro pins s σ H x y v u Q I rx ry h
  obtain ⟨T, b, dy, gs, kd, rfl, hb', hsp⟩ := h
  cases ry
  obtain ⟨mB, J, _⟩ := ins_get I.hok hb'
  have hx := J.obj
  obtain ⟨od, J, _⟩ := J.look
  have own : wpAny (model X.prog X.w) X.A (call (.ref f) [.ref b, v]) (fun r s' => ∃ c, r = .bool c ∧ EP X pins σ Q (.bool c) s') X.xe s := by
    refine wpAny_mono (run_eqR Fn hr hb I.env0 I rx hsp) (fun r s' z => ?_) fun _ _ e => e
    obtain ⟨z, H', I', rz, c, ez, q⟩ := z
    subst ez
    cases rz
    exact ⟨c, rfl, .bl c, H', I', rfl, q⟩
  have hu := hr.units0
  cases kd with
  | non =>
    cases rx
    exact rc_right (T := "NoneType") hu rfl I.kIn J N.non O.eq O.fn F.slot_NoneType_eq (fun Q' q => call_gives F.slot_NoneType_eq rfl F.entry_NoneType_eq (F.args_NoneType_eq_2 _ _) (SeqAt.NoneType___eq___none_ref_0 _) q) own
  | bl z =>
    cases rx
    exact rc_right (T := "bool") hu rfl I.kIn J N.bl O.eq O.fn F.slot_bool_eq (fun Q' q => dec_of F.slot_bool_eq rfl F.entry_int_eq (F.args_int_eq_2 _ _) (fun _ q => bool_dec z hx q) q) own
  | int i =>
    obtain ⟨t, rfl⟩ := rx
    exact rc_right (T := "int") hu rfl I.kIn J N.int O.eq O.fn F.slot_int_eq (fun Q' q => dec_of F.slot_int_eq rfl F.entry_int_eq (F.args_int_eq_2 _ _) (fun _ q => int_dec i t hx q) q) own
  | str z =>
    obtain ⟨t, rfl⟩ := rx
    exact rc_right (T := "str") hu rfl I.kIn J N.str O.eq O.fn F.slot_str_eq (fun Q' q => dec_of F.slot_str_eq rfl F.entry_str_eq (F.args_str_eq_2 _ _) (fun _ q => str_dec z t hx q) q) own
  | lst hs =>
    cases rx
    obtain ⟨its, rv, ⟨o, n, ho, hc, e1, hd⟩, _⟩ := I.list hs
    obtain ⟨cls, dd, data, sl⟩ := o
    dsimp only at hc hd
    subst hc hd
    exact rc_right (T := "list") hu ⟨_, ho, rfl⟩ I.kIn J N.lst O.eq O.fn F.slot_list_eq (fun Q' q => dec_of F.slot_list_eq ⟨_, ho, rfl⟩ F.entry_list_eq (F.args_list_eq_2 _ _) (fun _ q => list_dec I.kIn N.lst ho hx q) q) own
  | tup hs =>
    cases rx
    obtain ⟨its, rv, ⟨o, ho, hc, n, hd⟩, _⟩ := I.tuple hs
    obtain ⟨cls, dd, data, sl⟩ := o
    dsimp only at hc hd
    subst hc hd
    exact rc_right (T := "tuple") hu ⟨_, ho, rfl⟩ I.kIn J N.tup O.eq O.fn F.slot_tuple_eq (fun Q' q => dec_of F.slot_tuple_eq ⟨_, ho, rfl⟩ F.entry_tuple_eq (F.args_tuple_eq_2 _ _) (fun _ q => tuple_dec I.kIn N.tup ho hx q) q) own
  | @dct a kvs hs =>
    cases rx
    obtain ⟨_, _, vs, _, o, es, ep, ho, h2, hdd, _⟩ := (show ObjOk X.prog X.w H s.heap a (.dK kvs) from I.hok a _ hs)
    obtain ⟨cls, dd, data, sl⟩ := o
    obtain ⟨hc, hd⟩ := id h2
    dsimp only at hc hdd
    subst hc hdd
    exact rc_right (T := "dict") hu ⟨_, ho, rfl⟩ I.kIn J N.dct O.eq O.fn F.slot_dict_eq (fun Q' q => dec_of F.slot_dict_eq ⟨_, ho, rfl⟩ F.entry_dict_eq (F.args_dict_eq_2 _ _) (fun _ q => dict_dec I.kIn N.dct ho hx q) q) own
def rEqL (K : PySem.W.Frag) (C : Addr) (sp : Sp) (g : Bool → Bool) : R2 := fun x y H Q => ∃ T b dy gs, x = .ref b ∧ H b = some (.ins C dy gs) ∧ Kd K H y T ∧ sp [.ref b, y] H (fun v H' => ∃ c, v = .bl c ∧ Q (.bl (g c)) H') E0
theorem Kd.looks {K : PySem.W.Frag} {pins : List (Addr × Obj)} {σ : L2.St} {H : Hp} {s : Shared} {y : V} {u : Value} {T : String} (hK : X.K = K) (I : Inv X pins σ H s) (kd : Kd K H y T) (ry : RelV y u) : PySem.W.Looks (model X.prog X.w) s.heap (typeOf u) (.type T) := by
  subst hK
  have ty : TyX X.K H y (.type T) := by
    cases kd with
    | non => exact .base .non
    | bl b => exact .base (.bl b)
    | int i => exact .base (.int i)
    | str x => exact .base (.str x)
    | lst h =>
      rcases h with (h | ⟨o, h⟩) | ⟨o, its, n, h, c, _⟩
      · exact .base (.lst h)
      · exact .base (.frz h)
      · exact .kList h c
    | tup h =>
      rcases h with (h | ⟨o, h⟩) | ⟨o, its, n, h, c, _⟩
      · exact .base (.tup h)
      · exact .fTuple h
      · exact .kTuple h c
    | dct h => exact .base (.dK h)
  obtain ⟨P, kx, p, _⟩ := kit_of I ry ty
  exact kx.ty _ _ I.kIn p
theorem Kd.first {K : PySem.W.Frag} {H : Hp} {y : V} {T : String} (kd : Kd K H y T) : PySem.W.notFirst K C (.type T) = true := by
  have go : ∀ {T : String} {l : List String}, fastBuiltinMro T = some (l.map Value.type) → PySem.W.notFirst K C (.type T) = true := fun {T l} e => by
    have e2 : PySem.W.subIn K (.type T) (.ref C) = some false := by
      show (fastBuiltinMro T).map (·.contains (.ref C)) = some false
      rw [e]
      show some ((l.map Value.type).contains (.ref C)) = some false
      congr 1
      rw [Bool.eq_false_iff]
      intro z
      obtain ⟨n, _, h⟩ := List.mem_map.mp (List.contains_iff_mem.mp z)
      cases h
    unfold PySem.W.notFirst
    rw [e2]
    exact Bool.or_true _
  cases kd with
  | non => exact go (l := ["NoneType", "object"]) (by decide +kernel)
  | bl b => exact go (l := ["bool", "int", "object"]) (by decide +kernel)
  | int i => exact go (l := ["int", "object"]) (by decide +kernel)
  | str x => exact go (l := ["str", "object"]) (by decide +kernel)
  | lst h => exact go (l := ["list", "object"]) (by decide +kernel)
  | tup h => exact go (l := ["tuple", "object"]) (by decide +kernel)
  | dct h => exact go (l := ["dict", "object"]) (by decide +kernel)
theorem oE_eqL {ps : List Str} (O : OwnEq X.K C f) (Fn : FnOk X.prog X.w X.K X.mg X.base CX0 k f fd ps sp) (hr : Room k X.A) (hb : Binds X.K fd ps []) : OpR X (compareOp .Eq) (rEqL X.K C sp fun c => c) := by
  intro pins s σ H x y v u Q I rx ry h
  obtain ⟨T, b, dy, gs, rfl, hb', kd, hsp⟩ := h
  cases rx
  obtain ⟨mB, J, _⟩ := ins_get I.hok hb'
  obtain ⟨od, J, _⟩ := J.look
  obtain ⟨m, hF⟩ := I.fr
  refine PySem.W.cmp_K (op := .Eq) (tb := .type T) hr.units0 hF I.ok.mod.kin J (kd.looks rfl I ry) kd.first O.eq O.fn (wpAny_mono (run_eqR Fn hr hb I.env0 I ry hsp) (fun r s' z => ?_) fun _ _ e => e)
  obtain ⟨z, H', I', rz, c, ez, q⟩ := z
  subst ez
  cases rz
  exact ⟨.bl c, H', I', rfl, q⟩
theorem oE_neL {ps : List Str} (O : OwnEq X.K C f) (Fn : FnOk X.prog X.w X.K X.mg X.base CX0 k f fd ps sp) (hr : Room (k + 1) X.A) (hb : Binds X.K fd ps []) : OpR X (compareOp .NotEq) (rEqL X.K C sp fun c => !c) := by
  intro pins s σ H x y v u Q I rx ry h
  obtain ⟨T, b, dy, gs, rfl, hb', kd, hsp⟩ := h
  cases rx
  obtain ⟨mB, J, _⟩ := ins_get I.hok hb'
  obtain ⟨od, J, _⟩ := J.look
  have hu := hr.units
  refine cmp_ne (tb := .type T) (by omega) I.kIn J (kd.looks rfl I ry) kd.first O.ne O.ob O.eq O.fn (wpAny_mono (run_eqR Fn hr.in1 hb I.env0.in1 I ry hsp) (fun r s' z => ?_) fun _ _ e => e)
  obtain ⟨z, H', I', rz, c, ez, q⟩ := z
  subst ez
  cases rz
  exact ⟨c, rfl, .bl (!c), H', I', rfl, q⟩
end
end Wk
set_option Elab.async false
set_option linter.all false
set_option maxRecDepth 100000
set_option maxHeartbeats 2000000
/-! Og: x in l, where to ask == may run a def -/
namespace GI
open PySem PySem.SeqAt GQ
open AutoSeq1 (wpAny_loadPart')
open MeetsSeq MeetsSeq2 MeetsSeq3 SeqRoads2
section
variable {prog : Program} {w : World} {A : Around} {R : Result → Shared → Prop}
/-- at each turn the list is read anew: N items, the i-th asked of -/
def TurnI (prog : Program) (w : World) (A : Around) (E : Value → Shared → Prop) (l : Addr) (x : Value) (N : Nat) (I : Nat → Shared → Prop) (Yes : Shared → Prop) : Prop :=
  ∀ i s, I i s → ∃ (items : Array Value) (n : Nat), s.heap.get? l = some { cls := .type "list", data := .seq items n } ∧ items.size = N ∧
    ∀ (h : i < items.size), wpAny (model prog w) A.in1 (eqBool items[i] x) (fun r s' => (r = true ∧ Yes s') ∨ (r = false ∧ I (i + 1) s')) E s
theorem in_loopG (l : Addr) (x : Value) (N : Nat) (I : Nat → Shared → Prop) (Yes : Shared → Prop) (tu : TurnI prog w A (fun e s' => R (.error e) s') l x N I Yes)
    (yes : ∀ s, Yes s → R (.ok (.ret (.bool true))) s) (no : ∀ s, I N s → R (.ok (.ret (.bool false))) s) (k : Nat) :
    ∀ i : Nat, N - i = k → i ≤ N → ∀ s, I i s →
      wpAny (model prog w) A.in1 (Builtin.«list.__contains__.loop» ⟨[.ref l, x, rawInt i], []⟩) (FinOf prog w A R) (fun e s' => R (.error e) s') s := by
  induction k with
  | zero =>
    intro i hk hi s h
    obtain ⟨items, n, hl, hs, _⟩ := tu _ _ h
    have hR : R (.ok (.ret (.bool false))) s := no s ((show i = N by omega) ▸ h)
    obtain ⟨hp, g, d, tk, os⟩ := s
    wp_walk using wpAny_loadPart' hl
    have h1 : items[((i : Nat) : Int).toNat]? = none := by simp; omega
    rw [h1]
    wp_walk
    exact hR
  | succ k ih =>
    intro i hk hi s h
    obtain ⟨items, n, hl, hs, turn⟩ := tu _ _ h
    have hlt : i < items.size := by omega
    have ht := turn hlt
    obtain ⟨hp, g, d, tk, os⟩ := s
    wp_walk using wpAny_loadPart' hl
    have h1 : items[((i : Nat) : Int).toNat]? = some items[i] := by simp [hlt]
    rw [h1]
    refine wpAny_bind (wpAny_mono ht (fun r s' z => ?_) fun _ _ z => z)
    rcases z with ⟨rfl, q⟩ | ⟨rfl, q⟩
    · obtain ⟨hp, g, d, tk, os⟩ := s'
      wp_walk
      exact yes _ q
    · have hc : ((i : Int) + 1) = ((i + 1 : Nat) : Int) := by push_cast; rfl
      obtain ⟨hp, g, d, tk, os⟩ := s'
      wp_walk
      rw [hc]
      exact ⟨plainId_quiet plain_contains_loop _, codeAny_builtin entry_contains_loop (by
        rw [Around.under_plainId plain_contains_loop _]
        exact ih (i + 1) (by omega) (by omega) _ q)⟩
theorem list_inG (l : Addr) (x : Value) (N : Nat) (I : Nat → Shared → Prop) (Yes : Shared → Prop) (tu : TurnI prog w A (fun e s' => R (.error e) s') l x N I Yes)
    (yes : ∀ s, Yes s → R (.ok (.ret (.bool true))) s) (no : ∀ s, I N s → R (.ok (.ret (.bool false))) s) {s : Shared} (h : I 0 s) :
    wpAny (model prog w) A.in1 (Builtin.«list.__contains__» ⟨[.ref l, x], []⟩) (FinOf prog w A R) (fun e s' => R (.error e) s') s := by
  obtain ⟨items, n, hl, _, _⟩ := tu _ _ h
  obtain ⟨hp, g, d, tk, os⟩ := s
  wp_walk using wpAny_loadPart' hl
  exact ⟨plainId_quiet plain_contains_loop _, codeAny_builtin entry_contains_loop (by
    rw [Around.under_plainId plain_contains_loop _]
    exact in_loopG l x N I Yes tu yes no _ 0 rfl (Nat.zero_le _) _ h)⟩
end
end GI
set_option Elab.async false
set_option linter.all false
set_option maxRecDepth 100000
set_option maxHeartbeats 2000000
/-! Oh: x in [..], x an instance with its own == -/
namespace Wk
open PySem PySem.Spec L2
section
variable {X : Cx} {k : Nat} {C f : Addr} {fd : FuncData} {sp : Sp}
/-- where it stands in the list it is found; else each item is asked -/
def rInO (K : PySem.W.Frag) (C : Addr) (sp : Sp) (neg : Bool) : R2 := fun x y H Q => ∃ (a l : Addr) (ys : List V) (J : Nat → Hp → Prop) (Yes : Hp → Prop), x = .ref a ∧ y = .ref l ∧ J 0 H ∧
  (∀ i H', J i H' → (∃ dx fs, H' a = some (.ins C dx fs)) ∧ H' l = some (.lst ys)) ∧
  (∀ i z H', ys[i]? = some z → J i H' → z = .ref a → Yes H' ∨ ∃ T, Kd K H' z T) ∧
  (∀ i z H', ys[i]? = some z → J i H' → z ≠ .ref a →
    (∃ b dy gs, z = .ref b ∧ H' b = some (.ins C dy gs) ∧ sp [.ref b, .ref a] H' (fun v H2 => ∃ c, v = .bl c ∧ if c = true then Yes H2 else J (i + 1) H2) E0) ∨
    ∃ T, Kd K H' z T ∧ sp [.ref a, z] H' (fun v H2 => ∃ c, v = .bl c ∧ if c = true then Yes H2 else J (i + 1) H2) E0) ∧
  (∀ H', Yes H' → Q (.bl (!neg)) H') ∧ ∀ H', J ys.length H' → Q (.bl neg) H'
/-- == of two instances, of a value and an instance, anywhere below the call -/
theorem cmp_own {ps : List Str} {pins : List (Addr × Obj)} {σ : L2.St} {H : Hp} {s : Shared} {A : Around} {b : Addr} {dy : Addr} {gs : List (Str × V)} {y : V} {u : Value} {Q : VK} (O : OwnEq X.K C f) (Fn : FnOk X.prog X.w X.K X.mg X.base CX0 k f fd ps sp) (hr : Room k A) (hb : Binds X.K fd ps []) (e0 : Env0 X.prog X.w X.K X.mg X.base A X.stack s H)
    (I : Inv X pins σ H s) (hx : H b = some (.ins C dy gs)) {c : Addr} {dz : Addr} {hs : List (Str × V)} (hc : H c = some (.ins C dz hs)) (h : sp [.ref b, .ref c] H Q E0) (hQ : ∀ v H', Q v H' → ∃ k, v = .bl k) :
    wpAny (model X.prog X.w) A (richCompare .Eq (.ref b) (.ref c)) (EP X pins σ Q) X.xe s := by
  obtain ⟨mB, J, _⟩ := ins_get I.hok hx
  obtain ⟨mC, J', _⟩ := ins_get I.hok hc
  obtain ⟨od, J, _⟩ := J.look
  obtain ⟨od', J', _⟩ := J'.look
  obtain ⟨m, hF⟩ := I.fr
  refine PySem.W.cmp_K (op := .Eq) (tb := .ref C) hr.units0 hF I.ok.mod.kin J J'.type (by simp [PySem.W.notFirst]) O.eq O.fn (wpAny_mono (run_eqR (y := .ref c) Fn hr hb e0 I (show RelV (V.ref c) (Value.ref c) from rfl) h) (fun r s' z => ?_) fun _ _ e => e)
  obtain ⟨z, H', I', rz, q⟩ := z
  obtain ⟨k, ek⟩ := hQ z H' q
  subst ek
  cases rz
  exact ⟨.bl k, H', I', rfl, q⟩
theorem cmp_kd {ps : List Str} {pins : List (Addr × Obj)} {σ : L2.St} {H : Hp} {s : Shared} {A : Around} {b : Addr} {dy : Addr} {gs : List (Str × V)} {y : V} {u : Value} {Q : VK} {T : String} (O : OwnEq X.K C f) (N : NoKind X.K C) (Fn : FnOk X.prog X.w X.K X.mg X.base CX0 k f fd ps sp) (hr : Room k A) (hb : Binds X.K fd ps []) (e0 : Env0 X.prog X.w X.K X.mg X.base A X.stack s H)
    (I : Inv X pins σ H s) (hx : H b = some (.ins C dy gs)) (kd : Kd X.K H y T) (ry : RelV y u) (h : sp [.ref b, y] H Q E0) (hQ : ∀ v H', Q v H' → ∃ k, v = .bl k) :
    wpAny (model X.prog X.w) A (richCompare .Eq u (.ref b)) (EP X pins σ Q) X.xe s := by
  obtain ⟨mB, J, _⟩ := ins_get I.hok hx
  have hx := J.obj
  obtain ⟨od, J, _⟩ := J.look
  have own : wpAny (model X.prog X.w) A (call (.ref f) [.ref b, u]) (fun r s' => ∃ c, r = .bool c ∧ EP X pins σ Q (.bool c) s') X.xe s := by
    refine wpAny_mono (run_eqR Fn hr hb e0 I ry h) (fun r s' z => ?_) fun _ _ e => e
    obtain ⟨z, H', I', rz, q⟩ := z
    obtain ⟨c, ez⟩ := hQ z H' q
    subst ez
    cases rz
    exact ⟨c, rfl, .bl c, H', I', rfl, q⟩
  have hu := hr.units0
  cases kd with
  | non =>
    cases ry
    exact rc_right (T := "NoneType") hu rfl I.kIn J N.non O.eq O.fn F.slot_NoneType_eq (fun Q' q => call_gives F.slot_NoneType_eq rfl F.entry_NoneType_eq (F.args_NoneType_eq_2 _ _) (SeqAt.NoneType___eq___none_ref_0 _) q) own
  | bl z =>
    cases ry
    exact rc_right (T := "bool") hu rfl I.kIn J N.bl O.eq O.fn F.slot_bool_eq (fun Q' q => dec_of F.slot_bool_eq rfl F.entry_int_eq (F.args_int_eq_2 _ _) (fun _ q => bool_dec z hx q) q) own
  | int i =>
    obtain ⟨t, rfl⟩ := ry
    exact rc_right (T := "int") hu rfl I.kIn J N.int O.eq O.fn F.slot_int_eq (fun Q' q => dec_of F.slot_int_eq rfl F.entry_int_eq (F.args_int_eq_2 _ _) (fun _ q => int_dec i t hx q) q) own
  | str z =>
    obtain ⟨t, rfl⟩ := ry
    exact rc_right (T := "str") hu rfl I.kIn J N.str O.eq O.fn F.slot_str_eq (fun Q' q => dec_of F.slot_str_eq rfl F.entry_str_eq (F.args_str_eq_2 _ _) (fun _ q => str_dec z t hx q) q) own
  | lst hs =>
    cases ry
    obtain ⟨its, rv, ⟨o, n, ho, hc, e1, hd⟩, _⟩ := I.list hs
    obtain ⟨cls, dd, data, sl⟩ := o
    dsimp only at hc hd
    subst hc hd
    exact rc_right (T := "list") hu ⟨_, ho, rfl⟩ I.kIn J N.lst O.eq O.fn F.slot_list_eq (fun Q' q => dec_of F.slot_list_eq ⟨_, ho, rfl⟩ F.entry_list_eq (F.args_list_eq_2 _ _) (fun _ q => list_dec I.kIn N.lst ho hx q) q) own
  | tup hs =>
    cases ry
    obtain ⟨its, rv, ⟨o, ho, hc, n, hd⟩, _⟩ := I.tuple hs
    obtain ⟨cls, dd, data, sl⟩ := o
    dsimp only at hc hd
    subst hc hd
    exact rc_right (T := "tuple") hu ⟨_, ho, rfl⟩ I.kIn J N.tup O.eq O.fn F.slot_tuple_eq (fun Q' q => dec_of F.slot_tuple_eq ⟨_, ho, rfl⟩ F.entry_tuple_eq (F.args_tuple_eq_2 _ _) (fun _ q => tuple_dec I.kIn N.tup ho hx q) q) own
  | @dct a kvs hs =>
    cases ry
    obtain ⟨_, _, vs, _, o, es, ep, ho, h2, hdd, _⟩ := (show ObjOk X.prog X.w H s.heap a (.dK kvs) from I.hok a _ hs)
    obtain ⟨cls, dd, data, sl⟩ := o
    obtain ⟨hc, hd⟩ := id h2
    dsimp only at hc hdd
    subst hc hdd
    exact rc_right (T := "dict") hu ⟨_, ho, rfl⟩ I.kIn J N.dct O.eq O.fn F.slot_dict_eq (fun Q' q => dec_of F.slot_dict_eq ⟨_, ho, rfl⟩ F.entry_dict_eq (F.args_dict_eq_2 _ _) (fun _ q => dict_dec I.kIn N.dct ho hx q) q) own
theorem kd_ne {K : PySem.W.Frag} {H : Hp} {z : V} {u : Value} {T : String} {a : Addr} (kd : Kd K H z T) (rz : RelV z u) (h : z ≠ .ref a) : (u == .ref a) = false := by
  refine beq_eq_false_iff_ne.mpr fun e => ?_
  subst e
  cases kd with
  | non => cases rz
  | bl b => cases rz
  | int i => obtain ⟨t, e⟩ := rz; cases e
  | str x => obtain ⟨t, e⟩ := rz; cases e
  | lst _ => cases rz; exact h rfl
  | tup _ => cases rz; exact h rfl
  | dct _ => cases rz; exact h rfl
theorem kd_self {pins : List (Addr × Obj)} {σ : L2.St} {H : Hp} {s : Shared} {a C dx : Addr} {fs : List (Str × V)} {T : String} (I : Inv X pins σ H s) (ha : H a = some (.ins C dx fs)) (kd : Kd X.K H (.ref a) T) : False := by
  obtain ⟨mA, J, _⟩ := ins_get I.hok ha
  have hx := J.obj
  cases kd with
  | lst h =>
    rcases h with (h | ⟨o, h⟩) | ⟨o, its, n, h, c, _⟩
    · rw [ha] at h; cases h
    · rw [ha] at h; cases h
    · rw [I.kIn a o h] at hx
      cases hx
      cases c
  | tup h =>
    rcases h with (h | ⟨o, h⟩) | ⟨o, its, n, h, c, _⟩
    · rw [ha] at h; cases h
    · rw [ha] at h; cases h
    · rw [I.kIn a o h] at hx
      cases hx
      cases c
  | dct h => rw [ha] at h; cases h
theorem turn_in {ps : List Str} {pins : List (Addr × Obj)} {σ : L2.St} {a l : Addr} {ys : List V} {J : Nat → Hp → Prop} {Yes : Hp → Prop} (O : OwnEq X.K C f) (N : NoKind X.K C) (Fn : FnOk X.prog X.w X.K X.mg X.base CX0 k f fd ps sp) (hr : Room (k + 1) X.A) (hb : Binds X.K fd ps [])
    (hJ : ∀ i H', J i H' → (∃ dx fs, H' a = some (.ins C dx fs)) ∧ H' l = some (.lst ys))
    (hy : ∀ i z H', ys[i]? = some z → J i H' → z = .ref a → Yes H' ∨ ∃ T, Kd X.K H' z T)
    (hn : ∀ i z H', ys[i]? = some z → J i H' → z ≠ .ref a →
      (∃ b dy gs, z = .ref b ∧ H' b = some (.ins C dy gs) ∧ sp [.ref b, .ref a] H' (fun v H2 => ∃ c, v = .bl c ∧ if c = true then Yes H2 else J (i + 1) H2) E0) ∨
      ∃ T, Kd X.K H' z T ∧ sp [.ref a, z] H' (fun v H2 => ∃ c, v = .bl c ∧ if c = true then Yes H2 else J (i + 1) H2) E0) :
    GI.TurnI X.prog X.w X.A X.xe l (.ref a) ys.length (fun i s' => ∃ H', Inv X pins σ H' s' ∧ J i H') fun s' => ∃ H', Inv X pins σ H' s' ∧ Yes H' := by
  rintro i s ⟨H, I, j⟩
  obtain ⟨⟨dx, fs, ha⟩, hl⟩ := hJ i H j
  obtain ⟨_, its, n, rv, ho⟩ := (show ObjOk X.prog X.w H s.heap l (.lst ys) from I.hok l _ hl)
  refine ⟨its.toArray, n, ho, by rw [List.size_toArray, rv.length], fun hlt => ?_⟩
  have hlt' : i < its.length := by simpa using hlt
  have g1 : its[i]? = some its.toArray[i] := by
    rw [List.getElem?_eq_getElem hlt'] <;> simp
  have k1 : i < ys.length := by
    rw [rv.length]
    exact hlt'
  obtain ⟨u, hu, ru⟩ := rv.get (List.getElem?_eq_getElem k1)
  rw [g1] at hu
  rw [Option.some.inj hu]
  have hz : ys[i]? = some ys[i] := List.getElem?_eq_getElem k1
  have said : ∀ {r : Value} {s' : Shared}, EP X pins σ (fun v H2 => ∃ c, v = .bl c ∧ if c = true then Yes H2 else J (i + 1) H2) r s' → ∃ c, r = .bool c ∧ ((c = true ∧ ∃ H', Inv X pins σ H' s' ∧ Yes H') ∨ (c = false ∧ ∃ H', Inv X pins σ H' s' ∧ J (i + 1) H')) := by
    rintro r s' ⟨v, H', I', rz, c, rfl, q⟩
    cases rz
    cases c with
    | true => exact ⟨true, rfl, .inl ⟨rfl, H', I', q⟩⟩
    | false => exact ⟨false, rfl, .inr ⟨rfl, H', I', q⟩⟩
  by_cases e : ys[i] = .ref a
  · rcases hy i _ H hz j e with y | ⟨T, kd⟩
    · rw [e] at ru
      cases ru
      exact SeqAt.EqAt.same (A := X.A.in1) (s := s) (.ref a) X.prog X.w X.xe _ (.inl ⟨rfl, H, I, y⟩)
    · rw [e] at kd
      exact (kd_self I ha kd).elim
  · rcases hn i _ H hz j e with ⟨b, dy, gs, e2, hb2, h⟩ | ⟨T, kd, h⟩
    · rw [e2] at ru e
      cases ru
      refine GQ.eqBool_refG (fun z => e (by rw [z])) (wpAny_mono (cmp_own (y := .ref a) (u := .ref a) O Fn hr.in1 hb I.env0.in1 I hb2 ha h fun v H' ⟨c, z, _⟩ => ⟨c, z⟩) (fun r s' z => ?_) fun _ _ z => z)
      exact said z
    · unfold eqBool
      refine wpAny_holding ?_
      refine wpAny_ite_split (fun z => absurd z (by rw [kd_ne kd ru e]; exact Bool.false_ne_true)) (fun _ => ?_)
      split
      · rename_i q
        simp at q
      refine wpAny_bind (wpAny_mono (cmp_kd O N Fn hr.in1 hb I.env0.in1 I ha kd ru h fun v H' ⟨c, z, _⟩ => ⟨c, z⟩) (fun r s' z => ?_) fun _ _ z => z)
      obtain ⟨c, rfl, q⟩ := said z
      exact wpAny_truthy_bool q
theorem oE_in {ps : List Str} (O : OwnEq X.K C f) (N : NoKind X.K C) (Fn : FnOk X.prog X.w X.K X.mg X.base CX0 k f fd ps sp) (hr : Room (k + 1) X.A) (hb : Binds X.K fd ps []) : OpR X (compareOp .In) (rInO X.K C sp false) := by
  intro pins s σ H x y v u Q I rx ry h
  obtain ⟨a, l, ys, J, Yes, rfl, rfl, j0, hJ, hy, hn, qy, qn⟩ := h
  cases rx
  cases ry
  obtain ⟨_, hl⟩ := hJ 0 H j0
  obtain ⟨_, its, n, rv, ho⟩ := (show ObjOk X.prog X.w H s.heap l (.lst ys) from I.hok l _ hl)
  show wpAny _ X.A (do return Value.bool (← contains (.ref l) (.ref a))) _ _ s
  refine wpAny_bind (wpAny_contains_slot ⟨_, ho, rfl⟩ F.slot_list_contains (wpAny_mono (GQ.call_here (Q := fun (r : Value) (s' : Shared) => (r = Value.bool true ∧ ∃ H', Inv X pins σ H' s' ∧ Yes H') ∨ (r = Value.bool false ∧ ∃ H', Inv X pins σ H' s' ∧ J ys.length H')) F.slot_list_contains ⟨_, ho, rfl⟩ F.entry_list_contains (F.args_list_contains_2 _ _) ?_) (fun r s' z => ?_) fun _ _ e => e))
  · exact GI.list_inG l (.ref a) ys.length _ _ (turn_in O N Fn hr hb hJ hy hn) (fun s' z => .inl ⟨rfl, z⟩) (fun s' z => .inr ⟨rfl, z⟩) ⟨H, I, j0⟩
  · rcases z with ⟨rfl, H', I', z⟩ | ⟨rfl, H', I', z⟩
    · exact wpAny_truthy_bool (wpAny_pure ⟨.bl true, H', I', rfl, qy H' z⟩)
    · exact wpAny_truthy_bool (wpAny_pure ⟨.bl false, H', I', rfl, qn H' z⟩)
theorem oE_notIn {ps : List Str} (O : OwnEq X.K C f) (N : NoKind X.K C) (Fn : FnOk X.prog X.w X.K X.mg X.base CX0 k f fd ps sp) (hr : Room (k + 1) X.A) (hb : Binds X.K fd ps []) : OpR X (compareOp .NotIn) (rInO X.K C sp true) := by
  intro pins s σ H x y v u Q I rx ry h
  obtain ⟨a, l, ys, J, Yes, rfl, rfl, j0, hJ, hy, hn, qy, qn⟩ := h
  cases rx
  cases ry
  obtain ⟨_, hl⟩ := hJ 0 H j0
  obtain ⟨_, its, n, rv, ho⟩ := (show ObjOk X.prog X.w H s.heap l (.lst ys) from I.hok l _ hl)
  show wpAny _ X.A (do return Value.bool (!(← contains (.ref l) (.ref a)))) _ _ s
  refine wpAny_bind (wpAny_contains_slot ⟨_, ho, rfl⟩ F.slot_list_contains (wpAny_mono (GQ.call_here (Q := fun (r : Value) (s' : Shared) => (r = Value.bool true ∧ ∃ H', Inv X pins σ H' s' ∧ Yes H') ∨ (r = Value.bool false ∧ ∃ H', Inv X pins σ H' s' ∧ J ys.length H')) F.slot_list_contains ⟨_, ho, rfl⟩ F.entry_list_contains (F.args_list_contains_2 _ _) ?_) (fun r s' z => ?_) fun _ _ e => e))
  · exact GI.list_inG l (.ref a) ys.length _ _ (turn_in O N Fn hr hb hJ hy hn) (fun s' z => .inl ⟨rfl, z⟩) (fun s' z => .inr ⟨rfl, z⟩) ⟨H, I, j0⟩
  · rcases z with ⟨rfl, H', I', z⟩ | ⟨rfl, H', I', z⟩
    · exact wpAny_truthy_bool (wpAny_pure ⟨.bl false, H', I', rfl, qy H' z⟩)
    · exact wpAny_truthy_bool (wpAny_pure ⟨.bl true, H', I', rfl, qn H' z⟩)
end
end Wk
set_option Elab.async false
set_option linter.all false
set_option maxRecDepth 100000
set_option maxHeartbeats 1000000
/-! Oi: a lot and any other value, compared -/
namespace Wk
open PySem PySem.Spec L2 Lt
section
variable {K : PySem.W.Frag} {F H : Hp} {v : V} {T : String} {C : Addr}
theorem Kd.mono (e : Same F H) (kd : Kd K F v T) : Kd K H v T := by
  cases kd with
  | non => exact .non
  | bl b => exact .bl b
  | int i => exact .int i
  | str x => exact .str x
  | lst h => exact .lst (sqlM e h)
  | tup h => exact .tup (sqtM e h)
  | dct h => exact .dct (e _ _ h)
theorem Kd.ty (kd : Kd K H v T) : TyX K H v (.type T) := by
  cases kd with
  | non => exact .base .non
  | bl b => exact .base (.bl b)
  | int i => exact .base (.int i)
  | str x => exact .base (.str x)
  | lst h =>
    rcases h with (h | ⟨o, h⟩) | ⟨o, its, n, h, c, _⟩
    · exact .base (.lst h)
    · exact .base (.frz h)
    · exact .kList h c
  | tup h =>
    rcases h with (h | ⟨o, h⟩) | ⟨o, its, n, h, c, _⟩
    · exact .base (.tup h)
    · exact .fTuple h
    · exact .kTuple h c
  | dct h => exact .base (.dK h)
theorem kd_rp {d : PyData} (r : Rp K F v d) : ∃ T, Kd K F v T := by
  cases r with
  | non => exact ⟨_, .non⟩
  | bl b => exact ⟨_, .bl b⟩
  | int i => exact ⟨_, .int i⟩
  | str x => exact ⟨_, .str x⟩
  | lst h _ => exact ⟨_, .lst (.inl (.inl h))⟩
  | tup h _ => exact ⟨_, .tup h⟩
  | dct h _ => exact ⟨_, .dct h⟩
structure NoIns (K : PySem.W.Frag) (C : Addr) : Prop where
  non : PySem.W.kitOne K (.type "NoneType") (.ref C) = some false
  bl : PySem.W.kitOne K (.type "bool") (.ref C) = some false
  int : PySem.W.kitOne K (.type "int") (.ref C) = some false
  str : PySem.W.kitOne K (.type "str") (.ref C) = some false
  lst : PySem.W.kitOne K (.type "list") (.ref C) = some false
  tup : PySem.W.kitOne K (.type "tuple") (.ref C) = some false
  dct : PySem.W.kitOne K (.type "dict") (.ref C) = some false
theorem NoIns.of (N : NoIns K C) (kd : Kd K H v T) : PySem.W.kitOne K (.type T) (.ref C) = some false := by
  cases kd with
  | non => exact N.non
  | bl b => exact N.bl
  | int i => exact N.int
  | str x => exact N.str
  | lst _ => exact N.lst
  | tup _ => exact N.tup
  | dct _ => exact N.dct
def ArgO (K : PySem.W.Frag) (C : Addr) (o : LotI ⊕ String) (u : V) (F : Hp) : Prop := match o with
  | .inl j => IsLot K C j.1 j.2 u F
  | .inr T => Kd K F u T
def AnsO (i : LotI) (o : LotI ⊕ String) : Bool := match o with
  | .inl j => decide (textOf i.1 i.2 = textOf j.1 j.2)
  | .inr _ => false
abbrev spEqAny (K : PySem.W.Frag) (C : Addr) : Sp := spG (ι := LotI × (LotI ⊕ String)) (fun i vs F => ∃ v u, vs = [v, u] ∧ IsLot K C i.1.1 i.1.2 v F ∧ ArgO K C i.2 u F) (fun i v _ => v = .bl (AnsO i.1 i.2))
end
section
variable {K : PySem.W.Frag} {w : Wd} {σ : St} {F H : Hp} {ta tb tl : TE} {C : Addr} {n n' : Nat} {ts ts' : List (List (List Int))} {D : Ends} {tu : TS}
theorem ed_isiKd {T : String} (ha : EV w ta σ F fun u F' => Kd K F' u T) (N : NoIns K C) : ED K w (tCB (rIsi K) (tCons ta (tCons (tC (.ref C)) tNil))) σ F (.bool false) := fun F1 H1 e k Q q =>
  ha F1 H1 e k _ fun x F2 H2 g2 k2 p => ⟨x, .ref C, .type T, .ref C, false, rfl, .own C, (p.mono k2.e).ty, N.of p, q _ F2 H2 g2 k2 (.bl _)⟩
theorem ed_eqAny {g : Bool → Bool} (ha : EV w ta σ F (IsLot K C n ts)) (hb : EV w tb σ F (IsLot K C n' ts')) : ED K w (tOp (rEqO C (spEqAny K C) g) ta tb) σ F (.bool (g (decide (textOf n ts = textOf n' ts')))) := fun F1 H1 e k Q q =>
  ha F1 H1 e k _ fun x F2 H2 g2 k2 p2 => hb F2 H2 (e.trans g2.f) k2 _ fun y F3 H3 g3 k3 p3 => by
    have p2 := p2.mono g3.f
    obtain ⟨a, dx, tv, rfl, h1, _⟩ := id p2
    obtain ⟨b, dy, tv', rfl, h2, _⟩ := id p3
    exact ⟨a, b, dx, dy, _, _, rfl, rfl, k3.e _ _ h1, k3.e _ _ h2, F3, ((n, ts), .inl (n', ts')), k3.e, ⟨_, _, rfl, p2, p3⟩, fun v F4 H4 g4 p4 => ⟨_, p4, q _ F4 H4 ((g2.trans g3).trans g4.up) (k3.pure g4) (.bl _)⟩⟩
theorem ed_eqKd {g : Bool → Bool} (ha : EV w ta σ F (IsLot K C n ts)) (hb : EV w tb σ F fun u F' => ∃ T, Kd K F' u T) : ED K w (tOp (rEqL K C (spEqAny K C) g) ta tb) σ F (.bool (g false)) := fun F1 H1 e k Q q =>
  ha F1 H1 e k _ fun x F2 H2 g2 k2 p2 => hb F2 H2 (e.trans g2.f) k2 _ fun y F3 H3 g3 k3 ⟨T, kd⟩ => by
    have p2 := p2.mono g3.f
    obtain ⟨a, dx, tv, rfl, h1, _⟩ := id p2
    exact ⟨T, a, dx, _, rfl, k3.e _ _ h1, kd.mono k3.e, F3, ((n, ts), .inr T), k3.e, ⟨_, _, rfl, p2, kd⟩, fun v F4 H4 g4 p4 => ⟨_, p4, q _ F4 H4 ((g2.trans g3).trans g4.up) (k3.pure g4) (.bl _)⟩⟩
theorem ed_kdEq (ha : EV w ta σ F fun u F' => ∃ T, Kd K F' u T) (hb : EV w tb σ F (IsLot K C n ts)) : ED K w (tOp (rEqR K C (spEqAny K C)) ta tb) σ F (.bool false) := fun F1 H1 e k Q q =>
  ha F1 H1 e k _ fun x F2 H2 g2 k2 ⟨T, kd⟩ => hb F2 H2 (e.trans g2.f) k2 _ fun y F3 H3 g3 k3 p3 => by
    have kd := kd.mono g3.f
    obtain ⟨b, dy, tv, rfl, h1, _⟩ := id p3
    exact ⟨T, b, dy, _, kd.mono k3.e, rfl, k3.e _ _ h1, F3, ((n, ts), .inr T), k3.e, ⟨_, _, rfl, p3, kd⟩, fun v F4 H4 g4 p4 => ⟨_, p4, q _ F4 H4 ((g2.trans g3).trans g4.up) (k3.pure g4) (.bl _)⟩⟩
/-- for x in a frozen list, whatever its items are -/
theorem s_forLV {g : TG} {xs : List V} (k : w.ok F H) (ev : EV w tl σ F fun v F' => ∃ a, v = .ref a ∧ F' a = some (.lst xs)) (q : ∀ F1 H1, Gr w.M F H F1 H1 → w.ok F1 H1 → ∃ I : Nat → St → Hp → Hp → Prop, I 0 σ F1 H1 ∧ (∀ i σ' F' H', I i σ' F' H' → Same F1 F' ∧ Same F' H') ∧
      (∀ i v σ' F' H', xs[i]? = some v → I i σ' F' H' → g v σ' H' fun σ2 H2 => tu { D with nx := fun σ H => ∃ F, I (i + 1) σ F H, ct := fun σ H => ∃ F, I (i + 1) σ F H, bk := D.nx } σ2 H2) ∧ ∀ σ' F' H', I xs.length σ' F' H' → D.nx σ' H') :
    tFor (iList K tl) g tu D σ H := ev F H (Same.refl F) k _ fun v F1 H1 g1 k1 ⟨a, ea, hx⟩ => by
  subst ea
  obtain ⟨I, i0, iF, is, id⟩ := q F1 H1 g1 k1
  refine ⟨a, rfl, ⟨xs, rp_sqL k1.e hx⟩, for_list (xs := xs) (fun i σ H => ∃ F, I i σ F H) ⟨F1, i0⟩ (fun i σ' H' _ ⟨F', p⟩ => ?_) (fun i x σ' H' hi ⟨F', p⟩ => ?_) fun σ' H' ⟨F', p⟩ => ?_⟩
  · obtain ⟨e1, e2⟩ := iF i σ' F' H' p
    exact rp_sqL (e1.trans e2) hx
  · exact is i x σ' F' H' hi p
  · exact id σ' F' H' p
end
end Wk
namespace Wk
open PySem PySem.Spec L2 Lt
section
variable {K : PySem.W.Frag} {w : Wd} {σ : St} {F H : Hp} {ta tb : TE} {tr : TA} {C : Addr} {n : Nat} {ts : List (List (List Int))}
/-- a lot is in no list of other kinds -/
theorem ed_inKd (ha : EV w ta σ F (IsLot K C n ts)) (hb : EA w tr σ F fun vs F' => vs.length ≤ 100000 ∧ ∀ u ∈ vs, ∃ T, Kd K F' u T) : ED K w (tOp (rInO K C (spEqAny K C) false) ta (tLst tr)) σ F (.bool false) := fun F1 H1 e k Q q =>
  ha F1 H1 e k _ fun x F2 H2 g2 k2 p2 => hb F2 H2 (e.trans g2.f) k2 _ fun vs F3 H3 g3 k3 ⟨hl, hk⟩ => ⟨Nat.le_trans hl (by decide), fun l hlN => by
    have p2 := p2.mono g3.f
    obtain ⟨a, dx, tv, rfl, h1, _⟩ := id p2
    have g4 : Gr M0 F3 H3 (upd F3 l (.lst vs)) (upd H3 l (.lst vs)) := Gr.new k3.e hlN
    refine ⟨a, l, vs, fun i H' => ∃ F', Gr w.M F1 H1 F' H' ∧ w.ok F' H' ∧ Same (upd F3 l (.lst vs)) F', fun _ => False, rfl, rfl, ⟨_, (g2.trans g3).trans g4.up, k3.pure g4, Same.refl _⟩, ?_, ?_, ?_, fun _ h => h.elim, ?_⟩
    · rintro i H' ⟨F', g, kk, e'⟩
      exact ⟨⟨dx, _, kk.e _ _ (e' _ _ (g4.f _ _ h1))⟩, kk.e _ _ (e' _ _ upd_same)⟩
    · rintro i z H' hz ⟨F', g, kk, e'⟩ hza
      obtain ⟨T, kd⟩ := hk z (List.mem_of_getElem? hz)
      exact .inr ⟨T, kd.mono ((g4.f.trans e').trans kk.e)⟩
    · rintro i z H' hz ⟨F', g, kk, e'⟩ hne
      obtain ⟨T, kd⟩ := hk z (List.mem_of_getElem? hz)
      exact .inr ⟨T, kd.mono ((g4.f.trans e').trans kk.e), F', ((n, ts), .inr T), kk.e, ⟨_, _, rfl, p2.mono (g4.f.trans e'), kd.mono (g4.f.trans e')⟩, fun v F5 H5 g5 p5 => ⟨false, p5, by
        rw [if_neg (fun z => nomatch z)]
        exact ⟨F5, g.trans g5.up, kk.pure g5, e'.trans g5.f⟩⟩⟩
    · rintro H' ⟨F', g, kk, e'⟩
      exact q _ F' H' g kk (.bl _)⟩
/-- a lot that stands in a list of lots is found there -/
theorem ed_notInLots {a0 : Addr} {xs : List V} (ha : EV w ta σ F fun v F' => v = .ref a0 ∧ IsLot K C n ts v F') (hb : EV w tb σ F fun v F' => ∃ l, v = .ref l ∧ F' l = some (.lst xs)) (hm : V.ref a0 ∈ xs) (hx : ∀ z ∈ xs, ∃ n' ts', IsLot K C n' ts' z F) :
    ED K w (tOp (rInO K C (spEqAny K C) true) ta tb) σ F (.bool false) := fun F1 H1 e k Q q =>
  ha F1 H1 e k _ fun x F2 H2 g2 k2 ⟨ex, p2⟩ => hb F2 H2 (e.trans g2.f) k2 _ fun y F3 H3 g3 k3 ⟨l, el, hl⟩ => by
    subst ex el
    have p2 := p2.mono g3.f
    obtain ⟨a, dx, tv, ea, h1, _⟩ := id p2
    cases ea
    refine ⟨a0, l, xs, fun i H' => (∀ m z, m < i → xs[m]? = some z → z ≠ .ref a0) ∧ ∃ F', Gr w.M F1 H1 F' H' ∧ w.ok F' H' ∧ Same F3 F', fun H' => ∃ F', Gr w.M F1 H1 F' H' ∧ w.ok F' H', rfl, rfl, ⟨fun m z h => absurd h (Nat.not_lt_zero m), F3, g2.trans g3, k3, Same.refl _⟩, ?_, ?_, ?_, ?_, ?_⟩
    · rintro i H' ⟨_, F', g, kk, e'⟩
      exact ⟨⟨dx, _, kk.e _ _ (e' _ _ h1)⟩, kk.e _ _ (e' _ _ hl)⟩
    · rintro i z H' hz ⟨_, F', g, kk, e'⟩ _
      exact .inl ⟨F', g, kk⟩
    · rintro i z H' hz ⟨hno, F', g, kk, e'⟩ hne
      obtain ⟨n', ts', lz⟩ := hx z (List.mem_of_getElem? hz)
      have lz := lz.mono (((e.trans g2.f).trans g3.f).trans e')
      obtain ⟨b, dy, tv', rfl, h2, _⟩ := id lz
      refine .inl ⟨b, dy, _, rfl, kk.e _ _ h2, F', ((n', ts'), .inl (n, ts)), kk.e, ⟨_, _, rfl, lz, p2.mono e'⟩, fun v F5 H5 g5 p5 => ⟨_, p5, ?_⟩⟩
      split
      · exact ⟨F5, g.trans g5.up, kk.pure g5⟩
      · refine ⟨fun m z hmi hz2 => ?_, F5, g.trans g5.up, kk.pure g5, e'.trans g5.f⟩
        rcases Nat.lt_succ_iff_lt_or_eq.mp hmi with h | h
        · exact hno m z h hz2
        · subst h
          rw [hz] at hz2
          cases hz2
          exact hne
    · rintro H' ⟨F', g, kk⟩
      exact q _ F' H' g kk (.bl _)
    · rintro H' ⟨hno, _⟩
      obtain ⟨m, hml, hm⟩ := List.mem_iff_getElem.mp hm
      exact absurd rfl (hno m (.ref a0) hml (by rw [List.getElem?_eq_getElem hml, hm]))
end
end Wk
namespace Wk
open PySem PySem.Spec L2 Lt
section
variable {K : PySem.W.Frag} {w : Wd} {σ : St} {F H : Hp} {ta tb te : TE} {tr : TA}
abbrev IsK (K : PySem.W.Frag) (v : V) (F : Hp) : Prop := ∃ T, Kd K F v T
theorem IsK.mono {v : V} {F F' : Hp} (e : Same F F') (h : IsK K v F) : IsK K v F' := by
  obtain ⟨T, kd⟩ := h
  exact ⟨T, kd.mono e⟩
theorem ED.isk {d : PyData} (h : ED K w te σ F d) : EV w te σ F (IsK K) := EV.imp h fun _ _ r => kd_rp r
theorem eaK_nil : EA w tNil σ F fun vs F' => vs.length = 0 ∧ ∀ u ∈ vs, IsK K u F' := ea_nil fun _ => ⟨rfl, fun _ h => nomatch h⟩
theorem eaK_cons {m : Nat} (ha : EV w te σ F (IsK K)) (hb : ∀ F1, Same F F1 → EA w tr σ F1 fun vs F' => vs.length = m ∧ ∀ u ∈ vs, IsK K u F') : EA w (tCons te tr) σ F fun vs F' => vs.length = m + 1 ∧ ∀ u ∈ vs, IsK K u F' :=
  ea_cons (B := fun _ vs F' => vs.length = m ∧ ∀ u ∈ vs, IsK K u F') ha (fun x F1 e1 _ => hb F1 e1) fun x xs F1 F2 _ p e ⟨h1, h2⟩ => ⟨by rw [List.length_cons, h1], fun u hu => by
    rcases List.mem_cons.mp hu with rfl | hu
    · exact p.mono e
    · exact h2 u hu⟩
theorem isk_tup1 {P : V → Hp → Prop} (ha : EV w te σ F P) : EV w (tTup (tCons te tNil)) σ F (IsK K) := fun F1 H1 e k Q q =>
  ha F1 H1 e k _ fun v F2 H2 g2 k2 _ => ⟨show 1 ≤ sizeLine by decide, fun p hp => by
    have g3 : Gr M0 F2 H2 (upd F2 p (.tup [v])) (upd H2 p (.tup [v])) := Gr.new k2.e hp
    exact q _ _ _ (g2.trans g3.up) (k2.pure g3) ⟨_, .tup (.inl (.inl upd_same))⟩⟩
theorem isk_lst1 {P : V → Hp → Prop} (ha : EV w te σ F P) : EV w (tLst (tCons te tNil)) σ F (IsK K) := fun F1 H1 e k Q q =>
  ha F1 H1 e k _ fun v F2 H2 g2 k2 _ => ⟨show 1 ≤ sizeLine by decide, fun p hp => by
    have g3 : Gr M0 F2 H2 (upd F2 p (.lst [v])) (upd H2 p (.lst [v])) := Gr.new k2.e hp
    exact q _ _ _ (g2.trans g3.up) (k2.pure g3) ⟨_, .lst (.inl (.inl upd_same))⟩⟩
theorem ev_ixLV {xs : List V} {v : V} {j : Nat} {P : V → Hp → Prop} (ha : EV w ta σ F fun u F' => ∃ a, u = .ref a ∧ F' a = some (.lst xs)) (hb : ED K w tb σ F (.int (j : Int))) (hv : xs[j]? = some v) (hp : ∀ F', Same F F' → P v F') : EV w (tOp (rIxL K) ta tb) σ F P := fun F1 H1 e k Q q =>
  ha F1 H1 e k _ fun x F2 H2 g2 k2 ⟨a, ea, hx⟩ => hb F2 H2 (e.trans g2.f) k2 _ fun y F3 H3 g3 k3 p3 => by
    subst ea
    obtain rfl := rp_int p3
    exact ⟨a, xs, j, v, rfl, rfl, rp_sqL (g3.f.trans k3.e) hx, atI_nat hv, q v F3 H3 (g2.trans g3) k3 (hp F3 ((e.trans g2.f).trans g3.f))⟩
/-- a lot made of drawn tables -/
theorem ev_callX {ι : Type} {pre : ι → List V → Hp → Prop} {post : ι → V → Hp → Prop} {E : XK} {A : List V → Hp → Prop} {P : V → Hp → Prop} {b : Addr} (i0 : ι) (hb : w.b = some b) (hv : ED' w tb σ F (.ref b)) (ha : EA w tr σ F A) (h : ∀ vs F1, Same F F1 → A vs F1 → ∃ i, pre i vs F1 ∧ ∀ v F2, Same F1 F2 → post i v F2 → P v F2) :
    EV w (tCall (spB pre post) [] E (tCons tb tr)) σ F P := by
  classical
  have hc : ∀ vs F1, (h : ∃ i, pre i vs F1 ∧ ∀ v F2, Same F1 F2 → post i v F2 → P v F2) → pre (if h : ∃ i, pre i vs F1 ∧ ∀ v F2, Same F1 F2 → post i v F2 → P v F2 then Classical.choose h else i0) vs F1 ∧ ∀ v F2, Same F1 F2 → post (if h : ∃ i, pre i vs F1 ∧ ∀ v F2, Same F1 F2 → post i v F2 → P v F2 then Classical.choose h else i0) v F2 → P v F2 := fun vs F1 h => by
    rw [dif_pos h]
    exact Classical.choose_spec h
  exact ev_callB hb hv ha (fun vs F1 => if h : ∃ i, pre i vs F1 ∧ ∀ v F2, Same F1 F2 → post i v F2 → P v F2 then Classical.choose h else i0) (fun vs F1 e p => (hc vs F1 (h vs F1 e p)).1) fun vs F1 v F2 e p e2 z => (hc vs F1 (h vs F1 e p)).2 v F2 e2 z
end
end Wk
namespace Wk
open PySem PySem.Spec L2 Lt
theorem kit_no {K : PySem.W.Frag} {C : Addr} {T : String} (h0 : PySem.W.mroIn K C (.type "object") = some true) (ht : PySem.W.typeIn K (.ref C) = some (.type "type")) (hs : PySem.W.subIn K (.type T) (.ref C) = some false) : PySem.W.kitOne K (.type T) (.ref C) = some false := by
  have hc : (PySem.W.clsIn K C).isSome = true := by
    unfold PySem.W.mroIn at h0
    cases z : PySem.W.clsIn K C with
    | none => rw [z] at h0; cases h0
    | some cd => rfl
  have hne : (Value.type T == Value.ref C) = false := beq_eq_false_iff_ne.mpr fun z => by cases z
  unfold PySem.W.kitOne
  rw [hne, if_neg (fun z => nomatch z)]
  show (if ((PySem.W.clsIn K C).isSome && PySem.W.typeIn K (.ref C) == some (.type "type")) = true then PySem.W.subIn K (.type T) (.ref C) else none) = some false
  rw [hc, ht, if_pos (by simp), hs]
theorem noIns {K : PySem.W.Frag} {C : Addr} (h0 : PySem.W.mroIn K C (.type "object") = some true) (ht : PySem.W.typeIn K (.ref C) = some (.type "type")) (h1 : PySem.W.subIn K (.type "NoneType") (.ref C) = some false) (h2 : PySem.W.subIn K (.type "bool") (.ref C) = some false) (h3 : PySem.W.subIn K (.type "int") (.ref C) = some false)
    (h4 : PySem.W.subIn K (.type "str") (.ref C) = some false) (h5 : PySem.W.subIn K (.type "list") (.ref C) = some false) (h6 : PySem.W.subIn K (.type "tuple") (.ref C) = some false) (h7 : PySem.W.subIn K (.type "dict") (.ref C) = some false) : NoIns K C :=
  ⟨kit_no h0 ht h1, kit_no h0 ht h2, kit_no h0 ht h3, kit_no h0 ht h4, kit_no h0 ht h5, kit_no h0 ht h6, kit_no h0 ht h7⟩
end Wk
set_option Elab.async false
set_option linter.all false
set_option maxRecDepth 100000
set_option maxHeartbeats 2000000
/-! To: repr of dicts of whole numbers; defs without lambdas in a world with tables -/
namespace Wk
open PySem PySem.Spec Lt
open L2 hiding St
section
variable {K : PySem.W.Frag} {X : Cx} {pins : List (Addr × Obj)} {σ : L2.St} {H : Hp} {s : Shared}
theorem dict_parts {P : Program} {w : World} {h : Heap} : ∀ {kvs : List (Key × V)} {vs : List (Key × Value)} {es : List DictEntry} {ds : List PyData}, KV kvs vs → Pairs (mixKind P w) es vs → RpA K H (kvs.map (·.2)) ds → (∀ d ∈ ds, ∃ i, d = .int i) →
    ReadsAll h (es.map (·.key)) (((kvs.map fun p => kD p.1).zip ds).map (·.1)) [] ∧ ReadsAll h (es.map (·.val)) (((kvs.map fun p => kD p.1).zip ds).map (·.2)) []
  | [], _, _, _, hk, hp, hr, _ => by
    cases hk
    cases hp
    cases hr
    exact ⟨.nil, .nil⟩
  | (k, v) :: kvs, _, _, _, hk, hp, hr, hi => by
    cases hk with
    | cons h1 h2 =>
      cases hp with
      | cons h3 h3b h4 =>
        cases hr with
        | cons h5 h6 =>
          obtain ⟨i, rfl⟩ := hi _ (List.mem_cons_self ..)
          obtain ⟨z1, z2⟩ := dict_parts (h := h) h2 h4 h6 fun d hd => hi d (List.mem_cons_of_mem _ hd)
          obtain ⟨e1, e2⟩ := h1
          rename_i kv vs e es ds
          have h3 : keyIs kv.1 e.key = true := h3
          have e1 : k = kv.1 := e1
          rw [← e1] at h3
          have e2 : RelV v kv.2 := e2
          have h5 : Rp K H v (.int i) := h5
          rw [← h3b, rp_int h5] at e2
          obtain ⟨t, e2⟩ := e2
          refine ⟨?_, ?_⟩
          · show ReadsAll h (e.key :: es.map (·.key)) (kD k :: ((kvs.map fun p => kD p.1).zip ds).map (·.1)) []
            have : Reads h e.key (kD k) [] := by
              have h3 : keyIs k e.key = true := h3
              rcases keyIs_shape h3 with ⟨j, t, ek, ev⟩ | ⟨x, t, ek, ev⟩
              · rw [ek, ev]
                exact .int j t
              · rw [ek, ev]
                exact .str x t
            exact .cons this z1
          · show ReadsAll h (e.val :: es.map (·.val)) (.int i :: ((kvs.map fun p => kD p.1).zip ds).map (·.2)) []
            rw [e2]
            exact .cons (.int i t) z2
/-- a dict of whole numbers -/
def IntDict (d : PyData) : Prop := ∃ ps : List (PyData × PyData), d = .dict ps ∧ ∀ p ∈ ps, ∃ i, p.2 = .int i
theorem zip_ints : ∀ {ks ds : List PyData}, ks.length = ds.length → (∀ p ∈ ks.zip ds, ∃ i, p.2 = PyData.int i) → ∀ d ∈ ds, ∃ i, d = .int i
  | [], [], _, _, d, hd => nomatch hd
  | k :: ks, e :: ds, hl, h, d, hd => by
    rcases List.mem_cons.mp hd with rfl | hd
    · exact h (k, d) (List.mem_cons_self ..)
    · exact zip_ints (by simpa using hl) (fun p hp => h p (List.mem_cons_of_mem _ hp)) d hd
theorem dict_reads (I : Inv X pins σ H s) {v : V} {u : Value} {d : PyData} (h : Rp X.K H v d) (hd : IntDict d) (r : RelV v u) : ∃ a, u = .ref a ∧ Reads s.heap (.ref a) d [a] ∧ a ≠ sysModules := by
  obtain ⟨ps, rfl, hi⟩ := hd
  cases h with
  | @dct a kvs ds ha hr =>
    cases r
    obtain ⟨_, lo, vs, rk, o, es, ep, e1, ex, hdat, _, hp, _⟩ := dk_of I.hok ha
    obtain ⟨z1, z2⟩ := dict_parts (h := s.heap) rk hp hr (zip_ints (by rw [List.length_map, ← hr.len, List.length_map]) hi)
    exact ⟨a, rfl, Reads.dict e1 ex.1 hdat z1 z2, fun z => by rw [z] at lo; exact absurd lo (by decide)⟩
/-- what repr may be asked of: values without dicts, dicts of whole numbers -/
structure ShowsX (d : PyData) : Prop where
  sh : d.showable = true
  nd : d.hasDict = false ∨ IntDict d
  dp : d.depth < 40
  sz : d.shown.length ≤ sizeLine
theorem Shows.x {d : PyData} (h : Shows d) : ShowsX d := ⟨h.sh, .inl h.nd, h.dp, h.sz⟩
def rReprX (K : PySem.W.Frag) : List V → Hp → VK → Prop := fun xs H Q => ∃ v d, xs = [v] ∧ Rp K H v d ∧ ShowsX d ∧ Q (.str d.shown) H
theorem cG_reprX (K : PySem.W.Frag) (hK : X.K = K) (hu : X.A.units + 64 < cLine) (hg : X.A.guards = some []) : CallR X (.builtin "repr") (rReprX K) := by
  intro pins s σ H xs us Q I r h
  obtain ⟨v, d, rfl, rp, sw, q⟩ := h
  rcases sw.nd with nd | hd
  · exact cG_reprV K hK hu hg pins s σ H [v] us Q I r ⟨v, d, rfl, rp, ⟨sw.sh, nd, sw.dp, sw.sz⟩, q⟩
  · subst hK
    cases r with
    | cons r1 r2 =>
      cases r2
      obtain ⟨a, rfl, rd, ha⟩ := dict_reads I rp hd r1
      have := sw.dp
      exact repr_of_reads' rd sw.sh (fun _ z => ha (List.mem_singleton.mp z).symm) hg (by omega) (fun _ _ e => e) (fun h' u tk k => ⟨.str d.shown, H, I.kept k, ⟨u, rfl⟩, q⟩) sw.sz
end
section
variable {K : PySem.W.Frag} {F : Hp} {w : Wd} {σ : L2.St} {ta tb : TE}
theorem ed_reprX {d : PyData} (ha : ED K w ta σ F d) (sw : ShowsX d) : ED K w (tCB (rReprX K) (tCons ta tNil)) σ F (.str d.shown) :=
  ed_cb1 ha fun x F' H k r => ⟨.str d.shown, fun Q q => ⟨x, d, rfl, r.mono k.e, sw, q⟩, .str _⟩
end
section
variable {P : Program} {w : World} {K : PySem.W.Frag} {mg : Str → Option Value} {base : Heap}
/-- a def without lambdas, in a world with tables -/
theorem gen_okTN {ι : Type} {T : List (Addr × Str)} {x qual : Str} {st : Stmt} {f : Addr} {fd : FuncData} {N ps : List Str} {k : Nat} {pre : ι → List V → Hp → Prop} {post : ι → V → Hp → Prop} (F : Fun K x qual st f fd) (S : FnScope N ps (defScope st)) (hl : ∀ i vs F, pre i vs F → vs.length = ps.length)
    (hb : ∀ (cdv : Value) (A : Around) (outer : List Env) (s : Shared) (H : Hp) (E : XK), Room k (A.deeper (PyProof.Rows.envOfC qual (defScope st) s.heap.objs.size f cdv)) → A.guards = some [] →
      ∃ t, PSs (cxOf CX0 P w K mg base N qual (defScope st) f cdv A outer s H E).nox (defBody st) t ∧ ∀ i vs F (Q : VK), pre i vs F → (Wd.tab none T).ok F H → (∀ v F' H', Gr (Wd.tab none T).M F H F' H' → (Wd.tab none T).ok F' H' → post i v F' → Q v H') → t { nx := fun _ H' => Q .non H', rt := Q } (start N vs) H) :
    FnOkG P w K mg base (k + 1) f fd ps (spGT T pre post) := by
  refine okG F S (fun vs H Q E h => ?_) (fun cdv A outer s H vs Q E hr hg h => ?_)
  · obtain ⟨F, i, e, r, q⟩ := h
    exact hl i vs F r
  · obtain ⟨F, i, e, r, q⟩ := h
    obtain ⟨t, h1, h2⟩ := hb cdv A outer s H E hr hg
    exact ⟨t, h1, h2 i vs F Q r e q⟩
end
end Wk
set_option Elab.async false
set_option linter.all false
set_option maxRecDepth 100000
set_option maxHeartbeats 2000000
/-! Tp: the first bad item of a tuple -/
namespace Wk
open PySem PySem.Spec Lt
open L2 hiding St
def fstG (bad : Nat → PyData → Bool) : Nat → List PyData → Option Nat
  | _, [] => none
  | i, d :: ds => if bad i d = true then some i else fstG bad (i + 1) ds
theorem fstG_none {bad : Nat → PyData → Bool} : ∀ {ds : List PyData} {i : Nat}, fstG bad i ds = none → ∀ j d, ds[j]? = some d → bad (i + j) d = false
  | [], _, _ => fun j d h => by simp at h
  | e :: ds, i, h => by
    unfold fstG at h
    split at h
    · cases h
    · rename_i hb
      intro j d hj
      cases j with
      | zero =>
        simp at hj
        subst hj
        exact Bool.eq_false_iff.mpr hb
      | succ j =>
        have := fstG_none h j d (by simpa using hj)
        rw [show i + (j + 1) = i + 1 + j by omega]
        exact this
theorem fstG_at {bad : Nat → PyData → Bool} : ∀ {ds : List PyData} {i j : Nat} {d : PyData}, (∀ k e, k < j → ds[k]? = some e → bad (i + k) e = false) → ds[j]? = some d → bad (i + j) d = true → fstG bad i ds = some (i + j)
  | [], _, _, _ => fun _ h => by simp at h
  | e :: ds, i, j, d => fun hb hj ht => by
    unfold fstG
    cases j with
    | zero =>
      simp at hj
      subst hj
      rw [if_pos (show bad i e = true from ht)]
      rfl
    | succ j =>
      rw [if_neg (show ¬ bad i e = true by rw [show bad i e = false from hb 0 e (Nat.succ_pos _) (by simp)]; exact Bool.false_ne_true), fstG_at (j := j) (d := d) (fun k x hk hx => by
        have := hb (k + 1) x (Nat.succ_lt_succ hk) (by simpa using hx)
        rw [show i + 1 + k = i + (k + 1) by omega]
        exact this) (by simpa using hj) (by rw [show i + 1 + j = i + (j + 1) by omega]; exact ht)]
      congr 1
      omega
theorem fstG_all {bad : Nat → PyData → Bool} : ∀ {ds : List PyData} {i : Nat}, (∀ k e, ds[k]? = some e → bad (i + k) e = false) → fstG bad i ds = none
  | [], _, _ => rfl
  | e :: ds, i, hb => by
    unfold fstG
    rw [if_neg (show ¬ bad i e = true by rw [show bad i e = false from hb 0 e (by simp)]; exact Bool.false_ne_true)]
    exact fstG_all fun k x hx => by
      have := hb (k + 1) x (by simpa using hx)
      rw [show i + 1 + k = i + (k + 1) by omega]
      exact this
theorem fstG_lt {bad : Nat → PyData → Bool} : ∀ {ds : List PyData} {i j : Nat}, fstG bad i ds = some j → i ≤ j ∧ j < i + ds.length
  | [], _, _, h => nomatch h
  | e :: ds, i, j, h => by
    unfold fstG at h
    split at h
    · cases h
      exact ⟨Nat.le_refl _, by rw [List.length_cons]; omega⟩
    · have := fstG_lt h
      rw [List.length_cons]
      omega
/-- what an error with an index tells: None for no tuple, the first bad index, nothing -/
def idxErr (bad : List PyData → Nat → PyData → Bool) : PyData → Option PyData
  | .tuple ds => (fstG (bad ds) 0 ds).map fun i : Nat => PyData.int (i : Int)
  | _ => some .none
theorem idxErr_not {bad : List PyData → Nat → PyData → Bool} {d : PyData} (h : ¬ ∃ ds, d = .tuple ds) : idxErr bad d = some .none := by
  match d, h with
  | .tuple ds, h => exact (h ⟨ds, rfl⟩).elim
  | .none, _ => rfl
  | .bool _, _ => rfl
  | .int _, _ => rfl
  | .str _, _ => rfl
  | .list _, _ => rfl
  | .dict _, _ => rfl
/-- which errors it tells -/
theorem idxErr_of {bad : List PyData → Nat → PyData → Bool} {d e : PyData} (h : idxErr bad d = some e) : e = .none ∨ ∃ ds i, d = .tuple ds ∧ i < ds.length ∧ e = .int (i : Nat) := by
  by_cases hd : ∃ ds, d = .tuple ds
  · obtain ⟨ds, rfl⟩ := hd
    have h : (fstG (bad ds) 0 ds).map (fun i : Nat => PyData.int (i : Int)) = some e := h
    cases z : fstG (bad ds) 0 ds with
    | none => rw [z] at h; cases h
    | some i =>
      rw [z] at h
      cases h
      have := fstG_lt z
      exact .inr ⟨ds, i, rfl, by omega, rfl⟩
  · rw [idxErr_not hd] at h
    cases h
    exact .inl rfl
theorem sh_idx {bad : List PyData → Nat → PyData → Bool} {d e : PyData} (h : idxErr bad d = some e) (hl : ∀ ds, d = .tuple ds → ds.length ≤ 100000) : Sh e 7 0 := by
  rcases idxErr_of h with rfl | ⟨ds, i, rfl, hi, rfl⟩
  · exact sh_none.mono (by decide) (Nat.le_refl _)
  · have := hl ds rfl
    exact (sh_int (k := 6) (by show (Int.natAbs (i : Int)) < _; rw [Int.natAbs_natCast]; omega) (by decide) (by decide)).mono (by decide) (Nat.le_refl _)
theorem shown_idx {bad : List PyData → Nat → PyData → Bool} {d e : PyData} (h : idxErr bad d = some e) (hl : ∀ ds, d = .tuple ds → ds.length ≤ 100000) : Sm e.shown ∧ e.shown.length ≤ 8 := by
  rcases idxErr_of h with rfl | ⟨ds, i, rfl, hi, rfl⟩
  · rw [show (PyData.none).shown = "None" by decide +kernel]
    exact ⟨sm_by (by decide +kernel), by decide +kernel⟩
  · have := hl ds rfl
    have e1 : (PyData.int (i : Nat)).shown = intS (i : Int) := by simp only [PyData.shown]; rfl
    rw [e1]
    exact ⟨sm_int _, len_intS (by omega)⟩
section
variable {K : PySem.W.Frag} {w : Wd} {σ : L2.St} {F H : Hp} {ta tb : TE} {t : TT} {D : Ends} {tu rest : TS}
/-- if ..; what follows is read after both -/
theorem q_ifJ {J : L2.St → Hp → Hp → Prop} (k : w.ok F H) (ev : ET w t σ F fun _ _ => True) (h1 : ∀ F' H' (N : L2.St → Hp → Prop), (∀ σ F H, J σ F H → N σ H) → Gr w.M F H F' H' → w.ok F' H' → tu { D with nx := N } σ H') (h2 : ∀ F' H', Gr w.M F H F' H' → w.ok F' H' → J σ F' H') (h3 : ∀ σ F' H', J σ F' H' → rest D σ H') : tSeq (tIfS t tu tNext) rest D σ H :=
  q_ifT k ev (fun F' H' g k' => h1 F' H' (rest D) h3 g k') fun F' H' g k' => h3 _ _ _ (h2 F' H' g k')
/-- x == y, drawn numbers -/
theorem et_eqR {A B : Int → Prop} (ha : EI w ta σ F A) (hb : EI w tb σ F B) : ET w (tTest (tOp rEq ta tb)) σ F fun _ _ => True := fun F1 H1 e k Q q =>
  ha F1 H1 e k _ fun x F2 H2 g2 k2 ⟨i, ei, _⟩ => hb F2 H2 (e.trans g2.f) k2 _ fun y F3 H3 g3 k3 ⟨j, ej, _⟩ => ⟨by rw [ei, ej]; rfl, _, rfl, q _ F3 H3 (g2.trans g3) k3 trivial⟩
/-- [..] * k -/
theorem ed_repL {ds : List PyData} {k : Nat} (ha : ED K w ta σ F (.list ds)) (hb : ED K w tb σ F (.int (k : Int))) (h1 : ds.length ≤ 1000) (h2 : k ≤ 1000) : ED K w (tOp rRep ta tb) σ F (.list (List.replicate k ds).flatten) := fun F1 H1 e kk Q q =>
  ha F1 H1 e kk _ fun x F2 H2 g2 k2 p2 => hb F2 H2 (e.trans g2.f) k2 _ fun y F3 H3 g3 k3 p3 => by
    obtain ⟨a, xs, rfl, h, ra⟩ := rp_lst p2
    obtain rfl := rp_int p3
    have hz : ds.length * k ≤ 1000 * 1000 := Nat.mul_le_mul h1 h2
    refine ⟨a, k, xs, rfl, rfl, (g3.f.trans k3.e) _ _ h, by omega, by omega, by rw [ra.len, Int.toNat_natCast]; exact Nat.le_trans hz (by decide), fun p hp => ?_⟩
    have g4 : Gr M0 F3 H3 (upd F3 p (.lst (List.replicate (k : Int).toNat xs).flatten)) (upd H3 p (.lst (List.replicate (k : Int).toNat xs).flatten)) := Gr.new k3.e hp
    refine q _ _ _ ((g2.trans g3).trans g4.up) (k3.pure g4) (.lst upd_same ?_)
    rw [Int.toNat_natCast]
    exact rpA_rep ((ra.mono g3.f).mono g4.f) k
/-- (x,) * k, both drawn -/
theorem er_repA1 {R : PyData → Prop} {M : Nat} (hM : M ≤ 1000) (ha : ER K w ta σ F R) (hb : EI w tb σ F fun r => 0 ≤ r ∧ r ≤ M) : ER K w (tOp (rRepA K) (tTup (tCons ta tNil)) tb) σ F fun d => ∃ (x : PyData) (k : Nat), R x ∧ k ≤ M ∧ d = .tuple (List.replicate k x) := fun F1 H1 e kk Q q =>
  ha F1 H1 e kk _ fun x F2 H2 g2 k2 ⟨d, hd, r⟩ => ⟨(by show 1 ≤ sizeLine; decide), fun p hp => by
    have g3 : Gr M0 F2 H2 (upd F2 p (.tup [x])) (upd H2 p (.tup [x])) := Gr.new k2.e hp
    have rp : Rp K (upd F2 p (.tup [x])) (.ref p) (.tuple [d]) := .tup (.inl (.inl upd_same)) (.cons (r.mono g3.f) .nil)
    refine hb _ _ ((e.trans g2.f).trans g3.f) (k2.pure g3) _ fun y F4 H4 g4 k4 ⟨n, en, n0, n1⟩ => ?_
    obtain ⟨m, rfl⟩ : ∃ m : Nat, n = m := ⟨n.toNat, by omega⟩
    subst en
    have z := ed_repA (K := K) (w := w) (ta := tVar 0) (tb := tVar 1) (σ := [some (.ref p), some (.int (m : Int))]) (F := F4) (ed_var rfl (rp.mono g4.f)) (ed_var rfl (.int _)) (fun z => nomatch z) (by decide : 1 ≤ 1000) (by omega : m ≤ 1000) F4 H4 (Same.refl F4) k4 Q fun v F5 H5 g5 k5 p5 => q v F5 H5 (((g2.trans g3.up).trans g4).trans g5) k5 ⟨_, ⟨d, m, hd, by omega, rfl⟩, by
      have e1 : ∀ k : Nat, (List.replicate k [d]).flatten = List.replicate k d := fun k => by
        induction k with
        | zero => rfl
        | succ k ih => rw [List.replicate_succ, List.flatten_cons, ih, List.replicate_succ]; rfl
      rw [e1] at p5
      exact p5⟩
    obtain ⟨v, h, v', h', z⟩ := z
    cases h
    cases h'
    exact z⟩
end
/-! ### f(k = e, ..) that may raise -/
def tCallKX (m : Nat) (gV : List V → List V) (sp : Sp) (E : XK) (tk : TA) : TE := fun σ H Q => tk σ H fun zs H2 => zs.length = m ∧ sp (gV zs) H2 Q E
section
variable {X : Cx} {CX : CXT} {k : Nat} {f : Addr} {fd : FuncData} {ps ks : List Str} {sp : Sp} {x : Str} {p pos : Pos} {kws : List Keyword} {tk : TA} {g : List Value → List Value → List Value} {gV : List V → List V → List V} {E : XK}
theorem pe_callKX (F : FnOk X.prog X.w X.K X.mg X.base CX k f fd ps sp) (hr : Room k X.A) (hg : Gl X x) (hm : X.mg x = some (.ref f)) (hk : PySem.W.keepIn X.K (.ref f) = true) (hb : KBn X.K fd ps 0 ks g gV) (hx : Passes CX X E) (hkw : PK X kws tk)
    (hall : (backToKw pos (keywordEach kws X.env)).all (·.1.isSome) = true := by rfl) (hks : (backToKw pos (keywordEach kws X.env)).filterMap (·.1) = ks := by rfl) (hdb : (x == ("__debug__" : Str)) = false := by decide)
    (hpl : ((backTo pos (starEach [] X.env)).any (·.1) || (backToKw pos (keywordEach kws X.env)).any (·.1.isNone)) = false := by rfl) :
    PE X (.Call (.Name x p) [] kws pos) (tCallKX ks.length (gV []) sp E tk) := by
  refine ⟨fun pins s σ H Q I h => ?_⟩
  refine wpAny_Call_Name_kw (ld_glob I hg hm ?_ hdb)
  refine PySem.W.callWith_KW0 (h₀ := X.base) I.ok.mod.kin hk hall ?_ hpl
  refine thn (hkw.run pos pins s σ H _ I h) fun ws s2 ⟨zs, H2, I2, rz, l1, q2⟩ => ⟨I2.kIn, ?_⟩
  rw [hks]
  refine wpAny_call (codeAny_mono (F.run X.A X.stack s2 H2 ⟨[], ks.zip ws⟩ (g [] ws) (gV [] zs) Q E hr I2.env0 (hb.to s2 [] ws I2.kIn rfl (rz.length.symm.trans l1)) (hb.rel .nil rz) q2) fun r s' hq => ?_)
  cases r with
  | error e => exact hx pins σ H2 s2 e s' I2 hq
  | ok fl =>
    cases fl with
    | ret u => exact I2.after hq
    | next => exact hq.elim
    | brk => exact hq.elim
    | cont => exact hq.elim
end
section
variable {w : Wd} {σ : L2.St} {F : Hp} {tr : TA} {P : V → Hp → Prop} {R : PErr} {E : XK}
theorem ex_callKX {ι : Type} {pre : ι → List V → Hp → Prop} {post : ι → V → Hp → Prop} {err : ι → PErr} {A : List V → Hp → Prop} {m : Nat} {gV : List V → List V} (ha : EA w tr σ F A) (hm : ∀ ws F1, A ws F1 → ws.length = m) (i : List V → Hp → ι) (hp : ∀ vs F1, Same F F1 → A vs F1 → pre (i vs F1) (gV vs) F1) (hq : ∀ vs F1 v F2, Same F F1 → A vs F1 → Same F1 F2 → post (i vs F1) v F2 → P v F2)
    (hr : ∀ vs F1 c d F2, Same F F1 → A vs F1 → Same F1 F2 → err (i vs F1) c d F2 → R c d F2) : EXe w (tCallKX m gV (spX pre post err) E tr) E σ F P R := fun F1 H1 e k Q q r =>
  ha F1 H1 e k _ fun vs F2 H2 g2 k2 p => ⟨hm vs F2 p, F2, i vs F2, k2.e, hp vs F2 (e.trans g2.f) p, fun v F3 H3 g3 p3 => q v F3 H3 (g2.trans g3.up) (k2.pure g3) (hq vs F2 v F3 (e.trans g2.f) p g3.f p3),
    fun c d F3 H3 g3 p3 => r c d F3 H3 (g2.trans g3.up) (k2.pure g3) (hr vs F2 c d F3 (e.trans g2.f) p g3.f p3)⟩
end
theorem strok_of {x : Str} (h : ∀ c ∈ TL.tl x, c < 1114112) : PyData.strOk x = true := by
  unfold PyData.strOk
  rw [← Array.all_toList]
  exact List.all_eq_true.mpr fun c hc => decide_eq_true (h c hc)
theorem strok_int (i : Int) : PyData.strOk (intS i) = true := strok_of fun c hc => by
  have h : c ∈ Tx.intL i := by
    rw [← Tx.tl_int]
    exact hc
  have := Tx.intL_signs c h
  omega
theorem strok_idx {bad : List PyData → Nat → PyData → Bool} {d e : PyData} (h : idxErr bad d = some e) : PyData.strOk e.shown = true := by
  rcases idxErr_of h with rfl | ⟨ds, i, rfl, hi, rfl⟩
  · decide +kernel
  · rw [show (PyData.int (i : Nat)).shown = intS (i : Int) by simp only [PyData.shown]; rfl]
    exact strok_int _
end Wk
set_option Elab.async false
set_option linter.all false
set_option maxRecDepth 100000
set_option maxHeartbeats 2000000
/-! Tq: defs whose errors have no context; raise from None in an except suite -/
namespace L2H
open PySem PySem.Spec PyProof.Rows L2 HotX
/-- C(e, ..), nothing handled -/
theorem pmk5_oex {X : Cx} {CX : CXT} {x : Str} {e : Expr} {es : List Expr} {ta : TA} {p pos : Pos} {C fI : Addr} {k : Nat} {fd : FuncData} {ps : List Str} {sp : Sp} (T : OexC X.K C) (iC : PySem.W.findIn X.K (.ref C) "__init__" = some (some (.ref fI))) (tI : PySem.W.typeIn X.K (.ref fI) = some (.type "function"))
    (F1 : FnOk X.prog X.w X.K X.mg X.base CX k fI fd ps sp) (hr : Room (k + 1) X.A) (hb : Binds X.K fd ps []) (hx : Passes CX X (fun _ _ _ => False)) (hg : Gl X x) (hm : X.mg x = some (.ref C)) (ha : PA X (e :: es) ta)
    (hdb : (x == ("__debug__" : Str)) = false := by decide) (he : starEach (e :: es) X.env = (false, eval e X.env) :: starEach es X.env := by rfl) (hpl : (backTo pos (starEach es X.env)).any (·.1) = false := by rfl) :
    PMk5 X (.Call (.Name x p) (e :: es) [] pos) (tMkO C sp [] ta) := by
  intro pins s σ H Q I h
  obtain ⟨nm, q, N, bs, bm, sn, sub, ab, col, dd, k0, k1, k2, k3, k5, hC, hbm⟩ := T.cls
  refine wpAny_Call_Name_kw (ld_glob I hg hm ?_ hdb)
  refine PySem.W.callWith_K (h₀ := X.base) I.ok.mod.kin T.kC (thn (ha.run pos pins s σ H _ I h) fun us s1 ⟨vs, H1, I1, r1, hz, q1⟩ => ⟨I1.kIn, ?_⟩) he hpl
  show wpAny _ _ (call (.ref C) us) _ _ _
  obtain ⟨hp, g, dr, tk, os⟩ := s1
  have hsz : hp.objs.size ≤ hp.objs.size + 1 := Nat.le_succ _
  have hn : H1 (hp.objs.size + 1) = none := I1.hok.fresh hsz
  have hq := q1 (hp.objs.size + 1) hn
  rw [List.append_nil] at hq
  have kk : ∀ b o, hp.get? b = some o → ((hp.push (PySem.W.kdv_tup us)).push (PySem.HandSPX.excO C hp.objs.size)).get? b = some o := fun b o e => Heap.get?_push_of_some _ (Heap.get?_push_of_some _ e)
  have hget : ((hp.push (PySem.W.kdv_tup us)).push (PySem.HandSPX.excO C hp.objs.size)).get? (hp.objs.size + 1) = some (PySem.HandSPX.excO C hp.objs.size) := by heap_get
  have I2 : Inv X pins σ (upd H1 (hp.objs.size + 1) (exo (hp.objs.size + 1) C none)) ⟨(hp.push (PySem.W.kdv_tup us)).push (PySem.HandSPX.excO C hp.objs.size), g, dr, tk, os⟩ :=
    I1.laid (t' := tk) (a := hp.objs.size + 1) (o := exo (hp.objs.size + 1) C none) (h' := (hp.push (PySem.W.kdv_tup us)).push (PySem.HandSPX.excO C hp.objs.size)) kk hsz (exo_ok hget)
  have r2 : Vals (V.ref (hp.objs.size + 1) :: vs) (Value.ref (hp.objs.size + 1) :: us) := .cons rfl r1
  have hl : (Value.ref (hp.objs.size + 1) :: us ++ []).length = ps.length := by
    have e := r2.length
    rw [F1.len _ _ _ _ hq] at e
    rw [List.append_nil]
    exact e.symm
  have hus : us.length ≤ sizeLine := by
    rw [← Paired.length r1, sizeLine_eq]
    omega
  have b2 := hb _ (Value.ref (hp.objs.size + 1) :: us) I2.kIn hl
  rw [List.append_nil] at b2
  refine wpAny_call (PySem.HandSPX.call_own F.excBase_ValueError (fun Y => PySem.HandSPX.refsVE_contains Y bm hbm) (I1.kIn _ _ hC) (PySem.W.looks_findIn I1.kIn iC) (fun self => PySem.W.bind_fn I1.kIn self tI) hus
    (codeAny_mono (F1.run _ X.stack _ _ ⟨Value.ref (hp.objs.size + 1) :: us, []⟩ (Value.ref (hp.objs.size + 1) :: us) _ _ (fun _ _ _ => False) (hr.make C us []) (I2.env0.make C us []) b2 r2 hq) fun r s' hq' => ?_))
  cases r with
  | error er => exact hx pins σ _ _ er s' I2 hq'
  | ok fl =>
    cases fl with
    | ret u =>
      obtain ⟨v, H2, os2, bare2, un2, hok2, rv, ev, d, fs, ea, ed, hd1, q2⟩ := hq'
      subst ev
      obtain ⟨h2, g2, d2, t2, os'⟩ := s'
      obtain ⟨t0, G, J, kG, ge, hoe, na⟩ := mk_end0 (d2 := d2) (t2 := t2) I1 hsz kk un2 hok2 os2 bare2 ea ed hd1
      refine ⟨rv, ⟨hp.objs.size + 1, _, _, ⟨G, g2, d2, t2, os'⟩, _, .ref C, some d, rfl, J, kG, ge, hoe, ⟨rfl, rfl, fun vs hv => ?_⟩, rfl, rfl, na, rfl, bare2, raises_own T.exC T.tyC, q2⟩, fun a oe vs ea2 hg2 hd2 => ?_⟩
      · cases hv
        rfl
      · cases ea2
        have hg3 : h2.get? (hp.objs.size + 1) = some oe := hg2
        rw [hoe] at hg3
        cases hg3
        cases hd2
        show (4 : Nat) < 6
        decide
    | next => exact False.elim hq'
    | brk => exact False.elim hq'
    | cont => exact False.elim hq'
end L2H
namespace Wk
open PySem PySem.Spec PyProof.Rows
open L2 hiding St
section
variable {X : Cx} {W : WX} {C fI : Addr} {f x p0 p1 : Str} {fd : FuncData} {k : Nat} {e : Expr} {es : List Expr} {ta : TA} {pos pos2 p : Pos}
/-- raise, the exception's context None -/
theorem ps_raise1N (hc : X.calm = true) (tk : L2N.Takes X W) (T : OexC X.K C) (iC : PySem.W.findIn X.K (.ref C) "__init__" = some (some (.ref fI))) (tI : PySem.W.typeIn X.K (.ref fI) = some (.type "function")) (F1 : FnOk X.prog X.w X.K X.mg X.base CX0 k fI fd [p0, p1] (spE1 C f)) (hr : Room (k + 1) X.A)
    (hb : Binds X.K fd [p0, p1] []) (hg : Gl X x) (hm : X.mg x = some (.ref C)) (ha : PA X (e :: es) ta) (hdb : (x == ("__debug__" : Str)) = false := by decide) (he : starEach (e :: es) X.env = (false, eval e X.env) :: starEach es X.env := by rfl)
    (hpl : (backTo pos (starEach es X.env)).any (·.1) = false := by rfl) : PS X (.Raise (some (.Call (.Name x p) (e :: es) [] pos)) none pos2) (tRaise C f W ta) := L2N.ps_raise hc tk (L2H.PMk5.pmk (L2H.pmk5_oex T iC tI F1 hr hb pass0 hg hm ha hdb he hpl))
/-- raise .. from None, in an except suite -/
theorem ps_raise1F {j : Nat} {cpos : Pos} (hc : L2H.HotC X) (tk : L2.Takes X W) (T : OexC X.K C) (iC : PySem.W.findIn X.K (.ref C) "__init__" = some (some (.ref fI))) (tI : PySem.W.typeIn X.K (.ref fI) = some (.type "function")) (F1 : L2H.FnH X.prog X.w X.K X.mg X.base CX0 k fI fd [p0, p1] (spE1 C f)) (hr : L2H.RoomH (k + 1) X.A)
    (hb : Binds X.K fd [p0, p1] []) (hg : Gl X x) (hm : X.mg x = some (.ref C)) (ha : PA X (e :: es) ta) (hdb : (x == ("__debug__" : Str)) = false := by decide) (he : starEach (e :: es) X.env = (false, eval e X.env) :: starEach es X.env := by rfl)
    (hpl : (backTo pos (starEach es X.env)).any (·.1) = false := by rfl) : PS X (.Raise (some (.Call (.Name x p) (e :: es) [] pos)) (some (.Constant .none j cpos)) pos2) (tRaise C f W ta) := L2H.ps_raiseHN hc tk (L2H.pmk5_oexH T iC tI F1 hr hc hb pass0 hg hm ha hdb he hpl)
end
section
variable {P : Program} {w : World} {K : PySem.W.Frag} {mg : Str → Option Value} {base : Heap}
theorem okXN {x qual : Str} {st : Stmt} {f : Addr} {fd : FuncData} {N ps : List Str} {k : Nat} {sp : Sp} (F : Fun K x qual st f fd) (S : FnScope N ps (defScope st)) (len : ∀ vs H Q E, sp vs H Q E → vs.length = ps.length)
    (hbody : ∀ (cdv : Value) (A : Around) (outer : List Env) (s : Shared) (H : Hp) (vs : List V) (Q : VK) (E : XK), Room k (A.deeper (envOfC qual (defScope st) s.heap.objs.size f cdv)) → sp vs H Q E →
      ∃ t, PSs (cxOf (L2N.CX P w) P w K mg base N qual (defScope st) f cdv A outer s H E) (defBody st) t ∧ t { nx := fun _ H' => Q .non H', rt := Q } (start N vs) H) : FnOk P w K mg base (L2N.CX P w) (k + 1) f fd ps sp := by
  obtain ⟨oc, od, kV, doc, pm, an, cdv, ct, osl, rfl, lk, hcd⟩ := F.ex
  exact fn_of lk hcd S len fun A outer s H vs Q E hr hsp => hbody cdv A outer s H vs Q E hr hsp
theorem x_okN {ι : Type} {x qual : Str} {st : Stmt} {f : Addr} {fd : FuncData} {N ps : List Str} {k : Nat} {pre : ι → List V → Hp → Prop} {post : ι → V → Hp → Prop} {err : ι → PErr} (F : Fun K x qual st f fd) (S : FnScope N ps (defScope st)) (hl : ∀ i vs F, pre i vs F → vs.length = ps.length)
    (hb : ∀ (cdv : Value) (A : Around) (outer : List Env) (s : Shared) (H : Hp) (E : XK), Room k (A.deeper (PyProof.Rows.envOfC qual (defScope st) s.heap.objs.size f cdv)) →
      ∃ t, PSs (cxOf (L2N.CX P w) P w K mg base N qual (defScope st) f cdv A outer s H E) (defBody st) t ∧ ∀ i vs F (Q : VK), pre i vs F → w0.ok F H → (∀ v F' H', Gr M0 F H F' H' → post i v F' → Q v H') → (∀ c d F' H', Gr M0 F H F' H' → err i c d F' → E c (some d) H') → t { nx := fun _ H' => Q .non H', rt := Q } (start N vs) H) :
    FnOk P w K mg base (L2N.CX P w) (k + 1) f fd ps (spX pre post err) := by
  refine okXN F S (fun vs H Q E h => ?_) (fun cdv A outer s H vs Q E hr h => ?_)
  · obtain ⟨F, i, e, r, q⟩ := h
    exact hl i vs F r
  · obtain ⟨F, i, e, r, q, q2⟩ := h
    obtain ⟨t, h1, h2⟩ := hb cdv A outer s H E hr
    exact ⟨t, h1, h2 i vs F Q r (ok0 e) q q2⟩
theorem init_okXN {ι : Type} {x qual : Str} {st : Stmt} {f C : Addr} {fd : FuncData} {N ps : List Str} {k : Nat} {pre : ι → List V → Hp → Prop} {fsf : ι → List V → List (Str × V)} {ok : ι → Prop} {err : ι → PErr} (F : Fun K x qual st f fd) (S : FnScope N ps (defScope st)) (hl : ∀ i ws F, pre i ws F → ws.length + 1 = ps.length)
    (hb : ∀ (cdv : Value) (A : Around) (outer : List Env) (s : Shared) (H : Hp) (E : XK), Room k (A.deeper (PyProof.Rows.envOfC qual (defScope st) s.heap.objs.size f cdv)) →
      ∃ t, PSs (cxOf (L2N.CX P w) P w K mg base N qual (defScope st) f cdv A outer s H E) (defBody st) t ∧ ∀ i x dx ws F (Q : VK), pre i ws F → F x = none → H x = some (.ins C dx []) → (w0.add x (.ins C dx [])).ok F H → (ok i → ∀ F' H', Gr (fun a => a = x) F H F' H' → F' x = none → H' x = some (.ins C dx (fsf i ws)) → Q .non H') →
        (∀ c d F' H', Gr (fun a => a = x) F H F' H' → err i c d F' → E c (some d) H') → t { nx := fun _ H' => Q .non H', rt := Q } (start N (.ref x :: ws)) H) : FnOk P w K mg base (L2N.CX P w) (k + 1) f fd ps (spIX C pre fsf ok err) := by
  refine okXN F S (fun vs H Q E h => ?_) (fun cdv A outer s H vs Q E hr h => ?_)
  · obtain ⟨F, i, x, dx, ws, rfl, e, _, _, hp, q⟩ := h
    exact hl i ws F hp
  · obtain ⟨F, i, x, dx, ws, rfl, e, h1, h2, hp, q, q2⟩ := h
    obtain ⟨t, t1, t2⟩ := hb cdv A outer s H E hr
    exact ⟨t, t1, t2 i x dx ws F Q hp h1 h2 ((ok0 e).plus (fun z => z) h1 h2) q q2⟩
/-- a def whose errors have no context is a def that raises -/
theorem fnOk_zc {f : Addr} {fd : FuncData} {ps : List Str} {k : Nat} {sp : Sp} (F : FnOk P w K mg base (L2N.CX P w) k f fd ps sp) : FnOk P w K mg base (L2.CX P w) k f fd ps sp := ⟨F.len, fun A outer s H args us vs Q E hr e0 hb r h => codeAny_mono (F.run A outer s H args us vs Q E hr e0 hb r h) fun r s' z => by
  cases r with
  | error e =>
    obtain ⟨a, B, H', cls, d, eu, fl, rest⟩ := (show L2N.CX P w outer H s E e s' from z)
    exact (show L2.CX P w outer H s E e s' from ⟨a, B, H', cls, d, eu, L2H.flyingZ_imp (fun o z => L2N.Zn.zc z) fl, rest⟩)
  | ok fl => cases fl <;> exact z⟩
/-- an exception's __init__ while another one is handled -/
theorem e1_okH {x qual p0 p1 : Str} {st : Stmt} {f C : Addr} {fd : FuncData} {N : List Str} {k : Nat} {fld : Str} (F : Fun K x qual st f fd) (S : FnScope N [p0, p1] (defScope st)) (hN : N = [p0, p1]) (T : OexC K C) (hno : PySem.W.findIn K (.ref C) fld = some none)
    (hb : ∀ (cdv : Value) (A : Around) (outer : List Env) (s : Shared) (H : Hp) (E : XK) (p : Addr × Obj), PSs (L2H.cxH CX0 P w K mg base N qual (defScope st) f cdv A outer s H E p) (defBody st) (tOst K fld (tVar 0) (tVar 1))) : L2H.FnH P w K mg base CX0 (k + 1) f fd [p0, p1] (spE1 C fld) := by
  obtain ⟨oc, od, kV, doc, pm, an, cdv, ct, osl, rfl, lk, hcd⟩ := F.ex
  refine L2H.fn_ofH lk hcd S (fun vs H Q E h => ?_) (fun A outer s H vs Q E p hot hr h => ⟨_, hb cdv A outer s H E p, ?_⟩)
  · obtain ⟨x, y, rfl, _⟩ := h
    rfl
  · obtain ⟨x, y, rfl, hx, q⟩ := h
    subst hN
    exact ⟨y, rfl, .ref x, rfl, x, C, rfl, T, hno, .inl ⟨hx, fun d h1 h2 => q d h1 h2⟩⟩
end
/-! ### c(e, ..) in a try, the outcome told with the names' values -/
section
variable {X : Cx} {W : WX} {k i : Nat} {f C : Addr} {fd : FuncData} {ps : List Str} {sp : Sp} {x : Str} {p pos : Pos} {e : Expr} {es : List Expr} {t : TA}
theorem passAtN (tk : L2N.Takes X W) (σ : L2.St) : PassesAt (L2N.CX X.prog X.w) X σ (WE W σ) := fun _ _ _ e s' I c => tk e s' (L2N.XE.of_call I (fun _ _ _ h => h) c)
def tMakeLW (i : Nat) (C : Addr) (sp : Sp) (W : WX) (t : TA) : TE := fun σ H Q => σ[i]? = some (some (.ref C)) ∧ tMake C sp [] (WE W σ) t σ H Q
theorem run_makeAt {CX : CXT} {E : XK} {pins : List (Addr × Obj)} {σ : L2.St} {H : Hp} {s : Shared} {Q : VK} {us : List Value} {vs : List V} (M : Mk X.K C f) (F : FnOk X.prog X.w X.K X.mg X.base CX k f fd ps sp) (hr : Room (k + 1) X.A) (hb : Binds X.K fd ps [])
    (hx : PassesAt CX X σ E) (I : Inv X pins σ H s) (r : Vals vs us)
    (h : ∀ x dx, H x = none → H dx = none → dx ≠ x → sp (.ref x :: (vs ++ [])) (upd (upd H dx (.own x)) x (.ins C dx [])) (fun v H2 => v = .non ∧ Q (.ref x) H2) E) :
    wpAny (model X.prog X.w) X.A (call (.ref C) us) (EP X pins σ Q) X.xe s := by
  have hq := h (s.heap.objs.size + 1) s.heap.objs.size (I.hok.fresh (Nat.le_succ _)) (I.hok.fresh (Nat.le_refl _)) (Nat.ne_of_lt (Nat.lt_succ_self _))
  have I2 := Inv.made (C := C) I
  have r2 : Vals (V.ref (s.heap.objs.size + 1) :: (vs ++ [])) (Value.ref (s.heap.objs.size + 1) :: (us ++ [])) := .cons rfl (r.append .nil)
  have hl : (Value.ref (s.heap.objs.size + 1) :: us ++ []).length = ps.length := by
    have e := r2.length
    rw [F.len _ _ _ _ hq] at e
    exact e.symm
  have b2 := hb _ (Value.ref (s.heap.objs.size + 1) :: us) I2.kIn hl
  rw [List.cons_append] at b2
  refine wpAny_call (make_map (f := f) I.kIn M.makes M.init (beq_iff_eq.mp M.fn) (codeAny_mono (F.run _ X.stack _ _ ⟨Value.ref (s.heap.objs.size + 1) :: us, []⟩ (Value.ref (s.heap.objs.size + 1) :: (us ++ [])) _ _ E (hr.make C us [])
    (I2.env0.make C us []) b2 r2 hq) fun r s' hq' => ?_))
  cases r with
  | error e => exact hx pins _ _ e s' I2 hq'
  | ok fl =>
    cases fl with
    | ret u =>
      obtain ⟨v, H', I3, rv, ev, q3⟩ := I2.after hq'
      subst ev
      exact ⟨rv, ⟨V.ref (s.heap.objs.size + 1), H', I3, rfl, q3⟩⟩
    | next => exact False.elim hq'
    | brk => exact False.elim hq'
    | cont => exact False.elim hq'
theorem pe_makeLW (M : Mk X.K C f) (F : FnOk X.prog X.w X.K X.mg X.base (L2N.CX X.prog X.w) k f fd ps sp) (hr : Room (k + 1) X.A) (hN : X.N[i]? = some x) (hv : Vis X.env.scope x) (hb : Binds X.K fd ps []) (tk : L2N.Takes X W) (ha : PA X (e :: es) t)
    (hdb : (x == ("__debug__" : Str)) = false := by decide) (hcd : (x == ("__classdict__" : Str)) = false := by decide)
    (he : starEach (e :: es) X.env = (false, eval e X.env) :: starEach es X.env := by rfl) (hpl : (backTo pos (starEach es X.env)).any (·.1) = false := by rfl) : PE X (.Call (.Name x p) (e :: es) [] pos) (tMakeLW i C sp W t) := by
  refine ⟨fun pins s σ H Q I hh => ?_⟩
  have hs := hh.1
  have ht := hh.2
  refine wpAny_Call_Name_kw (thn ((pe_var (pos := p) hN hv hdb hcd).run pins s σ H (fun v H1 => v = .ref C ∧ H1 = H) I ⟨.ref C, hs, rfl, rfl⟩) fun u s1 ⟨v, H1, I1, r1, q1⟩ => ?_)
  obtain ⟨rfl, rfl⟩ := q1
  cases r1
  exact PySem.W.callWith_K (h₀ := X.base) I.ok.mod.kin M.kp (thn (ha.run pos pins s1 σ _ _ I1 ht) fun us s2 ⟨vs, H2, I2, r, q⟩ => ⟨I2.kIn, run_makeAt M F hr hb (passAtN tk σ) I2 r q⟩) he hpl
end
end Wk
set_option Elab.async false
set_option linter.all false
set_option maxRecDepth 100000
set_option maxHeartbeats 2000000
/-! Tr: x in xs of numbers, a text in a text, lists of texts that are changed, pairs unpacked -/
namespace Wk
open PySem PySem.Spec Lt
open L2 hiding St
section
variable {K : PySem.W.Frag} {w : Wd} {σ : L2.St} {F H : Hp} {ta tb te : TE} {D : Ends} {rest : TS} {i j : Nat}
theorem rpA_intsE {xs : List V} {zs : List Int} (h : RpA K F xs (zs.map .int)) : xs = zs.map V.int := by
  induction zs generalizing xs with
  | nil => cases h; rfl
  | cons z zs ih =>
    cases h with
    | cons r a => rw [rp_int r, ih a]; rfl
/-- i in [..] of numbers -/
theorem ed_inI {z : Int} {zs : List Int} (ha : ED K w ta σ F (.int z)) (hb : ED K w tb σ F (.list (zs.map .int))) : ED K w (tOp (rIn K false) ta tb) σ F (.bool (decide (z ∈ zs))) :=
  ed_op ha hb fun x y F' H k p q => ⟨.bl (decide (z ∈ zs)), fun Q hq => by
    obtain ⟨a, xs, rfl, hs, ra⟩ := rp_lst q
    rw [rpA_intsE ra] at hs
    rw [rp_int p]
    refine ⟨a, zs.map V.int, rfl, .inl (rp_sqL k.e hs), rfl, flat_ints zs, ?_⟩
    show Q (.bl (inV (.int z) (zs.map V.int))) H
    rw [inV_ints]
    exact hq, .bl _⟩
/-- .. in a list of one's own -/
theorem ed_inOwn {l : Addr} {z : Int} {zs : List Int} (hj : σ[j]? = some (some (.ref l))) (ha : ED K (w.add l (.lst (zs.map V.int))) ta σ F (.int z)) : ED K (w.add l (.lst (zs.map V.int))) (tOp (rIn K false) ta (tVar j)) σ F (.bool (decide (z ∈ zs))) := fun F1 H1 e k Q q =>
  ha F1 H1 e k _ fun x F2 H2 g2 k2 p => ⟨.ref l, hj, by
    rw [rp_int p]
    refine ⟨l, zs.map V.int, rfl, .inl (.inl (.inl k2.at.2.2)), rfl, flat_ints zs, ?_⟩
    show Q (.bl (inV (.int z) (zs.map V.int))) H2
    rw [inV_ints]
    exact q _ F2 H2 g2 k2 (.bl _)⟩
/-- a text in a text -/
def hasS (a b : Str) : Bool := !(Builtin.Str.occurrences b a 0 b.length 1).isEmpty
theorem ed_inS {a b : Str} (ha : ED K w ta σ F (.str a)) (hb : ED K w tb σ F (.str b)) : ED K w (tOp (fun x y H Q => ∃ i j, x = .str i ∧ y = .str j ∧ Q (.bl (!(Builtin.Str.occurrences j i 0 j.length 1).isEmpty)) H) ta tb) σ F (.bool (hasS a b)) :=
  ed_op ha hb fun x y F' H k p q => ⟨.bl (hasS a b), fun Q hq => ⟨a, b, rp_str p, rp_str q, hq⟩, .bl _⟩
theorem ed_notInS {a b : Str} (ha : ED K w ta σ F (.str a)) (hb : ED K w tb σ F (.str b)) : ED K w (tOp (fun x y H Q => ∃ i j, x = .str i ∧ y = .str j ∧ Q (.bl (!(!(Builtin.Str.occurrences j i 0 j.length 1).isEmpty))) H) ta tb) σ F (.bool (!hasS a b)) :=
  ed_op ha hb fun x y F' H k p q => ⟨.bl (!hasS a b), fun Q hq => ⟨a, b, rp_str p, rp_str q, hq⟩, .bl _⟩
/-- xs = s.split(sep), a list of one's own -/
theorem q_split {a b : Str} (k : w.ok F H) (ha : ED K w ta σ F (.str a)) (hb : ED K w tb σ F (.str b)) (h1 : (b.length == 0) = false) (h2 : a.length + 2 ≤ 100000)
    (q : ∀ F' H2 l, Gr w.M F H F' H2 → H2 l = none → F' l = none → H l = none → (w.add l (.lst ((Txt.split a b).map V.str))).ok F' (upd H2 l (.lst ((Txt.split a b).map V.str))) → rest D (σ.set i (some (.ref l))) (upd H2 l (.lst ((Txt.split a b).map V.str)))) :
    tSeq (tAsg (tM1 (fun x xs H Q => ∃ a b, x = .str a ∧ xs = [.str b] ∧ (b.length == 0) = false ∧ a.length + 2 ≤ sizeLine ∧ rNewStrs (Txt.split a b) H Q) ta tb) (gName i)) rest D σ H :=
  ha F H (Same.refl F) k _ fun x F2 H2 g2 k2 p2 => ⟨⟨a, rp_str p2⟩, hb F2 H2 g2.f k2 _ fun y F3 H3 g3 k3 p3 => by
    refine ⟨a, b, rp_str p2, by rw [rp_str p3], h1, Nat.le_trans h2 (by decide), fun l hl => ?_⟩
    have hF := freeF k3.e hl
    have g := g2.trans g3
    have h0 : H l = none := Classical.byContradiction fun z => g.d l z hl
    exact q F3 H3 l g hl hF h0 ((k3.pure (Gr.own k3.e hl)).plus (k3.npb hl) hF upd_same)⟩
/-- xs[i] = e, xs a list of one's own -/
theorem s_putOwn {l : Addr} {xs : List V} {a : Nat} {x : V} {P : V → Hp → Prop} (k : (w.add l (.lst xs)).ok F H) (nd : ∀ q ∈ w.ls, q.1 ≠ l) (ev : EV (w.add l (.lst xs)) te σ F P) (hl : σ[i]? = some (some (.ref l))) (hj : σ[j]? = some (some (.int (a : Nat)))) (ha : a < xs.length)
    (q : ∀ v F' H2, Gr w.M F H F' H2 → F' l = none → (w.add l (.lst (xs.set a v))).ok F' (upd H2 l (.lst (xs.set a v))) → P v F' → D.nx σ (upd H2 l (.lst (xs.set a v)))) : tAsg te (gSub (tVar i) (tVar j) rSetL) D σ H :=
  ev F H (Same.refl F) k _ fun v F' H' g k' p => ⟨.ref l, hl, .int (a : Nat), hj, l, xs, a, a, rfl, rfl, k'.at.2.2, by
    unfold ixN
    rw [if_pos (by omega), if_pos (by omega), Int.toNat_natCast], q v F' H' g k'.at.2.1 (k'.put nd) p⟩
/-- x, y = t, a pair of data -/
theorem unpack2 {v : V} {a b : PyData} {n m : Nat} {Q : L2.St → Hp → Prop} (e : Same F H) (r : Rp K F v (.tuple [a, b])) (q : ∀ x y, Rp K F x a → Rp K F y b → Q ((σ.set n (some x)).set m (some y)) H) : gTup K 2 (gCons (gName n) (gCons (gName m) gNil)) v σ H Q := by
  obtain ⟨p, xs, rfl, hs, ra⟩ := rp_tup r
  cases ra with
  | cons ra rb =>
    cases rb with
    | cons rb rc =>
      cases rc
      rename_i x y
      exact ⟨p, [x, y], rfl, sqtM e hs, rfl, x, [y], rfl, y, [], rfl, rfl, q x y ra rb⟩
end
end Wk
set_option Elab.async false
set_option linter.all false
set_option maxRecDepth 100000
set_option maxHeartbeats 2000000
/-! Ts: list(range(n)), tuples of drawn items -/
namespace Wk
open PySem PySem.Spec Lt
open L2 hiding St
section
variable {K : PySem.W.Frag} {w : Wd} {σ : L2.St} {F H : Hp} {ta tb te : TE} {tr : TA} {t : TT} {D : Ends} {tu : TS}
theorem rgV_nat (n : Nat) : rgV 0 (n : Int) = (List.range n).map fun i : Nat => V.int (i : Int) := by
  unfold rgV
  rw [Int.sub_zero, Int.toNat_natCast]
  exact List.map_congr_left fun i _ => by rw [Int.zero_add]
theorem rpA_nats : ∀ ns : List Nat, RpA K F (ns.map fun i : Nat => V.int (i : Int)) (ns.map fun i : Nat => PyData.int (i : Int))
  | [] => .nil
  | n :: ns => .cons (.int _) (rpA_nats ns)
theorem ed_listRg {n : Nat} (ha : ED K w ta σ F (.int (n : Int))) (hn : n ≤ 100000) : ED K w (tLstRg (tRg1 ta)) σ F (.list ((List.range n).map fun i : Nat => .int (i : Int))) := fun F1 H1 e k Q q =>
  ha F1 H1 e k _ fun x F2 H2 g2 k2 p2 => ⟨n, rp_int p2, RgOk.of_le (by omega) (by omega) (by omega) (by omega), fun p hp => by
    have g3 : Gr M0 F2 H2 (upd F2 p (.lst (rgV 0 (n : Int)))) (upd H2 p (.lst (rgV 0 (n : Int)))) := Gr.new k2.e hp
    refine q _ _ _ (g2.trans g3.up) (k2.pure g3) (.lst upd_same ?_)
    rw [rgV_nat]
    exact rpA_nats _⟩
theorem er_tupR {R : List PyData → Prop} (ha : ERA K w tr σ F R) (hl : ∀ ds, R ds → ds.length ≤ 100000) : ER K w (tTup tr) σ F fun d => ∃ ds, d = .tuple ds ∧ R ds := fun F1 H1 e k Q q =>
  ha F1 H1 e k _ fun vs F2 H2 g2 k2 ⟨ds, r, p⟩ => ⟨Nat.le_trans (by rw [p.len]; exact hl ds r) (by decide), fun a hp => by
    have g3 : Gr M0 F2 H2 (upd F2 a (.tup vs)) (upd H2 a (.tup vs)) := Gr.new k2.e hp
    exact q _ _ _ (g2.trans g3.up) (k2.pure g3) ⟨.tuple ds, ⟨ds, rfl, r⟩, .tup (.inl (.inl upd_same)) (p.mono g3.f)⟩⟩
theorem s_ifT (k : w.ok F H) (ev : ET w t σ F fun _ _ => True) (h1 : ∀ F' H', Gr w.M F H F' H' → w.ok F' H' → tu D σ H') (h2 : ∀ F' H', Gr w.M F H F' H' → w.ok F' H' → D.nx σ H') : tIfS t tu tNext D σ H :=
  ev F H (Same.refl F) k _ fun v F' H' g k' p => by
    cases v with
    | true => exact iteT (h1 F' H' g k')
    | false => exact iteF (h2 F' H' g k')
end
end Wk
set_option Elab.async false
set_option linter.all false
set_option maxRecDepth 100000
set_option maxHeartbeats 2000000
/-! Tt: how long what stands between blanks and line ends is -/
namespace Wk
open PySem PySem.Spec
def SepL (c : Nat) : Prop := c = 10 ∨ c = 32
/-- no run without blanks and line ends is longer than R -/
def Run (R : Nat) (l : List Nat) : Prop := ∀ p m q, l = p ++ m ++ q → (∀ c ∈ m, ¬ SepL c) → m.length ≤ R
theorem Run.mono {R S : Nat} {l : List Nat} (h : Run R l) (hl : R ≤ S) : Run S l := fun p m q e hm => Nat.le_trans (h p m q e hm) hl
theorem Run.sub {R : Nat} {l a b c : List Nat} (h : Run R l) (e : l = a ++ b ++ c) : Run R b := fun p m q e2 hm => h (a ++ p) m (q ++ c) (by rw [e, e2]; simp [List.append_assoc]) hm
theorem run_len {R : Nat} {l : List Nat} (h : l.length ≤ R) : Run R l := fun p m q e _ => by
  have := congrArg List.length e
  rw [List.length_append, List.length_append] at this
  omega
theorem split_mid {a b p m q : List Nat} (e : a ++ b = p ++ m ++ q) : ∃ m1 m2, m = m1 ++ m2 ∧ (∃ p1 q1, a = p1 ++ m1 ++ q1) ∧ ∃ p2 q2, b = p2 ++ m2 ++ q2 ∧ (m1 = [] ∨ p2 = []) := by
  rw [List.append_assoc] at e
  rcases List.append_eq_append_iff.mp e with ⟨r, h1, h2⟩ | ⟨r, h1, h2⟩
  · -- p = a ++ r, b = r ++ (m ++ q)
    exact ⟨[], m, rfl, ⟨a, [], by simp⟩, r, q, by rw [h2, List.append_assoc], .inl rfl⟩
  · -- a = p ++ r, m ++ q = r ++ b
    rcases List.append_eq_append_iff.mp h2 with ⟨s, h3, h4⟩ | ⟨s, h3, h4⟩
    · -- r = m ++ s
      exact ⟨m, [], by simp, ⟨p, s, by rw [h1, h3, List.append_assoc]⟩, [], b, by simp, .inr rfl⟩
    · -- m = r ++ s, b = s ++ q
      exact ⟨r, s, h3, ⟨p, [], by rw [h1, List.append_nil]⟩, [], q, by rw [h4, List.nil_append], .inr rfl⟩
theorem run_app {R S : Nat} {a b : List Nat} (ha : Run R a) (hb : Run S b) : Run (R + S) (a ++ b) := fun p m q e hm => by
  obtain ⟨m1, m2, rfl, ⟨p1, q1, e1⟩, p2, q2, e2, _⟩ := split_mid e
  have h1 := ha p1 m1 q1 e1 fun c hc => hm c (List.mem_append_left _ hc)
  have h2 := hb p2 m2 q2 e2 fun c hc => hm c (List.mem_append_right _ hc)
  rw [List.length_append]
  omega
theorem run_sep {R : Nat} {c : Nat} {a b : List Nat} (hc : SepL c) (ha : Run R a) (hb : Run R b) : Run R (a ++ c :: b) := fun p m q e hm => by
  obtain ⟨m1, m2, rfl, ⟨p1, q1, e1⟩, p2, q2, e2, h⟩ := split_mid e
  have hm1 : ∀ c ∈ m1, ¬ SepL c := fun c hc => hm c (List.mem_append_left _ hc)
  have hm2 : ∀ c ∈ m2, ¬ SepL c := fun c hc => hm c (List.mem_append_right _ hc)
  have h1 := ha p1 m1 q1 e1 hm1
  cases p2 with
  | nil =>
    cases m2 with
    | nil => simpa using h1
    | cons x m2 =>
      rw [List.nil_append, List.cons_append] at e2
      injection e2 with e3 _
      exact (hm2 x (List.mem_cons_self ..) (e3 ▸ hc)).elim
  | cons x p2 =>
    rcases h with rfl | h
    · rw [List.cons_append, List.cons_append] at e2
      injection e2 with _ e4
      have := hb p2 m2 q2 e4 hm2
      simpa using this
    · cases h
theorem run_join {R c : Nat} (hc : SepL c) : ∀ {ps : List (List Nat)}, (∀ p ∈ ps, Run R p) → Run R (TL.joinL [c] ps)
  | [], _ => run_len (Nat.zero_le _)
  | [p], h => h p (List.mem_singleton.mpr rfl)
  | p :: r :: ps, h => run_sep hc (h p (List.mem_cons_self ..)) (run_join hc fun z hz => h z (List.mem_cons_of_mem _ hz))
theorem part_in {S : List Nat} : ∀ {ps : List (List Nat)} {p : List Nat}, p ∈ ps → ∃ a b, TL.joinL S ps = a ++ p ++ b
  | [q], p, h => by
    rw [List.mem_singleton.mp h]
    exact ⟨[], [], by simp [TL.joinL]⟩
  | q :: r :: ps, p, h => by
    rcases List.mem_cons.mp h with rfl | h
    · exact ⟨[], S ++ TL.joinL S (r :: ps), by simp [TL.joinL]⟩
    · obtain ⟨a, b, e⟩ := part_in h
      exact ⟨q ++ (S ++ a), b, by show q ++ (S ++ TL.joinL S (r :: ps)) = _; rw [e]; simp [List.append_assoc]⟩
/-- a text's runs -/
abbrev RunS (R : Nat) (x : Str) : Prop := Run R (TL.tl x)
theorem runS_part {R : Nat} {x y p : Str} (h : RunS R x) (hp : p ∈ Txt.split x y) : RunS R p := by
  have e : TL.tl x = TL.joinL (TL.tl y) ((Txt.split x y).map TL.tl) := by
    rw [← TL.tl_join, PySem.StrLaws.join_split]
  obtain ⟨a, b, e2⟩ := part_in (S := TL.tl y) (List.mem_map.mpr ⟨p, hp, rfl⟩)
  exact Run.sub h (e.trans e2)
theorem runS_join {R c : Nat} {y : Str} (hy : TL.tl y = [c]) (hc : SepL c) {ps : List Str} (h : ∀ p ∈ ps, RunS R p) : RunS R (Txt.join y ps) := by
  unfold RunS
  rw [TL.join_eq, TL.tl_join, hy]
  exact run_join hc fun p hp => by
    obtain ⟨z, hz, rfl⟩ := List.mem_map.mp hp
    exact h z hz
theorem runS_app {R S : Nat} {x y : Str} (hx : RunS R x) (hy : RunS S y) : RunS (R + S) (x ++ y) := by
  unfold RunS
  rw [TL.tl_append]
  exact run_app hx hy
/-- a word is no longer than the runs -/
theorem word_len {R : Nat} {x : Str} (h : RunS R x) (h1 : 10 ∉ TL.tl x) (h2 : 32 ∉ TL.tl x) : x.length ≤ R := by
  have := h [] (TL.tl x) [] (by simp) fun c hc z => z.elim (fun e => h1 (e ▸ hc)) fun e => h2 (e ▸ hc)
  rw [TL.len_tl]
  exact this
end Wk
set_option Elab.async false
set_option linter.all false
set_option maxRecDepth 100000
set_option maxHeartbeats 2000000
/-! Tu: comprehensions over a text, parts of texts -/
namespace Wk
open PySem PySem.Spec Lt
open L2 hiding St
abbrev sgn (c : Nat) : Str := ⟨#[c]⟩
theorem walk_str {x : Str} : Walk (Its x) x.cps.size (fun _ => True) (fun i H v H' => H' = H ∧ ∃ c, x.cps[i]? = some c ∧ v = .str (sgn c)) :=
  ⟨fun _ _ hi _ => hi, fun _ _ => Nat.le_refl _, fun _ _ _ _ _ _ y => y⟩
section
variable {K : PySem.W.Frag} {w : Wd} {σ : L2.St} {F H : Hp} {ta tb te tl : TE} {tt : TT} {P : V → Hp → Prop}
theorem ed_lcS {vs : List Nat} {j : Nat} {x : Str} (f : Nat → Bool) (hl : ED K w tl σ F (.str x)) (hz : x.length ≤ 100000) (hw : ∀ x, wipe ((wipe σ vs).set j (some x)) vs = wipe σ vs) (hv : ∀ x, ((wipe σ vs).set j (some x))[j]? = some (some x))
    (ht : ∀ c F1, c ∈ TL.tl x → Same F F1 → EB w tt ((wipe σ vs).set j (some (.str (sgn c)))) F1 (f c)) :
    ED K w (tLc (iStr tl) (gName j) tt (tVar j) vs) σ F (.list (((TL.tl x).filter f).map fun c => .str (sgn c))) := fun F0 H0 e k Q q =>
  hl F0 H0 e k _ fun v F1 H1 g1 k1 r => by
    obtain rfl := rp_str r
    refine ⟨x, rfl, fun D hD => ?_⟩
    refine lcGen (Y := fun i v => ∃ c, x.cps[i]? = some c ∧ v = .str (sgn c)) (n := x.cps.size) (w := w) (F0 := F1) (fun Pv h0 hs' hF hd' => lc_it walk_str Pv h0 (fun _ _ _ _ => trivial) (fun i v H H' hi p y => by
      obtain ⟨rfl, y⟩ := y
      exact hs' i v H' hi y p) hd') k1 hD hz hw (fun i acc F => RpA K F acc ((((TL.tl x).take i).filter f).map fun c => .str (sgn c))) .nil ?_ ?_
    · rintro i v F2 H2 hi e2 ⟨c, hc, rfl⟩ k2 acc ha hla
      have hc2 : (TL.tl x)[i]? = some c := by
        show x.cps.toList[i]? = some c
        rw [Array.getElem?_toList]
        exact hc
      intro F3 H3 e3 k3 Q3 q3
      refine ht c F2 (List.mem_of_getElem? hc2) ((e.trans g1.f).trans e2) F3 H3 e3 k3 Q3 fun b F4 H4 g4 k4 p4 => q3 b F4 H4 g4 k4 ?_
      subst p4
      by_cases hf : f c = true
      · rw [if_pos hf]
        refine ev_var (hv _) fun F5 e5 => ?_
        rw [take_some hc2, List.filter_append, List.map_append, List.filter_cons, if_pos hf]
        exact (ha.mono ((e3.trans g4.f).trans e5)).snoc (.str _)
      · rw [if_neg hf, take_some hc2, List.filter_append, List.map_append, List.filter_cons, if_neg hf]
        show RpA K F4 acc (_ ++ [])
        rw [List.append_nil]
        exact ha.mono (e3.trans g4.f)
    · rintro acc F2 H2 g2 k2 hD2 ⟨F3, ha, e3⟩
      rw [List.take_of_length_le (show (TL.tl x).length ≤ x.cps.size by rw [← TL.len_tl]; exact Nat.le_refl _)] at ha
      exact q _ F2 H2 (g1.trans g2) k2 (.lst hD2 (ha.mono e3))
theorem ed_sliceS {x : Str} {lo hi : Option Int} {tlo thi : TO} (ha : ED K w ta σ F (.str x)) (hz : x.length ≤ 100000) (hl : EO w tlo σ F lo) (hh : EO w thi σ F hi) : ED K w (tSl rSlS ta tlo thi) σ F (.str (cutS x lo hi)) := fun F1 H1 e k Q q =>
  ha F1 H1 e k _ fun v F2 H2 g2 k2 p2 => hl F2 H2 (e.trans g2.f) k2 _ fun F3 H3 g3 k3 => hh F3 H3 ((e.trans g2.f).trans g3.f) k3 _ fun F4 H4 g4 k4 =>
    ⟨x, rp_str p2, Nat.le_trans hz (by decide), q _ F4 H4 ((g2.trans g3).trans g4) k4 (.str _)⟩
end
end Wk
set_option Elab.async false
set_option linter.all false
set_option maxRecDepth 100000
set_option maxHeartbeats 2000000
/-! Tv: for i in range(1, n, c) -/
namespace Wk
open PySem PySem.Spec Lt
open L2 hiding St
theorem size_up {m c : Nat} (hc : 1 ≤ c) : Builtin.Range.rangeSize 1 (1 + (m * c : Nat)) c = m := by
  unfold Builtin.Range.rangeSize
  rw [if_pos (by omega)]
  cases m with
  | zero =>
    rw [if_neg (by simp)]
    rfl
  | succ m =>
    have h1 : (m + 1) * c = m * c + c := Nat.succ_mul m c
    rw [if_pos (by omega), show ((1 : Int) + (((m + 1) * c : Nat) : Int) - 1 - 1) = ((m * c + (c - 1) : Nat) : Int) by omega, ← Int.natCast_ediv]
    have : (m * c + (c - 1)) / c = m := by
      rw [Nat.add_comm, Nat.add_mul_div_right _ _ (by omega), Nat.div_eq_of_lt (by omega), Nat.zero_add]
    rw [this]
    omega
theorem rgc_up {m c : Nat} (hc : 1 ≤ c) (hc2 : c ≤ 100000) (hm : m * c ≤ 1000000) : L2.RgC 1 (1 + (m * c : Nat)) c m := by
  have hmc : m ≤ m * c := Nat.le_mul_of_pos_right m (by omega)
  refine ⟨by omega, by omega, ?_, size_up hc⟩
  unfold Builtin.Range.small
  rw [size_up hc]
  simp only [Builtin.Range.rangeFitsLong, Bool.and_eq_true, Bool.or_eq_true, decide_eq_true_eq, beq_iff_eq, show ((c : Nat) : Int) > 0 by omega, if_true]
  omega
theorem spl_free {c : Nat} : ∀ (l acc : List Nat), c ∉ acc → ∀ p ∈ TL.spl [c] 0 acc l, c ∉ p
  | [], acc, h, p, hp => by
    rw [TL.spl_nil] at hp
    rw [List.mem_singleton.mp hp]
    exact h
  | d :: r, acc, h, p, hp => by
    by_cases hd : TL.pre [c] (d :: r) = true
    · rw [TL.spl_hit hd] at hp
      rcases List.mem_cons.mp hp with rfl | hp
      · exact h
      · exact spl_free r [] (fun z => nomatch z) p hp
    · have hd := Bool.eq_false_iff.mpr hd
      rw [TL.spl_miss hd] at hp
      refine spl_free r (acc ++ [d]) (fun z => ?_) p hp
      rcases List.mem_append.mp z with z | z
      · exact h z
      · have e : c = d := List.mem_singleton.mp z
        subst e
        have := TL.pre_self [c] r
        rw [show [c] ++ r = c :: r from rfl, hd] at this
        cases this
/-- parts have no separator -/
theorem part_free {x y p : Str} {c : Nat} (hy : TL.tl y = [c]) (hk : y.cps.all (· < 256) = true) (hp : p ∈ Txt.split x y) : c ∉ TL.tl p := by
  have h := TL.split_spl x y (by rw [hy]; exact fun z => nomatch z) (TL.kind_ok hk)
  refine spl_free (TL.tl x) [] (fun z => nomatch z) (TL.tl p) ?_
  rw [← hy, ← h]
  exact List.mem_map.mpr ⟨p, hp, rfl⟩
theorem part_sub {x y p : Str} {c : Nat} (hp : p ∈ Txt.split x y) (h : c ∉ TL.tl x) : c ∉ TL.tl p := fun z => h (by
  have e : TL.tl x = TL.joinL (TL.tl y) ((Txt.split x y).map TL.tl) := by rw [← TL.tl_join, PySem.StrLaws.join_split]
  obtain ⟨a, b, e2⟩ := part_in (S := TL.tl y) (List.mem_map.mpr ⟨p, hp, rfl⟩)
  rw [e, e2]
  exact List.mem_append_left _ (List.mem_append_right _ z))
def isNon : PyData → Bool
  | .none => true
  | _ => false
section
variable {K : PySem.W.Frag} {w : Wd} {σ : L2.St} {F H : Hp} {tr : TA} {D : Ends} {tu : TS}
theorem rpA_ints3 {vs : List V} {a b c : Int} (r : RpA K F vs [.int a, .int b, .int c]) : vs = [.int a, .int b, .int c] := by
  cases r with
  | cons r1 r =>
    cases r with
    | cons r2 r =>
      cases r with
      | cons r3 r =>
        cases r
        rw [rp_int r1, rp_int r2, rp_int r3]
theorem s_forR3 {g : TG} {m c : Nat} {b : Int} (k : w.ok F H) (ev : EDA K w tr σ F [.int 1, .int b, .int c]) (hb : b = 1 + (m * c : Nat)) (hc : 1 ≤ c) (hc2 : c ≤ 100000) (hm : m * c ≤ 1000000) (q : ∀ F1 H1, Gr w.M F H F1 H1 → w.ok F1 H1 → ∃ I : Nat → L2.St → Hp → Hp → Prop, I 0 σ F1 H1 ∧
      (∀ (i : Nat) σ' F' H', i < m → I i σ' F' H' → g (.int ((1 + i * c : Nat) : Int)) σ' H' fun σ2 H2 => tu { D with nx := fun σ H => ∃ F, I (i + 1) σ F H, ct := fun σ H => ∃ F, I (i + 1) σ F H, bk := D.nx } σ2 H2) ∧ ∀ σ' F' H', I m σ' F' H' → D.nx σ' H') :
    tFor (L2.iRng3 tr) g tu D σ H := ev F H (Same.refl F) k _ fun v F1 H1 g1 k1 r => by
  subst hb
  have ev : v = [.int 1, .int (1 + (m * c : Nat)), .int c] := rpA_ints3 r
  obtain ⟨I, i0, is, id⟩ := q F1 H1 g1 k1
  refine ⟨1, _, c, m, ev, rgc_up hc hc2 hm, L2.for_rangeC (fun i σ H => ∃ F, I i σ F H) ⟨F1, i0⟩ (fun i σ' H' hi ⟨F', p⟩ => ?_) fun σ' H' ⟨F', p⟩ => id σ' F' H' p⟩
  have e : (1 : Int) + (i : Nat) * (c : Nat) = ((1 + i * c : Nat) : Int) := by simp
  rw [e]
  exact is i σ' F' H' hi p
theorem ed_isNone {ta : TE} {d : PyData} (ha : ED K w ta σ F d) : ED K w (tOp (fun x y H Q => y = .non ∧ Q (.bl (decide (x = .non))) H) ta (tC .non)) σ F (.bool (isNon d)) := fun F1 H1 e k Q q =>
  ha F1 H1 e k _ fun v F2 H2 g2 k2 p2 => ⟨rfl, by
    have e : decide (v = .non) = (isNon d) := by
      cases d <;> cases p2 <;> first | rfl | exact decide_eq_false (fun z => nomatch z)
    rw [e]
    exact q _ F2 H2 g2 k2 (.bl _)⟩
end
end Wk
set_option Elab.async false
set_option linter.all false
set_option maxRecDepth 100000
set_option maxHeartbeats 2000000
/-! Tw: how long cut and joined texts are, and their runs -/
namespace Wk
open PySem PySem.Spec Lt
open L2 hiding St
/-- the room of parts, with a separator for each -/
def mu (ls : List Str) : Nat := (ls.map fun l => l.length + 1).sum
theorem mu_app (a b : List Str) : mu (a ++ b) = mu a + mu b := by
  unfold mu
  rw [List.map_append, List.sum_append]
theorem mu_take (ls : List Str) (n : Nat) : mu (ls.take n) ≤ mu ls := by
  have := mu_app (ls.take n) (ls.drop n)
  rw [List.take_append_drop] at this
  omega
theorem mu_drop (ls : List Str) (n : Nat) : mu (ls.drop n) ≤ mu ls := by
  have := mu_app (ls.take n) (ls.drop n)
  rw [List.take_append_drop] at this
  omega
theorem mu_both (ls : List Str) (n : Nat) : mu (ls.take n) + mu (ls.drop n) = mu ls := by
  rw [← mu_app, List.take_append_drop]
theorem mu_rev : ∀ ls : List Str, mu ls.reverse = mu ls
  | [] => rfl
  | l :: ls => by
    rw [List.reverse_cons, mu_app, mu_rev ls]
    show mu ls + ((l.length + 1) + 0) = (l.length + 1) + mu ls
    omega
theorem joinL_len {c : Nat} : ∀ ps : List (List Nat), ps ≠ [] → (TL.joinL [c] ps).length + 1 = (ps.map fun p => p.length + 1).sum
  | [], h => (h rfl).elim
  | [p], _ => by simp [TL.joinL]
  | p :: r :: ps, _ => by
    have ih := joinL_len (c := c) (r :: ps) (fun z => nomatch z)
    show (p ++ ([c] ++ TL.joinL [c] (r :: ps))).length + 1 = _
    rw [List.map_cons, List.sum_cons, ← ih, List.length_append, List.length_append]
    simp
    try omega
theorem mu_eq (ls : List Str) : ((ls.map TL.tl).map fun p => p.length + 1).sum = mu ls := by
  unfold mu
  rw [List.map_map]
  exact congrArg List.sum (List.map_congr_left fun l _ => by show (TL.tl l).length + 1 = _; rw [TL.len_tl])
theorem mu_split {x y : Str} {c : Nat} (hy : TL.tl y = [c]) : mu (Txt.split x y) = x.length + 1 := by
  have h : 1 ≤ (Txt.split x y).length := PyProof.Rows.split_pos x y
  have e : TL.tl x = TL.joinL (TL.tl y) ((Txt.split x y).map TL.tl) := by rw [← TL.tl_join, PySem.StrLaws.join_split]
  rw [hy] at e
  have hn : (Txt.split x y).map TL.tl ≠ [] := fun z => by
    have := congrArg List.length z
    rw [List.length_map, List.length_nil] at this
    omega
  have := joinL_len (c := c) _ hn
  rw [← e, mu_eq, ← TL.len_tl] at this
  exact this.symm
theorem join_mu {y : Str} {c : Nat} (hy : TL.tl y = [c]) (ls : List Str) : (Txt.join y ls).length ≤ mu ls := by
  cases ls with
  | nil =>
    rw [TL.len_tl, TL.join_eq, TL.tl_join]
    exact Nat.le_refl _
  | cons l ls =>
    have := joinL_len (c := c) ((l :: ls).map TL.tl) (fun z => nomatch z)
    rw [mu_eq] at this
    rw [TL.len_tl, TL.join_eq, TL.tl_join, hy]
    omega
theorem runS_cut {R : Nat} {x : Str} (h : RunS R x) (lo hi : Option Int) : RunS R (cutS x lo hi) := by
  refine Run.sub (a := (TL.tl x).take (HT.sIx x.length 0 lo)) (c := ((TL.tl x).drop (HT.sIx x.length 0 lo)).drop (HT.sIx x.length x.length hi - HT.sIx x.length 0 lo)) h ?_
  show TL.tl x = _ ++ ((TL.tl x).drop _).take _ ++ _
  rw [List.append_assoc, List.take_append_drop, List.take_append_drop]
end Wk
set_option Elab.async false
set_option linter.all false
set_option maxRecDepth 100000
set_option maxHeartbeats 4000000
/-! Ty: text * int; the signs of what repr shows of a text -/
namespace L2
open PySem PySem.Spec
def repS (i : Str) (k : Int) : Str := ⟨(List.replicate k.toNat i.cps).foldl (· ++ ·) #[]⟩
def rMulS : R2 := fun x y H Q => ∃ i k, x = .str i ∧ y = .int k ∧ 2 ≤ k ∧ k ≤ 1000 ∧ i.length ≠ 0 ∧ i.length ≤ 1000 ∧ (repS i k).length ≤ 100000 ∧ Q (.str (repS i k)) H
theorem op_mulS {X : Cx} : OpR X (binaryOp .Mult) rMulS := by
  intro pins s σ H x y v u Q I rx ry h
  obtain ⟨i, k, rfl, rfl, h1, h2, h3, h4, h5, q⟩ := h
  obtain ⟨t, rfl⟩ := rx
  obtain ⟨t', rfl⟩ := ry
  have c1 : ¬ k < 1 := by omega
  have c2 : (k == 1 || i.length == 0) = false := by
    rw [Bool.or_eq_false_iff]
    exact ⟨beq_eq_false_iff_ne.mpr (by omega), beq_eq_false_iff_ne.mpr h3⟩
  have hm : (i.length : Int) * k ≤ 1000 * 1000 := by
    have a1 : (i.length : Int) * k ≤ 1000 * k := Int.mul_le_mul_of_nonneg_right (by omega) (by omega)
    omega
  refine P.mul_str (by rw [decide_eq_false (by omega), decide_eq_false (by omega)]; rfl) (fun _ _ z => ?_) (fun _ _ => ?_) ?_
  · have := (Int.le_ediv_iff_mul_le (a := (i.length : Int)) (b := 2 ^ 63 - 1) (by omega : 0 < k)).mpr (by omega)
    omega
  · unfold Builtin.Str.tooLong
    rw [sizeLine_eq]
    have a1 : i.length * k.toNat ≤ 1000 * 1000 := Nat.mul_le_mul h4 (by omega)
    exact decide_eq_false (by omega)
  · rw [if_neg c1, if_neg (by rw [c2]; exact Bool.false_ne_true)]
    exact ⟨Nat.le_trans h5 (by decide), .str (repS i k), H, I.tok _, ⟨_, rfl⟩, q⟩
end L2
namespace Wk
open PySem PySem.Spec L2 Lt TL
section
variable {K : PySem.W.Frag} {w : Wd} {σ : L2.St} {F : Hp} {ta tb : TE}
theorem ed_mulS {a : Str} {k : Int} (ha : ED K w ta σ F (.str a)) (hb : ED K w tb σ F (.int k)) (h : (decide (2 ≤ k) && decide (k ≤ 1000) && (decide (a.length ≠ 0) && decide (a.length ≤ 1000)) && decide ((repS a k).length ≤ 100000)) = true) : ED K w (tOp rMulS ta tb) σ F (.str (repS a k)) := by
  simp only [Bool.and_eq_true, decide_eq_true_eq] at h
  obtain ⟨⟨⟨h1, h2⟩, h3, h4⟩, h5⟩ := h
  exact ed_op ha hb fun x y F' H k' p q => ⟨.str _, fun Q z => ⟨a, k, rp_str p, rp_int q, h1, h2, h3, h4, h5, z⟩, .str _⟩
end
open Builtin.Str in
theorem reprChar_sm {q c : Nat} (hq : q < 4294967296) (hc : c < 4294967296) : ∀ e ∈ reprChar q c, e < 4294967296 := by
  have hx : ∀ w, ∀ e ∈ List.replicate w 48 ++ (Nat.toDigits 16 c).map Char.toNat, e < 4294967296 := fun w e he => by
    rcases List.mem_append.mp he with he | he
    · rw [(List.mem_replicate.mp he).2]; decide
    · obtain ⟨ch, _, rfl⟩ := List.mem_map.mp he
      exact ch.val.toNat_lt
  intro e he
  unfold reprChar at he
  dsimp only at he
  repeat' split at he
  all_goals first
    | (simp only [List.mem_cons, List.not_mem_nil, or_false] at he; omega)
    | (rcases List.mem_append.mp he with he | he
       · simp only [List.mem_cons, List.not_mem_nil, or_false] at he; omega
       · exact hx _ e he)
open Builtin.Str in
theorem foldl_sm {q : Nat} (hq : q < 4294967296) : ∀ (l : List Nat) (acc : Array Nat), (∀ c ∈ l, c < 4294967296) → (∀ c ∈ acc.toList, c < 4294967296) → ∀ c ∈ (l.foldl (fun out c => out ++ (reprChar q c).toArray) acc).toList, c < 4294967296
  | [], acc, _, h => h
  | c :: r, acc, hl, h => foldl_sm hq r (acc ++ (reprChar q c).toArray) (fun d hd => hl d (List.mem_cons_of_mem _ hd)) fun d hd => by
    rw [Array.toList_append] at hd
    rcases List.mem_append.mp hd with hd | hd
    · exact h d hd
    · exact reprChar_sm hq (hl c (List.mem_cons_self ..)) d (by simpa using hd)
theorem sm_repr {x : Str} (h : Sm x) : Sm (PyData.str x).shown := fun c hc => by
  have hq : reprQuote x < 4294967296 := by
    unfold reprQuote
    split <;> decide
  have hc : c ∈ ((x.cps.foldl (fun out c => out ++ (Builtin.Str.reprChar (reprQuote x) c).toArray) #[reprQuote x]).push (reprQuote x)).toList := hc
  rw [Array.toList_push, ← Array.foldl_toList] at hc
  rcases List.mem_append.mp hc with hc | hc
  · exact foldl_sm hq x.cps.toList _ h (fun d hd => by
      rw [show d = reprQuote x by simpa using hd]
      exact hq) c hc
  · rw [List.mem_singleton.mp hc]
    exact hq
end Wk
set_option Elab.async false
set_option linter.all false
set_option maxRecDepth 100000
set_option maxHeartbeats 4000000
/-! Tz: methods with keywords, dict(pairs), d.get(k, x), lists of one's own (three names, comprehensions) -/
namespace L2
open PySem PySem.Spec
theorem Room.units1 {k : Nat} {A : Around} (h : Room k A) : A.units + 1 < cLine := by
  have := h.un
  omega
end L2
namespace Wk
open PySem PySem.Spec L2 Lt
/-- o.m(k = e) -/
def tMethKX (C : Addr) (m : Str) (n : Nat) (gV : List V → List V → List V) (sp : Sp) (E : XK) (ta : TE) (tk : TA) : TE := fun σ H Q => ta σ H fun x H1 => ∃ a dx fs, x = .ref a ∧ H1 a = some (.ins C dx fs) ∧ fs.lookup m = none ∧ tk σ H1 fun zs H2 => zs.length = n ∧ sp (gV [x] zs) H2 Q E
section
variable {X : Cx} {CX : CXT} {k : Nat} {C f : Addr} {fd : FuncData} {ps ks : List Str} {sp : Sp} {o : Expr} {m : Str} {pos apos : Pos} {kws : List Keyword} {ta : TE} {tk : TA} {g : List Value → List Value → List Value} {gV : List V → List V → List V} {E : XK}
theorem pe_methKX {pl : Sem Bool} (he : PE X o ta) (c : Cls X.K C) (hm : Meth X.K C m f) (F : FnOk X.prog X.w X.K X.mg X.base CX k f fd ps sp) (hr : Room k X.A) (hb : KBn X.K fd ps 1 ks g gV) (hx : Passes CX X E) (hkw : PK X kws tk)
    (hall : (backToKw pos (keywordEach kws X.env)).all (·.1.isSome) = true := by rfl) (hks : (backToKw pos (keywordEach kws X.env)).filterMap (·.1) = ks := by rfl)
    (hpl : ((backTo pos (starEach [] X.env)).any (·.1) || (backToKw pos (keywordEach kws X.env)).any (·.1.isNone)) = false := by rfl)
    (ht : eval (.Call (.Attribute o m apos) [] kws pos) X.env = (do
      let ov ← eval o X.env
      standAt apos.atName
      let (f, first) ← holding [ov] (getMethod ov m pl)
      callWith pos f first (backTo pos (starEach [] X.env)) (backToKw pos (keywordEach kws X.env))) := by rfl) :
    PE X (.Call (.Attribute o m apos) [] kws pos) (tMethKX C m ks.length gV sp E ta tk) := by
  refine ⟨fun pins s σ H Q I h => ?_⟩
  refine PySem.W.methodCall_KW (pl := pl) (thn (he.run pins s σ H _ I h) fun u s1 ⟨x, H1, I1, rx, a, dx, fs, ex, ea, l, q⟩ => ?_) ht
  subst ex
  obtain rfl : u = Value.ref a := rx
  refine getmeth_ok I1 ea c hm l ?_
  refine PySem.W.callWith_KW0 (first := [.ref a]) (h₀ := X.base) I.ok.mod.kin hm.kp hall ?_ hpl
  refine thn (hkw.run pos pins s1 σ H1 _ I1 q) fun ws s2 ⟨zs, H2, I2, rz, l1, q2⟩ => ⟨I2.kIn, ?_⟩
  rw [hks]
  have r1 : Vals [V.ref a] [Value.ref a] := .cons rfl .nil
  refine wpAny_call (codeAny_mono (F.run X.A X.stack s2 H2 ⟨[.ref a], ks.zip ws⟩ (g [.ref a] ws) (gV [.ref a] zs) Q E hr I2.env0 (hb.to s2 [.ref a] ws I2.kIn rfl (rz.length.symm.trans l1)) (hb.rel r1 rz) q2) fun r s' hq => ?_)
  cases r with
  | error e => exact hx pins σ H2 s2 e s' I2 hq
  | ok fl =>
    cases fl with
    | ret u => exact I2.after hq
    | next => exact hq.elim
    | brk => exact hq.elim
    | cont => exact hq.elim
end
/-! dicts of texts by numbers -/
def rDictP (K : PySem.W.Frag) : List V → Hp → VK → Prop := fun xs H Q => ∃ (a : Addr) (ps : List Addr) (kvs : List (Key × V)), xs = [.ref a] ∧ SqL K H a (ps.map V.ref) ∧ Paired (fun p kv => SqT K H p [kV kv.1, kv.2]) ps kvs ∧ ∀ p, H p = none → Q (.ref p) (upd H p (.dK (mergeK [] kvs)))
theorem cK_dictP {X : Cx} (K : PySem.W.Frag) (hK : X.K = K) (hc : X.calm = true) : CallR X (.type "dict") (rDictP K) := by
  subst hK
  exact call_dictP hc
def encC1 (c : Nat × Str) : PyData := .tuple [.int (c.1 : Int), .str c.2]
def kvC (cs : List (Nat × Str)) : List (Key × V) := cs.map fun c => (.inl (c.1 : Int), V.str c.2)
section
variable {K : PySem.W.Frag} {w : Wd} {σ : L2.St} {F H : Hp} {ta tb tc te : TE} {tr : TA} {D : Ends} {rest : TS} {i j m : Nat}
theorem pairs_of {F : Hp} : ∀ {cs : List (Nat × Str)} {xs : List V}, RpA K F xs (cs.map encC1) → ∃ ps : List Addr, xs = ps.map V.ref ∧ Paired (fun p kv => SqT K F p [kV kv.1, kv.2]) ps (kvC cs)
  | [], _, .nil => ⟨[], rfl, .nil⟩
  | c :: cs, _, .cons r ra => by
    obtain ⟨ps, e, hp⟩ := pairs_of ra
    obtain ⟨a, ys, rfl, h, rb⟩ := rp_tup r
    cases rb with
    | cons r1 r2 =>
      cases r2 with
      | cons r3 r4 =>
        cases r4
        rw [rp_int r1, rp_str r3] at h
        exact ⟨a :: ps, by rw [e]; rfl, .cons h hp⟩
theorem ev_dictP {cs : List (Nat × Str)} (ha : ED K w ta σ F (.list (cs.map encC1))) : EV w (tCB (rDictP K) (tCons ta tNil)) σ F fun v F' => ∃ a, v = .ref a ∧ F' a = some (.dK (mergeK [] (kvC cs))) := fun F1 H1 e k Q q =>
  ha F1 H1 e k _ fun x F2 H2 g2 k2 p2 => by
    obtain ⟨a, xs, rfl, h, ra⟩ := rp_lst p2
    obtain ⟨ps, rfl, hp⟩ := pairs_of ra
    refine ⟨a, ps, kvC cs, rfl, rp_sqL k2.e h, L2.Paired.mapP hp fun _ _ z => sqtM k2.e z, fun p hn => ?_⟩
    have g3 : Gr M0 F2 H2 (upd F2 p (.dK (mergeK [] (kvC cs)))) (upd H2 p (.dK (mergeK [] (kvC cs)))) := Gr.new k2.e hn
    exact q _ _ _ (g2.trans g3.up) (k2.pure g3) ⟨p, rfl, upd_same⟩
theorem ed_dget2 {kvs : List (Key × V)} {a : Addr} {n : Int} {x : Str} {y : Str} (ha : EV w ta σ F fun v F' => v = .ref a ∧ F' a = some (.dK kvs)) (hb : ED K w tb σ F (.int n)) (hc : ED K w tc σ F (.str x)) (h : (valV kvs (.inl n)).getD (.str x) = .str y) : ED K w (tDGet2 ta tb tc) σ F (.str y) := fun F1 H1 e k Q q =>
  ha F1 H1 e k _ fun v F2 H2 g2 k2 ⟨ev, hv⟩ => ⟨a, ev, .inl ⟨kvs, .inl (k2.e _ _ hv)⟩, hb F2 H2 (e.trans g2.f) k2 _ fun u F3 H3 g3 k3 p3 => hc F3 H3 ((e.trans g2.f).trans g3.f) k3 _ fun z F4 H4 g4 k4 p4 => by
    refine ⟨valV kvs (.inl n), ?_, ?_⟩
    · rw [rp_int p3]
      exact DGet.k (k := .inl n) (k4.e _ _ (g4.f _ _ (g3.f _ _ hv)))
    · rw [rp_str p4, h]
      exact q _ F4 H4 ((g2.trans g3).trans g4) k4 (.str y)⟩
theorem valV_mergeK (base : Nat → V) : ∀ (cs : List (Nat × Str)) (kvs : List (Key × V)) (ls : List Str), (∀ (i : Nat) x, ls[i]? = some x → (valV kvs (.inl (i : Int))).getD (base i) = .str x) →
    ∀ (i : Nat) x, (cs.foldl (fun ls c => ls.set c.1 c.2) ls)[i]? = some x → (valV (mergeK kvs (kvC cs)) (.inl (i : Int))).getD (base i) = .str x
  | [], _, _, h => h
  | c :: cs, kvs, ls, h => valV_mergeK base cs (putK kvs (.inl (c.1 : Int)) (.str c.2)) (ls.set c.1 c.2) fun i x hx => by
    rw [valV_put]
    by_cases hi : i = c.1
    · subst hi
      rw [if_pos rfl]
      rw [List.getElem?_set_self (by
        have := (List.getElem?_eq_some_iff.mp hx).1
        rw [List.length_set] at this
        exact this)] at hx
      injection hx with hx
      rw [hx]
      rfl
    · rw [if_neg fun z => hi (by injection z with z; omega)]
      rw [List.getElem?_set_ne (fun z => hi z.symm)] at hx
      exact h i x hx
/-- i, j, m = e, [], [] -/
theorem q_tup3own {A : V → Hp → Prop} (k : w.ok F H) (ea : EV w ta σ F A)
    (q : ∀ v F' H' l l2, Gr w.M F H F' H' → H l = none → H l2 = none → F' l = none → F' l2 = none → l ≠ l2 → ((w.add l2 (.lst [])).add l (.lst [])).ok F' H' → A v F' → rest D (((σ.set i (some v)).set j (some (.ref l))).set m (some (.ref l2))) H') :
    tSeq (tAsg (tTup (tCons ta (tCons (tLst tNil) (tCons (tLst tNil) tNil)))) (gTup K 3 (gCons (gName i) (gCons (gName j) (gCons (gName m) gNil))))) rest D σ H :=
  ea F H (Same.refl F) k _ fun v F1 H1 g1 k1 p => ⟨Nat.zero_le _, fun l hl => ⟨Nat.zero_le _, fun l2 hl2 => ⟨by show 3 ≤ sizeLine; decide, fun T hT => by
    have hF := freeF k1.e hl
    have h0 : H l = none := Classical.byContradiction fun z => g1.d l z hl
    have gl : Gr M0 F1 H1 F1 (upd H1 l (.lst [])) := Gr.own k1.e hl
    have ne : l ≠ l2 := fun z => by
      rw [z, upd_same] at hl2
      cases hl2
    have hl2' : H1 l2 = none := by
      rw [upd_ne (Ne.symm ne)] at hl2
      exact hl2
    have hF2 := freeF k1.e hl2'
    have h02 : H l2 = none := Classical.byContradiction fun z => g1.d l2 z hl2'
    have kl := k1.pure gl
    have gl2 : Gr M0 F1 (upd H1 l (.lst [])) F1 (upd (upd H1 l (.lst [])) l2 (.lst [])) := Gr.own kl.e hl2
    have k2 : (w.add l2 (.lst [])).ok F1 (upd (upd H1 l (.lst [])) l2 (.lst [])) := (kl.pure gl2).plus (kl.npb hl2) hF2 upd_same
    have k3 : ((w.add l2 (.lst [])).add l (.lst [])).ok F1 (upd (upd H1 l (.lst [])) l2 (.lst [])) := k2.plus (k1.npb hl) hF (by rw [upd_ne ne]; exact upd_same)
    have gT : Gr M0 F1 (upd (upd H1 l (.lst [])) l2 (.lst [])) F1 (upd (upd (upd H1 l (.lst [])) l2 (.lst [])) T (.tup [v, .ref l, .ref l2])) := Gr.own k3.e hT
    exact ⟨T, [v, .ref l, .ref l2], rfl, .inl (.inl upd_same), rfl, v, [.ref l, .ref l2], rfl, .ref l, [.ref l2], rfl, .ref l2, [], rfl, rfl, q v F1 _ l l2 (((g1.trans gl.up).trans gl2.up).trans gT.up) h0 h02 hF hF2 ne (k3.pure gT) p⟩⟩⟩⟩
/-- i, j, m = a, b, c -/
theorem q_tup3 {A B C : V → Hp → Prop} (k : w.ok F H) (ea : EV w ta σ F A) (eb : ∀ v F1, Same F F1 → A v F1 → EV w tb σ F1 B) (ec : ∀ F1, Same F F1 → EV w tc σ F1 C) (hA : ∀ v F1 F2, Same F1 F2 → A v F1 → A v F2) (hB : ∀ v F1 F2, Same F1 F2 → B v F1 → B v F2)
    (q : ∀ v u z F' H', Gr w.M F H F' H' → w.ok F' H' → A v F' → B u F' → C z F' → rest D (((σ.set i (some v)).set j (some u)).set m (some z)) H') : tSeq (tAsg (tTup (tCons ta (tCons tb (tCons tc tNil)))) (gTup K 3 (gCons (gName i) (gCons (gName j) (gCons (gName m) gNil))))) rest D σ H :=
  ea F H (Same.refl F) k _ fun v F1 H1 g1 k1 p1 => eb v F1 g1.f p1 F1 H1 (Same.refl F1) k1 _ fun u F2 H2 g2 k2 p2 => ec F2 (g1.f.trans g2.f) F2 H2 (Same.refl F2) k2 _ fun z F3 H3 g3 k3 p3 => ⟨show 3 ≤ sizeLine by decide, fun p hp => by
    have gT : Gr M0 F3 H3 F3 (upd H3 p (.tup [v, u, z])) := Gr.own k3.e hp
    exact ⟨p, [v, u, z], rfl, .inl (.inl upd_same), rfl, v, [u, z], rfl, u, [z], rfl, z, [], rfl, rfl, q v u z F3 _ (((g1.trans g2).trans g3).trans gT.up) (k3.pure gT) (hA v F1 F3 (g2.f.trans g3.f) p1) (hB u F2 F3 g3.f p2) p3⟩⟩
/-- (d, e) -/
theorem ev_tup2 {d : PyData} {R : Str → Prop} (ha : ED K w ta σ F d) (hb : ∀ F1, Same F F1 → EV w tb σ F1 fun v _ => ∃ y, v = .str y ∧ R y) : EV w (tTup (tCons ta (tCons tb tNil))) σ F fun v F' => ∃ y, R y ∧ Rp K F' v (.tuple [d, .str y]) := fun F1 H1 e k Q q =>
  ha F1 H1 e k _ fun x F2 H2 g2 k2 p2 => hb F2 (e.trans g2.f) F2 H2 (Same.refl F2) k2 _ fun z F3 H3 g3 k3 ⟨y, ez, hy⟩ => ⟨show 2 ≤ sizeLine by decide, fun p hp => by
    subst ez
    have g4 : Gr M0 F3 H3 (upd F3 p (.tup [x, .str y])) (upd H3 p (.tup [x, .str y])) := Gr.new k3.e hp
    exact q _ _ _ ((g2.trans g3).trans g4.up) (k3.pure g4) ⟨y, hy, .tup (.inl (.inl upd_same)) (.cons ((p2.mono g3.f).mono g4.f) (.cons (.str y) .nil))⟩⟩
theorem er_catR {ds : List PyData} {R : List PyData → Prop} (ha : ED K w ta σ F (.list ds)) (hb : ER K w tb σ F fun d => ∃ es, d = .list es ∧ R es) (hz : ∀ es, R es → ds.length + es.length ≤ 100000) : ER K w (tOp rCat ta tb) σ F fun d => ∃ es, d = .list (ds ++ es) ∧ R es := fun F1 H1 e k Q q =>
  ha F1 H1 e k _ fun x F2 H2 g2 k2 p2 => hb F2 H2 (e.trans g2.f) k2 _ fun y F3 H3 g3 k3 ⟨d, ⟨es, he, hr⟩, p3⟩ => by
    subst he
    obtain ⟨a, xs, rfl, h1, ra⟩ := rp_lst p2
    obtain ⟨b, ys, rfl, h2, rb⟩ := rp_lst p3
    refine ⟨a, b, xs, ys, rfl, rfl, k3.e _ _ (g3.f _ _ h1), k3.e _ _ h2, by rw [ra.len, rb.len]; exact Nat.le_trans (hz es hr) (by decide), fun p hp => ?_⟩
    have g4 : Gr M0 F3 H3 (upd F3 p (.lst (xs ++ ys))) (upd H3 p (.lst (xs ++ ys))) := Gr.new k3.e hp
    exact q _ _ _ ((g2.trans g3).trans g4.up) (k3.pure g4) ⟨_, ⟨es, rfl, hr⟩, .lst upd_same ((ra.mono (g3.f.trans g4.f)).app (rb.mono g4.f))⟩
theorem er_catL {es : List PyData} {R : List PyData → Prop} (ha : ER K w ta σ F fun d => ∃ ds, d = .list ds ∧ R ds) (hb : ∀ F1, Same F F1 → ED K w tb σ F1 (.list es)) (hz : ∀ ds, R ds → ds.length + es.length ≤ 100000) : ER K w (tOp rCat ta tb) σ F fun d => ∃ ds, d = .list (ds ++ es) ∧ R ds := fun F1 H1 e k Q q =>
  ha F1 H1 e k _ fun x F2 H2 g2 k2 ⟨d, ⟨ds, he, hr⟩, p2⟩ => hb F2 (e.trans g2.f) F2 H2 (Same.refl F2) k2 _ fun y F3 H3 g3 k3 p3 => by
    subst he
    obtain ⟨a, xs, rfl, h1, ra⟩ := rp_lst p2
    obtain ⟨b, ys, rfl, h2, rb⟩ := rp_lst p3
    refine ⟨a, b, xs, ys, rfl, rfl, k3.e _ _ (g3.f _ _ h1), k3.e _ _ h2, by rw [ra.len, rb.len]; exact Nat.le_trans (hz ds hr) (by decide), fun p hp => ?_⟩
    have g4 : Gr M0 F3 H3 (upd F3 p (.lst (xs ++ ys))) (upd H3 p (.lst (xs ++ ys))) := Gr.new k3.e hp
    exact q _ _ _ ((g2.trans g3).trans g4.up) (k3.pure g4) ⟨_, ⟨ds, rfl, hr⟩, .lst upd_same ((ra.mono (g3.f.trans g4.f)).app (rb.mono g4.f))⟩
theorem er_join {a : Str} {R : List Str → Prop} (ha : ED K w ta σ F (.str a)) (hb : ER K w tb σ F fun d => ∃ ys : List Str, d = .list (ys.map .str) ∧ R ys) (h : ∀ ys, R ys → (ys.map (·.length)).sum + ys.length * a.length ≤ 16777216) :
    ER K w (tM1 (fun x xs H Q => ∃ a p, ∃ ys : List Str, x = .str a ∧ xs = [.ref p] ∧ (SqL K H p (ys.map V.str) ∨ SqT K H p (ys.map V.str)) ∧ (ys.map (·.length)).sum + ys.length * a.length ≤ 16777216 ∧ Q (.str (Txt.join a ys)) H) ta tb) σ F fun d => ∃ ys, d = .str (Txt.join a ys) ∧ R ys := fun F1 H1 e k Q q =>
  ha F1 H1 e k _ fun x F2 H2 g2 k2 p2 => ⟨⟨a, rp_str p2⟩, hb F2 H2 (e.trans g2.f) k2 _ fun y F3 H3 g3 k3 ⟨d, ⟨ys, hd, hr⟩, p3⟩ => by
    subst hd
    obtain ⟨p, xs, rfl, hs, ra⟩ := rp_lst p3
    rw [rpA_str ra] at hs
    rw [rp_str p2]
    exact ⟨a, p, ys, rfl, rfl, .inl (rp_sqL k3.e hs), h ys hr, q _ F3 H3 (g2.trans g3) k3 ⟨_, ⟨ys, rfl, hr⟩, .str _⟩⟩⟩
theorem er_strI {R : Int → Prop} (ha : EI w ta σ F R) (h : ∀ i, R i → i.natAbs.log2 < 1920) : ER K w (tCB (fun xs H Q => ∃ i, xs = [.int i] ∧ i.natAbs.log2 < 1920 ∧ Q (.str (toString i)) H) (tCons ta tNil)) σ F fun d => ∃ i, R i ∧ d = .str (intS i) := fun F1 H1 e k Q q =>
  ha F1 H1 e k _ fun x F2 H2 g2 k2 ⟨i, ei, p⟩ => ⟨i, by rw [ei], h i p, q _ F2 H2 g2 k2 ⟨_, ⟨i, p, rfl⟩, .str _⟩⟩
theorem ed_lenOwn {l : Addr} {xs : List V} (hi : σ[i]? = some (some (.ref l))) : ED K (w.add l (.lst xs)) (tCB (rLenS K) (tCons (tVar i) tNil)) σ F (.int xs.length) := fun F2 H2 e2 k2 Q2 q2 =>
  ⟨.ref l, hi, l, xs, rfl, .inl (.inl (.inl k2.at.2.2)), q2 _ F2 H2 (Gr.refl k2.1) k2 (.int _)⟩
/-- i = [e for j in range(n)], a list of one's own -/
theorem s_lcOwn {vs : List Nat} {n : Int} {g : Nat → PyData} (hl : EDA K w tr σ F [.int n]) (hz : n ≤ 1000) (hn : 0 ≤ n) (hw : ∀ x, wipe ((wipe σ vs).set j (some x)) vs = wipe σ vs)
    (he : ∀ (i : Nat) F1, (i : Int) < n → Same F F1 → ED K w te ((wipe σ vs).set j (some (.int i))) F1 (g i)) (k : w.ok F H)
    (q : ∀ F' H' l xs, Gr w.M F H F' H' → H l = none → F' l = none → (w.add l (.lst xs)).ok F' H' → RpA K F' xs ((List.range n.toNat).map g) → D.nx (σ.set i (some (.ref l))) H') : tAsg (tLc (iRng1 tr) (gName j) tYes te vs) (gName i) D σ H :=
  hl F H (Same.refl F) k _ fun v F1 H1 g1 k1 r => by
    have ev : v = [.int n] := by
      cases r with
      | cons r1 r2 =>
        cases r2
        rw [rp_int r1]
    refine ⟨n, ev, by omega, by omega, fun Dd hD => ?_⟩
    have h0 : H Dd = none := Classical.byContradiction fun z => g1.d Dd z hD
    refine lc_range (lo := 0) (n := n.toNat) (fun i H' => ∃ (F2 : Hp) (acc : List V), Gr w.M F H F2 H' ∧ (w.add Dd (.lst acc)).ok F2 H' ∧ RpA K F2 acc ((List.range i).map g)) ?_ ?_ ?_
    · have gD : Gr M0 F1 H1 F1 (upd H1 Dd (.lst [])) := Gr.own k1.e hD
      exact ⟨F1, [], g1.trans gD.up, (k1.pure gD).plus (k1.npb hD) (freeF k1.e hD) upd_same, .nil⟩
    · rintro i H' hi ⟨F2, acc, g2, kk, ra⟩
      refine ⟨hw _, ?_⟩
      simp only [tYes, if_true]
      rw [Int.zero_add]
      refine EV.add (he i F2 (by omega) g2.f) F2 H' (Same.refl F2) kk _ fun y F3 H3 g3 k3 p3 => ?_
      have hlen : acc.length = i := by rw [ra.len, List.length_map, List.length_range]
      refine ⟨acc, k3.at.2.2, Nat.lt_of_lt_of_le (show acc.length < 1000 by omega) (by decide), F3, acc ++ [y], (g2.trans g3).mut h0 k3.at.2.1, k3.put (k1.nls hD), ?_⟩
      rw [List.range_succ, List.map_append]
      exact (ra.mono g3.f).snoc p3
    · rintro H' ⟨F2, acc, g2, kk, ra⟩
      exact q F2 H' Dd acc g2 h0 kk.at.2.1 kk ra
end
end Wk
set_option Elab.async false
set_option linter.all false
set_option maxRecDepth 100000
set_option maxHeartbeats 4000000
/-! Ua: own exception classes over any of the three bases whose __init__ is walked: raised -/
namespace PySem
namespace HandSPX
open Builtin Builtin.ObjectAttr PySem.W PySem.Calls PyProof.Rows
/-- own classes, then a tail -/
def refsT (tl : List Value) : List Value → Bool
  | .ref _ :: r => refsT tl r
  | l => l == tl
theorem refsT_cases {tl : List Value} : ∀ l : List Value, refsT tl l = true → (∃ c r, l = .ref c :: r ∧ refsT tl r = true) ∨ l = tl
  | [], e => .inr (beq_iff_eq.mp e)
  | .ref c :: r, e => .inl ⟨c, r, rfl, e⟩
  | .none :: _, e => .inr (beq_iff_eq.mp e)
  | .ellipsis :: _, e => .inr (beq_iff_eq.mp e)
  | .notImplemented :: _, e => .inr (beq_iff_eq.mp e)
  | .bool _ :: _, e => .inr (beq_iff_eq.mp e)
  | .int _ _ :: _, e => .inr (beq_iff_eq.mp e)
  | .float _ _ :: _, e => .inr (beq_iff_eq.mp e)
  | .str _ _ :: _, e => .inr (beq_iff_eq.mp e)
  | .bytes _ _ :: _, e => .inr (beq_iff_eq.mp e)
  | .type _ :: _, e => .inr (beq_iff_eq.mp e)
  | .builtin _ :: _, e => .inr (beq_iff_eq.mp e)
/-- what is told of a base: its facts, that its mro refuses no store -/
structure ExB (B newId initId : String) (tl : List Value) : Prop where
  F : ExcBaseFacts B newId initId tl
  ps : ∀ self : Value, refuseLoop self "__setattr__" tl = pure ()
  ob : tl.contains (.type "object") = true
  ne : tl.isEmpty = false
theorem refsT_pass {tl : List Value} (hp : ∀ self : Value, refuseLoop self "__setattr__" tl = pure ()) (self : Value) : ∀ l : List Value, refsT tl l = true → refuseLoop self "__setattr__" l = pure () := by
  intro l
  induction l with
  | nil =>
    intro e
    rcases refsT_cases [] e with ⟨_, _, q, _⟩ | q
    · cases q
    · rw [q]; exact hp self
  | cons a r ih =>
    intro e
    rcases refsT_cases (a :: r) e with ⟨c, r', q, h⟩ | q
    · obtain ⟨rfl, rfl⟩ := List.cons.inj q
      rw [refuseLoop_ref]; exact ih h
    · rw [q]; exact hp self
theorem refsT_contains {tl : List Value} (X : String) : ∀ l : List Value, refsT tl l = true → l.contains (.type X) = tl.contains (.type X) := by
  intro l
  induction l with
  | nil =>
    intro e
    rcases refsT_cases [] e with ⟨_, _, q, _⟩ | q
    · cases q
    · rw [q]
  | cons a r ih =>
    intro e
    rcases refsT_cases (a :: r) e with ⟨c, r', q, h⟩ | q
    · obtain ⟨rfl, rfl⟩ := List.cons.inj q
      rw [List.contains_cons, ih h]; rfl
    · rw [q]
theorem refsT_ne {tl l : List Value} (h0 : tl.isEmpty = false) (e : refsT tl l = true) : l.isEmpty = false := by
  cases l with
  | nil =>
    rcases refsT_cases [] e with ⟨_, _, q, _⟩ | q
    · cases q
    · rw [q]; exact h0
  | cons _ _ => rfl
section
variable {prog : Program} {w : World} {A : Around} {E : Value → Shared → Prop} {R : Result → Shared → Prop} {hp : Heap} {g : Array GenState} {d : Drawn} {t : Nat} {os : OsState}
theorem exc_osaT {K : W.Frag} {name : Str} {tk : Tok} {v : Value} {x C : Addr} {fv : Array Value} {cd : ClassData} {tl : List Value}
    (X : K.In hp) (hx : hp.get? x = some { cls := .ref C, data := .fields fv }) (hcd : W.clsIn K C = some cd) (h0 : tl.isEmpty = false) (hpass : ∀ self : Value, refuseLoop self "__setattr__" tl = pure ()) (ho : tl.contains (.type "object") = true) (hm : refsT tl cd.mro = true) (hh : cd.hasDict = true) (ha : W.findIn K (.ref C) name = some none)
    (hq : ∀ h' tk' dx, (∀ b o, b ≠ x → hp.get? b = some o → h'.get? b = some o) → hp.objs.size ≤ dx → dx ≠ x → h'.get? x = some { cls := .ref C, dict := some dx, data := .fields fv } →
      h'.Ns1 dx (fun y => if y = name then some v else none) → R (.ok (.ret .none)) ⟨h', g, d, tk', os⟩) :
    codeAny (model prog w) A (.call (.builtin "object.__setattr__") ⟨[.ref x, .str name tk, v], []⟩) R ⟨hp, g, d, t, os⟩ := by
  have I : W.InstAt hp x { cls := .ref C, data := .fields fv } C none := ⟨hx, rfl, rfl, trivial⟩
  have SF := F.store_object
  have ne := refsT_ne h0 hm
  have hob : cd.mro.contains (.type "object") = true := (refsT_contains "object" _ hm).trans ho
  have hxs : x ≠ hp.objs.size := Nat.ne_of_lt (Heap.lt_size hx)
  have sub : W.Looks (model prog w) hp (isInstance (.ref x) (.type "object")) true := I.type.andThen (W.looks_mroIn X (by unfold W.mroIn; rw [hcd, Option.bind_some, if_neg (by rw [ne]; decide), hob]))
  refine codeAny_call_builtin SF.slot.plain SF.entry (@W.check_slot (model prog w) _ _ ⟨hp, g, d, t, os⟩ "object.__setattr__" "object" "__setattr__" (.ref x) [.str name tk, v] [] _ SF.kind SF.split sub (SF.args (.ref x) (.str name tk) v) ?_)
  have hmr : W.Looks (model prog w) hp (mroOf (.ref C)) cd.mro := (W.looks_clsIn X hcd).andThen .now
  have L3 : W.Looks (model prog w) hp (storeTaker? none) none := .now
  have hcls : W.Looks (model prog w) hp (classData C) cd := W.looks_clsIn X hcd
  rw [W.osa_eq, refuse_eq]
  refine wpAny_bind (wpAny_bind (I.type.at (wpAny_bind (hmr.at ?_))))
  rw [refsT_pass hpass _ _ hm]
  refine wpAny_pure (wpAny_bind (I.type.at (wpAny_bind ((W.looks_findIn X ha).at (wpAny_bind (L3.at ?_))))))
  show wpAny _ _ (storeInOwnDict (.ref x) (.ref C) (.str name tk) name v false) _ _ _
  obtain ⟨nm, bs, mro, ns, qn, hd, sn, sb, ab, col, del⟩ := cd
  dsimp only at hh
  subst hh
  unfold storeInOwnDict ownDictForStores
  repeat (first | with_reducible refine store_in_new ?_ ?_ | with_reducible refine wpAny_loadPart_at hx ?_ | with_reducible refine hcls.at ?_ | wp_step)
  · exact ⟨_, #[], _, (Heap.get?_update_ne _ _ _ _ hxs.symm).trans (Heap.get?_push_at rfl rfl), rfl, fun e he => absurd he (by simp), fun _ => rfl⟩
  · intro h' tk' hn' hs
    have hx₁ : (hp.push { cls := .type "dict", data := .dict #[] }).get? x = some { cls := .ref C, data := .fields fv } := Heap.get?_push_of_some _ hx
    refine hq h' tk' hp.objs.size (fun b o hb ho => ?_) (Nat.le_refl _) hxs.symm ?_ hn'
    · exact (hs.2 b (Nat.ne_of_lt (Heap.lt_size ho))).trans ((Heap.get?_update_ne _ _ _ _ hb).trans (Heap.get?_push_of_some _ ho))
    · exact (hs.2 x hxs).trans (Heap.get?_update_self _ hx₁ rfl)
end
abbrev leTail : List Value := [.type "LookupError", .type "Exception", .type "BaseException", .type "object"]
abbrev aeTail : List Value := [.type "ArithmeticError", .type "Exception", .type "BaseException", .type "object"]
theorem exB_value : ExB "ValueError" "ValueError.__new__" "ValueError.__init__" veTail := ⟨F.excBase_ValueError, F.store_ValueError.passes, by decide +kernel, rfl⟩
theorem exB_lookup : ExB "LookupError" "LookupError.__new__" "LookupError.__init__" leTail := ⟨F.excBase_LookupError, F.store_LookupError.passes, by decide +kernel, rfl⟩
theorem exB_arith : ExB "ArithmeticError" "ArithmeticError.__new__" "ArithmeticError.__init__" aeTail := ⟨F.excBase_ArithmeticError, F.store_ArithmeticError.passes, by decide +kernel, rfl⟩
end HandSPX
end PySem
namespace L2
open PySem PySem.Spec PyProof.Rows
/-- what the written part says of the class, whatever its base -/
structure OexG (K : PySem.W.Frag) (C : Addr) : Prop where
  cls : ∃ nm q N bs bm sn sub ab col dd k0 k1 k2 k3 k5 B newId initId tl, K.lookup C = some (excClassObj nm q C N bs bm true sn sub ab col dd k0 k1 k2 k3 k5 newId) ∧ PySem.HandSPX.ExB B newId initId tl ∧ PySem.HandSPX.refsT tl bm = true
  sa : PySem.W.findIn K (.ref C) "__setattr__" = some (some (.builtin "object.__setattr__"))
  exC : PySem.W.subIn K (.ref C) (.type "BaseException") = some true
  tyC : PySem.W.typeIn K (.ref C) = some (.type "type")
  kC : PySem.W.keepIn K (.ref C) = true
section
variable {X : Cx} {pins : List (Addr × Obj)} {σ : St} {H : Hp} {s : Shared} {a C dx : Addr} {f : Str} {y : V} {u : Value} {fs : List (Str × V)} {Q : Unit → Shared → Prop} {E : Value → Shared → Prop} {A : Around}
theorem ost_newG (T : OexG X.K C) (I : Inv X pins σ H s) (e : H a = some (exo a C none)) (hno : PySem.W.findIn X.K (.ref C) f = some none) (ry : RelV y u)
    (h : ∀ dx s', H dx = none → dx ≠ a → Inv X pins σ (upd (upd H dx (exd dx [(f, y)])) a (exo a C (some dx))) s' → Q () s') : wpAny (model X.prog X.w) A (setAttr (.ref a) f u) Q E s := by
  obtain ⟨nm, q, N, bs, bm, sn, sub, ab, col, dd, k0, k1, k2, k3, k5, B, newId, initId, tl, hC, eb, hbm⟩ := T.cls
  have hcl : PySem.W.clsIn X.K C = some { name := nm, bases := bs, mro := .ref C :: bm, ns := N, qualname := q, hasDict := true, slotNames := sn, subclasses := sub, abstract := ab, collection := col, hasDel := false } := by unfold PySem.W.clsIn; rw [hC] <;> rfl
  obtain ⟨t1, ho⟩ := exo_at I.hok e
  obtain ⟨hp, g, d, t, os⟩ := s
  refine PySem.W.set_plain I.kIn (ox := { cls := .ref C, dict := none, data := .fields #[.ref t1, .none, .none, .none, .bool false, .none] }) (od := none) ⟨ho, rfl, rfl, trivial⟩ T.sa ?_
  refine PySem.HandSPX.exc_osaT I.kIn ho hcl eb.ne eb.ps eb.ob (show PySem.HandSPX.refsT tl (.ref C :: bm) = true from hbm) rfl hno (fun h' tk' dx k dn dne hx hn => ?_)
  have hnd : H dx = none := I.hok.fresh dn
  have nd : ∀ {b : Addr} {o : Obj}, hp.get? b = some o → b ≠ dx := fun {b o} q => Nat.ne_of_lt (Nat.lt_of_lt_of_le (Heap.lt_size q) dn)
  have na : ∀ {b : Addr}, H b = none → b ≠ a := fun {b} n z => by
    rw [z, e] at n
    cases n
  have Un1 : Un X.fs [] H (upd (upd H dx (exd dx [(f, y)])) a (exo a C (some dx))) hp h' := {
    keep := fun b o q n _ _ => k b o (na n) q
    slot := fun b o q n _ _ => ⟨o.slots, k b o (na n) q⟩
    free := fun b o q n _ => by rw [upd_ne (na n), upd_ne (nd q)]; exact n
    there := fun b o q _ => by
      by_cases hb : b = a
      · exact ⟨_, by rw [hb]; exact hx⟩
      · exact ⟨o, k b o hb q⟩
    tups := fun b xs q => by rw [upd_ne (at_ne e q exo_tup), upd_ne (ne_of_none q hnd)]; exact q
    frzs := fun b o v q => by rw [upd_ne (at_ne e q exo_frz), upd_ne (ne_of_none q hnd)]; exact q
    tbls := fun b ps q => ⟨#[], by rw [upd_ne (at_ne e q exo_tbl), upd_ne (ne_of_none q hnd), q]; simp⟩ }
  refine h dx _ hnd dne (I.un (t' := tk') Un1 fun b o q => ?_)
  by_cases hb : b = a
  · subst hb
    rw [upd_same] at q
    cases q
    exact exo_ok hx
  · rw [upd_ne hb] at q
    by_cases hd : b = dx
    · subst hd
      rw [upd_same] at q
      cases q
      exact exd_ok hn (relO_put (fs := []) ry fun g => True.intro)
    · rw [upd_ne hd] at q
      exact (I.hok b o q).stay (fun c v hc z => k c v (by
          rcases hc with hc | hc
          · rw [hc]
            exact hb
          · exact at_ne e hc exo_own) z)
        (fun c hc => by rw [upd_ne (at_ne e hc exo_own), upd_ne (ne_of_none hc hnd)]; exact hc) (fun c xs hc => by rw [upd_ne (at_ne e hc exo_tup), upd_ne (ne_of_none hc hnd)]; exact hc)
end
/-- self.f = e, the first one -/
def tOstG (K : PySem.W.Frag) (f : Str) (to te : TE) : TS := fun D σ H => te σ H fun y H1 => to σ H1 fun x H2 => ∃ a C : Addr, x = .ref a ∧ OexG K C ∧ PySem.W.findIn K (.ref C) f = some none ∧
  H2 a = some (exo a C none) ∧ ∀ dx, H2 dx = none → dx ≠ a → D.nx σ (upd (upd H2 dx (exd dx [(f, y)])) a (exo a C (some dx)))
section
variable {X : Cx} {o e : Expr} {es : List Expr} {to te : TE} {ta : TA} {f : Str} {p p' p1 p2 pos : Pos}
theorem ps_ostG (ho : PE X o to) (he : PE X e te) (hs : swapsWith e (some (.Attribute o f p')) pos.line X.env = pure false := by rfl) : PS X (.Assign [.Attribute o f p'] e pos) (tOstG X.K f to te) := by
  refine ⟨fun pins s σ H D I h => ?_⟩
  refine plainObj_wpAny_Assign_Attribute (thn (he.run pins s σ H _ I h) fun v s1 ⟨y, H1, I1, r1, q1⟩ => thn (ho.run pins s1 σ H1 _ I1 q1) fun u s2 ⟨x, H2, I2, r2, a, C, ex, T, hno, ea, q⟩ => ?_) hs
  subst ex
  obtain rfl : u = Value.ref a := r2
  exact ost_newG T I2 ea hno r1 fun dx s' n ne J => ⟨σ, _, J, q dx n ne⟩
theorem pmk_oexG {CX : CXT} {x : Str} {C fI : Addr} {k : Nat} {fd : FuncData} {ps : List Str} {sp : Sp} {ds : List Value} {dvs : List V} (T : OexG X.K C) (iC : PySem.W.findIn X.K (.ref C) "__init__" = some (some (.ref fI))) (tI : PySem.W.typeIn X.K (.ref fI) = some (.type "function"))
    (F1 : FnOk X.prog X.w X.K X.mg X.base CX k fI fd ps sp) (hr : Room (k + 1) X.A) (hb : Binds X.K fd ps ds) (hd : Vals dvs ds) (hx : Passes CX X (fun _ _ _ => False)) (hg : Gl X x) (hm : X.mg x = some (.ref C)) (ha : PA X (e :: es) ta)
    (hdb : (x == ("__debug__" : Str)) = false := by decide) (he : starEach (e :: es) X.env = (false, eval e X.env) :: starEach es X.env := by rfl) (hpl : (backTo pos (starEach es X.env)).any (·.1) = false := by rfl) :
    PMk X (.Call (.Name x p) (e :: es) [] pos) (tMkO C sp dvs ta) := by
  intro pins s σ H Q I h
  obtain ⟨nm, q, N, bs, bm, sn, sub, ab, col, dd, k0, k1, k2, k3, k5, B, newId, initId, tl, hC, eb, hbm⟩ := T.cls
  refine wpAny_Call_Name_kw (ld_glob I hg hm ?_ hdb)
  refine PySem.W.callWith_K (h₀ := X.base) I.ok.mod.kin T.kC (thn (ha.run pos pins s σ H _ I h) fun us s1 ⟨vs, H1, I1, r1, hz, q1⟩ => ⟨I1.kIn, ?_⟩) he hpl
  show wpAny _ _ (call (.ref C) us) _ _ _
  obtain ⟨hp, g, dr, tk, os⟩ := s1
  have hsz : hp.objs.size ≤ hp.objs.size + 1 := Nat.le_succ _
  have hn : H1 (hp.objs.size + 1) = none := I1.hok.fresh hsz
  have hq := q1 (hp.objs.size + 1) hn
  have kk : ∀ b o, hp.get? b = some o → ((hp.push (PySem.W.kdv_tup us)).push (PySem.HandSPX.excO C hp.objs.size)).get? b = some o := fun b o e => Heap.get?_push_of_some _ (Heap.get?_push_of_some _ e)
  have hget : ((hp.push (PySem.W.kdv_tup us)).push (PySem.HandSPX.excO C hp.objs.size)).get? (hp.objs.size + 1) = some (PySem.HandSPX.excO C hp.objs.size) := by heap_get
  have I2 : Inv X pins σ (upd H1 (hp.objs.size + 1) (exo (hp.objs.size + 1) C none)) ⟨(hp.push (PySem.W.kdv_tup us)).push (PySem.HandSPX.excO C hp.objs.size), g, dr, tk, os⟩ :=
    I1.laid (t' := tk) (a := hp.objs.size + 1) (o := exo (hp.objs.size + 1) C none) (h' := (hp.push (PySem.W.kdv_tup us)).push (PySem.HandSPX.excO C hp.objs.size)) kk hsz (exo_ok hget)
  have r2 : Vals (V.ref (hp.objs.size + 1) :: (vs ++ dvs)) (Value.ref (hp.objs.size + 1) :: (us ++ ds)) := .cons rfl (r1.append hd)
  have hl : (Value.ref (hp.objs.size + 1) :: us ++ ds).length = ps.length := by
    have e := r2.length
    rw [F1.len _ _ _ _ hq] at e
    exact e.symm
  have hus : us.length ≤ sizeLine := by
    rw [← Paired.length r1, sizeLine_eq]
    omega
  refine wpAny_call (PySem.HandSPX.call_own eb.F (fun Y => PySem.HandSPX.refsT_contains Y bm hbm) (I1.kIn _ _ hC) (PySem.W.looks_findIn I1.kIn iC) (fun self => PySem.W.bind_fn I1.kIn self tI) hus
    (codeAny_mono (F1.run _ X.stack _ _ ⟨Value.ref (hp.objs.size + 1) :: us, []⟩ (Value.ref (hp.objs.size + 1) :: (us ++ ds)) _ _ (fun _ _ _ => False) (hr.make C us []) (I2.env0.make C us []) (hb _ (Value.ref (hp.objs.size + 1) :: us) I2.kIn hl) r2 hq) fun r s' hq' => ?_))
  cases r with
  | error er => exact hx pins σ _ _ er s' I2 hq'
  | ok fl =>
    cases fl with
    | ret u =>
      obtain ⟨v, H2, os2, bare2, un2, hok2, rv, ev, d, fs, ea, ed, hd1, q2⟩ := hq'
      subst ev
      obtain ⟨h2, g2, d2, t2, os'⟩ := s'
      exact ⟨rv, mk_end (raises_own T.exC T.tyC) I1 hsz kk un2 hok2 os2 bare2 ea ed hd1 q2⟩
    | next => exact False.elim hq'
    | brk => exact False.elim hq'
    | cont => exact False.elim hq'
end
end L2
namespace Wk
open PySem PySem.Spec PyProof.Rows
open L2 hiding St
section
variable {X : Cx} {W : WX} {C fI : Addr} {f x p0 p1 : Str} {fd : FuncData} {k : Nat} {e : Expr} {es : List Expr} {ta : TA} {pos pos2 p : Pos}
theorem ps_raise1G (hc : X.calm = true) (tk : Takes X W) (T : OexG X.K C) (iC : PySem.W.findIn X.K (.ref C) "__init__" = some (some (.ref fI))) (tI : PySem.W.typeIn X.K (.ref fI) = some (.type "function")) (F1 : FnOk X.prog X.w X.K X.mg X.base CX0 k fI fd [p0, p1] (spE1 C f)) (hr : Room (k + 1) X.A)
    (hb : Binds X.K fd [p0, p1] []) (hg : Gl X x) (hm : X.mg x = some (.ref C)) (ha : PA X (e :: es) ta) (hdb : (x == ("__debug__" : Str)) = false := by decide) (he : starEach (e :: es) X.env = (false, eval e X.env) :: starEach es X.env := by rfl)
    (hpl : (backTo pos (starEach es X.env)).any (·.1) = false := by rfl) : PS X (.Raise (some (.Call (.Name x p) (e :: es) [] pos)) none pos2) (tRaise C f W ta) := ps_raise hc tk (pmk_oexG T iC tI F1 hr hb .nil pass0 hg hm ha hdb he hpl)
end
section
variable {P : Program} {w : World} {K : PySem.W.Frag} {mg : Str → Option Value} {base : Heap}
theorem e1_okG {x qual p0 p1 : Str} {st : Stmt} {f C : Addr} {fd : FuncData} {N : List Str} {k : Nat} {fld : Str} (F : Fun K x qual st f fd) (S : FnScope N [p0, p1] (defScope st)) (hN : N = [p0, p1]) (T : OexG K C) (hno : PySem.W.findIn K (.ref C) fld = some none)
    (hb : ∀ (cdv : Value) (A : Around) (outer : List Env) (s : Shared) (H : Hp) (E : XK), PSs (cxOf CX0 P w K mg base N qual (defScope st) f cdv A outer s H E).nox (defBody st) (tOstG K fld (tVar 0) (tVar 1))) : FnOk P w K mg base CX0 (k + 1) f fd [p0, p1] (spE1 C fld) := by
  refine F.ok S (fun vs H Q E h => ?_) (fun cdv A outer s H vs Q E hr h => ⟨_, hb cdv A outer s H E, ?_⟩)
  · obtain ⟨x, y, rfl, _⟩ := h
    rfl
  · obtain ⟨x, y, rfl, hx, q⟩ := h
    subst hN
    exact ⟨y, rfl, .ref x, rfl, x, C, rfl, T, hno, hx, fun d h1 h2 => q d h1 h2⟩
end
end Wk
set_option Elab.async false
set_option linter.all false
set_option maxRecDepth 100000
set_option maxHeartbeats 4000000
/-! Ub: own exceptions as values: made by position and by name, isinstance of them, their fields -/
namespace PySem
namespace HandSPX
open Builtin Builtin.ObjectAttr PySem.W PySem.Calls PyProof.Rows
section
variable {M : Model} {A : Around} {E : Value → Shared → Prop} {h : Heap} {g : Array GenState} {d : Drawn} {t : Nat} {os : OsState}
variable {nm q : Str} {C N : Addr} {bs bm bmB : List Value} {hdct : Bool} {sn : List Str} {sub : List Value} {ab : Bool} {col : Option Bool} {dd : Option Addr} {k0 k1 k2 k3 k5 : Option Value} {B newId initId : String} {kw : List (Str × Value)}
theorem check_new_ownK (F : ExcBaseFacts B newId initId bmB) (hT : ∀ X : String, bm.contains (.type X) = bmB.contains (.type X)) {rest : List Value} {Q : Unit → Shared → Prop}
    (hC : h.get? C = some (excClassObj nm q C N bs bm hdct sn sub ab col dd k0 k1 k2 k3 k5 newId)) (hq : Q () ⟨h, g, d, t, os⟩) : wpAny M A (checkBuiltinCall newId ⟨.ref C :: rest, kw⟩) Q E ⟨h, g, d, t, os⟩ := by
  have hcont : (Value.ref C :: bm).contains (.type B) = true := by rw [List.contains_cons, hT, F.hasB, Bool.or_true]
  have hstar := F.noStar
  simp only [checkBuiltinCall, F.newKind, F.newSplit, F.newRow]
  repeat (first | refine wpAny_loadPart_at hC ?_ | (refine wpAny_isSubtype_exc hC ?_; rw [hcont]) | refine wpAny_staticBase_exc hC ?_ | refine wpAny_madeBy_exc hC ?_ | simp only [bne_self_eq_false, Bool.false_eq_true, if_false] | wp_step)
  exact hq
end
section
variable {prog : Program} {w : World} {A : Around} {E : Value → Shared → Prop} {R : Result → Shared → Prop} {h : Heap} {g : Array GenState} {d : Drawn} {t : Nat} {os : OsState}
variable {nm q : Str} {C N : Addr} {bs bm bmB : List Value} {hdct : Bool} {sn : List Str} {sub : List Value} {ab : Bool} {col : Option Bool} {dd : Option Addr} {k0 k1 k2 k3 k5 : Option Value} {B newId initId : String} {kw : List (Str × Value)}
theorem new_ownK (F : ExcBaseFacts B newId initId bmB) (hT : ∀ X : String, bm.contains (.type X) = bmB.contains (.type X)) {rest : List Value}
    (hC : h.get? C = some (excClassObj nm q C N bs bm hdct sn sub ab col dd k0 k1 k2 k3 k5 newId))
    (hq : R (.ok (.ret (.ref (h.objs.size + 1)))) ⟨(h.push { cls := .type "tuple", data := .seq rest.toArray }).push
      { cls := .ref C, data := .fields #[.ref h.objs.size, .none, .none, .none, .bool false, .none] }, g, d, t, os⟩) (hrest : rest.length ≤ sizeLine) :
    codeAny (model prog w) A (.builtin newId ⟨.ref C :: rest, kw⟩) R ⟨h, g, d, t, os⟩ := by
  have hends := F.ends
  have hcB : (Value.ref C :: bm).contains (.type B) = true := by rw [List.contains_cons, hT, F.hasB, Bool.or_true]
  have hcA : (Value.ref C :: bm).contains (.type "AttributeError") = false := by rw [List.contains_cons, hT, F.noAttr]; rfl
  have hcN : (Value.ref C :: bm).contains (.type "NameError") = false := by rw [List.contains_cons, hT, F.noName]; rfl
  refine codeAny_builtinAt F.entry ?_
  unfold Builtin.«BaseException.__new__»
  refine wpAt_bind ?_
  show wpAt _ _ _ (stack >>= _) _ _ _
  refine wpAt_bind (wpAt_stack fun p below => wpAt_of_wpAny ?_)
  wp_walk
  refine wpAt_of_wpAny ?_
  rw [F.owner]
  repeat (first | with_reducible refine wpAny_madeHere_exc F.canon hC ?_ | with_reducible refine wpAny_loadPart_at hC ?_ | (with_reducible refine wpAny_isSubtype_exc hC ?_; first | rw [hcB] | rw [hcA] | rw [hcN]) | wp_step)
  show R _ _
  rw [Heap.size_push]
  exact hq
theorem type_call_ownK (F : ExcBaseFacts B newId initId bmB) (hT : ∀ X : String, bm.contains (.type X) = bmB.contains (.type X)) {rest : List Value} {fI : Addr} {Q : Fin → Shared → Prop}
    (hC : h.get? C = some (excClassObj nm q C N bs bm hdct sn sub ab col dd k0 k1 k2 k3 k5 newId))
    (hi : W.Looks (model prog w) h (typeLookup (.ref C) "__init__") (some (.ref fI))) (hb : ∀ self, W.Looks (model prog w) h (bindSpecial (.ref fI) self) (.ref fI, [self])) (hrest : rest.length ≤ sizeLine)
    (hq : codeAny (model prog w) A (.call (.ref fI) ⟨.ref (h.objs.size + 1) :: rest, kw⟩)
      (fun r s' => match r with | .ok (.ret v) => v = .none ∧ Q (.done (.ret (.ref (h.objs.size + 1)))) s' | .ok _ => False | .error e => E e s')
      ⟨(h.push (W.kdv_tup rest)).push (excO C h.objs.size), g, d, t, os⟩) :
    wpAny (model prog w) A (Builtin.«type.__call__» ⟨.ref C :: rest, kw⟩) Q E ⟨h, g, d, t, os⟩ := by
  repeat (first | with_reducible refine wpAny_loadPart_at hC ?_ | with_reducible refine wpAny_madeBy_exc hC ?_ | wp_step)
  refine codeAny_call_builtin_code (Code.quiet_builtin _ F.quiet) (check_new_ownK F hT hC ?_)
  refine new_ownK F hT hC ?_ hrest
  show wpAny _ _ _ _ _ _
  have k : ∀ b o, h.get? b = some o → ((h.push (W.kdv_tup rest)).push (excO C h.objs.size)).get? b = some o := fun b o e => Heap.get?_push_of_some _ (Heap.get?_push_of_some _ e)
  have hC₁ := k _ _ hC
  have hget : ((h.push (W.kdv_tup rest)).push (excO C h.objs.size)).get? (h.objs.size + 1) = some (excO C h.objs.size) := by heap_get
  have hcC : (Value.ref C :: bm).contains (.ref C) = true := by simp
  have i1 := hi.keeps k
  have b1 := (hb (.ref (h.objs.size + 1))).keeps k
  unfold isInstance
  repeat (first | with_reducible refine wpAny_loadPart_at hget ?_ | (with_reducible refine wpAny_isSubtype_exc hC₁ ?_; rw [hcC]) | wp_step)
  show wpAny _ _ (typeLookup (.ref C) _) _ _ _
  refine i1.at ?_
  refine wpAny_holding (wpAny_bind (b1.at ?_))
  refine wpAny_bind (wpAny_call (codeAny_mono hq fun r s' z => ?_))
  rcases r with e | (v | _ | _ | _) <;> first | exact z | exact z.elim | skip
  obtain ⟨rfl, z⟩ := z
  first
    | exact wpAny_pure (wpAny_pure z)
    | (wp_walk; exact z)
theorem call_ownK (F : ExcBaseFacts B newId initId bmB) (hT : ∀ X : String, bm.contains (.type X) = bmB.contains (.type X)) {rest : List Value} {fI : Addr}
    (hC : h.get? C = some (excClassObj nm q C N bs bm hdct sn sub ab col dd k0 k1 k2 k3 k5 newId))
    (hi : W.Looks (model prog w) h (typeLookup (.ref C) "__init__") (some (.ref fI))) (hb : ∀ self, W.Looks (model prog w) h (bindSpecial (.ref fI) self) (.ref fI, [self])) (hrest : rest.length ≤ sizeLine)
    (hq : codeAny (model prog w) (A.under (.builtin "type.__call__" ⟨.ref C :: rest, kw⟩)) (.call (.ref fI) ⟨.ref (h.objs.size + 1) :: rest, kw⟩) (W.InitBack (h.objs.size + 1) R)
      ⟨(h.push (W.kdv_tup rest)).push (excO C h.objs.size), g, d, t, os⟩) :
    codeAny (model prog w) A (.call (.ref C) ⟨rest, kw⟩) R ⟨h, g, d, t, os⟩ := by
  have f1 := tc_lookup
  have f2 := tc_bind (.ref C)
  have hTy : (⟨h, g, d, t, os⟩ : Shared).TypeIs (.ref C) "type" := ⟨_, hC, rfl⟩
  refine codeAny_of_tree ?_
  show wpAny _ _ (callAny (.ref C) _) _ _ _
  repeat (any_goals (first | assumption | with_reducible refine wpAny_loadPart_at hC ?_ | wp_step))
  refine ⟨rfl, ?_⟩
  refine codeAny_call_builtin_at (Code.quiet_builtin _ (by decide +kernel)) entry_typeCall (wpAny_check_type_call_sub hC (type_call_ownK F hT hC hi hb hrest ?_))
  refine codeAny_mono hq fun r s' z => ?_
  rcases r with e | (v | _ | _ | _) <;> exact z
end
end HandSPX
end PySem
namespace L2
open PySem PySem.Spec PyProof.Rows
/-- C(e, ..), an exception as a value, C's own __init__ keeping sp -/
def tMkV (C : Addr) (m : Nat) (gV : List V → List V → List V) (sp : Sp) (ta tk : TA) : TE := fun σ H Q => ta σ H fun vs H1 => tk σ H1 fun zs H2 => vs.length ≤ 1000 ∧ zs.length = m ∧ ∀ a, H2 a = none → sp (gV (.ref a :: vs) zs) (upd H2 a (exo a C none)) (fun v H3 => v = .non ∧ Q (.ref a) H3) (fun _ _ _ => False)
section
variable {X : Cx} {e : Expr} {es : List Expr} {ta tk : TA} {p pos : Pos} {kws : List Keyword} {ks : List Str} {g : List Value → List Value → List Value} {gV : List V → List V → List V}
theorem mkV_end {CX : CXT} {pins : List (Addr × Obj)} {σ : St} {H1 : Hp} {Q : VK} {C fI : Addr} {k : Nat} {fd : FuncData} {ps : List Str} {sp : Sp} {us ws : List Value} {vs zs : List V} {n : Nat} {s1 : Shared} (T : OexG X.K C) (iC : PySem.W.findIn X.K (.ref C) "__init__" = some (some (.ref fI))) (tI : PySem.W.typeIn X.K (.ref fI) = some (.type "function"))
    (F1 : FnOk X.prog X.w X.K X.mg X.base CX k fI fd ps sp) (hr : Room (k + 1) X.A) (hb : KBn X.K fd ps (n + 1) ks g gV) (hx : Passes CX X (fun _ _ _ => False)) (I1 : Inv X pins σ H1 s1) (r1 : Vals vs us) (rz : Vals zs ws) (hn1 : us.length = n) (hl : ws.length = ks.length) (hz : vs.length ≤ 1000)
    (q1 : ∀ a, H1 a = none → sp (gV (.ref a :: vs) zs) (upd H1 a (exo a C none)) (fun v H3 => v = .non ∧ Q (.ref a) H3) (fun _ _ _ => False)) : wpAny (model X.prog X.w) X.A (call (.ref C) us (ks.zip ws)) (EP X pins σ Q) X.xe s1 := by
  obtain ⟨nm, q, N, bs, bm, sn, sub, ab, col, dd, k0, k1, k2, k3, k5, B, newId, initId, tl, hC, eb, hbm⟩ := T.cls
  obtain ⟨hp, gg, dr, tk, os⟩ := s1
  have hsz : hp.objs.size ≤ hp.objs.size + 1 := Nat.le_succ _
  have hn : H1 (hp.objs.size + 1) = none := I1.hok.fresh hsz
  have hq := q1 (hp.objs.size + 1) hn
  have kk : ∀ b o, hp.get? b = some o → ((hp.push (PySem.W.kdv_tup us)).push (PySem.HandSPX.excO C hp.objs.size)).get? b = some o := fun b o e => Heap.get?_push_of_some _ (Heap.get?_push_of_some _ e)
  have hget : ((hp.push (PySem.W.kdv_tup us)).push (PySem.HandSPX.excO C hp.objs.size)).get? (hp.objs.size + 1) = some (PySem.HandSPX.excO C hp.objs.size) := by heap_get
  have I2 : Inv X pins σ (upd H1 (hp.objs.size + 1) (exo (hp.objs.size + 1) C none)) ⟨(hp.push (PySem.W.kdv_tup us)).push (PySem.HandSPX.excO C hp.objs.size), gg, dr, tk, os⟩ :=
    I1.laid (t' := tk) (a := hp.objs.size + 1) (o := exo (hp.objs.size + 1) C none) (h' := (hp.push (PySem.W.kdv_tup us)).push (PySem.HandSPX.excO C hp.objs.size)) kk hsz (exo_ok hget)
  have r2 : Vals (V.ref (hp.objs.size + 1) :: vs) (Value.ref (hp.objs.size + 1) :: us) := .cons rfl r1
  have hus : us.length ≤ sizeLine := by
    rw [← Paired.length r1, sizeLine_eq]
    omega
  refine wpAny_call (PySem.HandSPX.call_ownK (kw := ks.zip ws) eb.F (fun Y => PySem.HandSPX.refsT_contains Y bm hbm) (I1.kIn _ _ hC) (PySem.W.looks_findIn I1.kIn iC) (fun self => PySem.W.bind_fn I1.kIn self tI) hus
    (codeAny_mono (F1.run _ X.stack _ _ ⟨Value.ref (hp.objs.size + 1) :: us, ks.zip ws⟩ (g (Value.ref (hp.objs.size + 1) :: us) ws) (gV (V.ref (hp.objs.size + 1) :: vs) zs) _ (fun _ _ _ => False) (hr.make C us (ks.zip ws)) (I2.env0.make C us (ks.zip ws)) (hb.to _ (Value.ref (hp.objs.size + 1) :: us) ws I2.kIn (by rw [List.length_cons, hn1]) hl) (hb.rel r2 rz) hq) fun r s' hq' => ?_))
  cases r with
  | error er => exact hx pins σ _ _ er s' I2 hq'
  | ok fl =>
    cases fl with
    | ret u =>
      have z : EP X pins σ (fun v H3 => v = .non ∧ Q (.ref (hp.objs.size + 1)) H3) u s' := I2.after hq'
      obtain ⟨x, H2, J, rx, ex, q2⟩ := z
      subst ex
      exact ⟨rx, ⟨.ref (hp.objs.size + 1), H2, J, rfl, q2⟩⟩
    | next => exact False.elim hq'
    | brk => exact False.elim hq'
    | cont => exact False.elim hq'
/-- C(e) -/
theorem pe_mkV {CX : CXT} {x : Str} {C fI : Addr} {k : Nat} {fd : FuncData} {ps : List Str} {sp : Sp} (T : OexG X.K C) (iC : PySem.W.findIn X.K (.ref C) "__init__" = some (some (.ref fI))) (tI : PySem.W.typeIn X.K (.ref fI) = some (.type "function"))
    (F1 : FnOk X.prog X.w X.K X.mg X.base CX k fI fd ps sp) (hr : Room (k + 1) X.A) (hb : KBn X.K fd ps 2 [] g gV) (hx : Passes CX X (fun _ _ _ => False)) (hg : Gl X x) (hm : X.mg x = some (.ref C)) (ha : PA X [e] ta)
    (hdb : (x == ("__debug__" : Str)) = false := by decide) (he : starEach [e] X.env = (false, eval e X.env) :: starEach [] X.env := by rfl) (hpl : (backTo pos (starEach [] X.env)).any (·.1) = false := by rfl) :
    PE X (.Call (.Name x p) [e] [] pos) (tMkV C 0 gV sp (fun σ H Q => ta σ H fun vs H1 => vs.length = 1 ∧ Q vs H1) tNil) := by
  refine ⟨fun pins s σ H Q I h => ?_⟩
  refine wpAny_Call_Name_kw (ld_glob I hg hm ?_ hdb)
  refine PySem.W.callWith_K (h₀ := X.base) I.ok.mod.kin T.kC (thn (ha.run pos pins s σ H _ I h) fun us s1 ⟨vs, H1, I1, r1, h1, hz, _, q1⟩ => ⟨I1.kIn, ?_⟩) he hpl
  exact mkV_end (us := us) (ws := []) (zs := []) (n := 1) (ks := []) T iC tI F1 hr hb hx I1 r1 .nil (by rw [← Paired.length r1]; exact h1) rfl hz q1
/-- C(k = e) -/
theorem pe_mkVK {CX : CXT} {x : Str} {C fI : Addr} {k : Nat} {fd : FuncData} {ps : List Str} {sp : Sp} (T : OexG X.K C) (iC : PySem.W.findIn X.K (.ref C) "__init__" = some (some (.ref fI))) (tI : PySem.W.typeIn X.K (.ref fI) = some (.type "function"))
    (F1 : FnOk X.prog X.w X.K X.mg X.base CX k fI fd ps sp) (hr : Room (k + 1) X.A) (hb : KBn X.K fd ps 1 ks g gV) (hx : Passes CX X (fun _ _ _ => False)) (hg : Gl X x) (hm : X.mg x = some (.ref C)) (hkw : PK X kws tk)
    (hall : (backToKw pos (keywordEach kws X.env)).all (·.1.isSome) = true := by rfl) (hks : (backToKw pos (keywordEach kws X.env)).filterMap (·.1) = ks := by rfl) (hdb : (x == ("__debug__" : Str)) = false := by decide)
    (hpl : ((backTo pos (starEach [] X.env)).any (·.1) || (backToKw pos (keywordEach kws X.env)).any (·.1.isNone)) = false := by rfl) :
    PE X (.Call (.Name x p) [] kws pos) (tMkV C ks.length gV sp tNil tk) := by
  refine ⟨fun pins s σ H Q I h => ?_⟩
  refine wpAny_Call_Name_kw (ld_glob I hg hm ?_ hdb)
  refine PySem.W.callWith_KW0 (h₀ := X.base) I.ok.mod.kin T.kC hall ?_ hpl
  refine thn (hkw.run pos pins s σ H _ I h) fun ws s2 ⟨zs, H2, I2, rz, hz, l1, q2⟩ => ⟨I2.kIn, ?_⟩
  rw [hks]
  exact mkV_end (us := []) (vs := []) (n := 0) T iC tI F1 hr hb hx I2 .nil rz rfl (rz.length.symm.trans l1) hz q2
/-- C() of a class without __init__ of its own -/
theorem pe_mk0V {x : Str} {C : Addr} {bmB : List Value} {B newId initId : String} (F : ExcBaseFacts B newId initId bmB) (q : PySem.W.excIn X.K C bmB newId = true) (gC : X.mg x = some (.ref C)) (kC : PySem.W.keepIn X.K (.ref C) = true) (hg : Gl X x)
    (hdb : (x == ("__debug__" : Str)) = false := by decide) : PE X (.Call (.Name x p) [] [] pos) (fun σ H Q => ∀ a, H a = none → Q (.ref a) (upd H a (exo a C none))) := by
  refine ⟨fun pins s σ H Q I h => ?_⟩
  refine wpAny_Call_Name_kw (ld_glob I hg gC ?_ hdb)
  refine PySem.W.callWith_K0 I.kIn kC ?_
  show wpAny _ _ (call (.ref C) []) _ _ _
  obtain ⟨bm, N, nm, qn, bs, hdct, sn, sub, ab, col, dd, k0, k1, k2, k3, k5, mN, hC, hN, hni, T⟩ := exc_obj I.kIn q
  refine wpAny_call_exc_subT F T hC hN hni (fun h' a hm => ?_) (by show 0 ≤ sizeLine; rw [sizeLine_eq]; omega)
  have hn : H a = none := I.hok.gone hm.new
  obtain ⟨t, ht, _, _⟩ := hm.there
  exact ⟨.ref a, upd H a (exo a C none), I.laidN hm.keeps hm.new hn (exo_ok ht), rfl, h a hn⟩
end
end L2
set_option Elab.async false
set_option linter.all false
set_option maxRecDepth 100000
set_option maxHeartbeats 4000000
/-! Uc: isinstance of exceptions that are values, their fields -/
namespace Wk
open PySem PySem.Spec PyProof.Rows Lt
open L2 hiding St
/-- an exception of the class at D stands at a -/
def XAt (H : Hp) (a D : Addr) : Prop := H a = some (exo a D none) ∨ ∃ dd fs, H a = some (exo a D (some dd)) ∧ H dd = some (exd dd fs)
theorem XAt.mono {F F' : Hp} {a D : Addr} (e : Same F F') (h : XAt F a D) : XAt F' a D := by
  rcases h with h | ⟨dd, fs, h1, h2⟩
  · exact .inl (e _ _ h)
  · exact .inr ⟨dd, fs, e _ _ h1, e _ _ h2⟩
theorem xat_inst {X : Cx} {pins : List (Addr × Obj)} {σ : L2.St} {H : Hp} {s : Shared} {a D : Addr} (I : Inv X pins σ H s) (h : XAt H a D) : ∃ oe od, PySem.W.InstAt s.heap a oe D od := by
  rcases h with h | ⟨dd, fs, h1, h2⟩
  · obtain ⟨t1, ho⟩ := exo_at I.hok h
    exact ⟨_, none, ho, rfl, rfl, trivial⟩
  · obtain ⟨t1, ho⟩ := exo_at I.hok h1
    obtain ⟨mA, hns, _⟩ := exd_at I.hok h2
    obtain ⟨od, hd, _⟩ := lookIn_ns hns
    exact ⟨_, some od, ho, rfl, rfl, hd⟩
/-- isinstance(e, c), e an exception -/
def rIsV (K : PySem.W.Frag) : List V → Hp → VK → Prop := fun xs H Q => ∃ (a D : Addr) (c : V) (cv : Value) (b : Bool), xs = [.ref a, c] ∧ XAt H a D ∧ ExcD K D ∧ (∀ u, RelV c u → u = cv) ∧ PySem.W.kitOne K (.ref D) cv = some b ∧ Q (.bl b) H
theorem cV_is {X : Cx} (K : PySem.W.Frag) (hK : X.K = K) : CallR X (.builtin "isinstance") (rIsV K) := by
  subst hK
  intro pins s σ H xs us Q I r h
  obtain ⟨a, D, c, cv, b, rfl, ha, C, hcv, e, q⟩ := h
  cases r with
  | cons rx rr =>
    cases rr with
    | cons rt rr =>
      cases rr
      cases rx
      have ec := hcv _ rt
      subst ec
      obtain ⟨oe, od, J⟩ := xat_inst I ha
      exact PySem.W.kia_one (PySem.W.kitx_exc (clsIn_of C.hd) C.hg C.hk C.hs C.ha C.hn C.ht C.hm) I.kIn J e (fun z => nomatch z) fun tk => ⟨.bl b, H, I.kept (t' := tk) fun _ _ z => z, rfl, q⟩
/-- e.f, e an exception -/
def tXfV (K : PySem.W.Frag) (f : Str) (te : TE) : TE := fun σ H Q => te σ H fun x H1 => ∃ (a D dd : Addr) (fs : List (Str × V)) (v : V), x = .ref a ∧ H1 a = some (exo a D (some dd)) ∧ H1 dd = some (exd dd fs) ∧ XfC K D ∧ PySem.W.findIn K (.ref D) f = some none ∧ fs.lookup f = some v ∧ Q v H1
theorem pe_xfV {X : Cx} {e : Expr} {te : TE} {pos : Pos} {n : Str} (he : PE X e te) (hb : attributeBase e n X.env (eval e X.env) = eval e X.env := by rfl) : PE X (.Attribute e n pos) (tXfV X.K n te) := by
  refine ⟨fun pins s σ H Q I h => ?_⟩
  refine attr_of hb (thn (he.run pins s σ H _ I h) fun u s1 hh => ?_)
  obtain ⟨x, H1, I1, rx, a, D, dd, fs, v, ex, ea, ed, T, hno, l, q⟩ := hh
  subst ex
  obtain rfl : u = Value.ref a := rx
  obtain ⟨t1, ho⟩ := exo_at I1.hok ea
  obtain ⟨mA, hns, hr⟩ := exd_at I1.hok ed
  obtain ⟨od, hod, hl⟩ := lookIn_ns hns
  obtain ⟨u, hu, ru⟩ := RelO.some_of (v := v) (o := mA n) (by rw [← l]; exact hr n)
  have J : PySem.W.InstAt s1.heap a _ D (some od) := ⟨ho, rfl, rfl, hod⟩
  exact HandSPX.exc_get I1.kIn J T.ga T.gg T.exC (PySem.W.findObj_own T.hdC hno rfl (by rw [hl, hu])) (handed_of ru) ⟨v, H1, I1.tok _, ru, q⟩
/-- an exception with the data z in its field f -/
def IsExc (K : PySem.W.Frag) (D : Addr) (f : Str) (z : PyData) (v : V) (F : Hp) : Prop := ∃ a dd u, v = .ref a ∧ F a = some (exo a D (some dd)) ∧ F dd = some (exd dd [(f, u)]) ∧ Rp K F u z
theorem IsExc.mono {K : PySem.W.Frag} {D : Addr} {f : Str} {z : PyData} {v : V} {F F' : Hp} (e : Same F F') (h : IsExc K D f z v F) : IsExc K D f z v F' := by
  obtain ⟨a, dd, u, hv, h1, h2, r⟩ := h
  exact ⟨a, dd, u, hv, e _ _ h1, e _ _ h2, r.mono e⟩
theorem IsExc.at {K : PySem.W.Frag} {D : Addr} {f : Str} {z : PyData} {v : V} {F : Hp} (h : IsExc K D f z v F) : ∃ a, v = .ref a ∧ XAt F a D := by
  obtain ⟨a, dd, u, hv, h1, h2, _⟩ := h
  exact ⟨a, hv, .inr ⟨dd, _, h1, h2⟩⟩
section
variable {K : PySem.W.Frag} {w : Wd} {σ : L2.St} {F : Hp} {ta tb te : TE} {C : Addr} {f : Str} {z : PyData}
theorem mkV_new {F2 H2 : Hp} {v : V} {P' : V → Hp → Prop} {Q : VK} (k2 : w.ok F2 H2) (q : ∀ x F' H', Gr w.M F2 H2 F' H' → w.ok F' H' → IsExc K C f z x F' → Q x H') (p : Rp K F2 v z) (a : Addr) (ha : H2 a = none) :
    spE1 C f [.ref a, v] (upd H2 a (exo a C none)) (fun u H3 => u = .non ∧ Q (.ref a) H3) (fun _ _ _ => False) := by
  refine ⟨a, v, rfl, upd_same, fun d hd hne => ⟨rfl, ?_⟩⟩
  have hd2 : H2 d = none := by rw [upd_ne hne] at hd; exact hd
  have e1 : upd (upd (upd H2 a (exo a C none)) d (exd d [(f, v)])) a (exo a C (some d)) = upd (upd H2 d (exd d [(f, v)])) a (exo a C (some d)) := by
    funext b
    by_cases hb : b = a
    · rw [hb, upd_same, upd_same]
    · rw [upd_ne hb, upd_ne hb]
      by_cases hb2 : b = d
      · rw [hb2, upd_same, upd_same]
      · rw [upd_ne hb2, upd_ne hb2, upd_ne hb]
  rw [e1]
  have g1 : Gr M0 F2 H2 (upd F2 d (exd d [(f, v)])) (upd H2 d (exd d [(f, v)])) := Gr.new k2.e hd2
  have k3 := k2.pure g1
  have ha3 : upd H2 d (exd d [(f, v)]) a = none := by rw [upd_ne (Ne.symm hne)]; exact ha
  have g2 : Gr M0 (upd F2 d (exd d [(f, v)])) (upd H2 d (exd d [(f, v)])) (upd (upd F2 d (exd d [(f, v)])) a (exo a C (some d))) (upd (upd H2 d (exd d [(f, v)])) a (exo a C (some d))) := Gr.new k3.e ha3
  refine q _ _ _ ((g1.trans g2).up) (k3.pure g2) ⟨a, d, v, rfl, upd_same, by rw [upd_ne hne]; exact upd_same, (p.mono g1.f).mono g2.f⟩
theorem ev_mkV (ha : ED K w ta σ F z) : EV w (tMkV C 0 (fun us ws => us ++ ws) (spE1 C f) (fun σ H Q => tCons ta tNil σ H fun vs H1 => vs.length = 1 ∧ Q vs H1) tNil) σ F (IsExc K C f z) := fun F1 H1 e k Q q =>
  ha F1 H1 e k _ fun v F2 H2 g2 k2 p2 => ⟨rfl, (show 1 ≤ 1000 by decide), rfl, fun a hn => mkV_new (P' := fun _ _ => True) k2 (fun x F' H' g k' h => q x F' H' (g2.trans g) k' h) p2 a hn⟩
theorem ev_mkVK (ha : ED K w ta σ F z) : EV w (tMkV C 1 (fun us ws => us ++ ws) (spE1 C f) tNil (tCons ta tNil)) σ F (IsExc K C f z) := fun F1 H1 e k Q q =>
  ha F1 H1 e k _ fun v F2 H2 g2 k2 p2 => ⟨(show 0 ≤ 1000 by decide), rfl, fun a hn => mkV_new (P' := fun _ _ => True) k2 (fun x F' H' g k' h => q x F' H' (g2.trans g) k' h) p2 a hn⟩
/-- an exception without a field -/
theorem ev_mk0V : EV w (fun σ H Q => ∀ a, H a = none → Q (.ref a) (upd H a (exo a C none))) σ F fun v F' => ∃ a, v = .ref a ∧ XAt F' a C := fun F1 H1 e k Q q => fun a hn => by
  have g1 : Gr M0 F1 H1 (upd F1 a (exo a C none)) (upd H1 a (exo a C none)) := Gr.new k.e hn
  exact q _ _ _ g1.up (k.pure g1) ⟨a, rfl, .inl upd_same⟩
theorem ed_isV {a D : Addr} {c : V} {cv : Value} {b : Bool} (C : ExcD K D) (ha : ED' w ta σ F (.ref a)) (hb : ED' w tb σ F c) (hc : ∀ u, RelV c u → u = cv) (hk : PySem.W.kitOne K (.ref D) cv = some b) (hx : XAt F a D) :
    ED K w (tCB (rIsV K) (tCons ta (tCons tb tNil))) σ F (.bool b) := fun F1 H1 e k Q q =>
  ha F1 H1 e k _ fun x F2 H2 g2 k2 p2 => hb F2 H2 (e.trans g2.f) k2 _ fun y F3 H3 g3 k3 p3 => by
    subst p2 p3
    exact ⟨_, D, _, cv, b, rfl, (hx.mono ((e.trans g2.f).trans g3.f)).mono k3.e, C, hc, hk, q _ F3 H3 (g2.trans g3) k3 (.bl _)⟩
theorem ed_xfV (T : XfC K C) (hno : PySem.W.findIn K (.ref C) f = some none) (ha : EV w ta σ F (IsExc K C f z)) : ED K w (tXfV K f ta) σ F z := fun F1 H1 e k Q q =>
  ha F1 H1 e k _ fun x F2 H2 g2 k2 ⟨a, dd, u, hv, h1, h2, r⟩ => ⟨a, C, dd, [(f, u)], u, hv, k2.e _ _ h1, k2.e _ _ h2, T, hno, by simp [List.lookup], q _ F2 H2 g2 k2 r⟩
end
end Wk
set_option Elab.async false
set_option linter.all false
set_option maxRecDepth 100000
set_option maxHeartbeats 4000000
/-! Ud: lists of values each of its kind; tables of what isinstance tells -/
namespace Wk
open PySem PySem.Spec PyProof.Rows Lt
open L2 hiding St
def XL {ι : Type} (R : ι → V → Hp → Prop) : List ι → List V → Hp → Prop
  | [], [], _ => True
  | i :: is, v :: vs, F => R i v F ∧ XL R is vs F
  | _, _, _ => False
def MonoR {ι : Type} (R : ι → V → Hp → Prop) : Prop := ∀ i v F F', Same F F' → R i v F → R i v F'
theorem XL.mono {ι : Type} {R : ι → V → Hp → Prop} (h : MonoR R) {F F' : Hp} (e : Same F F') : ∀ {is : List ι} {vs : List V}, XL R is vs F → XL R is vs F'
  | [], [], _ => trivial
  | _ :: _, _ :: _, p => ⟨h _ _ _ _ e p.1, XL.mono h e p.2⟩
  | [], _ :: _, p => p.elim
  | _ :: _, [], p => p.elim
theorem XL.len {ι : Type} {R : ι → V → Hp → Prop} {F : Hp} : ∀ {is : List ι} {vs : List V}, XL R is vs F → vs.length = is.length
  | [], [], _ => rfl
  | _ :: _, _ :: _, p => by rw [List.length_cons, List.length_cons, XL.len p.2]
  | [], _ :: _, p => p.elim
  | _ :: _, [], p => p.elim
theorem XL.app {ι : Type} {R : ι → V → Hp → Prop} {F : Hp} {js : List ι} {us : List V} (q : XL R js us F) : ∀ {is : List ι} {vs : List V}, XL R is vs F → XL R (is ++ js) (vs ++ us) F
  | [], [], _ => q
  | _ :: _, _ :: _, p => ⟨p.1, XL.app q p.2⟩
  | [], _ :: _, p => p.elim
  | _ :: _, [], p => p.elim
theorem XL.get {ι : Type} {R : ι → V → Hp → Prop} {F : Hp} : ∀ {is : List ι} {vs : List V}, XL R is vs F → ∀ {k : Nat} {i : ι}, is[k]? = some i → ∃ v, vs[k]? = some v ∧ R i v F
  | _ :: _, v :: _, p, 0, i, h => ⟨v, rfl, by
    have h : some _ = some i := h
    injection h with h
    rw [← h]
    exact p.1⟩
  | _ :: is, _ :: vs, p, k + 1, i, h => by
    obtain ⟨v, h1, h2⟩ := XL.get p.2 (k := k) (i := i) h
    exact ⟨v, h1, h2⟩
  | [], [], _, _, _, h => by simp at h
  | [], _ :: _, p, _, _, _ => p.elim
  | _ :: _, [], p, _, _, _ => p.elim
def LX {ι : Type} (R : ι → V → Hp → Prop) (is : List ι) (v : V) (F : Hp) : Prop := ∃ a vs, v = .ref a ∧ F a = some (.lst vs) ∧ XL R is vs F
theorem LX.mono {ι : Type} {R : ι → V → Hp → Prop} (h : MonoR R) {F F' : Hp} {is : List ι} {v : V} (e : Same F F') (p : LX R is v F) : LX R is v F' := by
  obtain ⟨a, vs, hv, h1, h2⟩ := p
  exact ⟨a, vs, hv, e _ _ h1, h2.mono h e⟩
section
variable {ι : Type} {R : ι → V → Hp → Prop} {K : PySem.W.Frag} {w : Wd} {σ : L2.St} {F : Hp} {ta tb te tl : TE} {tr : TA} {is js : List ι} {i : ι}
theorem eaX_nil : EA w tNil σ F (XL R []) := ea_nil fun _ => trivial
theorem eaX_cons (hm : MonoR R) (ha : EV w ta σ F (R i)) (hb : ∀ F1, Same F F1 → EA w tr σ F1 (XL R is)) : EA w (tCons ta tr) σ F (XL R (i :: is)) :=
  ea_cons (A := R i) (B := fun _ => XL R is) ha (fun x F1 e _ => hb F1 e) fun x xs F1 F2 _ p e p' => ⟨hm _ _ _ _ e p, p'⟩
theorem evX_lst (ha : EA w tr σ F (XL R is)) (hm : MonoR R) (hl : is.length ≤ 100000) : EV w (tLst tr) σ F (LX R is) := fun F1 H1 e k Q q =>
  ha F1 H1 e k _ fun vs F2 H2 g2 k2 p => ⟨Nat.le_trans (by rw [p.len]; exact hl) (by decide), fun a hp => by
    have g3 : Gr M0 F2 H2 (upd F2 a (.lst vs)) (upd H2 a (.lst vs)) := Gr.new k2.e hp
    exact q _ _ _ (g2.trans g3.up) (k2.pure g3) ⟨a, vs, rfl, upd_same, p.mono hm g3.f⟩⟩
theorem evX_cat (hm : MonoR R) (ha : EV w ta σ F (LX R is)) (hb : ∀ F1, Same F F1 → EV w tb σ F1 (LX R js)) (hl : is.length + js.length ≤ 100000) : EV w (tOp rCat ta tb) σ F (LX R (is ++ js)) := fun F1 H1 e k Q q =>
  ha F1 H1 e k _ fun x F2 H2 g2 k2 ⟨a, xs, ex, h1, ra⟩ => hb F2 (e.trans g2.f) F2 H2 (Same.refl F2) k2 _ fun y F3 H3 g3 k3 ⟨b, ys, ey, h2, rb⟩ => by
    subst ex ey
    refine ⟨a, b, xs, ys, rfl, rfl, k3.e _ _ (g3.f _ _ h1), k3.e _ _ h2, by rw [ra.len, rb.len]; exact Nat.le_trans hl (by decide), fun p hp => ?_⟩
    have g4 : Gr M0 F3 H3 (upd F3 p (.lst (xs ++ ys))) (upd H3 p (.lst (xs ++ ys))) := Gr.new k3.e hp
    exact q _ _ _ ((g2.trans g3).trans g4.up) (k3.pure g4) ⟨p, _, rfl, upd_same, XL.app (rb.mono hm g4.f) (ra.mono hm (g3.f.trans g4.f))⟩
theorem evX_ix (hm : MonoR R) {j : Nat} (ha : EV w ta σ F (LX R is)) (hb : ED K w tb σ F (.int (j : Int))) (hi : is[j]? = some i) : EV w (tOp (rIxL K) ta tb) σ F (R i) := fun F1 H1 e k Q q =>
  ha F1 H1 e k _ fun x F2 H2 g2 k2 ⟨a, xs, ex, h1, ra⟩ => hb F2 H2 (e.trans g2.f) k2 _ fun y F3 H3 g3 k3 p3 => by
    subst ex
    obtain rfl := rp_int p3
    obtain ⟨v, hv, hr⟩ := ra.get hi
    exact ⟨a, xs, j, v, rfl, rfl, rp_sqL (g3.f.trans k3.e) h1, atI_nat hv, q v F3 H3 (g2.trans g3) k3 (hm _ _ _ _ g3.f hr)⟩
theorem edX_len (ha : EV w ta σ F (LX R is)) : ED K w (tCB (rLenS K) (tCons ta tNil)) σ F (.int (is.length : Nat)) := fun F1 H1 e k Q q =>
  ha F1 H1 e k _ fun x F2 H2 g2 k2 ⟨a, xs, ex, h1, ra⟩ => by
    subst ex
    refine ⟨a, xs, rfl, .inl (.inl (.inl (k2.e _ _ h1))), ?_⟩
    rw [ra.len]
    exact q _ F2 H2 g2 k2 (.int _)
theorem evX_lc {vs : List Nat} {j : Nat} (hm : MonoR R) (g : ι → PyData) (hl : EV w tl σ F (LX R is)) (hz : is.length ≤ 100000) (hw : ∀ x, wipe ((wipe σ vs).set j (some x)) vs = wipe σ vs)
    (he : ∀ x i F1, i ∈ is → Same F F1 → R i x F1 → ED K w te ((wipe σ vs).set j (some x)) F1 (g i)) : ED K w (tLc (iList K tl) (gName j) tYes te vs) σ F (.list (is.map g)) := fun F0 H0 e k Q q =>
  hl F0 H0 e k _ fun v F1 H1 g1 k1 ⟨a, xs, ex, hx, hX⟩ => by
    subst ex
    have hlen := hX.len
    refine ⟨a, rfl, ⟨xs, rp_sqL k1.e hx⟩, fun D hD => ?_⟩
    refine lcGen (Y := fun i x => xs[i]? = some x) (n := xs.length) (w := w) (F0 := F1) (fun Pv h0 hs' hF hd' => lc_list (K := K) (a := a) (xs := xs) Pv h0 (fun i H hi p => rp_sqL (hF i H hi p) hx)
      (fun i x H hi p => hs' i x H (List.getElem?_eq_some_iff.mp hi).1 hi p) hd') k1 hD (by omega) hw (fun i acc F => RpA K F acc ((is.take i).map g)) .nil ?_ ?_
    · intro n x F2 H2 hn e2 hy k2 acc ha hla F3 H3 e3 k3 Q3 q3
      refine q3 true F3 H3 (Gr.refl k3.e) k3 ?_
      refine iteT ?_
      obtain ⟨it, hit⟩ : ∃ it, is[n]? = some it := ⟨_, List.getElem?_eq_getElem (by omega)⟩
      obtain ⟨y, h1, h2⟩ := hX.get hit
      rw [hy] at h1
      cases h1
      refine ((he x it F2 (List.mem_of_getElem? hit) ((e.trans g1.f).trans e2) (hm _ _ _ _ e2 h2)).mono e3).mono2 fun y F4 e4 p4 => ?_
      rw [take_some hit, List.map_append]
      exact (ha.mono (e3.trans e4)).snoc p4
    · rintro acc F2 H2 g2 k2 hD2 ⟨F3, ha, e3⟩
      refine q _ F2 H2 (g1.trans g2) k2 (.lst hD2 ?_)
      have ha : RpA K F3 acc ((is.take xs.length).map g) := ha
      rw [List.take_of_length_le (by omega)] at ha
      exact ha.mono e3
end
/-! tables -/
def excDB (K : PySem.W.Frag) (D : Addr) : Bool := decide (PySem.W.findIn K (.ref D) "__getattribute__" = some (some (.builtin "BaseException.__getattribute__"))) && (decide (PySem.W.findIn K (.ref D) "__getattr__" = some none) && (decide (PySem.W.subIn K (.ref D) (.type "BaseException") = some true) && (PySem.W.hasDictIn K D &&
  (decide (PySem.W.findIn K (.ref D) "__class__" = some (some (.builtin "object.__class__"))) && (decide (PySem.W.specialIn K (.builtin "object.__class__") "__get__" = some (some (.builtin "getset_descriptor.__get__"))) && (decide (PySem.W.takesIn K (.builtin "object.__class__") = some true) && decide (PySem.W.mroIn K D (.type "object") = some true)))))))
theorem excDB_ok {K : PySem.W.Frag} {D : Addr} (h : excDB K D = true) : ExcD K D := by
  unfold excDB at h
  simp only [Bool.and_eq_true, decide_eq_true_eq] at h
  obtain ⟨h1, h2, h3, h4, h5, h6, h7, h8⟩ := h
  exact ⟨h1, h2, h3, h4, h5, h6, h7, h8⟩
def kitRow (K : PySem.W.Frag) (D : Addr) : List Value → List Bool → Bool
  | [], [] => true
  | c :: cs, b :: bs => decide (PySem.W.kitOne K (.ref D) c = some b) && kitRow K D cs bs
  | _, _ => false
theorem kitRow_at {K : PySem.W.Frag} {D : Addr} : ∀ {cs : List Value} {bs : List Bool}, kitRow K D cs bs = true → ∀ {j : Nat} {c : Value} {b : Bool}, cs[j]? = some c → bs[j]? = some b → PySem.W.kitOne K (.ref D) c = some b
  | [], [], _, _, _, _, h, _ => by simp at h
  | c :: cs, b :: bs, h, 0, c', b', h1, h2 => by
    obtain ⟨h3, _⟩ := (Bool.and_eq_true _ _).mp h
    have h1 : some c = some c' := h1
    have h2 : some b = some b' := h2
    injection h1 with h1
    injection h2 with h2
    subst h1 h2
    exact of_decide_eq_true h3
  | c :: cs, b :: bs, h, j + 1, c', b', h1, h2 => kitRow_at (cs := cs) (bs := bs) ((Bool.and_eq_true _ _).mp h).2 h1 h2
  | [], _ :: _, h, _, _, _, _, _ => nomatch h
  | _ :: _, [], h, _, _, _, _, _ => nomatch h
end Wk
namespace Wk
open PySem PySem.Spec PyProof.Rows Lt
def krAll (K : PySem.W.Frag) (as : List Addr) : Bool := (List.range as.length).all fun i => kitRow K (as.getD i 0) (as.map Value.ref) ((List.range as.length).map fun j => decide (i = j))
/-- the base of the class with this number -/
def baseNo (i : Nat) : Nat := if i < 13 then 0 else if i < 15 then 1 else if i < 20 then 2 else i - 20
def kbAll (K : PySem.W.Frag) (as : List Addr) (cs : List Value) : Bool := (List.range as.length).all fun i => kitRow K (as.getD i 0) cs ((List.range 6).map fun j => decide (j % 3 = baseNo i))
theorem krAll_at {K : PySem.W.Frag} {as : List Addr} (h : krAll K as = true) {i j : Nat} (hi : i < as.length) (hj : j < as.length) : PySem.W.kitOne K (.ref (as.getD i 0)) (.ref (as.getD j 0)) = some (decide (i = j)) := by
  have h := List.all_eq_true.mp h i (List.mem_range.mpr hi)
  refine kitRow_at h (j := j) ?_ ?_
  · rw [List.getElem?_map, List.getElem?_eq_getElem hj, List.getD_eq_getElem?_getD, List.getElem?_eq_getElem hj]
    rfl
  · rw [List.getElem?_map, List.getElem?_range hj]
    rfl
theorem kbAll_at {K : PySem.W.Frag} {as : List Addr} {cs : List Value} (h : kbAll K as cs = true) {i j : Nat} {c : Value} (hi : i < as.length) (hj : j < 6) (hc : cs[j]? = some c) : PySem.W.kitOne K (.ref (as.getD i 0)) c = some (decide (j % 3 = baseNo i)) := by
  have h := List.all_eq_true.mp h i (List.mem_range.mpr hi)
  refine kitRow_at h (j := j) hc ?_
  rw [List.getElem?_map, List.getElem?_range hj]
  rfl
end Wk
set_option Elab.async false
set_option linter.all false
set_option maxRecDepth 100000
set_option maxHeartbeats 4000000
namespace P1
open PySem PySem.Spec L2 Wk Lt Mt
def top (i : Nat) : Stmt := PySem.Challenge.pw_alltriangular_k01_limits_and_errors.main.body.getD i (.Pass ⟨0, 0, 0, 0⟩)
abbrev s_InvalidText_init : Stmt := inClass (top 2) 0
abbrev N_InvalidText_init : List Str := ["self", "given"]
theorem sc_InvalidText_init : FnScope N_InvalidText_init ["self", "given"] (defScope s_InvalidText_init) := ⟨rfl, rfl, rfl, by decide +kernel, rfl, by decide +kernel, by decide +kernel⟩
abbrev s_InvalidName_init : Stmt := inClass (top 3) 0
abbrev N_InvalidName_init : List Str := ["self", "given"]
theorem sc_InvalidName_init : FnScope N_InvalidName_init ["self", "given"] (defScope s_InvalidName_init) := ⟨rfl, rfl, rfl, by decide +kernel, rfl, by decide +kernel, by decide +kernel⟩
abbrev s_InvalidIndex_init : Stmt := inClass (top 4) 0
abbrev N_InvalidIndex_init : List Str := ["self", "given"]
theorem sc_InvalidIndex_init : FnScope N_InvalidIndex_init ["self", "given"] (defScope s_InvalidIndex_init) := ⟨rfl, rfl, rfl, by decide +kernel, rfl, by decide +kernel, by decide +kernel⟩
abbrev s_InvalidSize_init : Stmt := inClass (top 5) 0
abbrev N_InvalidSize_init : List Str := ["self", "given"]
theorem sc_InvalidSize_init : FnScope N_InvalidSize_init ["self", "given"] (defScope s_InvalidSize_init) := ⟨rfl, rfl, rfl, by decide +kernel, rfl, by decide +kernel, by decide +kernel⟩
abbrev s_InvalidTable_init : Stmt := inClass (top 6) 0
abbrev N_InvalidTable_init : List Str := ["self", "given"]
theorem sc_InvalidTable_init : FnScope N_InvalidTable_init ["self", "given"] (defScope s_InvalidTable_init) := ⟨rfl, rfl, rfl, by decide +kernel, rfl, by decide +kernel, by decide +kernel⟩
abbrev s_InvalidView_init : Stmt := inClass (top 7) 0
abbrev N_InvalidView_init : List Str := ["self", "given"]
theorem sc_InvalidView_init : FnScope N_InvalidView_init ["self", "given"] (defScope s_InvalidView_init) := ⟨rfl, rfl, rfl, by decide +kernel, rfl, by decide +kernel, by decide +kernel⟩
abbrev s_InvalidWish_init : Stmt := inClass (top 8) 0
abbrev N_InvalidWish_init : List Str := ["self", "given"]
theorem sc_InvalidWish_init : FnScope N_InvalidWish_init ["self", "given"] (defScope s_InvalidWish_init) := ⟨rfl, rfl, rfl, by decide +kernel, rfl, by decide +kernel, by decide +kernel⟩
abbrev s_NotLot_init : Stmt := inClass (top 9) 0
abbrev N_NotLot_init : List Str := ["self", "given"]
theorem sc_NotLot_init : FnScope N_NotLot_init ["self", "given"] (defScope s_NotLot_init) := ⟨rfl, rfl, rfl, by decide +kernel, rfl, by decide +kernel, by decide +kernel⟩
abbrev s_InvalidTables_init : Stmt := inClass (top 10) 0
abbrev N_InvalidTables_init : List Str := ["self", "index"]
theorem sc_InvalidTables_init : FnScope N_InvalidTables_init ["self", "index"] (defScope s_InvalidTables_init) := ⟨rfl, rfl, rfl, by decide +kernel, rfl, by decide +kernel, by decide +kernel⟩
abbrev s_InvalidWord_init : Stmt := inClass (top 11) 0
abbrev N_InvalidWord_init : List Str := ["self", "index"]
theorem sc_InvalidWord_init : FnScope N_InvalidWord_init ["self", "index"] (defScope s_InvalidWord_init) := ⟨rfl, rfl, rfl, by decide +kernel, rfl, by decide +kernel, by decide +kernel⟩
abbrev s_InvalidColumns_init : Stmt := inClass (top 12) 0
abbrev N_InvalidColumns_init : List Str := ["self", "index"]
theorem sc_InvalidColumns_init : FnScope N_InvalidColumns_init ["self", "index"] (defScope s_InvalidColumns_init) := ⟨rfl, rfl, rfl, by decide +kernel, rfl, by decide +kernel, by decide +kernel⟩
abbrev s_InvalidChanges_init : Stmt := inClass (top 13) 0
abbrev N_InvalidChanges_init : List Str := ["self", "index"]
theorem sc_InvalidChanges_init : FnScope N_InvalidChanges_init ["self", "index"] (defScope s_InvalidChanges_init) := ⟨rfl, rfl, rfl, by decide +kernel, rfl, by decide +kernel, by decide +kernel⟩
abbrev s_InvalidWishes_init : Stmt := inClass (top 14) 0
abbrev N_InvalidWishes_init : List Str := ["self", "index"]
theorem sc_InvalidWishes_init : FnScope N_InvalidWishes_init ["self", "index"] (defScope s_InvalidWishes_init) := ⟨rfl, rfl, rfl, by decide +kernel, rfl, by decide +kernel, by decide +kernel⟩
abbrev s_UnknownName_init : Stmt := inClass (top 16) 0
abbrev N_UnknownName_init : List Str := ["self", "given"]
theorem sc_UnknownName_init : FnScope N_UnknownName_init ["self", "given"] (defScope s_UnknownName_init) := ⟨rfl, rfl, rfl, by decide +kernel, rfl, by decide +kernel, by decide +kernel⟩
abbrev s_InUse_init : Stmt := inClass (top 17) 0
abbrev N_InUse_init : List Str := ["self", "index"]
theorem sc_InUse_init : FnScope N_InUse_init ["self", "index"] (defScope s_InUse_init) := ⟨rfl, rfl, rfl, by decide +kernel, rfl, by decide +kernel, by decide +kernel⟩
abbrev s_NotTriangular_init : Stmt := inClass (top 19) 0
abbrev N_NotTriangular_init : List Str := ["self", "given"]
theorem sc_NotTriangular_init : FnScope N_NotTriangular_init ["self", "given"] (defScope s_NotTriangular_init) := ⟨rfl, rfl, rfl, by decide +kernel, rfl, by decide +kernel, by decide +kernel⟩
abbrev s_OtherSize_init : Stmt := inClass (top 20) 0
abbrev N_OtherSize_init : List Str := ["self", "given"]
theorem sc_OtherSize_init : FnScope N_OtherSize_init ["self", "given"] (defScope s_OtherSize_init) := ⟨rfl, rfl, rfl, by decide +kernel, rfl, by decide +kernel, by decide +kernel⟩
abbrev s_TooMany_init : Stmt := inClass (top 21) 0
abbrev N_TooMany_init : List Str := ["self", "given"]
theorem sc_TooMany_init : FnScope N_TooMany_init ["self", "given"] (defScope s_TooMany_init) := ⟨rfl, rfl, rfl, by decide +kernel, rfl, by decide +kernel, by decide +kernel⟩
abbrev s_Broken_init : Stmt := inClass (top 23) 0
abbrev N_Broken_init : List Str := ["self", "index"]
theorem sc_Broken_init : FnScope N_Broken_init ["self", "index"] (defScope s_Broken_init) := ⟨rfl, rfl, rfl, by decide +kernel, rfl, by decide +kernel, by decide +kernel⟩
abbrev s_law_begun : Stmt := top 31
abbrev N_law_begun : List Str := ["_law_script", "_law_turn", "_law_own", "_law_state", "_law_cell"]
theorem sc_law_begun : FnScope N_law_begun ["_law_script", "_law_turn"] (defScope s_law_begun) := ⟨rfl, rfl, rfl, by decide +kernel, rfl, by decide +kernel, by decide +kernel⟩
abbrev s_law_cast : Stmt := top 32
abbrev N_law_cast : List Str := ["_law_pail", "_law_many", "_law_figure", "_law_state"]
theorem sc_law_cast : FnScope N_law_cast ["_law_pail", "_law_many"] (defScope s_law_cast) := ⟨rfl, rfl, rfl, by decide +kernel, rfl, by decide +kernel, by decide +kernel⟩
abbrev s_law_any_of : Stmt := top 33
abbrev N_law_any_of : List Str := ["_law_pail", "_law_some"]
theorem sc_law_any_of : FnScope N_law_any_of ["_law_pail", "_law_some"] (defScope s_law_any_of) := ⟨rfl, rfl, rfl, by decide +kernel, rfl, by decide +kernel, by decide +kernel⟩
abbrev s_law_thing : Stmt := top 34
abbrev N_law_thing : List Str := ["_law_pail", "_law_menu"]
theorem sc_law_thing : FnScope N_law_thing ["_law_pail"] (defScope s_law_thing) := ⟨rfl, rfl, rfl, by decide +kernel, rfl, by decide +kernel, by decide +kernel⟩
abbrev s_law_placed : Stmt := top 35
abbrev N_law_placed : List Str := ["_law_thing_here", "_law_found"]
theorem sc_law_placed : FnScope N_law_placed ["_law_thing_here"] (defScope s_law_placed) := ⟨rfl, rfl, rfl, by decide +kernel, rfl, by decide +kernel, by decide +kernel⟩
abbrev s_law_named : Stmt := top 36
abbrev N_law_named : List Str := ["_law_thing_here", "_law_found"]
theorem sc_law_named : FnScope N_law_named ["_law_thing_here"] (defScope s_law_named) := ⟨rfl, rfl, rfl, by decide +kernel, rfl, by decide +kernel, by decide +kernel⟩
abbrev s_law_flags : Stmt := top 37
abbrev N_law_flags : List Str := ["_law_e", "_law_found"]
theorem sc_law_flags : FnScope N_law_flags ["_law_e"] (defScope s_law_flags) := ⟨rfl, rfl, rfl, by decide +kernel, rfl, by decide +kernel, by decide +kernel⟩
abbrev s_law_bases : Stmt := top 38
abbrev N_law_bases : List Str := ["_law_e", "_law_found"]
theorem sc_law_bases : FnScope N_law_bases ["_law_e"] (defScope s_law_bases) := ⟨rfl, rfl, rfl, by decide +kernel, rfl, by decide +kernel, by decide +kernel⟩
abbrev s_law_held : Stmt := top 39
abbrev N_law_held : List Str := ["_law_e", "_law_at"]
theorem sc_law_held : FnScope N_law_held ["_law_e", "_law_at"] (defScope s_law_held) := ⟨rfl, rfl, rfl, by decide +kernel, rfl, by decide +kernel, by decide +kernel⟩
abbrev s_law_some_right : Stmt := top 40
abbrev N_law_some_right : List Str := ["_law_some", "_law_thing_here", "_law_at", "_law_base", "_law_k"]
theorem sc_law_some_right : FnScope N_law_some_right ["_law_some", "_law_thing_here"] (defScope s_law_some_right) := ⟨rfl, rfl, rfl, by decide +kernel, rfl, by decide +kernel, by decide +kernel⟩
abbrev s_law_right : Stmt := top 41
abbrev N_law_right : List Str := ["_law_pail", "_law_turn", "_law_thing_here", "_law_told", "_law_e"]
theorem sc_law_right : FnScope N_law_right ["_law_pail"] (defScope s_law_right) := ⟨rfl, rfl, rfl, by decide +kernel, rfl, by decide +kernel, by decide +kernel⟩
abbrev s_law : Stmt := top 42
abbrev N_law : List Str := ["_law_script", "_law_some", "_law_turn"]
theorem sc_law : FnScope N_law ["_law_script"] (defScope s_law) := ⟨rfl, rfl, rfl, by decide +kernel, rfl, by decide +kernel, by decide +kernel⟩
structure Txt (K : PySem.W.Frag) (mg : Str → Option Value) where
  a_InvalidText_init : Addr
  d_InvalidText_init : FuncData
  F_InvalidText_init : Fun K "__init__" "InvalidText.__init__" s_InvalidText_init a_InvalidText_init d_InvalidText_init
  b_InvalidText_init : Binds K d_InvalidText_init ["self", "given"] []
  a_InvalidName_init : Addr
  d_InvalidName_init : FuncData
  F_InvalidName_init : Fun K "__init__" "InvalidName.__init__" s_InvalidName_init a_InvalidName_init d_InvalidName_init
  b_InvalidName_init : Binds K d_InvalidName_init ["self", "given"] []
  a_InvalidIndex_init : Addr
  d_InvalidIndex_init : FuncData
  F_InvalidIndex_init : Fun K "__init__" "InvalidIndex.__init__" s_InvalidIndex_init a_InvalidIndex_init d_InvalidIndex_init
  b_InvalidIndex_init : Binds K d_InvalidIndex_init ["self", "given"] []
  a_InvalidSize_init : Addr
  d_InvalidSize_init : FuncData
  F_InvalidSize_init : Fun K "__init__" "InvalidSize.__init__" s_InvalidSize_init a_InvalidSize_init d_InvalidSize_init
  b_InvalidSize_init : Binds K d_InvalidSize_init ["self", "given"] []
  a_InvalidTable_init : Addr
  d_InvalidTable_init : FuncData
  F_InvalidTable_init : Fun K "__init__" "InvalidTable.__init__" s_InvalidTable_init a_InvalidTable_init d_InvalidTable_init
  b_InvalidTable_init : Binds K d_InvalidTable_init ["self", "given"] []
  a_InvalidView_init : Addr
  d_InvalidView_init : FuncData
  F_InvalidView_init : Fun K "__init__" "InvalidView.__init__" s_InvalidView_init a_InvalidView_init d_InvalidView_init
  b_InvalidView_init : Binds K d_InvalidView_init ["self", "given"] []
  a_InvalidWish_init : Addr
  d_InvalidWish_init : FuncData
  F_InvalidWish_init : Fun K "__init__" "InvalidWish.__init__" s_InvalidWish_init a_InvalidWish_init d_InvalidWish_init
  b_InvalidWish_init : Binds K d_InvalidWish_init ["self", "given"] []
  a_NotLot_init : Addr
  d_NotLot_init : FuncData
  F_NotLot_init : Fun K "__init__" "NotLot.__init__" s_NotLot_init a_NotLot_init d_NotLot_init
  b_NotLot_init : Binds K d_NotLot_init ["self", "given"] []
  a_InvalidTables_init : Addr
  d_InvalidTables_init : FuncData
  F_InvalidTables_init : Fun K "__init__" "InvalidTables.__init__" s_InvalidTables_init a_InvalidTables_init d_InvalidTables_init
  b_InvalidTables_init : Binds K d_InvalidTables_init ["self", "index"] []
  a_InvalidWord_init : Addr
  d_InvalidWord_init : FuncData
  F_InvalidWord_init : Fun K "__init__" "InvalidWord.__init__" s_InvalidWord_init a_InvalidWord_init d_InvalidWord_init
  b_InvalidWord_init : Binds K d_InvalidWord_init ["self", "index"] []
  a_InvalidColumns_init : Addr
  d_InvalidColumns_init : FuncData
  F_InvalidColumns_init : Fun K "__init__" "InvalidColumns.__init__" s_InvalidColumns_init a_InvalidColumns_init d_InvalidColumns_init
  b_InvalidColumns_init : Binds K d_InvalidColumns_init ["self", "index"] []
  a_InvalidChanges_init : Addr
  d_InvalidChanges_init : FuncData
  F_InvalidChanges_init : Fun K "__init__" "InvalidChanges.__init__" s_InvalidChanges_init a_InvalidChanges_init d_InvalidChanges_init
  b_InvalidChanges_init : Binds K d_InvalidChanges_init ["self", "index"] []
  a_InvalidWishes_init : Addr
  d_InvalidWishes_init : FuncData
  F_InvalidWishes_init : Fun K "__init__" "InvalidWishes.__init__" s_InvalidWishes_init a_InvalidWishes_init d_InvalidWishes_init
  b_InvalidWishes_init : Binds K d_InvalidWishes_init ["self", "index"] []
  a_UnknownName_init : Addr
  d_UnknownName_init : FuncData
  F_UnknownName_init : Fun K "__init__" "UnknownName.__init__" s_UnknownName_init a_UnknownName_init d_UnknownName_init
  b_UnknownName_init : Binds K d_UnknownName_init ["self", "given"] []
  a_InUse_init : Addr
  d_InUse_init : FuncData
  F_InUse_init : Fun K "__init__" "InUse.__init__" s_InUse_init a_InUse_init d_InUse_init
  b_InUse_init : Binds K d_InUse_init ["self", "index"] []
  a_NotTriangular_init : Addr
  d_NotTriangular_init : FuncData
  F_NotTriangular_init : Fun K "__init__" "NotTriangular.__init__" s_NotTriangular_init a_NotTriangular_init d_NotTriangular_init
  b_NotTriangular_init : Binds K d_NotTriangular_init ["self", "given"] []
  a_OtherSize_init : Addr
  d_OtherSize_init : FuncData
  F_OtherSize_init : Fun K "__init__" "OtherSize.__init__" s_OtherSize_init a_OtherSize_init d_OtherSize_init
  b_OtherSize_init : Binds K d_OtherSize_init ["self", "given"] []
  a_TooMany_init : Addr
  d_TooMany_init : FuncData
  F_TooMany_init : Fun K "__init__" "TooMany.__init__" s_TooMany_init a_TooMany_init d_TooMany_init
  b_TooMany_init : Binds K d_TooMany_init ["self", "given"] []
  a_Broken_init : Addr
  d_Broken_init : FuncData
  F_Broken_init : Fun K "__init__" "Broken.__init__" s_Broken_init a_Broken_init d_Broken_init
  b_Broken_init : Binds K d_Broken_init ["self", "index"] []
  a_law_begun : Addr
  d_law_begun : FuncData
  F_law_begun : Fun K "_law_begun" "_law_begun" s_law_begun a_law_begun d_law_begun
  g_law_begun : mg "_law_begun" = some (.ref a_law_begun)
  b_law_begun : Binds K d_law_begun ["_law_script", "_law_turn"] []
  a_law_cast : Addr
  d_law_cast : FuncData
  F_law_cast : Fun K "_law_cast" "_law_cast" s_law_cast a_law_cast d_law_cast
  g_law_cast : mg "_law_cast" = some (.ref a_law_cast)
  b_law_cast : Binds K d_law_cast ["_law_pail", "_law_many"] []
  a_law_any_of : Addr
  d_law_any_of : FuncData
  F_law_any_of : Fun K "_law_any_of" "_law_any_of" s_law_any_of a_law_any_of d_law_any_of
  g_law_any_of : mg "_law_any_of" = some (.ref a_law_any_of)
  b_law_any_of : Binds K d_law_any_of ["_law_pail", "_law_some"] []
  a_law_thing : Addr
  d_law_thing : FuncData
  F_law_thing : Fun K "_law_thing" "_law_thing" s_law_thing a_law_thing d_law_thing
  g_law_thing : mg "_law_thing" = some (.ref a_law_thing)
  b_law_thing : Binds K d_law_thing ["_law_pail"] []
  a_law_placed : Addr
  d_law_placed : FuncData
  F_law_placed : Fun K "_law_placed" "_law_placed" s_law_placed a_law_placed d_law_placed
  g_law_placed : mg "_law_placed" = some (.ref a_law_placed)
  b_law_placed : Binds K d_law_placed ["_law_thing_here"] []
  a_law_named : Addr
  d_law_named : FuncData
  F_law_named : Fun K "_law_named" "_law_named" s_law_named a_law_named d_law_named
  g_law_named : mg "_law_named" = some (.ref a_law_named)
  b_law_named : Binds K d_law_named ["_law_thing_here"] []
  a_law_flags : Addr
  d_law_flags : FuncData
  F_law_flags : Fun K "_law_flags" "_law_flags" s_law_flags a_law_flags d_law_flags
  g_law_flags : mg "_law_flags" = some (.ref a_law_flags)
  b_law_flags : Binds K d_law_flags ["_law_e"] []
  a_law_bases : Addr
  d_law_bases : FuncData
  F_law_bases : Fun K "_law_bases" "_law_bases" s_law_bases a_law_bases d_law_bases
  g_law_bases : mg "_law_bases" = some (.ref a_law_bases)
  b_law_bases : Binds K d_law_bases ["_law_e"] []
  a_law_held : Addr
  d_law_held : FuncData
  F_law_held : Fun K "_law_held" "_law_held" s_law_held a_law_held d_law_held
  g_law_held : mg "_law_held" = some (.ref a_law_held)
  b_law_held : Binds K d_law_held ["_law_e", "_law_at"] []
  a_law_some_right : Addr
  d_law_some_right : FuncData
  F_law_some_right : Fun K "_law_some_right" "_law_some_right" s_law_some_right a_law_some_right d_law_some_right
  g_law_some_right : mg "_law_some_right" = some (.ref a_law_some_right)
  b_law_some_right : Binds K d_law_some_right ["_law_some", "_law_thing_here"] []
  a_law_right : Addr
  d_law_right : FuncData
  F_law_right : Fun K "_law_right" "_law_right" s_law_right a_law_right d_law_right
  g_law_right : mg "_law_right" = some (.ref a_law_right)
  b_law_right : Binds K d_law_right ["_law_pail"] []
  a_law : Addr
  d_law : FuncData
  F_law : Fun K "law" "law" s_law a_law d_law
  g_law : mg "law" = some (.ref a_law)
  b_law : Binds K d_law ["_law_script"] []
  t_MOST_SIZE : Tok
  c_MOST_SIZE : mg "MOST_SIZE" = some (.int 4 t_MOST_SIZE)
  t_MOST_TABLES : Tok
  c_MOST_TABLES : mg "MOST_TABLES" = some (.int 3 t_MOST_TABLES)
  t_MOST_NUMBER : Tok
  c_MOST_NUMBER : mg "MOST_NUMBER" = some (.int 1000000 t_MOST_NUMBER)
  t_MOST_LETTERS : Tok
  c_MOST_LETTERS : mg "MOST_LETTERS" = some (.int 40 t_MOST_LETTERS)
  t_MOST_COLUMNS : Tok
  c_MOST_COLUMNS : mg "MOST_COLUMNS" = some (.int 8 t_MOST_COLUMNS)
  t_MOST_CHANGES : Tok
  c_MOST_CHANGES : mg "MOST_CHANGES" = some (.int 6 t_MOST_CHANGES)
  n_isinstance : mg "isinstance" = none
  n_int : mg "int" = none
  n_len : mg "len" = none
  n_all : mg "all" = none
  n_range : mg "range" = none
  n_divmod : mg "divmod" = none
  n_abs : mg "abs" = none
  n_max : mg "max" = none
  n_min : mg "min" = none
  n_repr : mg "repr" = none
  n_ValueError : mg "ValueError" = none
  n_LookupError : mg "LookupError" = none
  n_ArithmeticError : mg "ArithmeticError" = none
  a_InvalidText : Addr
  g_InvalidText : mg "InvalidText" = some (.ref a_InvalidText)
  a_InvalidName : Addr
  g_InvalidName : mg "InvalidName" = some (.ref a_InvalidName)
  a_InvalidIndex : Addr
  g_InvalidIndex : mg "InvalidIndex" = some (.ref a_InvalidIndex)
  a_InvalidSize : Addr
  g_InvalidSize : mg "InvalidSize" = some (.ref a_InvalidSize)
  a_InvalidTable : Addr
  g_InvalidTable : mg "InvalidTable" = some (.ref a_InvalidTable)
  a_InvalidView : Addr
  g_InvalidView : mg "InvalidView" = some (.ref a_InvalidView)
  a_InvalidWish : Addr
  g_InvalidWish : mg "InvalidWish" = some (.ref a_InvalidWish)
  a_NotLot : Addr
  g_NotLot : mg "NotLot" = some (.ref a_NotLot)
  a_InvalidTables : Addr
  g_InvalidTables : mg "InvalidTables" = some (.ref a_InvalidTables)
  a_InvalidWord : Addr
  g_InvalidWord : mg "InvalidWord" = some (.ref a_InvalidWord)
  a_InvalidColumns : Addr
  g_InvalidColumns : mg "InvalidColumns" = some (.ref a_InvalidColumns)
  a_InvalidChanges : Addr
  g_InvalidChanges : mg "InvalidChanges" = some (.ref a_InvalidChanges)
  a_InvalidWishes : Addr
  g_InvalidWishes : mg "InvalidWishes" = some (.ref a_InvalidWishes)
  a_UnknownName : Addr
  g_UnknownName : mg "UnknownName" = some (.ref a_UnknownName)
  a_InUse : Addr
  g_InUse : mg "InUse" = some (.ref a_InUse)
  a_NotTriangular : Addr
  g_NotTriangular : mg "NotTriangular" = some (.ref a_NotTriangular)
  a_OtherSize : Addr
  g_OtherSize : mg "OtherSize" = some (.ref a_OtherSize)
  a_TooMany : Addr
  g_TooMany : mg "TooMany" = some (.ref a_TooMany)
  a_NothingToUndo : Addr
  g_NothingToUndo : mg "NothingToUndo" = some (.ref a_NothingToUndo)
  a_Broken : Addr
  g_Broken : mg "Broken" = some (.ref a_Broken)
  a_WrongValue : Addr
  g_WrongValue : mg "WrongValue" = some (.ref a_WrongValue)
  a_WrongName : Addr
  g_WrongName : mg "WrongName" = some (.ref a_WrongName)
  a_NotPossible : Addr
  g_NotPossible : mg "NotPossible" = some (.ref a_NotPossible)
  ox_InvalidText : OexG K a_InvalidText
  oi_InvalidText : PySem.W.findIn K (.ref a_InvalidText) "__init__" = some (some (.ref a_InvalidText_init))
  ot_InvalidText : PySem.W.typeIn K (.ref a_InvalidText_init) = some (.type "function")
  nx_InvalidText : PySem.W.findIn K (.ref a_InvalidText) "given" = some none
  kb1_InvalidText : KBn K d_InvalidText_init ["self", "given"] 1 ["given"] (fun us ws => us ++ ws) (fun us ws => us ++ ws)
  kb2_InvalidText : KBn K d_InvalidText_init ["self", "given"] 2 [] (fun us ws => us ++ ws) (fun us ws => us ++ ws)
  ox_InvalidName : OexG K a_InvalidName
  oi_InvalidName : PySem.W.findIn K (.ref a_InvalidName) "__init__" = some (some (.ref a_InvalidName_init))
  ot_InvalidName : PySem.W.typeIn K (.ref a_InvalidName_init) = some (.type "function")
  nx_InvalidName : PySem.W.findIn K (.ref a_InvalidName) "given" = some none
  kb1_InvalidName : KBn K d_InvalidName_init ["self", "given"] 1 ["given"] (fun us ws => us ++ ws) (fun us ws => us ++ ws)
  kb2_InvalidName : KBn K d_InvalidName_init ["self", "given"] 2 [] (fun us ws => us ++ ws) (fun us ws => us ++ ws)
  ox_InvalidIndex : OexG K a_InvalidIndex
  oi_InvalidIndex : PySem.W.findIn K (.ref a_InvalidIndex) "__init__" = some (some (.ref a_InvalidIndex_init))
  ot_InvalidIndex : PySem.W.typeIn K (.ref a_InvalidIndex_init) = some (.type "function")
  nx_InvalidIndex : PySem.W.findIn K (.ref a_InvalidIndex) "given" = some none
  kb1_InvalidIndex : KBn K d_InvalidIndex_init ["self", "given"] 1 ["given"] (fun us ws => us ++ ws) (fun us ws => us ++ ws)
  kb2_InvalidIndex : KBn K d_InvalidIndex_init ["self", "given"] 2 [] (fun us ws => us ++ ws) (fun us ws => us ++ ws)
  ox_InvalidSize : OexG K a_InvalidSize
  oi_InvalidSize : PySem.W.findIn K (.ref a_InvalidSize) "__init__" = some (some (.ref a_InvalidSize_init))
  ot_InvalidSize : PySem.W.typeIn K (.ref a_InvalidSize_init) = some (.type "function")
  nx_InvalidSize : PySem.W.findIn K (.ref a_InvalidSize) "given" = some none
  kb1_InvalidSize : KBn K d_InvalidSize_init ["self", "given"] 1 ["given"] (fun us ws => us ++ ws) (fun us ws => us ++ ws)
  kb2_InvalidSize : KBn K d_InvalidSize_init ["self", "given"] 2 [] (fun us ws => us ++ ws) (fun us ws => us ++ ws)
  ox_InvalidTable : OexG K a_InvalidTable
  oi_InvalidTable : PySem.W.findIn K (.ref a_InvalidTable) "__init__" = some (some (.ref a_InvalidTable_init))
  ot_InvalidTable : PySem.W.typeIn K (.ref a_InvalidTable_init) = some (.type "function")
  nx_InvalidTable : PySem.W.findIn K (.ref a_InvalidTable) "given" = some none
  kb1_InvalidTable : KBn K d_InvalidTable_init ["self", "given"] 1 ["given"] (fun us ws => us ++ ws) (fun us ws => us ++ ws)
  kb2_InvalidTable : KBn K d_InvalidTable_init ["self", "given"] 2 [] (fun us ws => us ++ ws) (fun us ws => us ++ ws)
  ox_InvalidView : OexG K a_InvalidView
  oi_InvalidView : PySem.W.findIn K (.ref a_InvalidView) "__init__" = some (some (.ref a_InvalidView_init))
  ot_InvalidView : PySem.W.typeIn K (.ref a_InvalidView_init) = some (.type "function")
  nx_InvalidView : PySem.W.findIn K (.ref a_InvalidView) "given" = some none
  kb1_InvalidView : KBn K d_InvalidView_init ["self", "given"] 1 ["given"] (fun us ws => us ++ ws) (fun us ws => us ++ ws)
  kb2_InvalidView : KBn K d_InvalidView_init ["self", "given"] 2 [] (fun us ws => us ++ ws) (fun us ws => us ++ ws)
  ox_InvalidWish : OexG K a_InvalidWish
  oi_InvalidWish : PySem.W.findIn K (.ref a_InvalidWish) "__init__" = some (some (.ref a_InvalidWish_init))
  ot_InvalidWish : PySem.W.typeIn K (.ref a_InvalidWish_init) = some (.type "function")
  nx_InvalidWish : PySem.W.findIn K (.ref a_InvalidWish) "given" = some none
  kb1_InvalidWish : KBn K d_InvalidWish_init ["self", "given"] 1 ["given"] (fun us ws => us ++ ws) (fun us ws => us ++ ws)
  kb2_InvalidWish : KBn K d_InvalidWish_init ["self", "given"] 2 [] (fun us ws => us ++ ws) (fun us ws => us ++ ws)
  ox_NotLot : OexG K a_NotLot
  oi_NotLot : PySem.W.findIn K (.ref a_NotLot) "__init__" = some (some (.ref a_NotLot_init))
  ot_NotLot : PySem.W.typeIn K (.ref a_NotLot_init) = some (.type "function")
  nx_NotLot : PySem.W.findIn K (.ref a_NotLot) "given" = some none
  kb1_NotLot : KBn K d_NotLot_init ["self", "given"] 1 ["given"] (fun us ws => us ++ ws) (fun us ws => us ++ ws)
  kb2_NotLot : KBn K d_NotLot_init ["self", "given"] 2 [] (fun us ws => us ++ ws) (fun us ws => us ++ ws)
  ox_InvalidTables : OexG K a_InvalidTables
  oi_InvalidTables : PySem.W.findIn K (.ref a_InvalidTables) "__init__" = some (some (.ref a_InvalidTables_init))
  ot_InvalidTables : PySem.W.typeIn K (.ref a_InvalidTables_init) = some (.type "function")
  nx_InvalidTables : PySem.W.findIn K (.ref a_InvalidTables) "index" = some none
  kb1_InvalidTables : KBn K d_InvalidTables_init ["self", "index"] 1 ["index"] (fun us ws => us ++ ws) (fun us ws => us ++ ws)
  kb2_InvalidTables : KBn K d_InvalidTables_init ["self", "index"] 2 [] (fun us ws => us ++ ws) (fun us ws => us ++ ws)
  ox_InvalidWord : OexG K a_InvalidWord
  oi_InvalidWord : PySem.W.findIn K (.ref a_InvalidWord) "__init__" = some (some (.ref a_InvalidWord_init))
  ot_InvalidWord : PySem.W.typeIn K (.ref a_InvalidWord_init) = some (.type "function")
  nx_InvalidWord : PySem.W.findIn K (.ref a_InvalidWord) "index" = some none
  kb1_InvalidWord : KBn K d_InvalidWord_init ["self", "index"] 1 ["index"] (fun us ws => us ++ ws) (fun us ws => us ++ ws)
  kb2_InvalidWord : KBn K d_InvalidWord_init ["self", "index"] 2 [] (fun us ws => us ++ ws) (fun us ws => us ++ ws)
  ox_InvalidColumns : OexG K a_InvalidColumns
  oi_InvalidColumns : PySem.W.findIn K (.ref a_InvalidColumns) "__init__" = some (some (.ref a_InvalidColumns_init))
  ot_InvalidColumns : PySem.W.typeIn K (.ref a_InvalidColumns_init) = some (.type "function")
  nx_InvalidColumns : PySem.W.findIn K (.ref a_InvalidColumns) "index" = some none
  kb1_InvalidColumns : KBn K d_InvalidColumns_init ["self", "index"] 1 ["index"] (fun us ws => us ++ ws) (fun us ws => us ++ ws)
  kb2_InvalidColumns : KBn K d_InvalidColumns_init ["self", "index"] 2 [] (fun us ws => us ++ ws) (fun us ws => us ++ ws)
  ox_InvalidChanges : OexG K a_InvalidChanges
  oi_InvalidChanges : PySem.W.findIn K (.ref a_InvalidChanges) "__init__" = some (some (.ref a_InvalidChanges_init))
  ot_InvalidChanges : PySem.W.typeIn K (.ref a_InvalidChanges_init) = some (.type "function")
  nx_InvalidChanges : PySem.W.findIn K (.ref a_InvalidChanges) "index" = some none
  kb1_InvalidChanges : KBn K d_InvalidChanges_init ["self", "index"] 1 ["index"] (fun us ws => us ++ ws) (fun us ws => us ++ ws)
  kb2_InvalidChanges : KBn K d_InvalidChanges_init ["self", "index"] 2 [] (fun us ws => us ++ ws) (fun us ws => us ++ ws)
  ox_InvalidWishes : OexG K a_InvalidWishes
  oi_InvalidWishes : PySem.W.findIn K (.ref a_InvalidWishes) "__init__" = some (some (.ref a_InvalidWishes_init))
  ot_InvalidWishes : PySem.W.typeIn K (.ref a_InvalidWishes_init) = some (.type "function")
  nx_InvalidWishes : PySem.W.findIn K (.ref a_InvalidWishes) "index" = some none
  kb1_InvalidWishes : KBn K d_InvalidWishes_init ["self", "index"] 1 ["index"] (fun us ws => us ++ ws) (fun us ws => us ++ ws)
  kb2_InvalidWishes : KBn K d_InvalidWishes_init ["self", "index"] 2 [] (fun us ws => us ++ ws) (fun us ws => us ++ ws)
  ox_UnknownName : OexG K a_UnknownName
  oi_UnknownName : PySem.W.findIn K (.ref a_UnknownName) "__init__" = some (some (.ref a_UnknownName_init))
  ot_UnknownName : PySem.W.typeIn K (.ref a_UnknownName_init) = some (.type "function")
  nx_UnknownName : PySem.W.findIn K (.ref a_UnknownName) "given" = some none
  kb1_UnknownName : KBn K d_UnknownName_init ["self", "given"] 1 ["given"] (fun us ws => us ++ ws) (fun us ws => us ++ ws)
  kb2_UnknownName : KBn K d_UnknownName_init ["self", "given"] 2 [] (fun us ws => us ++ ws) (fun us ws => us ++ ws)
  ox_InUse : OexG K a_InUse
  oi_InUse : PySem.W.findIn K (.ref a_InUse) "__init__" = some (some (.ref a_InUse_init))
  ot_InUse : PySem.W.typeIn K (.ref a_InUse_init) = some (.type "function")
  nx_InUse : PySem.W.findIn K (.ref a_InUse) "index" = some none
  kb1_InUse : KBn K d_InUse_init ["self", "index"] 1 ["index"] (fun us ws => us ++ ws) (fun us ws => us ++ ws)
  kb2_InUse : KBn K d_InUse_init ["self", "index"] 2 [] (fun us ws => us ++ ws) (fun us ws => us ++ ws)
  ox_NotTriangular : OexG K a_NotTriangular
  oi_NotTriangular : PySem.W.findIn K (.ref a_NotTriangular) "__init__" = some (some (.ref a_NotTriangular_init))
  ot_NotTriangular : PySem.W.typeIn K (.ref a_NotTriangular_init) = some (.type "function")
  nx_NotTriangular : PySem.W.findIn K (.ref a_NotTriangular) "given" = some none
  kb1_NotTriangular : KBn K d_NotTriangular_init ["self", "given"] 1 ["given"] (fun us ws => us ++ ws) (fun us ws => us ++ ws)
  kb2_NotTriangular : KBn K d_NotTriangular_init ["self", "given"] 2 [] (fun us ws => us ++ ws) (fun us ws => us ++ ws)
  ox_OtherSize : OexG K a_OtherSize
  oi_OtherSize : PySem.W.findIn K (.ref a_OtherSize) "__init__" = some (some (.ref a_OtherSize_init))
  ot_OtherSize : PySem.W.typeIn K (.ref a_OtherSize_init) = some (.type "function")
  nx_OtherSize : PySem.W.findIn K (.ref a_OtherSize) "given" = some none
  kb1_OtherSize : KBn K d_OtherSize_init ["self", "given"] 1 ["given"] (fun us ws => us ++ ws) (fun us ws => us ++ ws)
  kb2_OtherSize : KBn K d_OtherSize_init ["self", "given"] 2 [] (fun us ws => us ++ ws) (fun us ws => us ++ ws)
  ox_TooMany : OexG K a_TooMany
  oi_TooMany : PySem.W.findIn K (.ref a_TooMany) "__init__" = some (some (.ref a_TooMany_init))
  ot_TooMany : PySem.W.typeIn K (.ref a_TooMany_init) = some (.type "function")
  nx_TooMany : PySem.W.findIn K (.ref a_TooMany) "given" = some none
  kb1_TooMany : KBn K d_TooMany_init ["self", "given"] 1 ["given"] (fun us ws => us ++ ws) (fun us ws => us ++ ws)
  kb2_TooMany : KBn K d_TooMany_init ["self", "given"] 2 [] (fun us ws => us ++ ws) (fun us ws => us ++ ws)
  ox_Broken : OexG K a_Broken
  oi_Broken : PySem.W.findIn K (.ref a_Broken) "__init__" = some (some (.ref a_Broken_init))
  ot_Broken : PySem.W.typeIn K (.ref a_Broken_init) = some (.type "function")
  nx_Broken : PySem.W.findIn K (.ref a_Broken) "index" = some none
  kb1_Broken : KBn K d_Broken_init ["self", "index"] 1 ["index"] (fun us ws => us ++ ws) (fun us ws => us ++ ws)
  kb2_Broken : KBn K d_Broken_init ["self", "index"] 2 [] (fun us ws => us ++ ws) (fun us ws => us ++ ws)
  ex_NothingToUndo : PySem.W.excIn K a_NothingToUndo [.type "ArithmeticError", .type "Exception", .type "BaseException", .type "object"] "ArithmeticError.__new__" = true
  kx_NothingToUndo : PySem.W.keepIn K (.ref a_NothingToUndo) = true
  ex_WrongValue : PySem.W.excIn K a_WrongValue [.type "ValueError", .type "Exception", .type "BaseException", .type "object"] "ValueError.__new__" = true
  kx_WrongValue : PySem.W.keepIn K (.ref a_WrongValue) = true
  ex_WrongName : PySem.W.excIn K a_WrongName [.type "LookupError", .type "Exception", .type "BaseException", .type "object"] "LookupError.__new__" = true
  kx_WrongName : PySem.W.keepIn K (.ref a_WrongName) = true
  ex_NotPossible : PySem.W.excIn K a_NotPossible [.type "ArithmeticError", .type "Exception", .type "BaseException", .type "object"] "ArithmeticError.__new__" = true
  kx_NotPossible : PySem.W.keepIn K (.ref a_NotPossible) = true
  xd : [a_InvalidText, a_InvalidName, a_InvalidIndex, a_InvalidSize, a_InvalidTable, a_InvalidView, a_InvalidWish, a_NotLot, a_InvalidTables, a_InvalidWord, a_InvalidColumns, a_InvalidChanges, a_InvalidWishes, a_UnknownName, a_InUse, a_NotTriangular, a_OtherSize, a_TooMany, a_NothingToUndo, a_Broken, a_WrongValue, a_WrongName, a_NotPossible].all (excDB K) = true
  kr : krAll K [a_InvalidText, a_InvalidName, a_InvalidIndex, a_InvalidSize, a_InvalidTable, a_InvalidView, a_InvalidWish, a_NotLot, a_InvalidTables, a_InvalidWord, a_InvalidColumns, a_InvalidChanges, a_InvalidWishes, a_UnknownName, a_InUse, a_NotTriangular, a_OtherSize, a_TooMany, a_NothingToUndo, a_Broken] = true
  kb : kbAll K [a_InvalidText, a_InvalidName, a_InvalidIndex, a_InvalidSize, a_InvalidTable, a_InvalidView, a_InvalidWish, a_NotLot, a_InvalidTables, a_InvalidWord, a_InvalidColumns, a_InvalidChanges, a_InvalidWishes, a_UnknownName, a_InUse, a_NotTriangular, a_OtherSize, a_TooMany, a_NothingToUndo, a_Broken, a_WrongValue, a_WrongName, a_NotPossible] [.ref a_WrongValue, .ref a_WrongName, .ref a_NotPossible, .type "ValueError", .type "LookupError", .type "ArithmeticError"] = true

end P1
set_option Elab.async false
set_option linter.all false
set_option maxRecDepth 100000
set_option maxHeartbeats 4000000
namespace P1
open PySem PySem.Spec L2 Wk Lt Mt
section
variable {P : Program} {w : World} {K : PySem.W.Frag} {mg : Str → Option Value} {base : Heap}
theorem ok_law_begun (T : Txt K mg) : FnOk P w K mg base CX0 1 T.a_law_begun T.d_law_begun ["_law_script", "_law_turn"] (spBegun K) := by
  refine new_ok T.F_law_begun sc_law_begun (fun i vs F h => by obtain ⟨⟨a, rfl, _⟩, _⟩ := h; rfl) fun cdv A outer s H E hr => ⟨_, (pss_cons (ps_set (i := 2) sc_law_begun.nd rfl (Or.inl rfl) (pe_ifExp (pt_cmpR op_lt (pv 1) (pe_callB (cK_len K rfl) (by rfl) T.n_len (by decide +kernel) (pa_cons (pv 0) pa_nil)) (nomark _)) (pe_ix (iK_list K rfl) (pv 0) (pv 1) (fun _ _ => rfl)) pe_int))
      (pss_cons (ps_set (i := 3) sc_law_begun.nd rfl (Or.inl rfl) (pe_op op_add pe_int (pe_op op_mul pe_int (pv 1))))
      (pss_cons (ps_for PassesOwn.never rfl (pK_list K rfl (pe_slice (sK_list K rfl) (pv 0) po_none (po_some pe_int))) (pg_name (i := 4) sc_law_begun.nd rfl (Or.inl rfl)) (pss_one (ps_set (i := 3) sc_law_begun.nd rfl (Or.inl rfl) (pe_op op_mod (pe_callTy call_int1 (by rfl) T.n_int (by decide +kernel) (pa_cons (pe_op op_add (pe_op op_add (pe_op op_mul (pv 3) pe_int) (pe_op op_mul (pv 4) pe_int)) pe_int) pa_nil)) pe_int))))
      (pss_one (ps_ret (pe_lst (pa_cons (pe_ifExp (PW.pt (pw_or (pt_cmpR op_lt (pv 2) pe_int (nomark _)) (pw_or1 (pt_cmpR op_ge (pv 2) (pe_op op_pow pe_int pe_int) (nomark _))))) (pe_callB call_abs (by rfl) T.n_abs (by decide +kernel) (pa_cons (pv 2) pa_nil)) pe_int) (pa_cons (pe_op op_mod (pe_callTy call_int1 (by rfl) T.n_int (by decide +kernel) (pa_cons (pe_op op_add (pe_op op_add (pe_op op_mul (pv 3) pe_int) (pe_op op_mulX (pv 2) (pv 2))) (pe_op op_mul pe_int (pv 1))) pa_nil)) pe_int) (pa_cons pe_int pa_nil))))))))), fun i vs F Q hp k q => ?_⟩
  obtain ⟨ns, t⟩ := i
  obtain ⟨⟨a, rfl, hs⟩, hb, ht⟩ := hp
  have hs : SqL K F a (ns.map V.int) := hs
  have ht : t < 100 := ht
  have hb : ∀ z ∈ ns, Builtin.Int.intBits z ≤ 1048576 := hb
  refine q_set (P := fun v _ => ∃ n : Int, v = .int n ∧ Builtin.Int.intBits n ≤ 1048576) k (ev_if (b := decide ((t : Int) < (ns.length : Int))) (eb_test (K := K) (ed_lt (ed_var rfl (.int _)) (ed_lenScr rfl hs))) (fun c => ?_) fun _ => ei_int (by decide)) fun v F1 H1 g1 k1 ⟨own, e1, b1⟩ => ?_
  · have hl : t < ns.length := by have := of_decide_eq_true c; omega
    exact (ed_ixScr rfl hs (ed_var rfl (.int _)) (List.getElem?_eq_getElem hl)).ei (hb _ (List.getElem_mem hl))
  subst e1
  refine q_set k1 (ed_add (K := K) ed_int (ed_mul ed_int (ed_var rfl (.int _)) (.inl (by decide)))) fun v F2 H2 g2 k2 e2 => ?_
  have hs2 := sqlM (g1.f.trans g2.f) hs
  obtain rfl := rp_int e2
  refine s_forL k2 (ed_sliceScr rfl hs2 eo_none (eo_some (ed_int (K := K)))) fun F3 H3 g3 k3 => ?_
  refine ⟨fun i σ F4 H4 => ∃ (st : Int) (y : Option V), σ = [some (.ref a), some (.int t), some (.int own), some (.int st), y] ∧ w0.ok F4 H4 ∧ Gr M0 F H F4 H4 ∧ Same F3 F4 ∧ 0 ≤ st ∧ st < 2147483648, ⟨_, none, rfl, k3, (g1.trans g2).trans g3, Same.refl _, by omega, by omega⟩, fun i σ' F' H' ⟨_, _, _, kk, _, e, _⟩ => ⟨e, kk.e⟩, ?_, ?_⟩
  · rintro i v d σ' F4 H4 hd rv ⟨st, y, rfl, k4, g4, e4, l1, l2⟩
    obtain ⟨z, rfl⟩ := cut_int hd
    obtain rfl := rp_int rv
    refine s_set k4 (ed_mod (K := K) (ed_int1 (ed_add (ed_add (ed_mul (ed_var rfl (.int _)) ed_int (.inl (by omega))) (ed_mul (ed_var rfl (.int _)) ed_int (.inr (by decide)))) ed_int)) ed_int (by decide)) fun v F5 H5 g5 k5 p5 => ?_
    obtain rfl := rp_int p5
    refine ⟨F5, _, _, rfl, k5, g4.trans g5, e4.trans g5.f, Int.emod_nonneg _ (by decide), Int.lt_of_lt_of_le (Int.emod_lt_of_pos _ (by decide)) (by decide)⟩
  · rintro σ' F4 H4 ⟨st, y, rfl, k4, g4, e4, l1, l2⟩
    refine s_retN k4 (eda_cons (ed_ifx (eb_or (eb_test (K := K) (ed_lt (ed_var rfl (.int _)) ed_int)) fun _ => eb_test (K := K) (ed_ge (ed_var rfl (.int _)) (ed_pow ed_int ed_int ⟨by decide, by decide, by decide⟩))) (fun _ => ed_abs (ed_var rfl (.int _))) fun _ => ed_int) (eda_cons (ed_mod (K := K) (ed_int1 (ed_add (ed_add (ed_mul (ed_var rfl (.int _)) ed_int (.inl (by omega))) (ed_mulX (ed_var rfl (.int _)) (ed_var rfl (.int _)) ?_)) (ed_mul ed_int (ed_var rfl (.int _)) (.inl (by decide))))) ed_int (by decide)) (eda_cons ed_int eda_nil))) ⟨Int.emod_nonneg _ (by decide), Int.lt_of_lt_of_le (Int.emod_lt_of_pos _ (by decide)) (by decide)⟩ fun b F5 H5 g5 h0 pk => ?_
    · show (Builtin.Int.intBits own : Int) + (Builtin.Int.intBits own : Int) ≤ 134217728
      omega
    · exact q b F5 H5 (g4.trans g5) (Classical.byContradiction fun z => g4.d b z h0) pk
theorem ok_law_cast (T : Txt K mg) : FnOk P w K mg base CX0 1 T.a_law_cast T.d_law_cast ["_law_pail", "_law_many"] spCast := by
  refine pail_ok T.F_law_cast sc_law_cast (fun i vs F h => by obtain ⟨rfl, _⟩ := h; rfl) fun cdv A outer s H E hr => ⟨_, (pss_cons (ps_if (pt_cmpR op_gt (pe_ix (iK_list K rfl) (pv 0) pe_int (fun _ _ => rfl)) pe_int (nomark _)) (pss_cons (ps_asg (pe_callB call_divmod (by rfl) T.n_divmod (by decide +kernel) (pa_cons (pe_ix (iK_list K rfl) (pv 0) pe_int (fun _ _ => rfl)) (pa_cons (pv 1) pa_nil))) (pg_tup rfl (pgs_cons (pg_sub (pv 0) pe_int set_list) (pgs_cons (pg_name (i := 2) sc_law_cast.nd rfl (Or.inl rfl)) pgs_nil))))
      (pss_one (ps_ret (pv 2)))) pss_nil)
      (pss_cons (ps_asg (pe_op op_add (pe_ix (iK_list K rfl) (pv 0) pe_int (fun _ _ => rfl)) pe_int) (pg_sub (pv 0) pe_int set_list))
      (pss_cons (ps_set (i := 3) sc_law_cast.nd rfl (Or.inl rfl) (pe_op op_mod (pe_callTy call_int1 (by rfl) T.n_int (by decide +kernel) (pa_cons (pe_op op_add (pe_op op_add (pe_op op_mul (pe_ix (iK_list K rfl) (pv 0) pe_int (fun _ _ => rfl)) (pe_op op_add pe_int (pe_op op_mul pe_int (pe_ix (iK_list K rfl) (pv 0) pe_int (fun _ _ => rfl))))) (pe_op op_mul pe_int (pe_ix (iK_list K rfl) (pv 0) pe_int (fun _ _ => rfl)))) pe_int) pa_nil)) pe_int))
      (pss_cons (ps_asg (pe_op op_mod (pe_callTy call_int1 (by rfl) T.n_int (by decide +kernel) (pa_cons (pe_op op_add (pe_op op_add (pe_op op_mul (pv 3) pe_int) (pe_op op_mul pe_int (pe_ix (iK_list K rfl) (pv 0) pe_int (fun _ _ => rfl)))) pe_int) pa_nil)) pe_int) (pg_sub (pv 0) pe_int set_list))
      (pss_one (ps_ret (pe_op op_mod (pe_callTy call_int1 (by rfl) T.n_int (by decide +kernel) (pa_cons (pe_op op_fdiv (pe_ix (iK_list K rfl) (pv 0) pe_int (fun _ _ => rfl)) pe_int) pa_nil)) (pv 1)))))))), fun m b vs F Q hp k q => ?_⟩
  obtain ⟨rfl, h0, h1⟩ := hp
  refine q_ifT k (et_cmp (g := fun i j => decide (j < i)) (A := fun _ => True) (B := fun _ => True) ((ei_pail rfl rfl (.inl rfl)).imp fun _ _ => trivial) (ei_int trivial)) (fun F1 H1 g1 k1 => ?_) fun F1 H1 g1 k1 => ?_
  · refine q_divmod (A := fun _ => True) k1 rfl rfl ((ei_pail rfl rfl (.inl rfl)).imp fun _ _ => trivial) (ed_var (K := K) rfl (.int _)) ⟨h0, h1⟩ fun f F2 H2 f0 f1 g2 k2 => ?_
    exact s_ret k2 (ei_var (R := fun r => 0 ≤ r ∧ r < m) rfl ⟨f0, f1⟩) fun v F' H' g k' p => q v F' H' ((g1.trans g2).trans g) k' p
  · refine q_put k1 rfl rfl (.inr (.inr rfl)) (ei_op0 (g := fun i j => i + j) (A := fun _ => True) (B := fun _ => True) ((ei_pail rfl rfl (.inr (.inr rfl))).imp fun _ _ => trivial) (ei_int trivial) fun i j _ _ c => absurd c (by decide)) fun F2 H2 g2 k2 => ?_
    refine q_set (P := fun v _ => ∃ n : Int, v = .int n ∧ 0 ≤ n ∧ n < 2147483629) k2 (ei_op (C := fun _ j => 0 < j) (g := fun i j => i % j) (A := fun _ => True) (B := fun j => j = 2147483629) (ei_int1 (ei_op0 (g := fun i j => i + j) (A := fun _ => True) (B := fun _ => True) (ei_op0 (g := fun i j => i + j) (A := fun _ => True) (B := fun _ => True) (ei_op (C := CMul) (g := fun i j => i * j) (A := fun i => 0 ≤ i ∧ i < 2147483648) (B := fun _ => True) ((ei_pail rfl rfl (.inr (.inl rfl))).imp fun _ c => c rfl) (ei_op0 (g := fun i j => i + j) (A := fun _ => True) (B := fun _ => True) (ei_int trivial) (ei_op (C := CMul) (g := fun i j => i * j) (A := fun i => i = 2) (B := fun _ => True) (ei_int rfl) ((ei_pail rfl rfl (.inr (.inr rfl))).imp fun _ _ => trivial) (fun i j c _ => .inl (by omega)) fun _ _ _ _ => trivial) fun _ _ _ _ => trivial) (fun i j c _ => .inl (by omega)) fun _ _ _ _ => trivial) (ei_op (C := CMul) (g := fun i j => i * j) (A := fun i => i = 5303) (B := fun _ => True) (ei_int rfl) ((ei_pail rfl rfl (.inr (.inr rfl))).imp fun _ _ => trivial) (fun i j c _ => .inl (by omega)) fun _ _ _ _ => trivial) fun _ _ _ _ => trivial) (ei_int trivial) fun _ _ _ _ => trivial)) (ei_int rfl) (fun i j _ c => by omega) fun i j _ c => by subst c; exact ⟨Int.emod_nonneg _ (by decide), Int.emod_lt_of_pos _ (by decide)⟩) fun v F3 H3 g3 k3 ⟨st, e3, s0, s1⟩ => ?_
    subst e3
    refine q_put k3 rfl rfl (.inr (.inl rfl)) (ei_op (C := fun _ j => 0 < j) (g := fun i j => i % j) (A := fun _ => True) (B := fun j => j = 2147483587) (ei_int1 (ei_op0 (g := fun i j => i + j) (A := fun _ => True) (B := fun _ => True) (ei_op0 (g := fun i j => i + j) (A := fun _ => True) (B := fun _ => True) (ei_op (C := CMul) (g := fun i j => i * j) (A := fun i => 0 ≤ i ∧ i < 2147483648) (B := fun _ => True) (ei_var rfl (by omega)) (ei_int trivial) (fun i j c _ => .inl (by omega)) fun _ _ _ _ => trivial) (ei_op (C := CMul) (g := fun i j => i * j) (A := fun i => i = 3) (B := fun _ => True) (ei_int rfl) ((ei_pail rfl rfl (.inr (.inr rfl))).imp fun _ _ => trivial) (fun i j c _ => .inl (by omega)) fun _ _ _ _ => trivial) fun _ _ _ _ => trivial) (ei_int trivial) fun _ _ _ _ => trivial)) (ei_int rfl) (fun i j _ c => by omega) fun i j _ c _ => by subst c; exact ⟨Int.emod_nonneg _ (by decide), Int.lt_of_lt_of_le (Int.emod_lt_of_pos _ (by decide)) (by decide)⟩) fun F4 H4 g4 k4 => ?_
    refine s_ret k4 (ei_op (R := fun r => 0 ≤ r ∧ r < m) (C := fun _ j => 0 < j) (g := fun i j => i % j) (A := fun _ => True) (B := fun j => j = m) (ei_int1 (ei_op (C := CDiv) (g := fun i j => i / j) (A := fun _ => True) (B := fun j => j = 256) ((ei_pail rfl rfl (.inr (.inl rfl))).imp fun _ _ => trivial) (ei_int rfl) (fun i j _ c => by subst c; exact ⟨by decide, by decide⟩) fun _ _ _ _ => trivial)) (ei_var rfl rfl) (fun i j _ c => by rw [c]; exact h0) fun i j _ c => by subst c; exact ⟨Int.emod_nonneg _ (by omega), Int.emod_lt_of_pos _ h0⟩) fun v F' H' g k' p => q v F' H' ((((g1.trans g2).trans g3).trans g4).trans g) k' p
theorem ok_law_any_of (T : Txt K mg) : FnOk P w K mg base CX0 2 T.a_law_any_of T.d_law_any_of ["_law_pail", "_law_some"] (spAny K) := by
  refine pail_ok T.F_law_any_of sc_law_any_of (fun i vs F h => by have := h.1.len; rw [this]; rfl) fun cdv A outer s H E hr => ⟨_, (pss_one (ps_ret (pe_ix (iK_list K rfl) (pv 1) (pe_call (ok_law_cast T) (hr.mono (by decide)) (by rfl) T.g_law_cast T.F_law_cast.kp T.b_law_cast .nil pass0 (pa_cons (pv 0) (pa_cons (pe_callB (cK_len K rfl) (by rfl) T.n_len (by decide +kernel) (pa_cons (pv 1) pa_nil)) pa_nil))) (fun _ _ => rfl)))), fun ds b vs F Q hp k q => ?_⟩
  obtain ⟨r, h0, h1⟩ := hp
  cases r with
  | cons r m =>
    cases m
    exact s_ret k (er_ixL (ed_var rfl r) (ei_cast rfl rfl (ed_lenL (ed_var rfl r)) ⟨by omega, by omega⟩)) fun v F' H' g k' p => q v F' H' g k' p

end
end P1
set_option Elab.async false
set_option linter.all false
set_option maxRecDepth 100000
set_option maxHeartbeats 4000000
namespace P1
open PySem PySem.Spec L2 Wk Lt Mt
section
variable {P : Program} {w : World} {K : PySem.W.Frag} {mg : Str → Option Value} {base : Heap}
def smS (x : Str) : Bool := decide (x.length ≤ 50) && PyData.strOk x
/-- tuples within tuples at most k deep, each with at most m items; short texts -/
def wfS (m : Nat) : Nat → PyData → Bool
  | 0, .tuple _ => false
  | k + 1, .tuple ds => decide (ds.length ≤ m) && ds.all (wfS m k)
  | _, .str x => smS x
  | _, _ => true
def isTS : PyData → Bool
  | .tuple _ => true
  | .str _ => true
  | _ => false
theorem wfS_tup {m k : Nat} {ds : List PyData} (h : wfS m k (.tuple ds) = true) : ∃ j, k = j + 1 ∧ ds.length ≤ m ∧ ∀ d ∈ ds, wfS m j d = true := by
  cases k with
  | zero => cases h
  | succ j =>
    obtain ⟨h1, h2⟩ := (Bool.and_eq_true _ _).mp (show (decide (ds.length ≤ m) && ds.all (wfS m j)) = true from h)
    exact ⟨j, rfl, of_decide_eq_true h1, List.all_eq_true.mp h2⟩
theorem wfS_mk {m k : Nat} {ds : List PyData} (h1 : ds.length ≤ m) (h2 : ∀ d ∈ ds, wfS m k d = true) : wfS m (k + 1) (.tuple ds) = true := by
  show (decide (ds.length ≤ m) && ds.all (wfS m k)) = true
  rw [decide_eq_true h1]
  exact List.all_eq_true.mpr h2
theorem wfS_str {m k : Nat} {x : Str} : wfS m k (.str x) = smS x := by cases k <;> simp only [wfS]
theorem wfS_atom {m k : Nat} {d : PyData} (h : isTS d = false) : wfS m k d = true := by
  cases d <;> first | (cases h; done) | (cases k <;> (unfold wfS; rfl)) | (cases k <;> simp [wfS])
theorem wfS_mono {m m' : Nat} (hm : m ≤ m') : ∀ {k k' : Nat} {d : PyData}, k ≤ k' → wfS m k d = true → wfS m' k' d = true := by
  intro k
  induction k with
  | zero =>
    intro k' d _ h
    by_cases hs : ∃ x, d = .str x
    · obtain ⟨x, rfl⟩ := hs
      rw [wfS_str] at h ⊢
      exact h
    · refine wfS_atom ?_
      cases d <;> first | rfl | exact (hs ⟨_, rfl⟩).elim | cases h
  | succ k ih =>
    intro k' d hk h
    by_cases hs : ∃ x, d = .str x
    · obtain ⟨x, rfl⟩ := hs
      rw [wfS_str] at h ⊢
      exact h
    by_cases ht : ∃ ds, d = .tuple ds
    · obtain ⟨ds, rfl⟩ := ht
      obtain ⟨j, e, h1, h2⟩ := wfS_tup h
      cases e
      obtain ⟨k2, rfl⟩ : ∃ k2, k' = k2 + 1 := ⟨k' - 1, by omega⟩
      exact wfS_mk (by omega) fun d hd => ih (by omega) (h2 d hd)
    · refine wfS_atom ?_
      cases d <;> first | rfl | exact (hs ⟨_, rfl⟩).elim | exact (ht ⟨_, rfl⟩).elim
theorem wfS_wf {m : Nat} : ∀ {k : Nat} {d : PyData}, wfS m k d = true → wfB m k d = true := by
  intro k
  induction k with
  | zero =>
    intro d h
    refine wf_atom ?_
    cases d <;> first | rfl | cases h
  | succ k ih =>
    intro d h
    by_cases ht : ∃ ds, d = .tuple ds
    · obtain ⟨ds, rfl⟩ := ht
      obtain ⟨j, e, h1, h2⟩ := wfS_tup h
      cases e
      exact wf_mk h1 fun d hd => ih (h2 d hd)
    · refine wf_atom ?_
      cases d <;> first | rfl | exact (ht ⟨_, rfl⟩).elim
def intDictB : PyData → Bool
  | .dict ps => ps.all fun p => match p.2 with | .int _ => true | _ => false
  | _ => false
/-- what repr may be asked of -/
def showB (d : PyData) : Bool := (d.showable && (!d.hasDict || intDictB d)) && (decide (d.depth < 40) && decide (d.shown.length ≤ 1000) && PyData.strOk d.shown)
theorem showB_x {d : PyData} (h : showB d = true) : ShowsX d := by
  unfold showB at h
  simp only [Bool.and_eq_true, Bool.or_eq_true, decide_eq_true_eq] at h
  obtain ⟨⟨h1, h2⟩, ⟨h3, h4⟩, h5⟩ := h
  refine ⟨h1, h2.elim (fun z => .inl (by simpa using z)) fun z => .inr ?_, h3, Nat.le_trans h4 (by decide)⟩
  clear h1 h2 h3 h4 h5
  cases d <;> first | cases z | skip
  rename_i ps
  refine ⟨ps, rfl, fun p hp => ?_⟩
  have := List.all_eq_true.mp z p hp
  revert this
  cases p.2 <;> intro h <;> first | exact ⟨_, rfl⟩ | cases h
theorem showB_sm {d : PyData} (h : showB d = true) : d.shown.length ≤ 1000 := by
  unfold showB at h
  simp only [Bool.and_eq_true, Bool.or_eq_true, decide_eq_true_eq] at h
  exact h.2.1.2
theorem showB_ok {d : PyData} (h : showB d = true) : PyData.strOk d.shown = true := by
  unfold showB at h
  simp only [Bool.and_eq_true, Bool.or_eq_true, decide_eq_true_eq] at h
  exact h.2.2
abbrev spThingW (K : PySem.W.Frag) : Sp := spB (ι := Unit) (fun _ vs _ => vs = []) (fun _ v F' => ∃ d, Rp K F' v d ∧ wfS 30 4 d = true ∧ showB d = true)
theorem ok_law_thing (T : Txt K mg) : FnOk P w K mg base CX0 3 T.a_law_thing T.d_law_thing ["_law_pail"] (spThingW K) := by
  refine pail_ok T.F_law_thing sc_law_thing (fun i vs F h => by rw [h]; rfl) fun cdv A outer s H E hr => ⟨_, (pss_cons (ps_set (i := 1) sc_law_thing.nd rfl (Or.inl rfl) (pe_lst (pa_cons pe_non (pa_cons pe_bl (pa_cons pe_bl (pa_cons pe_int (pa_cons pe_int (pa_cons (pe_un un_neg pe_int) (pa_cons pe_int (pa_cons (pe_op op_add (pe_op op_pow pe_int pe_int) pe_int) (pa_cons (pe_un un_neg (pe_op op_pow pe_int pe_int)) (pa_cons pe_str (pa_cons pe_str (pa_cons pe_str (pa_cons (pe_tup pa_nil) (pa_cons (pe_tup (pa_cons pe_int pa_nil)) (pa_cons (pe_tup (pa_cons pe_int (pa_cons pe_int pa_nil))) (pa_cons (pe_tup (pa_cons (pe_tup (pa_cons pe_int pa_nil)) pa_nil)) (pa_cons pe_str pa_nil)))))))))))))))))))
      (pss_cons (ps_set (i := 1) sc_law_thing.nd rfl (Or.inl rfl) (pe_op op_cat (pv 1) (pe_lst (pa_cons (pe_lst pa_nil) (pa_cons (pe_lst (pa_cons pe_int pa_nil)) (pa_cons pe_dnewK (pa_cons (pe_disp (pps_cons pe_str pe_int pps_nil) rfl rfl (by intro z; cases z) (by decide)) (pa_cons (pe_tup (pa_cons (pe_tup (pa_cons pe_int (pa_cons pe_int pa_nil))) pa_nil)) (pa_cons (pe_tup (pa_cons (pe_tup (pa_cons pe_int (pa_cons pe_int pa_nil))) (pa_cons (pe_tup (pa_cons pe_int (pa_cons pe_int pa_nil))) pa_nil))) (pa_cons (pe_tup (pa_cons (pe_tup (pa_cons (pe_tup (pa_cons pe_int pa_nil)) pa_nil)) pa_nil)) (pa_cons (pe_tup (pa_cons pe_str pa_nil)) (pa_cons (pe_tup (pa_cons pe_non pa_nil)) (pa_cons pe_str pa_nil)))))))))))))
      (pss_one (ps_ret (pe_call (ok_law_any_of T) (hr.mono (by decide)) (by rfl) T.g_law_any_of T.F_law_any_of.kp T.b_law_any_of .nil pass0 (pa_cons (pv 0) (pa_cons (pv 1) pa_nil))))))), fun i b vs F Q hp k q => ?_⟩
  subst hp
  refine q_set k (ed_lst (K := K) (eda_cons ed_non (eda_cons ed_bl (eda_cons ed_bl (eda_cons ed_int (eda_cons ed_int (eda_cons (ed_neg ed_int) (eda_cons ed_int (eda_cons (ed_add (ed_pow ed_int ed_int ⟨by decide, by decide, by decide⟩) ed_int) (eda_cons (ed_neg (ed_pow ed_int ed_int ⟨by decide, by decide, by decide⟩)) (eda_cons ed_str (eda_cons ed_str (eda_cons ed_str (eda_cons (ed_tup (ds := []) eda_nil (Nat.zero_le _)) (eda_cons (t1 ed_int) (eda_cons (t2 ed_int ed_int) (eda_cons (t1 (t1 ed_int)) (eda_cons ed_str eda_nil))))))))))))))))) (show 17 ≤ 100000 by decide)) fun v1 F1 H1 g1 k1 p1 => ?_
  refine q_set k1 (ed_cat (K := K) (ed_var rfl p1) (ed_lst (eda_cons (ed_lst (ds := []) eda_nil (Nat.zero_le _)) (eda_cons (ed_lst (eda_cons ed_int eda_nil) (show 1 ≤ 100000 by decide)) (eda_cons ed_dict0 (eda_cons ed_dict1 (eda_cons (t1 (t2 ed_int ed_int)) (eda_cons (t2 (t2 ed_int ed_int) (t2 ed_int ed_int)) (eda_cons (t1 (t1 (t1 ed_int))) (eda_cons (t1 ed_str) (eda_cons (t1 ed_non) (eda_cons ed_str eda_nil)))))))))) (show 10 ≤ 100000 by decide)) (show 27 ≤ 100000 by decide)) fun v2 F2 H2 g2 k2 p2 => ?_
  refine s_ret k2 (er_any (K := K) rfl rfl (ed_var rfl p2) (show 0 < 27 by decide) (show 27 < 1000000 by decide)) fun v F' H' g k' ⟨d, hd, r⟩ => q v F' H' ((g1.trans g2).trans g) k' ⟨d, r, ?_⟩
  exact ⟨List.all_eq_true.mp (show List.all _ (wfS 30 4) = true by decide +kernel) d hd, List.all_eq_true.mp (show List.all _ showB = true by decide +kernel) d hd⟩
theorem ev_thingX {wd : Wd} {b : Addr} {σ : St} {F : Hp} {i : Nat} {E : XK} (hb : wd.b = some b) (hi : σ[i]? = some (some (.ref b))) : EV wd (tCall (spThingW K) [] E (tCons (tVar i) tNil)) σ F (fun v F' => ∃ d, Rp K F' v d ∧ wfS 30 4 d = true ∧ showB d = true) :=
  ev_callB hb (ed'_var hi) (A := fun vs _ => vs = []) (ea_nil fun _ => rfl) (fun _ _ => ()) (fun _ _ _ h => h) fun _ _ _ _ _ _ _ p => p
theorem ev_thingW {wd : Wd} {b : Addr} {σ : St} {F : Hp} {i : Nat} {E : XK} (hb : wd.b = some b) (hi : σ[i]? = some (some (.ref b))) : EV wd (tCall (spThingW K) [] E (tCons (tVar i) tNil)) σ F (fun v F' => ∃ d, Rp K F' v d ∧ wfS 30 4 d = true) :=
  EV.imp (ev_thingX hb hi) fun _ _ ⟨d, h1, h2, _⟩ => ⟨d, h1, h2⟩

end
end P1
set_option Elab.async false
set_option linter.all false
set_option maxRecDepth 100000
set_option maxHeartbeats 4000000
namespace P1
open PySem PySem.Spec L2 Wk Lt Mt
section
variable {P : Program} {w : World} {K : PySem.W.Frag} {mg : Str → Option Value} {base : Heap}
theorem ok_InvalidText_init (T : Txt K mg) : FnOk P w K mg base CX0 1 T.a_InvalidText_init T.d_InvalidText_init ["self", "given"] (spE1 T.a_InvalidText "given") :=
  e1_okG T.F_InvalidText_init sc_InvalidText_init rfl T.ox_InvalidText T.nx_InvalidText fun cdv A outer s H E => (pss_one (ps_ostG (pv 0) (pv 1)))
theorem ok_InvalidName_init (T : Txt K mg) : FnOk P w K mg base CX0 1 T.a_InvalidName_init T.d_InvalidName_init ["self", "given"] (spE1 T.a_InvalidName "given") :=
  e1_okG T.F_InvalidName_init sc_InvalidName_init rfl T.ox_InvalidName T.nx_InvalidName fun cdv A outer s H E => (pss_one (ps_ostG (pv 0) (pv 1)))
theorem ok_InvalidIndex_init (T : Txt K mg) : FnOk P w K mg base CX0 1 T.a_InvalidIndex_init T.d_InvalidIndex_init ["self", "given"] (spE1 T.a_InvalidIndex "given") :=
  e1_okG T.F_InvalidIndex_init sc_InvalidIndex_init rfl T.ox_InvalidIndex T.nx_InvalidIndex fun cdv A outer s H E => (pss_one (ps_ostG (pv 0) (pv 1)))
theorem ok_InvalidSize_init (T : Txt K mg) : FnOk P w K mg base CX0 1 T.a_InvalidSize_init T.d_InvalidSize_init ["self", "given"] (spE1 T.a_InvalidSize "given") :=
  e1_okG T.F_InvalidSize_init sc_InvalidSize_init rfl T.ox_InvalidSize T.nx_InvalidSize fun cdv A outer s H E => (pss_one (ps_ostG (pv 0) (pv 1)))
theorem ok_InvalidTable_init (T : Txt K mg) : FnOk P w K mg base CX0 1 T.a_InvalidTable_init T.d_InvalidTable_init ["self", "given"] (spE1 T.a_InvalidTable "given") :=
  e1_okG T.F_InvalidTable_init sc_InvalidTable_init rfl T.ox_InvalidTable T.nx_InvalidTable fun cdv A outer s H E => (pss_one (ps_ostG (pv 0) (pv 1)))
theorem ok_InvalidView_init (T : Txt K mg) : FnOk P w K mg base CX0 1 T.a_InvalidView_init T.d_InvalidView_init ["self", "given"] (spE1 T.a_InvalidView "given") :=
  e1_okG T.F_InvalidView_init sc_InvalidView_init rfl T.ox_InvalidView T.nx_InvalidView fun cdv A outer s H E => (pss_one (ps_ostG (pv 0) (pv 1)))
theorem ok_InvalidWish_init (T : Txt K mg) : FnOk P w K mg base CX0 1 T.a_InvalidWish_init T.d_InvalidWish_init ["self", "given"] (spE1 T.a_InvalidWish "given") :=
  e1_okG T.F_InvalidWish_init sc_InvalidWish_init rfl T.ox_InvalidWish T.nx_InvalidWish fun cdv A outer s H E => (pss_one (ps_ostG (pv 0) (pv 1)))
theorem ok_NotLot_init (T : Txt K mg) : FnOk P w K mg base CX0 1 T.a_NotLot_init T.d_NotLot_init ["self", "given"] (spE1 T.a_NotLot "given") :=
  e1_okG T.F_NotLot_init sc_NotLot_init rfl T.ox_NotLot T.nx_NotLot fun cdv A outer s H E => (pss_one (ps_ostG (pv 0) (pv 1)))
theorem ok_InvalidTables_init (T : Txt K mg) : FnOk P w K mg base CX0 1 T.a_InvalidTables_init T.d_InvalidTables_init ["self", "index"] (spE1 T.a_InvalidTables "index") :=
  e1_okG T.F_InvalidTables_init sc_InvalidTables_init rfl T.ox_InvalidTables T.nx_InvalidTables fun cdv A outer s H E => (pss_one (ps_ostG (pv 0) (pv 1)))
theorem ok_InvalidWord_init (T : Txt K mg) : FnOk P w K mg base CX0 1 T.a_InvalidWord_init T.d_InvalidWord_init ["self", "index"] (spE1 T.a_InvalidWord "index") :=
  e1_okG T.F_InvalidWord_init sc_InvalidWord_init rfl T.ox_InvalidWord T.nx_InvalidWord fun cdv A outer s H E => (pss_one (ps_ostG (pv 0) (pv 1)))
theorem ok_InvalidColumns_init (T : Txt K mg) : FnOk P w K mg base CX0 1 T.a_InvalidColumns_init T.d_InvalidColumns_init ["self", "index"] (spE1 T.a_InvalidColumns "index") :=
  e1_okG T.F_InvalidColumns_init sc_InvalidColumns_init rfl T.ox_InvalidColumns T.nx_InvalidColumns fun cdv A outer s H E => (pss_one (ps_ostG (pv 0) (pv 1)))
theorem ok_InvalidChanges_init (T : Txt K mg) : FnOk P w K mg base CX0 1 T.a_InvalidChanges_init T.d_InvalidChanges_init ["self", "index"] (spE1 T.a_InvalidChanges "index") :=
  e1_okG T.F_InvalidChanges_init sc_InvalidChanges_init rfl T.ox_InvalidChanges T.nx_InvalidChanges fun cdv A outer s H E => (pss_one (ps_ostG (pv 0) (pv 1)))
theorem ok_InvalidWishes_init (T : Txt K mg) : FnOk P w K mg base CX0 1 T.a_InvalidWishes_init T.d_InvalidWishes_init ["self", "index"] (spE1 T.a_InvalidWishes "index") :=
  e1_okG T.F_InvalidWishes_init sc_InvalidWishes_init rfl T.ox_InvalidWishes T.nx_InvalidWishes fun cdv A outer s H E => (pss_one (ps_ostG (pv 0) (pv 1)))
theorem ok_UnknownName_init (T : Txt K mg) : FnOk P w K mg base CX0 1 T.a_UnknownName_init T.d_UnknownName_init ["self", "given"] (spE1 T.a_UnknownName "given") :=
  e1_okG T.F_UnknownName_init sc_UnknownName_init rfl T.ox_UnknownName T.nx_UnknownName fun cdv A outer s H E => (pss_one (ps_ostG (pv 0) (pv 1)))
theorem ok_InUse_init (T : Txt K mg) : FnOk P w K mg base CX0 1 T.a_InUse_init T.d_InUse_init ["self", "index"] (spE1 T.a_InUse "index") :=
  e1_okG T.F_InUse_init sc_InUse_init rfl T.ox_InUse T.nx_InUse fun cdv A outer s H E => (pss_one (ps_ostG (pv 0) (pv 1)))
theorem ok_NotTriangular_init (T : Txt K mg) : FnOk P w K mg base CX0 1 T.a_NotTriangular_init T.d_NotTriangular_init ["self", "given"] (spE1 T.a_NotTriangular "given") :=
  e1_okG T.F_NotTriangular_init sc_NotTriangular_init rfl T.ox_NotTriangular T.nx_NotTriangular fun cdv A outer s H E => (pss_one (ps_ostG (pv 0) (pv 1)))
theorem ok_OtherSize_init (T : Txt K mg) : FnOk P w K mg base CX0 1 T.a_OtherSize_init T.d_OtherSize_init ["self", "given"] (spE1 T.a_OtherSize "given") :=
  e1_okG T.F_OtherSize_init sc_OtherSize_init rfl T.ox_OtherSize T.nx_OtherSize fun cdv A outer s H E => (pss_one (ps_ostG (pv 0) (pv 1)))
theorem ok_TooMany_init (T : Txt K mg) : FnOk P w K mg base CX0 1 T.a_TooMany_init T.d_TooMany_init ["self", "given"] (spE1 T.a_TooMany "given") :=
  e1_okG T.F_TooMany_init sc_TooMany_init rfl T.ox_TooMany T.nx_TooMany fun cdv A outer s H E => (pss_one (ps_ostG (pv 0) (pv 1)))
theorem ok_Broken_init (T : Txt K mg) : FnOk P w K mg base CX0 1 T.a_Broken_init T.d_Broken_init ["self", "index"] (spE1 T.a_Broken "index") :=
  e1_okG T.F_Broken_init sc_Broken_init rfl T.ox_Broken T.nx_Broken fun cdv A outer s H E => (pss_one (ps_ostG (pv 0) (pv 1)))

end
end P1
set_option Elab.async false
set_option linter.all false
set_option maxRecDepth 100000
set_option maxHeartbeats 4000000
namespace P1
open PySem PySem.Spec L2 Wk Lt Mt
section
variable {P : Program} {w : World} {K : PySem.W.Frag} {mg : Str → Option Value} {base : Heap}
abbrev xsT (T : Txt K mg) : List Addr := [T.a_InvalidText, T.a_InvalidName, T.a_InvalidIndex, T.a_InvalidSize, T.a_InvalidTable, T.a_InvalidView, T.a_InvalidWish, T.a_NotLot, T.a_InvalidTables, T.a_InvalidWord, T.a_InvalidColumns, T.a_InvalidChanges, T.a_InvalidWishes, T.a_UnknownName, T.a_InUse, T.a_NotTriangular, T.a_OtherSize, T.a_TooMany, T.a_NothingToUndo, T.a_Broken]
abbrev xsB (T : Txt K mg) : List Addr := [T.a_InvalidText, T.a_InvalidName, T.a_InvalidIndex, T.a_InvalidSize, T.a_InvalidTable, T.a_InvalidView, T.a_InvalidWish, T.a_NotLot, T.a_InvalidTables, T.a_InvalidWord, T.a_InvalidColumns, T.a_InvalidChanges, T.a_InvalidWishes, T.a_UnknownName, T.a_InUse, T.a_NotTriangular, T.a_OtherSize, T.a_TooMany, T.a_NothingToUndo, T.a_Broken, T.a_WrongValue, T.a_WrongName, T.a_NotPossible]
/-- the class with this number -/
abbrev xC (T : Txt K mg) (i : Nat) : Addr := (xsB T).getD i 0
def fldOf (i : Nat) : Str := if i ∈ [8, 9, 10, 11, 12, 14, 19] then "index" else "given"
theorem xd_at (T : Txt K mg) {i : Nat} (hi : i < 23) : ExcD K (xC T i) := by
  refine excDB_ok (List.all_eq_true.mp T.xd _ ?_)
  show (xsB T).getD i 0 ∈ xsB T
  rw [List.getD_eq_getElem?_getD, List.getElem?_eq_getElem (show i < (xsB T).length from hi)]
  exact List.getElem_mem _
theorem xC_T (T : Txt K mg) : ∀ i : Nat, i < 20 → (xsT T).getD i 0 = xC T i
  | 0, _ => rfl
  | 1, _ => rfl
  | 2, _ => rfl
  | 3, _ => rfl
  | 4, _ => rfl
  | 5, _ => rfl
  | 6, _ => rfl
  | 7, _ => rfl
  | 8, _ => rfl
  | 9, _ => rfl
  | 10, _ => rfl
  | 11, _ => rfl
  | 12, _ => rfl
  | 13, _ => rfl
  | 14, _ => rfl
  | 15, _ => rfl
  | 16, _ => rfl
  | 17, _ => rfl
  | 18, _ => rfl
  | 19, _ => rfl
  | n + 20, h => absurd h (by omega)
theorem kit_at (T : Txt K mg) {i j : Nat} (hi : i < 20) (hj : j < 20) : PySem.W.kitOne K (.ref (xC T i)) (.ref (xC T j)) = some (decide (i = j)) := by
  have := krAll_at (as := xsT T) T.kr (i := i) (j := j) hi hj
  rw [xC_T T i hi, xC_T T j hj] at this
  exact this
abbrev csB (T : Txt K mg) : List Value := [.ref T.a_WrongValue, .ref T.a_WrongName, .ref T.a_NotPossible, .type "ValueError", .type "LookupError", .type "ArithmeticError"]
theorem kb_at (T : Txt K mg) {i j : Nat} {c : Value} (hi : i < 23) (hj : j < 6) (hc : (csB T)[j]? = some c) : PySem.W.kitOne K (.ref (xC T i)) c = some (decide (j % 3 = baseNo i)) := kbAll_at (as := xsB T) T.kb (i := i) (j := j) hi hj hc
theorem nx_at (T : Txt K mg) : ∀ i : Nat, i < 20 → i ≠ 18 → PySem.W.findIn K (.ref (xC T i)) (fldOf i) = some none
  | 0, _, h => T.nx_InvalidText
  | 1, _, h => T.nx_InvalidName
  | 2, _, h => T.nx_InvalidIndex
  | 3, _, h => T.nx_InvalidSize
  | 4, _, h => T.nx_InvalidTable
  | 5, _, h => T.nx_InvalidView
  | 6, _, h => T.nx_InvalidWish
  | 7, _, h => T.nx_NotLot
  | 8, _, h => T.nx_InvalidTables
  | 9, _, h => T.nx_InvalidWord
  | 10, _, h => T.nx_InvalidColumns
  | 11, _, h => T.nx_InvalidChanges
  | 12, _, h => T.nx_InvalidWishes
  | 13, _, h => T.nx_UnknownName
  | 14, _, h => T.nx_InUse
  | 15, _, h => T.nx_NotTriangular
  | 16, _, h => T.nx_OtherSize
  | 17, _, h => T.nx_TooMany
  | 18, _, h => (h rfl).elim
  | 19, _, h => T.nx_Broken
  | n + 20, h, _ => absurd h (by omega)
/-- an exception of the class with this number that holds z -/
def IsX (T : Txt K mg) (z : PyData) (i : Nat) (v : V) (F : Hp) : Prop := i < 20 ∧ (if i = 18 then ∃ a, v = .ref a ∧ XAt F a (xC T i) else IsExc K (xC T i) (fldOf i) z v F)
theorem isX_mono (T : Txt K mg) (z : PyData) : MonoR (IsX T z) := fun i v F F' e ⟨hi, h⟩ => ⟨hi, by
  by_cases h18 : i = 18
  · rw [if_pos h18] at h ⊢
    obtain ⟨a, hv, hx⟩ := h
    exact ⟨a, hv, hx.mono e⟩
  · rw [if_neg h18] at h ⊢
    exact h.mono e⟩
theorem IsX.at {T : Txt K mg} {z : PyData} {i : Nat} {v : V} {F : Hp} (h : IsX T z i v F) : ∃ a, v = .ref a ∧ XAt F a (xC T i) := by
  obtain ⟨_, h⟩ := h
  by_cases h18 : i = 18
  · rw [if_pos h18] at h
    exact h
  · rw [if_neg h18] at h
    exact h.at
theorem isX_mk {T : Txt K mg} {z : PyData} {i : Nat} {C : Addr} {f : Str} {v : V} {F : Hp} (hi : i < 20) (h18 : i ≠ 18) (hC : xC T i = C) (hf : fldOf i = f) (h : IsExc K C f z v F) : IsX T z i v F := ⟨hi, by
  rw [if_neg h18, hC, hf]
  exact h⟩
section
variable {wd : Wd} {σ : St} {F : Hp} {ta : TE} {z : PyData} {C : Addr} {f : Str}
theorem evp {T : Txt K mg} (i : Nat) (hi : (decide (i < 20) && decide (i ≠ 18)) = true) (hC : xC T i = C) (hf : fldOf i = f) (ha : ED K wd ta σ F z) : EV wd (tMkV C 0 (fun us ws => us ++ ws) (spE1 C f) (fun σ H Q => tCons ta tNil σ H fun vs H1 => vs.length = 1 ∧ Q vs H1) tNil) σ F (IsX T z i) := by
  obtain ⟨h1, h2⟩ := (Bool.and_eq_true _ _).mp hi
  exact EV.imp (ev_mkV ha) fun _ _ p => isX_mk (of_decide_eq_true h1) (of_decide_eq_true h2) hC hf p
theorem evk {T : Txt K mg} (i : Nat) (hi : (decide (i < 20) && decide (i ≠ 18)) = true) (hC : xC T i = C) (hf : fldOf i = f) (ha : ED K wd ta σ F z) : EV wd (tMkV C 1 (fun us ws => us ++ ws) (spE1 C f) tNil (tCons ta tNil)) σ F (IsX T z i) := by
  obtain ⟨h1, h2⟩ := (Bool.and_eq_true _ _).mp hi
  exact EV.imp (ev_mkVK ha) fun _ _ p => isX_mk (of_decide_eq_true h1) (of_decide_eq_true h2) hC hf p
theorem ev0 {T : Txt K mg} (hC : xC T 18 = C) : EV wd (fun σ H Q => ∀ a, H a = none → Q (.ref a) (upd H a (exo a C none))) σ F (IsX T z 18) := EV.imp ev_mk0V fun _ _ ⟨a, hv, h⟩ => ⟨by decide, by
  rw [if_pos rfl, hC]
  exact ⟨a, hv, h⟩⟩
end
abbrev spMk (T : Txt K mg) : Sp := spG (ι := PyData) (fun z vs F => RpA K F vs [z]) (fun z v F => LX (IsX T z) (List.range 20) v F)
theorem ok_law_placed (T : Txt K mg) : FnOk P w K mg base CX0 3 T.a_law_placed T.d_law_placed ["_law_thing_here"] (spMk T) := by
  refine gen_ok T.F_law_placed sc_law_placed (fun i vs F h => h.len) fun cdv A outer s H E hr => ⟨_, (pss_cons (ps_set (i := 1) sc_law_placed.nd rfl (Or.inl rfl) (pe_lst (pa_cons (pe_mkV T.ox_InvalidText T.oi_InvalidText T.ot_InvalidText (ok_InvalidText_init T) (hr.mono (by decide)) T.kb2_InvalidText pass0 (by rfl) T.g_InvalidText (pa_cons (pv 0) pa_nil)) (pa_cons (pe_mkV T.ox_InvalidName T.oi_InvalidName T.ot_InvalidName (ok_InvalidName_init T) (hr.mono (by decide)) T.kb2_InvalidName pass0 (by rfl) T.g_InvalidName (pa_cons (pv 0) pa_nil)) (pa_cons (pe_mkV T.ox_InvalidIndex T.oi_InvalidIndex T.ot_InvalidIndex (ok_InvalidIndex_init T) (hr.mono (by decide)) T.kb2_InvalidIndex pass0 (by rfl) T.g_InvalidIndex (pa_cons (pv 0) pa_nil)) (pa_cons (pe_mkV T.ox_InvalidSize T.oi_InvalidSize T.ot_InvalidSize (ok_InvalidSize_init T) (hr.mono (by decide)) T.kb2_InvalidSize pass0 (by rfl) T.g_InvalidSize (pa_cons (pv 0) pa_nil)) (pa_cons (pe_mkV T.ox_InvalidTable T.oi_InvalidTable T.ot_InvalidTable (ok_InvalidTable_init T) (hr.mono (by decide)) T.kb2_InvalidTable pass0 (by rfl) T.g_InvalidTable (pa_cons (pv 0) pa_nil)) pa_nil)))))))
      (pss_cons (ps_set (i := 1) sc_law_placed.nd rfl (Or.inl rfl) (pe_op op_cat (pv 1) (pe_lst (pa_cons (pe_mkV T.ox_InvalidView T.oi_InvalidView T.ot_InvalidView (ok_InvalidView_init T) (hr.mono (by decide)) T.kb2_InvalidView pass0 (by rfl) T.g_InvalidView (pa_cons (pv 0) pa_nil)) (pa_cons (pe_mkV T.ox_InvalidWish T.oi_InvalidWish T.ot_InvalidWish (ok_InvalidWish_init T) (hr.mono (by decide)) T.kb2_InvalidWish pass0 (by rfl) T.g_InvalidWish (pa_cons (pv 0) pa_nil)) (pa_cons (pe_mkV T.ox_NotLot T.oi_NotLot T.ot_NotLot (ok_NotLot_init T) (hr.mono (by decide)) T.kb2_NotLot pass0 (by rfl) T.g_NotLot (pa_cons (pv 0) pa_nil)) (pa_cons (pe_mkV T.ox_InvalidTables T.oi_InvalidTables T.ot_InvalidTables (ok_InvalidTables_init T) (hr.mono (by decide)) T.kb2_InvalidTables pass0 (by rfl) T.g_InvalidTables (pa_cons (pv 0) pa_nil)) (pa_cons (pe_mkV T.ox_InvalidWord T.oi_InvalidWord T.ot_InvalidWord (ok_InvalidWord_init T) (hr.mono (by decide)) T.kb2_InvalidWord pass0 (by rfl) T.g_InvalidWord (pa_cons (pv 0) pa_nil)) pa_nil))))))))
      (pss_cons (ps_set (i := 1) sc_law_placed.nd rfl (Or.inl rfl) (pe_op op_cat (pv 1) (pe_lst (pa_cons (pe_mkV T.ox_InvalidColumns T.oi_InvalidColumns T.ot_InvalidColumns (ok_InvalidColumns_init T) (hr.mono (by decide)) T.kb2_InvalidColumns pass0 (by rfl) T.g_InvalidColumns (pa_cons (pv 0) pa_nil)) (pa_cons (pe_mkV T.ox_InvalidChanges T.oi_InvalidChanges T.ot_InvalidChanges (ok_InvalidChanges_init T) (hr.mono (by decide)) T.kb2_InvalidChanges pass0 (by rfl) T.g_InvalidChanges (pa_cons (pv 0) pa_nil)) (pa_cons (pe_mkV T.ox_InvalidWishes T.oi_InvalidWishes T.ot_InvalidWishes (ok_InvalidWishes_init T) (hr.mono (by decide)) T.kb2_InvalidWishes pass0 (by rfl) T.g_InvalidWishes (pa_cons (pv 0) pa_nil)) (pa_cons (pe_mkV T.ox_UnknownName T.oi_UnknownName T.ot_UnknownName (ok_UnknownName_init T) (hr.mono (by decide)) T.kb2_UnknownName pass0 (by rfl) T.g_UnknownName (pa_cons (pv 0) pa_nil)) pa_nil)))))))
      (pss_cons (ps_set (i := 1) sc_law_placed.nd rfl (Or.inl rfl) (pe_op op_cat (pv 1) (pe_lst (pa_cons (pe_mkV T.ox_InUse T.oi_InUse T.ot_InUse (ok_InUse_init T) (hr.mono (by decide)) T.kb2_InUse pass0 (by rfl) T.g_InUse (pa_cons (pv 0) pa_nil)) (pa_cons (pe_mkV T.ox_NotTriangular T.oi_NotTriangular T.ot_NotTriangular (ok_NotTriangular_init T) (hr.mono (by decide)) T.kb2_NotTriangular pass0 (by rfl) T.g_NotTriangular (pa_cons (pv 0) pa_nil)) (pa_cons (pe_mkV T.ox_OtherSize T.oi_OtherSize T.ot_OtherSize (ok_OtherSize_init T) (hr.mono (by decide)) T.kb2_OtherSize pass0 (by rfl) T.g_OtherSize (pa_cons (pv 0) pa_nil)) (pa_cons (pe_mkV T.ox_TooMany T.oi_TooMany T.ot_TooMany (ok_TooMany_init T) (hr.mono (by decide)) T.kb2_TooMany pass0 (by rfl) T.g_TooMany (pa_cons (pv 0) pa_nil)) pa_nil)))))))
      (pss_one (ps_ret (pe_op op_cat (pv 1) (pe_lst (pa_cons (pe_mk0V PySem.F.excBase_ArithmeticError T.ex_NothingToUndo T.g_NothingToUndo T.kx_NothingToUndo (by rfl)) (pa_cons (pe_mkV T.ox_Broken T.oi_Broken T.ot_Broken (ok_Broken_init T) (hr.mono (by decide)) T.kb2_Broken pass0 (by rfl) T.g_Broken (pa_cons (pv 0) pa_nil)) pa_nil)))))))))), fun z vs F Q hp k q => ?_⟩
  cases hp with
  | cons r mm =>
  cases mm
  have hm := isX_mono T z
  refine q_set k (P := LX (IsX T z) [0, 1, 2, 3, 4]) (evX_lst (is := [0, 1, 2, 3, 4]) (eaX_cons hm (evp 0 (by decide) rfl (by decide +kernel) (ed_var rfl r)) fun F20 e20 => (eaX_cons hm (evp 1 (by decide) rfl (by decide +kernel) (ed_var rfl (r.mono e20))) fun F21 e21 => (eaX_cons hm (evp 2 (by decide) rfl (by decide +kernel) (ed_var rfl ((r.mono e20).mono e21))) fun F22 e22 => (eaX_cons hm (evp 3 (by decide) rfl (by decide +kernel) (ed_var rfl (((r.mono e20).mono e21).mono e22))) fun F23 e23 => (eaX_cons hm (evp 4 (by decide) rfl (by decide +kernel) (ed_var rfl ((((r.mono e20).mono e21).mono e22).mono e23))) fun F24 e24 => eaX_nil))))) hm (by decide)) fun v0 F1 H1 g0 k0 p0 => ?_
  refine q_set k0 (P := LX (IsX T z) [0, 1, 2, 3, 4, 5, 6, 7, 8, 9]) (evX_cat hm (is := [0, 1, 2, 3, 4]) (js := [5, 6, 7, 8, 9]) (EV.imp (ev_var (P := LX (IsX T z) [0, 1, 2, 3, 4]) rfl fun F9 e9 => p0.mono hm e9) fun _ _ p => p) (fun FF ee => evX_lst (is := [5, 6, 7, 8, 9]) (eaX_cons hm (evp 5 (by decide) rfl (by decide +kernel) (ed_var rfl ((r.mono g0.f).mono ee))) fun F20 e20 => (eaX_cons hm (evp 6 (by decide) rfl (by decide +kernel) (ed_var rfl (((r.mono g0.f).mono ee).mono e20))) fun F21 e21 => (eaX_cons hm (evp 7 (by decide) rfl (by decide +kernel) (ed_var rfl ((((r.mono g0.f).mono ee).mono e20).mono e21))) fun F22 e22 => (eaX_cons hm (evp 8 (by decide) rfl (by decide +kernel) (ed_var rfl (((((r.mono g0.f).mono ee).mono e20).mono e21).mono e22))) fun F23 e23 => (eaX_cons hm (evp 9 (by decide) rfl (by decide +kernel) (ed_var rfl ((((((r.mono g0.f).mono ee).mono e20).mono e21).mono e22).mono e23))) fun F24 e24 => eaX_nil))))) hm (by decide)) (by decide)) fun v1 F2 H2 g1 k1 p1 => ?_
  refine q_set k1 (P := LX (IsX T z) [0, 1, 2, 3, 4, 5, 6, 7, 8, 9, 10, 11, 12, 13]) (evX_cat hm (is := [0, 1, 2, 3, 4, 5, 6, 7, 8, 9]) (js := [10, 11, 12, 13]) (EV.imp (ev_var (P := LX (IsX T z) [0, 1, 2, 3, 4, 5, 6, 7, 8, 9]) rfl fun F9 e9 => p1.mono hm e9) fun _ _ p => p) (fun FF ee => evX_lst (is := [10, 11, 12, 13]) (eaX_cons hm (evp 10 (by decide) rfl (by decide +kernel) (ed_var rfl (((r.mono g0.f).mono g1.f).mono ee))) fun F20 e20 => (eaX_cons hm (evp 11 (by decide) rfl (by decide +kernel) (ed_var rfl ((((r.mono g0.f).mono g1.f).mono ee).mono e20))) fun F21 e21 => (eaX_cons hm (evp 12 (by decide) rfl (by decide +kernel) (ed_var rfl (((((r.mono g0.f).mono g1.f).mono ee).mono e20).mono e21))) fun F22 e22 => (eaX_cons hm (evp 13 (by decide) rfl (by decide +kernel) (ed_var rfl ((((((r.mono g0.f).mono g1.f).mono ee).mono e20).mono e21).mono e22))) fun F23 e23 => eaX_nil)))) hm (by decide)) (by decide)) fun v2 F3 H3 g2 k2 p2 => ?_
  refine q_set k2 (P := LX (IsX T z) [0, 1, 2, 3, 4, 5, 6, 7, 8, 9, 10, 11, 12, 13, 14, 15, 16, 17]) (evX_cat hm (is := [0, 1, 2, 3, 4, 5, 6, 7, 8, 9, 10, 11, 12, 13]) (js := [14, 15, 16, 17]) (EV.imp (ev_var (P := LX (IsX T z) [0, 1, 2, 3, 4, 5, 6, 7, 8, 9, 10, 11, 12, 13]) rfl fun F9 e9 => p2.mono hm e9) fun _ _ p => p) (fun FF ee => evX_lst (is := [14, 15, 16, 17]) (eaX_cons hm (evp 14 (by decide) rfl (by decide +kernel) (ed_var rfl ((((r.mono g0.f).mono g1.f).mono g2.f).mono ee))) fun F20 e20 => (eaX_cons hm (evp 15 (by decide) rfl (by decide +kernel) (ed_var rfl (((((r.mono g0.f).mono g1.f).mono g2.f).mono ee).mono e20))) fun F21 e21 => (eaX_cons hm (evp 16 (by decide) rfl (by decide +kernel) (ed_var rfl ((((((r.mono g0.f).mono g1.f).mono g2.f).mono ee).mono e20).mono e21))) fun F22 e22 => (eaX_cons hm (evp 17 (by decide) rfl (by decide +kernel) (ed_var rfl (((((((r.mono g0.f).mono g1.f).mono g2.f).mono ee).mono e20).mono e21).mono e22))) fun F23 e23 => eaX_nil)))) hm (by decide)) (by decide)) fun v3 F4 H4 g3 k3 p3 => ?_
  exact s_ret k3 (evX_cat hm (is := [0, 1, 2, 3, 4, 5, 6, 7, 8, 9, 10, 11, 12, 13, 14, 15, 16, 17]) (js := [18, 19]) (EV.imp (ev_var (P := LX (IsX T z) [0, 1, 2, 3, 4, 5, 6, 7, 8, 9, 10, 11, 12, 13, 14, 15, 16, 17]) rfl fun F9 e9 => p3.mono hm e9) fun _ _ p => p) (fun FF ee => evX_lst (is := [18, 19]) (eaX_cons hm (ev0 rfl) fun F20 e20 => (eaX_cons hm (evp 19 (by decide) rfl (by decide +kernel) (ed_var rfl ((((((r.mono g0.f).mono g1.f).mono g2.f).mono g3.f).mono ee).mono e20))) fun F21 e21 => eaX_nil)) hm (by decide)) (by decide)) fun v F' H' g k' p => q v F' H' ((((g0.trans g1).trans g2).trans g3).trans g) p
theorem ok_law_named (T : Txt K mg) : FnOk P w K mg base CX0 3 T.a_law_named T.d_law_named ["_law_thing_here"] (spMk T) := by
  refine gen_ok T.F_law_named sc_law_named (fun i vs F h => h.len) fun cdv A outer s H E hr => ⟨_, (pss_cons (ps_set (i := 1) sc_law_named.nd rfl (Or.inl rfl) (pe_lst (pa_cons (pe_mkVK T.ox_InvalidText T.oi_InvalidText T.ot_InvalidText (ok_InvalidText_init T) (hr.mono (by decide)) T.kb1_InvalidText pass0 (by rfl) T.g_InvalidText (pk_cons (pv 0) pk_nil)) (pa_cons (pe_mkVK T.ox_InvalidName T.oi_InvalidName T.ot_InvalidName (ok_InvalidName_init T) (hr.mono (by decide)) T.kb1_InvalidName pass0 (by rfl) T.g_InvalidName (pk_cons (pv 0) pk_nil)) (pa_cons (pe_mkVK T.ox_InvalidIndex T.oi_InvalidIndex T.ot_InvalidIndex (ok_InvalidIndex_init T) (hr.mono (by decide)) T.kb1_InvalidIndex pass0 (by rfl) T.g_InvalidIndex (pk_cons (pv 0) pk_nil)) (pa_cons (pe_mkVK T.ox_InvalidSize T.oi_InvalidSize T.ot_InvalidSize (ok_InvalidSize_init T) (hr.mono (by decide)) T.kb1_InvalidSize pass0 (by rfl) T.g_InvalidSize (pk_cons (pv 0) pk_nil)) pa_nil))))))
      (pss_cons (ps_set (i := 1) sc_law_named.nd rfl (Or.inl rfl) (pe_op op_cat (pv 1) (pe_lst (pa_cons (pe_mkVK T.ox_InvalidTable T.oi_InvalidTable T.ot_InvalidTable (ok_InvalidTable_init T) (hr.mono (by decide)) T.kb1_InvalidTable pass0 (by rfl) T.g_InvalidTable (pk_cons (pv 0) pk_nil)) (pa_cons (pe_mkVK T.ox_InvalidView T.oi_InvalidView T.ot_InvalidView (ok_InvalidView_init T) (hr.mono (by decide)) T.kb1_InvalidView pass0 (by rfl) T.g_InvalidView (pk_cons (pv 0) pk_nil)) (pa_cons (pe_mkVK T.ox_InvalidWish T.oi_InvalidWish T.ot_InvalidWish (ok_InvalidWish_init T) (hr.mono (by decide)) T.kb1_InvalidWish pass0 (by rfl) T.g_InvalidWish (pk_cons (pv 0) pk_nil)) pa_nil))))))
      (pss_cons (ps_set (i := 1) sc_law_named.nd rfl (Or.inl rfl) (pe_op op_cat (pv 1) (pe_lst (pa_cons (pe_mkVK T.ox_NotLot T.oi_NotLot T.ot_NotLot (ok_NotLot_init T) (hr.mono (by decide)) T.kb1_NotLot pass0 (by rfl) T.g_NotLot (pk_cons (pv 0) pk_nil)) (pa_cons (pe_mkVK T.ox_InvalidTables T.oi_InvalidTables T.ot_InvalidTables (ok_InvalidTables_init T) (hr.mono (by decide)) T.kb1_InvalidTables pass0 (by rfl) T.g_InvalidTables (pk_cons (pv 0) pk_nil)) (pa_cons (pe_mkVK T.ox_InvalidWord T.oi_InvalidWord T.ot_InvalidWord (ok_InvalidWord_init T) (hr.mono (by decide)) T.kb1_InvalidWord pass0 (by rfl) T.g_InvalidWord (pk_cons (pv 0) pk_nil)) pa_nil))))))
      (pss_cons (ps_set (i := 1) sc_law_named.nd rfl (Or.inl rfl) (pe_op op_cat (pv 1) (pe_lst (pa_cons (pe_mkVK T.ox_InvalidColumns T.oi_InvalidColumns T.ot_InvalidColumns (ok_InvalidColumns_init T) (hr.mono (by decide)) T.kb1_InvalidColumns pass0 (by rfl) T.g_InvalidColumns (pk_cons (pv 0) pk_nil)) (pa_cons (pe_mkVK T.ox_InvalidChanges T.oi_InvalidChanges T.ot_InvalidChanges (ok_InvalidChanges_init T) (hr.mono (by decide)) T.kb1_InvalidChanges pass0 (by rfl) T.g_InvalidChanges (pk_cons (pv 0) pk_nil)) (pa_cons (pe_mkVK T.ox_InvalidWishes T.oi_InvalidWishes T.ot_InvalidWishes (ok_InvalidWishes_init T) (hr.mono (by decide)) T.kb1_InvalidWishes pass0 (by rfl) T.g_InvalidWishes (pk_cons (pv 0) pk_nil)) pa_nil))))))
      (pss_cons (ps_set (i := 1) sc_law_named.nd rfl (Or.inl rfl) (pe_op op_cat (pv 1) (pe_lst (pa_cons (pe_mkVK T.ox_UnknownName T.oi_UnknownName T.ot_UnknownName (ok_UnknownName_init T) (hr.mono (by decide)) T.kb1_UnknownName pass0 (by rfl) T.g_UnknownName (pk_cons (pv 0) pk_nil)) (pa_cons (pe_mkVK T.ox_InUse T.oi_InUse T.ot_InUse (ok_InUse_init T) (hr.mono (by decide)) T.kb1_InUse pass0 (by rfl) T.g_InUse (pk_cons (pv 0) pk_nil)) (pa_cons (pe_mkVK T.ox_NotTriangular T.oi_NotTriangular T.ot_NotTriangular (ok_NotTriangular_init T) (hr.mono (by decide)) T.kb1_NotTriangular pass0 (by rfl) T.g_NotTriangular (pk_cons (pv 0) pk_nil)) (pa_cons (pe_mkVK T.ox_OtherSize T.oi_OtherSize T.ot_OtherSize (ok_OtherSize_init T) (hr.mono (by decide)) T.kb1_OtherSize pass0 (by rfl) T.g_OtherSize (pk_cons (pv 0) pk_nil)) pa_nil)))))))
      (pss_one (ps_ret (pe_op op_cat (pv 1) (pe_lst (pa_cons (pe_mkVK T.ox_TooMany T.oi_TooMany T.ot_TooMany (ok_TooMany_init T) (hr.mono (by decide)) T.kb1_TooMany pass0 (by rfl) T.g_TooMany (pk_cons (pv 0) pk_nil)) (pa_cons (pe_mk0V PySem.F.excBase_ArithmeticError T.ex_NothingToUndo T.g_NothingToUndo T.kx_NothingToUndo (by rfl)) (pa_cons (pe_mkVK T.ox_Broken T.oi_Broken T.ot_Broken (ok_Broken_init T) (hr.mono (by decide)) T.kb1_Broken pass0 (by rfl) T.g_Broken (pk_cons (pv 0) pk_nil)) pa_nil)))))))))))), fun z vs F Q hp k q => ?_⟩
  cases hp with
  | cons r mm =>
  cases mm
  have hm := isX_mono T z
  refine q_set k (P := LX (IsX T z) [0, 1, 2, 3]) (evX_lst (is := [0, 1, 2, 3]) (eaX_cons hm (evk 0 (by decide) rfl (by decide +kernel) (ed_var rfl r)) fun F20 e20 => (eaX_cons hm (evk 1 (by decide) rfl (by decide +kernel) (ed_var rfl (r.mono e20))) fun F21 e21 => (eaX_cons hm (evk 2 (by decide) rfl (by decide +kernel) (ed_var rfl ((r.mono e20).mono e21))) fun F22 e22 => (eaX_cons hm (evk 3 (by decide) rfl (by decide +kernel) (ed_var rfl (((r.mono e20).mono e21).mono e22))) fun F23 e23 => eaX_nil)))) hm (by decide)) fun v0 F1 H1 g0 k0 p0 => ?_
  refine q_set k0 (P := LX (IsX T z) [0, 1, 2, 3, 4, 5, 6]) (evX_cat hm (is := [0, 1, 2, 3]) (js := [4, 5, 6]) (EV.imp (ev_var (P := LX (IsX T z) [0, 1, 2, 3]) rfl fun F9 e9 => p0.mono hm e9) fun _ _ p => p) (fun FF ee => evX_lst (is := [4, 5, 6]) (eaX_cons hm (evk 4 (by decide) rfl (by decide +kernel) (ed_var rfl ((r.mono g0.f).mono ee))) fun F20 e20 => (eaX_cons hm (evk 5 (by decide) rfl (by decide +kernel) (ed_var rfl (((r.mono g0.f).mono ee).mono e20))) fun F21 e21 => (eaX_cons hm (evk 6 (by decide) rfl (by decide +kernel) (ed_var rfl ((((r.mono g0.f).mono ee).mono e20).mono e21))) fun F22 e22 => eaX_nil))) hm (by decide)) (by decide)) fun v1 F2 H2 g1 k1 p1 => ?_
  refine q_set k1 (P := LX (IsX T z) [0, 1, 2, 3, 4, 5, 6, 7, 8, 9]) (evX_cat hm (is := [0, 1, 2, 3, 4, 5, 6]) (js := [7, 8, 9]) (EV.imp (ev_var (P := LX (IsX T z) [0, 1, 2, 3, 4, 5, 6]) rfl fun F9 e9 => p1.mono hm e9) fun _ _ p => p) (fun FF ee => evX_lst (is := [7, 8, 9]) (eaX_cons hm (evk 7 (by decide) rfl (by decide +kernel) (ed_var rfl (((r.mono g0.f).mono g1.f).mono ee))) fun F20 e20 => (eaX_cons hm (evk 8 (by decide) rfl (by decide +kernel) (ed_var rfl ((((r.mono g0.f).mono g1.f).mono ee).mono e20))) fun F21 e21 => (eaX_cons hm (evk 9 (by decide) rfl (by decide +kernel) (ed_var rfl (((((r.mono g0.f).mono g1.f).mono ee).mono e20).mono e21))) fun F22 e22 => eaX_nil))) hm (by decide)) (by decide)) fun v2 F3 H3 g2 k2 p2 => ?_
  refine q_set k2 (P := LX (IsX T z) [0, 1, 2, 3, 4, 5, 6, 7, 8, 9, 10, 11, 12]) (evX_cat hm (is := [0, 1, 2, 3, 4, 5, 6, 7, 8, 9]) (js := [10, 11, 12]) (EV.imp (ev_var (P := LX (IsX T z) [0, 1, 2, 3, 4, 5, 6, 7, 8, 9]) rfl fun F9 e9 => p2.mono hm e9) fun _ _ p => p) (fun FF ee => evX_lst (is := [10, 11, 12]) (eaX_cons hm (evk 10 (by decide) rfl (by decide +kernel) (ed_var rfl ((((r.mono g0.f).mono g1.f).mono g2.f).mono ee))) fun F20 e20 => (eaX_cons hm (evk 11 (by decide) rfl (by decide +kernel) (ed_var rfl (((((r.mono g0.f).mono g1.f).mono g2.f).mono ee).mono e20))) fun F21 e21 => (eaX_cons hm (evk 12 (by decide) rfl (by decide +kernel) (ed_var rfl ((((((r.mono g0.f).mono g1.f).mono g2.f).mono ee).mono e20).mono e21))) fun F22 e22 => eaX_nil))) hm (by decide)) (by decide)) fun v3 F4 H4 g3 k3 p3 => ?_
  refine q_set k3 (P := LX (IsX T z) [0, 1, 2, 3, 4, 5, 6, 7, 8, 9, 10, 11, 12, 13, 14, 15, 16]) (evX_cat hm (is := [0, 1, 2, 3, 4, 5, 6, 7, 8, 9, 10, 11, 12]) (js := [13, 14, 15, 16]) (EV.imp (ev_var (P := LX (IsX T z) [0, 1, 2, 3, 4, 5, 6, 7, 8, 9, 10, 11, 12]) rfl fun F9 e9 => p3.mono hm e9) fun _ _ p => p) (fun FF ee => evX_lst (is := [13, 14, 15, 16]) (eaX_cons hm (evk 13 (by decide) rfl (by decide +kernel) (ed_var rfl (((((r.mono g0.f).mono g1.f).mono g2.f).mono g3.f).mono ee))) fun F20 e20 => (eaX_cons hm (evk 14 (by decide) rfl (by decide +kernel) (ed_var rfl ((((((r.mono g0.f).mono g1.f).mono g2.f).mono g3.f).mono ee).mono e20))) fun F21 e21 => (eaX_cons hm (evk 15 (by decide) rfl (by decide +kernel) (ed_var rfl (((((((r.mono g0.f).mono g1.f).mono g2.f).mono g3.f).mono ee).mono e20).mono e21))) fun F22 e22 => (eaX_cons hm (evk 16 (by decide) rfl (by decide +kernel) (ed_var rfl ((((((((r.mono g0.f).mono g1.f).mono g2.f).mono g3.f).mono ee).mono e20).mono e21).mono e22))) fun F23 e23 => eaX_nil)))) hm (by decide)) (by decide)) fun v4 F5 H5 g4 k4 p4 => ?_
  exact s_ret k4 (evX_cat hm (is := [0, 1, 2, 3, 4, 5, 6, 7, 8, 9, 10, 11, 12, 13, 14, 15, 16]) (js := [17, 18, 19]) (EV.imp (ev_var (P := LX (IsX T z) [0, 1, 2, 3, 4, 5, 6, 7, 8, 9, 10, 11, 12, 13, 14, 15, 16]) rfl fun F9 e9 => p4.mono hm e9) fun _ _ p => p) (fun FF ee => evX_lst (is := [17, 18, 19]) (eaX_cons hm (evk 17 (by decide) rfl (by decide +kernel) (ed_var rfl ((((((r.mono g0.f).mono g1.f).mono g2.f).mono g3.f).mono g4.f).mono ee))) fun F20 e20 => (eaX_cons hm (ev0 rfl) fun F21 e21 => (eaX_cons hm (evk 19 (by decide) rfl (by decide +kernel) (ed_var rfl ((((((((r.mono g0.f).mono g1.f).mono g2.f).mono g3.f).mono g4.f).mono ee).mono e20).mono e21))) fun F22 e22 => eaX_nil))) hm (by decide)) (by decide)) fun v F' H' g k' p => q v F' H' (((((g0.trans g1).trans g2).trans g3).trans g4).trans g) p

end
end P1
set_option Elab.async false
set_option linter.all false
set_option maxRecDepth 100000
set_option maxHeartbeats 4000000
namespace P1
open PySem PySem.Spec L2 Wk Lt Mt
section
variable {P : Program} {w : World} {K : PySem.W.Frag} {mg : Str → Option Value} {base : Heap}
abbrev spFl (T : Txt K mg) : Sp := spG (ι := Nat × PyData) (fun i vs F => ∃ v, vs = [v] ∧ IsX T i.2 i.1 v F) (fun i v F => Rp K F v (.list ((List.range 20).map fun j => .bool (decide (i.1 = j)))))
theorem ok_law_flags (T : Txt K mg) : FnOk P w K mg base CX0 1 T.a_law_flags T.d_law_flags ["_law_e"] (spFl T) := by
  refine gen_ok T.F_law_flags sc_law_flags (fun i vs F h => by obtain ⟨v, rfl, _⟩ := h; rfl) fun cdv A outer s H E hr => ⟨_, (pss_cons (ps_set (i := 1) sc_law_flags.nd rfl (Or.inl rfl) (pe_lst (pa_cons (pe_callB (cV_is K rfl) (by rfl) T.n_isinstance (by decide +kernel) (pa_cons (pv 0) (pa_cons (pe_glob (v := .ref T.a_InvalidText) rfl T.g_InvalidText rfl) pa_nil))) (pa_cons (pe_callB (cV_is K rfl) (by rfl) T.n_isinstance (by decide +kernel) (pa_cons (pv 0) (pa_cons (pe_glob (v := .ref T.a_InvalidName) rfl T.g_InvalidName rfl) pa_nil))) (pa_cons (pe_callB (cV_is K rfl) (by rfl) T.n_isinstance (by decide +kernel) (pa_cons (pv 0) (pa_cons (pe_glob (v := .ref T.a_InvalidIndex) rfl T.g_InvalidIndex rfl) pa_nil))) pa_nil)))))
      (pss_cons (ps_set (i := 1) sc_law_flags.nd rfl (Or.inl rfl) (pe_op op_cat (pv 1) (pe_lst (pa_cons (pe_callB (cV_is K rfl) (by rfl) T.n_isinstance (by decide +kernel) (pa_cons (pv 0) (pa_cons (pe_glob (v := .ref T.a_InvalidSize) rfl T.g_InvalidSize rfl) pa_nil))) (pa_cons (pe_callB (cV_is K rfl) (by rfl) T.n_isinstance (by decide +kernel) (pa_cons (pv 0) (pa_cons (pe_glob (v := .ref T.a_InvalidTable) rfl T.g_InvalidTable rfl) pa_nil))) (pa_cons (pe_callB (cV_is K rfl) (by rfl) T.n_isinstance (by decide +kernel) (pa_cons (pv 0) (pa_cons (pe_glob (v := .ref T.a_InvalidView) rfl T.g_InvalidView rfl) pa_nil))) pa_nil))))))
      (pss_cons (ps_set (i := 1) sc_law_flags.nd rfl (Or.inl rfl) (pe_op op_cat (pv 1) (pe_lst (pa_cons (pe_callB (cV_is K rfl) (by rfl) T.n_isinstance (by decide +kernel) (pa_cons (pv 0) (pa_cons (pe_glob (v := .ref T.a_InvalidWish) rfl T.g_InvalidWish rfl) pa_nil))) (pa_cons (pe_callB (cV_is K rfl) (by rfl) T.n_isinstance (by decide +kernel) (pa_cons (pv 0) (pa_cons (pe_glob (v := .ref T.a_NotLot) rfl T.g_NotLot rfl) pa_nil))) (pa_cons (pe_callB (cV_is K rfl) (by rfl) T.n_isinstance (by decide +kernel) (pa_cons (pv 0) (pa_cons (pe_glob (v := .ref T.a_InvalidTables) rfl T.g_InvalidTables rfl) pa_nil))) pa_nil))))))
      (pss_cons (ps_set (i := 1) sc_law_flags.nd rfl (Or.inl rfl) (pe_op op_cat (pv 1) (pe_lst (pa_cons (pe_callB (cV_is K rfl) (by rfl) T.n_isinstance (by decide +kernel) (pa_cons (pv 0) (pa_cons (pe_glob (v := .ref T.a_InvalidWord) rfl T.g_InvalidWord rfl) pa_nil))) (pa_cons (pe_callB (cV_is K rfl) (by rfl) T.n_isinstance (by decide +kernel) (pa_cons (pv 0) (pa_cons (pe_glob (v := .ref T.a_InvalidColumns) rfl T.g_InvalidColumns rfl) pa_nil))) (pa_cons (pe_callB (cV_is K rfl) (by rfl) T.n_isinstance (by decide +kernel) (pa_cons (pv 0) (pa_cons (pe_glob (v := .ref T.a_InvalidChanges) rfl T.g_InvalidChanges rfl) pa_nil))) pa_nil))))))
      (pss_cons (ps_set (i := 1) sc_law_flags.nd rfl (Or.inl rfl) (pe_op op_cat (pv 1) (pe_lst (pa_cons (pe_callB (cV_is K rfl) (by rfl) T.n_isinstance (by decide +kernel) (pa_cons (pv 0) (pa_cons (pe_glob (v := .ref T.a_InvalidWishes) rfl T.g_InvalidWishes rfl) pa_nil))) (pa_cons (pe_callB (cV_is K rfl) (by rfl) T.n_isinstance (by decide +kernel) (pa_cons (pv 0) (pa_cons (pe_glob (v := .ref T.a_UnknownName) rfl T.g_UnknownName rfl) pa_nil))) (pa_cons (pe_callB (cV_is K rfl) (by rfl) T.n_isinstance (by decide +kernel) (pa_cons (pv 0) (pa_cons (pe_glob (v := .ref T.a_InUse) rfl T.g_InUse rfl) pa_nil))) pa_nil))))))
      (pss_cons (ps_set (i := 1) sc_law_flags.nd rfl (Or.inl rfl) (pe_op op_cat (pv 1) (pe_lst (pa_cons (pe_callB (cV_is K rfl) (by rfl) T.n_isinstance (by decide +kernel) (pa_cons (pv 0) (pa_cons (pe_glob (v := .ref T.a_NotTriangular) rfl T.g_NotTriangular rfl) pa_nil))) (pa_cons (pe_callB (cV_is K rfl) (by rfl) T.n_isinstance (by decide +kernel) (pa_cons (pv 0) (pa_cons (pe_glob (v := .ref T.a_OtherSize) rfl T.g_OtherSize rfl) pa_nil))) (pa_cons (pe_callB (cV_is K rfl) (by rfl) T.n_isinstance (by decide +kernel) (pa_cons (pv 0) (pa_cons (pe_glob (v := .ref T.a_TooMany) rfl T.g_TooMany rfl) pa_nil))) pa_nil))))))
      (pss_one (ps_ret (pe_op op_cat (pv 1) (pe_lst (pa_cons (pe_callB (cV_is K rfl) (by rfl) T.n_isinstance (by decide +kernel) (pa_cons (pv 0) (pa_cons (pe_glob (v := .ref T.a_NothingToUndo) rfl T.g_NothingToUndo rfl) pa_nil))) (pa_cons (pe_callB (cV_is K rfl) (by rfl) T.n_isinstance (by decide +kernel) (pa_cons (pv 0) (pa_cons (pe_glob (v := .ref T.a_Broken) rfl T.g_Broken rfl) pa_nil))) pa_nil)))))))))))), fun i vs F Q hp k q => ?_⟩
  obtain ⟨i, z⟩ := i
  obtain ⟨v, rfl, hx⟩ := hp
  have hx : IsX T z i v F := hx
  have hi := hx.1
  obtain ⟨a, rfl, hat⟩ := hx.at
  have ek : ∀ {σ : St} {F' : Hp} {C : Addr} (j : Nat), j < 20 → xC T j = C → σ[0]? = some (some (.ref a)) → Same F F' → ED K w0 (tCB (rIsV K) (tCons (tVar 0) (tCons (tC (.ref C)) tNil))) σ F' (.bool (decide (i = j))) := fun {σ F' C} j hj hC h0 e => by
    subst hC
    exact ed_isV (xd_at T (i := i) (by omega)) (ed'_var h0) (ev_c fun _ => rfl) (fun u h => h) (kit_at T hi hj) (hat.mono e)
  refine q_set k (P := fun v F' => Rp K F' v (.list [.bool (decide (i = 0)), .bool (decide (i = 1)), .bool (decide (i = 2))])) (ed_lst (ds := [.bool (decide (i = 0)), .bool (decide (i = 1)), .bool (decide (i = 2))]) (eda_cons (ek 0 (by decide) rfl rfl (Same.refl _)) (eda_cons (ek 1 (by decide) rfl rfl (Same.refl _)) (eda_cons (ek 2 (by decide) rfl rfl (Same.refl _)) eda_nil))) (show 3 ≤ 100000 by decide)) fun v0 F1 H1 g0 k0 p0 => ?_
  refine q_set k0 (P := fun v F' => Rp K F' v (.list [.bool (decide (i = 0)), .bool (decide (i = 1)), .bool (decide (i = 2)), .bool (decide (i = 3)), .bool (decide (i = 4)), .bool (decide (i = 5))])) (ed_cat (ds := [.bool (decide (i = 0)), .bool (decide (i = 1)), .bool (decide (i = 2))]) (es := [.bool (decide (i = 3)), .bool (decide (i = 4)), .bool (decide (i = 5))]) (ed_var rfl p0) (ed_lst (ds := [.bool (decide (i = 3)), .bool (decide (i = 4)), .bool (decide (i = 5))]) (eda_cons (ek 3 (by decide) rfl rfl g0.f) (eda_cons (ek 4 (by decide) rfl rfl g0.f) (eda_cons (ek 5 (by decide) rfl rfl g0.f) eda_nil))) (show 3 ≤ 100000 by decide)) (show 3 + 3 ≤ 100000 by decide)) fun v1 F2 H2 g1 k1 p1 => ?_
  refine q_set k1 (P := fun v F' => Rp K F' v (.list [.bool (decide (i = 0)), .bool (decide (i = 1)), .bool (decide (i = 2)), .bool (decide (i = 3)), .bool (decide (i = 4)), .bool (decide (i = 5)), .bool (decide (i = 6)), .bool (decide (i = 7)), .bool (decide (i = 8))])) (ed_cat (ds := [.bool (decide (i = 0)), .bool (decide (i = 1)), .bool (decide (i = 2)), .bool (decide (i = 3)), .bool (decide (i = 4)), .bool (decide (i = 5))]) (es := [.bool (decide (i = 6)), .bool (decide (i = 7)), .bool (decide (i = 8))]) (ed_var rfl p1) (ed_lst (ds := [.bool (decide (i = 6)), .bool (decide (i = 7)), .bool (decide (i = 8))]) (eda_cons (ek 6 (by decide) rfl rfl (g0.trans g1).f) (eda_cons (ek 7 (by decide) rfl rfl (g0.trans g1).f) (eda_cons (ek 8 (by decide) rfl rfl (g0.trans g1).f) eda_nil))) (show 3 ≤ 100000 by decide)) (show 6 + 3 ≤ 100000 by decide)) fun v2 F3 H3 g2 k2 p2 => ?_
  refine q_set k2 (P := fun v F' => Rp K F' v (.list [.bool (decide (i = 0)), .bool (decide (i = 1)), .bool (decide (i = 2)), .bool (decide (i = 3)), .bool (decide (i = 4)), .bool (decide (i = 5)), .bool (decide (i = 6)), .bool (decide (i = 7)), .bool (decide (i = 8)), .bool (decide (i = 9)), .bool (decide (i = 10)), .bool (decide (i = 11))])) (ed_cat (ds := [.bool (decide (i = 0)), .bool (decide (i = 1)), .bool (decide (i = 2)), .bool (decide (i = 3)), .bool (decide (i = 4)), .bool (decide (i = 5)), .bool (decide (i = 6)), .bool (decide (i = 7)), .bool (decide (i = 8))]) (es := [.bool (decide (i = 9)), .bool (decide (i = 10)), .bool (decide (i = 11))]) (ed_var rfl p2) (ed_lst (ds := [.bool (decide (i = 9)), .bool (decide (i = 10)), .bool (decide (i = 11))]) (eda_cons (ek 9 (by decide) rfl rfl ((g0.trans g1).trans g2).f) (eda_cons (ek 10 (by decide) rfl rfl ((g0.trans g1).trans g2).f) (eda_cons (ek 11 (by decide) rfl rfl ((g0.trans g1).trans g2).f) eda_nil))) (show 3 ≤ 100000 by decide)) (show 9 + 3 ≤ 100000 by decide)) fun v3 F4 H4 g3 k3 p3 => ?_
  refine q_set k3 (P := fun v F' => Rp K F' v (.list [.bool (decide (i = 0)), .bool (decide (i = 1)), .bool (decide (i = 2)), .bool (decide (i = 3)), .bool (decide (i = 4)), .bool (decide (i = 5)), .bool (decide (i = 6)), .bool (decide (i = 7)), .bool (decide (i = 8)), .bool (decide (i = 9)), .bool (decide (i = 10)), .bool (decide (i = 11)), .bool (decide (i = 12)), .bool (decide (i = 13)), .bool (decide (i = 14))])) (ed_cat (ds := [.bool (decide (i = 0)), .bool (decide (i = 1)), .bool (decide (i = 2)), .bool (decide (i = 3)), .bool (decide (i = 4)), .bool (decide (i = 5)), .bool (decide (i = 6)), .bool (decide (i = 7)), .bool (decide (i = 8)), .bool (decide (i = 9)), .bool (decide (i = 10)), .bool (decide (i = 11))]) (es := [.bool (decide (i = 12)), .bool (decide (i = 13)), .bool (decide (i = 14))]) (ed_var rfl p3) (ed_lst (ds := [.bool (decide (i = 12)), .bool (decide (i = 13)), .bool (decide (i = 14))]) (eda_cons (ek 12 (by decide) rfl rfl (((g0.trans g1).trans g2).trans g3).f) (eda_cons (ek 13 (by decide) rfl rfl (((g0.trans g1).trans g2).trans g3).f) (eda_cons (ek 14 (by decide) rfl rfl (((g0.trans g1).trans g2).trans g3).f) eda_nil))) (show 3 ≤ 100000 by decide)) (show 12 + 3 ≤ 100000 by decide)) fun v4 F5 H5 g4 k4 p4 => ?_
  refine q_set k4 (P := fun v F' => Rp K F' v (.list [.bool (decide (i = 0)), .bool (decide (i = 1)), .bool (decide (i = 2)), .bool (decide (i = 3)), .bool (decide (i = 4)), .bool (decide (i = 5)), .bool (decide (i = 6)), .bool (decide (i = 7)), .bool (decide (i = 8)), .bool (decide (i = 9)), .bool (decide (i = 10)), .bool (decide (i = 11)), .bool (decide (i = 12)), .bool (decide (i = 13)), .bool (decide (i = 14)), .bool (decide (i = 15)), .bool (decide (i = 16)), .bool (decide (i = 17))])) (ed_cat (ds := [.bool (decide (i = 0)), .bool (decide (i = 1)), .bool (decide (i = 2)), .bool (decide (i = 3)), .bool (decide (i = 4)), .bool (decide (i = 5)), .bool (decide (i = 6)), .bool (decide (i = 7)), .bool (decide (i = 8)), .bool (decide (i = 9)), .bool (decide (i = 10)), .bool (decide (i = 11)), .bool (decide (i = 12)), .bool (decide (i = 13)), .bool (decide (i = 14))]) (es := [.bool (decide (i = 15)), .bool (decide (i = 16)), .bool (decide (i = 17))]) (ed_var rfl p4) (ed_lst (ds := [.bool (decide (i = 15)), .bool (decide (i = 16)), .bool (decide (i = 17))]) (eda_cons (ek 15 (by decide) rfl rfl ((((g0.trans g1).trans g2).trans g3).trans g4).f) (eda_cons (ek 16 (by decide) rfl rfl ((((g0.trans g1).trans g2).trans g3).trans g4).f) (eda_cons (ek 17 (by decide) rfl rfl ((((g0.trans g1).trans g2).trans g3).trans g4).f) eda_nil))) (show 3 ≤ 100000 by decide)) (show 15 + 3 ≤ 100000 by decide)) fun v5 F6 H6 g5 k5 p5 => ?_
  exact s_ret k5 (ed_cat (ds := [.bool (decide (i = 0)), .bool (decide (i = 1)), .bool (decide (i = 2)), .bool (decide (i = 3)), .bool (decide (i = 4)), .bool (decide (i = 5)), .bool (decide (i = 6)), .bool (decide (i = 7)), .bool (decide (i = 8)), .bool (decide (i = 9)), .bool (decide (i = 10)), .bool (decide (i = 11)), .bool (decide (i = 12)), .bool (decide (i = 13)), .bool (decide (i = 14)), .bool (decide (i = 15)), .bool (decide (i = 16)), .bool (decide (i = 17))]) (es := [.bool (decide (i = 18)), .bool (decide (i = 19))]) (ed_var rfl p5) (ed_lst (ds := [.bool (decide (i = 18)), .bool (decide (i = 19))]) (eda_cons (ek 18 (by decide) rfl rfl (((((g0.trans g1).trans g2).trans g3).trans g4).trans g5).f) (eda_cons (ek 19 (by decide) rfl rfl (((((g0.trans g1).trans g2).trans g3).trans g4).trans g5).f) eda_nil)) (show 2 ≤ 100000 by decide)) (show 18 + 2 ≤ 100000 by decide)) fun v F' H' g k' p => q v F' H' ((((((g0.trans g1).trans g2).trans g3).trans g4).trans g5).trans g) p
abbrev spBa (T : Txt K mg) : Sp := spG (ι := Nat) (fun i vs F => i < 23 ∧ ∃ a, vs = [.ref a] ∧ XAt F a (xC T i)) (fun i v F => Rp K F v (.list ((List.range 6).map fun j => .bool (decide (j % 3 = baseNo i)))))
theorem ok_law_bases (T : Txt K mg) : FnOk P w K mg base CX0 1 T.a_law_bases T.d_law_bases ["_law_e"] (spBa T) := by
  refine gen_ok T.F_law_bases sc_law_bases (fun i vs F h => by obtain ⟨_, v, rfl, _⟩ := h; rfl) fun cdv A outer s H E hr => ⟨_, (pss_cons (ps_set (i := 1) sc_law_bases.nd rfl (Or.inl rfl) (pe_lst (pa_cons (pe_callB (cV_is K rfl) (by rfl) T.n_isinstance (by decide +kernel) (pa_cons (pv 0) (pa_cons (pe_glob (v := .ref T.a_WrongValue) rfl T.g_WrongValue rfl) pa_nil))) (pa_cons (pe_callB (cV_is K rfl) (by rfl) T.n_isinstance (by decide +kernel) (pa_cons (pv 0) (pa_cons (pe_glob (v := .ref T.a_WrongName) rfl T.g_WrongName rfl) pa_nil))) (pa_cons (pe_callB (cV_is K rfl) (by rfl) T.n_isinstance (by decide +kernel) (pa_cons (pv 0) (pa_cons (pe_glob (v := .ref T.a_NotPossible) rfl T.g_NotPossible rfl) pa_nil))) pa_nil)))))
      (pss_one (ps_ret (pe_op op_cat (pv 1) (pe_lst (pa_cons (pe_callB (cV_is K rfl) (by rfl) T.n_isinstance (by decide +kernel) (pa_cons (pv 0) (pa_cons (pe_bltn (v := .ty "ValueError") (by rfl) T.n_ValueError (by decide +kernel) rfl) pa_nil))) (pa_cons (pe_callB (cV_is K rfl) (by rfl) T.n_isinstance (by decide +kernel) (pa_cons (pv 0) (pa_cons (pe_bltn (v := .ty "LookupError") (by rfl) T.n_LookupError (by decide +kernel) rfl) pa_nil))) (pa_cons (pe_callB (cV_is K rfl) (by rfl) T.n_isinstance (by decide +kernel) (pa_cons (pv 0) (pa_cons (pe_bltn (v := .ty "ArithmeticError") (by rfl) T.n_ArithmeticError (by decide +kernel) rfl) pa_nil))) pa_nil)))))))), fun i vs F Q hp k q => ?_⟩
  obtain ⟨hi, a, rfl, hat⟩ := hp
  have ek : ∀ {σ : St} {F' : Hp} {c : V} {cv : Value} (j : Nat), j < 6 → (csB T)[j]? = some cv → (∀ u, RelV c u → u = cv) → σ[0]? = some (some (.ref a)) → Same F F' → ED K w0 (tCB (rIsV K) (tCons (tVar 0) (tCons (tC c) tNil))) σ F' (.bool (decide (j % 3 = baseNo i))) := fun {σ F' c cv} j hj hc hr h0 e =>
    ed_isV (xd_at T hi) (ed'_var h0) (ev_c fun _ => rfl) hr (kb_at T hi hj hc) (hat.mono e)
  refine q_set k (P := fun v F' => Rp K F' v (.list [.bool (decide (0 % 3 = baseNo i)), .bool (decide (1 % 3 = baseNo i)), .bool (decide (2 % 3 = baseNo i))])) (ed_lst (eda_cons (ek 0 (by decide) rfl (fun u h => h) rfl (Same.refl _)) (eda_cons (ek 1 (by decide) rfl (fun u h => h) rfl (Same.refl _)) (eda_cons (ek 2 (by decide) rfl (fun u h => h) rfl (Same.refl _)) eda_nil))) (show 3 ≤ 100000 by decide)) fun v0 F1 H1 g0 k0 p0 => ?_
  exact s_ret k0 (ed_cat (ds := [.bool (decide (0 % 3 = baseNo i)), .bool (decide (1 % 3 = baseNo i)), .bool (decide (2 % 3 = baseNo i))]) (es := [.bool (decide (3 % 3 = baseNo i)), .bool (decide (4 % 3 = baseNo i)), .bool (decide (5 % 3 = baseNo i))]) (ed_var rfl p0) (ed_lst (eda_cons (ek 3 (by decide) rfl (fun u h => h) rfl g0.f) (eda_cons (ek 4 (by decide) rfl (fun u h => h) rfl g0.f) (eda_cons (ek 5 (by decide) rfl (fun u h => h) rfl g0.f) eda_nil))) (show 3 ≤ 100000 by decide)) (show 3 + 3 ≤ 100000 by decide)) fun v F' H' g k' p => q v F' H' (g0.trans g) p
abbrev spHd (T : Txt K mg) : Sp := spG (ι := Nat × PyData) (fun i vs F => ∃ v u, vs = [v, u] ∧ IsX T i.2 i.1 v F ∧ Rp K F u (.int (i.1 : Nat)) ∧ i.1 ≠ 18) (fun i v F => Rp K F v i.2)
theorem ok_law_held (T : Txt K mg) : FnOk P w K mg base CX0 1 T.a_law_held T.d_law_held ["_law_e", "_law_at"] (spHd T) := by
  refine gen_ok T.F_law_held sc_law_held (fun i vs F h => by obtain ⟨v, u, rfl, _⟩ := h; rfl) fun cdv A outer s H E hr => ⟨_, (pss_one (ps_ret (pe_ifExp (pt_cmpR (oK_in K rfl) (pv 1) (pe_lst (pa_cons pe_int (pa_cons pe_int (pa_cons pe_int (pa_cons pe_int (pa_cons pe_int (pa_cons pe_int (pa_cons pe_int pa_nil)))))))) (by rfl)) (pe_xfV (pv 0) rfl) (pe_xfV (pv 0) rfl)))), fun i vs F Q hp k q => ?_⟩
  obtain ⟨i, z⟩ := i
  obtain ⟨v, u, rfl, ⟨hi, hx⟩, ru, h18⟩ := hp
  have hi : i < 20 := hi
  have h18 : i ≠ 18 := h18
  have hx : IsExc K (xC T i) (fldOf i) z v F := by
    have hx : if i = 18 then _ else IsExc K (xC T i) (fldOf i) z v F := hx
    rw [if_neg h18] at hx
    exact hx
  have ef : ∀ f, fldOf i = f → ED K w0 (tXfV K f (tVar 0)) [some v, some u] F z := fun f hf => by
    subst hf
    exact ed_xfV (xd_at T (i := i) (by omega)).xf (nx_at T i hi h18) (ev_var rfl fun F' e => hx.mono e)
  refine s_ret k (ev_if (b := decide ((i : Int) ∈ ([8, 9, 10, 11, 12, 14, 19] : List Int))) (eb_test (K := K) (ed_inI (zs := [8, 9, 10, 11, 12, 14, 19]) (ed_var rfl ru) (ed_lst (eda_cons ed_int (eda_cons ed_int (eda_cons ed_int (eda_cons ed_int (eda_cons ed_int (eda_cons ed_int (eda_cons ed_int eda_nil))))))) (show 7 ≤ 100000 by decide)))) (fun c => ef "index" ?_) fun c => ef "given" ?_) fun v F' H' g k' p => q v F' H' g p
  · have c := of_decide_eq_true c
    unfold fldOf
    rw [if_pos]
    simp only [List.mem_cons, List.not_mem_nil, or_false] at c ⊢
    omega
  · have c := of_decide_eq_false c
    unfold fldOf
    rw [if_neg]
    simp only [List.mem_cons, List.not_mem_nil, or_false] at c ⊢
    omega

end
end P1
set_option Elab.async false
set_option linter.all false
set_option maxRecDepth 100000
set_option maxHeartbeats 4000000
namespace P1
open PySem PySem.Spec L2 Wk Lt Mt
section
variable {P : Program} {w : World} {K : PySem.W.Frag} {mg : Str → Option Value} {base : Heap}
theorem ev_callE {ι : Type} {pre : ι → List V → Hp → Prop} {post : ι → V → Hp → Prop} {E : XK} {A : List V → Hp → Prop} {wd : Wd} {tr : TA} {σ : St} {F : Hp} {PP : V → Hp → Prop} (ha : EA wd tr σ F A) (h : ∀ vs F1, Same F F1 → A vs F1 → ∃ i, pre i vs F1 ∧ ∀ v F2, Same F1 F2 → post i v F2 → PP v F2) : EV wd (tCall (spG pre post) [] E tr) σ F PP := fun F1 H1 e k Q q =>
  ha F1 H1 e k _ fun vs F2 H2 g2 k2 p => by
    rw [List.append_nil]
    obtain ⟨i, h1, h2⟩ := h vs F2 (e.trans g2.f) p
    exact ⟨F2, i, k2.e, h1, fun v F3 H3 g3 p3 => q v F3 H3 (g2.trans g3.up) (k2.pure g3) (h2 v F3 g3.f p3)⟩
theorem ed_true {wd : Wd} {te : TE} {σ : St} {F : Hp} (h : EV wd te σ F fun v _ => v = .bl true) : ED K wd te σ F (.bool true) := EV.imp h fun v F' e => by
  rw [e]
  exact .bl true
def cmpB (d : PyData) : Bool := SeqAt.shaped d && !d.hasDict
theorem cmp_by {d : PyData} (h : cmpB d = true) : Cmp d := by
  obtain ⟨h1, h2⟩ := (Bool.and_eq_true _ _).mp h
  exact ⟨h1, by simpa using h2⟩
abbrev row20 (i : Nat) : PyData := .list ((List.range 20).map fun j => .bool (decide (i = j)))
abbrev row6 (i : Nat) : PyData := .list ((List.range 6).map fun j => .bool (decide (j % 3 = baseNo i)))
theorem row20_ok : ∀ i : Nat, i < 20 → cmpB (row20 i) = true ∧ PyData.eqv (row20 i) (row20 i) = true := by decide +kernel
theorem row6_ok : ∀ i : Nat, i < 20 → cmpB (row6 i) = true ∧ PyData.eqv (row6 i) (row6 i) = true := by decide +kernel
abbrev spSR (T : Txt K mg) : Sp := spG (ι := PyData) (fun z vs F => ∃ v u, vs = [v, u] ∧ LX (IsX T z) (List.range 20) v F ∧ Rp K F u z ∧ ShowsX z) (fun _ v _ => v = .bl true)
theorem ok_law_some_right (T : Txt K mg) : FnOkG P w K mg base 3 T.a_law_some_right T.d_law_some_right ["_law_some", "_law_thing_here"] (spSR T) := by
  refine gen_okG T.F_law_some_right sc_law_some_right (fun i vs F h => by obtain ⟨v, u, rfl, _⟩ := h; rfl) fun cdv A outer s H E hr hg => ⟨_, (pss_cons (ps_for PassesOwn.never rfl (pi_range1 rfl T.n_range (pa_cons pe_int pa_nil)) (pg_name (i := 2) sc_law_some_right.nd rfl (Or.inr rfl)) (pss_cons (ps_set (i := 3) sc_law_some_right.nd rfl (Or.inr rfl) (pe_ifExp (pt_cmpR op_lt (pv 2) pe_int (nomark _)) pe_int (pe_ifExp (pt_cmpR op_lt (pv 2) pe_int (nomark _)) pe_int pe_int)))
      (pss_cons (ps_if (pt_cmpR (oK_neD K rfl hr.units) (pe_call (ok_law_flags T) (hr.mono (by decide)) (by rfl) T.g_law_flags T.F_law_flags.kp T.b_law_flags .nil pass0 (pa_cons (pe_ix (iK_list K rfl) (pv 0) (pv 2) (fun _ _ => rfl)) pa_nil)) (pe_lc (own := [("_law_k", 4)]) (g := gName 4) (tt := tYes) rfl sc_law_some_right.nd (pi_range1 rfl T.n_range (pa_cons pe_int pa_nil)) (blkOk_by (N := N_law_some_right) (sc := defScope s_law_some_right) (by decide +kernel)) (fun _ _ _ _ _ => pg_name (i := 4) sc_law_some_right.nd rfl (Or.inl rfl)) (fun _ _ _ _ _ => pts_nil) (fun _ _ _ _ _ => (pe_cmpR op_eq (pv 4) (pv 2) (nomark _)))) (nomark _)) (pss_one (ps_ret pe_bl)) pss_nil)
      (pss_cons (ps_if (pt_cmpR (oK_neD K rfl hr.units) (pe_call (ok_law_bases T) (hr.mono (by decide)) (by rfl) T.g_law_bases T.F_law_bases.kp T.b_law_bases .nil pass0 (pa_cons (pe_ix (iK_list K rfl) (pv 0) (pv 2) (fun _ _ => rfl)) pa_nil)) (pe_op op_rep (pe_lc (own := [("_law_k", 4)]) (g := gName 4) (tt := tYes) rfl sc_law_some_right.nd (pi_range1 rfl T.n_range (pa_cons pe_int pa_nil)) (blkOk_by (N := N_law_some_right) (sc := defScope s_law_some_right) (by decide +kernel)) (fun _ _ _ _ _ => pg_name (i := 4) sc_law_some_right.nd rfl (Or.inl rfl)) (fun _ _ _ _ _ => pts_nil) (fun _ _ _ _ _ => (pe_cmpR op_eq (pv 4) (pv 3) (nomark _)))) pe_int) (nomark _)) (pss_one (ps_ret pe_bl)) pss_nil)
      (pss_one (ps_if (PW.pt (pw_and (pt_cmpR op_ne (pv 2) pe_int (nomark _)) (pw_and1 (pt_cmpR op_ne (pe_callB (cG_reprX K rfl hr.units hg) (by rfl) T.n_repr (by decide +kernel) (pa_cons (pe_call (ok_law_held T) (hr.mono (by decide)) (by rfl) T.g_law_held T.F_law_held.kp T.b_law_held .nil pass0 (pa_cons (pe_ix (iK_list K rfl) (pv 0) (pv 2) (fun _ _ => rfl)) (pa_cons (pv 2) pa_nil))) pa_nil)) (pe_callB (cG_reprX K rfl hr.units hg) (by rfl) T.n_repr (by decide +kernel) (pa_cons (pv 1) pa_nil)) (nomark _))))) (pss_one (ps_ret pe_bl)) pss_nil))))))
      (pss_one (ps_ret (pe_cmpR op_eq (pe_callB (cK_len K rfl) (by rfl) T.n_len (by decide +kernel) (pa_cons (pv 0) pa_nil)) pe_int (nomark _))))), fun z vs F Q hp k q => ?_⟩
  obtain ⟨v, u, rfl, hx, ru, sz⟩ := hp
  have hm := isX_mono T z
  refine s_forR (K := K) k (eda_cons ed_int eda_nil) (by decide) fun F1 H1 g1 k1 => ?_
  refine ⟨fun _ σ F2 H2 => ∃ y2 y3 y4, σ = [some v, some u, y2, y3, y4] ∧ w0.ok F2 H2 ∧ Gr M0 F H F2 H2, ⟨none, none, none, rfl, k1, g1⟩, ?_, ?_⟩
  · rintro i σ' F2 H2 hi ⟨y2, y3, y4, rfl, k2, g2⟩
    dsimp only
    have hi : i < 20 := by omega
    have hir : (List.range 20)[i]? = some i := List.getElem?_range hi
    refine q_set k2 (P := fun v F' => Rp K F' v (.int (baseNo i : Nat))) (ev_if (b := decide ((i : Int) < 13)) (eb_test (K := K) (ed_lt (ed_var rfl (.int _)) ed_int)) (fun c => ed_int.is ?_) fun c => ev_if (b := decide ((i : Int) < 15)) (eb_test (K := K) (ed_lt (ed_var rfl (.int _)) ed_int)) (fun c2 => ed_int.is ?_) fun c2 => ed_int.is ?_) fun v3 F3 H3 g3 k3 p3 => ?_
    · have c := of_decide_eq_true c
      unfold baseNo
      rw [if_pos (by omega)]
      rfl
    · have c := of_decide_eq_false c
      have c2 := of_decide_eq_true c2
      unfold baseNo
      rw [if_neg (by omega), if_pos (by omega)]
      rfl
    · have c := of_decide_eq_false c
      have c2 := of_decide_eq_false c2
      unfold baseNo
      rw [if_neg (by omega), if_neg (by omega), if_pos (by omega)]
      rfl
    have gA := g2.trans g3
    have ev : ∀ {F' : Hp}, Same F F' → EV w0 (tOp (rIxL K) (tVar 0) (tVar 2)) [some v, some u, some (.int (i : Nat)), some v3, y4] F' (IsX T z i) := fun e => evX_ix hm (ev_var rfl fun F9 e9 => (hx.mono hm e).mono hm e9) (ed_var rfl (.int _)) hir
    refine q_if (b := false) k3 (eb_test ((ed_neD (K := K) (d := row20 i) (e := row20 i) (ev_callE (A := fun vs F' => ∃ x, vs = [x] ∧ IsX T z i x F') (ea_cons (B := fun _ vs _ => vs = []) (ev gA.f) (fun _ _ _ _ => ea_nil fun _ => rfl) fun x xs F7 F8 _ p e8 p' => ⟨x, by rw [p'], hm _ _ _ _ e8 p⟩) fun vs F7 _ ⟨x, e, h⟩ => ⟨(i, z), ⟨x, e, h⟩, fun v F8 _ p => p⟩) (ed_mapR (K := K) (g := fun j => PyData.bool (decide (i = j))) (n := 20) (eda_cons ed_int eda_nil) (by decide) (fun _ => rfl) (fun j F7 hj e7 => (ed_eqI (ed_var rfl (.int _)) (ed_var rfl (.int _))).is ?_) (by decide)) (cmp_by (row20_ok i hi).1) (cmp_by (row20_ok i hi).1)).is (by rw [(row20_ok i hi).2]; rfl))) (fun c => nomatch c) fun _ F4 H4 g4 k4 => ?_
    · congr 1
      exact decide_eq_decide.mpr (by omega)
    have p34 := p3.mono g4.f
    have gB := gA.trans g4
    refine q_if (b := false) k4 (eb_test ((ed_neD (K := K) (d := row6 i) (e := row6 i) (ev_callE (A := fun vs F' => ∃ x, vs = [x] ∧ IsX T z i x F') (ea_cons (B := fun _ vs _ => vs = []) (ev gB.f) (fun _ _ _ _ => ea_nil fun _ => rfl) fun x xs F7 F8 _ p e8 p' => ⟨x, by rw [p'], hm _ _ _ _ e8 p⟩) fun vs F7 _ ⟨x, e, h⟩ => ⟨i, ⟨by omega, by
      obtain ⟨a, ea, hat⟩ := h.at
      exact ⟨a, by rw [e, ea], hat⟩⟩, fun v F8 _ p => p⟩) ((ed_repL (K := K) (ds := (List.range 3).map fun j => PyData.bool (decide (j = baseNo i))) (k := 2) (ed_mapR (K := K) (g := fun j => PyData.bool (decide (j = baseNo i))) (n := 3) (eda_cons ed_int eda_nil) (by decide) (fun _ => rfl) (fun j F7 hj e7 => (ed_eqI (ed_var rfl (.int _)) (ed_var rfl (p34.mono e7))).is ?_) (by decide)) ed_int (show 3 ≤ 1000 by decide) (by decide)).is rfl) (cmp_by (row6_ok i hi).1) (cmp_by (row6_ok i hi).1)).is (by rw [(row6_ok i hi).2]; rfl))) (fun c => nomatch c) fun _ F5 H5 g5 k5 => ?_
    · congr 1
      exact decide_eq_decide.mpr (by omega)
    have gC := gB.trans g5
    refine s_if1 (b := false) k5 (EB.is (b := !decide ((i : Int) = 18) && false) (eb_and (eb_test (K := K) (ed_neI (ed_var rfl (.int _)) ed_int)) fun c => eb_test ((ed_neS (ed_reprX (K := K) (d := z) (ev_callE (A := fun vs F' => ∃ x, vs = [x, .int (i : Nat)] ∧ IsX T z i x F') (ea_cons (B := fun _ vs _ => vs = [.int (i : Nat)]) (ev gC.f) (fun _ _ _ _ => ea_cons (A := fun v _ => v = .int (i : Nat)) (B := fun _ vs _ => vs = []) (ed'_var rfl) (fun _ _ _ _ => ea_nil fun _ => rfl) fun x xs F3 F4 _ p _ p' => by rw [p, p']) fun x xs F7 F8 _ p e8 p' => ⟨x, by rw [p'], hm _ _ _ _ e8 p⟩) fun vs F7 _ ⟨x, e, h⟩ => ⟨(i, z), ⟨x, _, e, h, .int _, ?_⟩, fun v F8 _ p => p⟩) sz) (ed_reprX (ed_var rfl (ru.mono gC.f)) sz)).is (by rw [decide_eq_true rfl]; rfl))) (Bool.and_false _)) (fun c => nomatch c) fun _ F6 H6 g6 k6 => ⟨F6, _, _, _, rfl, k6, gC.trans g6⟩
    have c : ¬ ((i : Int) = 18) := by simpa using c
    show i ≠ 18
    omega
  · rintro σ' F2 H2 ⟨y2, y3, y4, rfl, k2, g2⟩
    refine s_ret (σ := [some v, some u, y2, y3, y4]) (D := { nx := fun _ H' => Q .non H', rt := Q }) k2 (ed_eqI (K := K) (edX_len (R := IsX T z) (is := List.range 20) (ev_var rfl fun F9 e9 => (hx.mono hm g2.f).mono hm e9)) ed_int) fun v F' H' g k' p => q v F' H' (g2.trans g) ?_
    rw [List.length_range] at p
    exact rp_bl p

end
end P1
set_option Elab.async false
set_option linter.all false
set_option maxRecDepth 100000
set_option maxHeartbeats 4000000
namespace P1
open PySem PySem.Spec L2 Wk Lt Mt
section
variable {P : Program} {w : World} {K : PySem.W.Frag} {mg : Str → Option Value} {base : Heap}
theorem er_allT {wd : Wd} {σ : St} {F : Hp} {te : TE} {m : Nat} (ha : ER K wd te σ F fun d => ∃ es, d = .list es ∧ es.length = m ∧ ∀ e ∈ es, e = PyData.bool true) : EV wd (tCB (rAll K) (tCons te tNil)) σ F fun v _ => v = .bl true := fun F1 H1 e k Q q =>
  ha F1 H1 e k _ fun x F2 H2 g2 k2 ⟨d, ⟨es, hd, _, he⟩, r⟩ => by
    subst hd
    obtain ⟨zs, rfl, _⟩ := each_of (f := PyData.bool) (P := fun b => b = true) fun y hy => ⟨true, he y hy, rfl⟩
    obtain ⟨a, xs, rfl, h, ra⟩ := rp_lst r
    rw [rpA_bl ra] at h
    refine ⟨a, zs, rfl, rp_sqL k2.e h, ?_⟩
    rw [show zs.all id = true from List.all_eq_true.mpr fun y hy => by
      have := he (.bool y) (List.mem_map.mpr ⟨y, hy, rfl⟩)
      injection this]
    exact q _ F2 H2 g2 k2 rfl
abbrev spLaw (K : PySem.W.Frag) : Sp := spG (ι := List Int) (fun ns vs F => (∃ a, vs = [.ref a] ∧ SqL K F a (ns.map V.int)) ∧ ns.length ≤ 63 ∧ ∀ z ∈ ns, Builtin.Int.intBits z ≤ 1048576) (fun _ v _ => v = .bl true)
def RB (T : Txt K mg) (i : Nat) (v : V) (F : Hp) : Prop := i < 23 ∧ ∃ a, v = .ref a ∧ XAt F a (xC T i)
theorem rb_mono (T : Txt K mg) : MonoR (RB T) := fun i v F F' e ⟨hi, a, hv, h⟩ => ⟨hi, a, hv, h.mono e⟩
abbrev row3 (i : Nat) : PyData := .list ((List.range 3).map fun j => .bool (decide (j = i - 20)))
abbrev told3 : PyData := .list ([20, 21, 22].map row3)
theorem ok_law_right (T : Txt K mg) : FnOkG P w K mg base 4 T.a_law_right T.d_law_right ["_law_pail"] (spB (fun (_ : Unit) vs _ => vs = []) fun _ v _ => v = .bl true) := by
  refine pail_okG T.F_law_right sc_law_right (fun i vs F h => by rw [h]; rfl) fun cdv A outer s H E hr hg => ⟨_, (pss_cons (ps_for PassesOwn.never rfl (pi_range1 rfl T.n_range (pa_cons pe_int pa_nil)) (pg_name (i := 1) sc_law_right.nd rfl (Or.inl rfl)) (pss_cons (ps_set (i := 2) sc_law_right.nd rfl (Or.inl rfl) (pe_call (ok_law_thing T) (hr.mono (by decide)) (by rfl) T.g_law_thing T.F_law_thing.kp T.b_law_thing .nil pass0 (pa_cons (pv 0) pa_nil)))
      (pss_one (ps_if (PW.pt (pw_or (pt_not (pt_val (pe_callG (ok_law_some_right T) (hr.mono (by decide)) hg (by rfl) T.g_law_some_right T.F_law_some_right.kp T.b_law_some_right (pa_cons (pe_call (ok_law_placed T) (hr.mono (by decide)) (by rfl) T.g_law_placed T.F_law_placed.kp T.b_law_placed .nil pass0 (pa_cons (pv 2) pa_nil)) (pa_cons (pv 2) pa_nil))))) (pw_or1 (pt_not (pt_val (pe_callG (ok_law_some_right T) (hr.mono (by decide)) hg (by rfl) T.g_law_some_right T.F_law_some_right.kp T.b_law_some_right (pa_cons (pe_call (ok_law_named T) (hr.mono (by decide)) (by rfl) T.g_law_named T.F_law_named.kp T.b_law_named .nil pass0 (pa_cons (pv 2) pa_nil)) (pa_cons (pv 2) pa_nil)))))))) (pss_one (ps_ret pe_bl)) pss_nil))))
      (pss_cons (ps_setLc (i := 3) (own := [("_law_e", 4)]) (g := gName 4) (tt := tYes) rfl sc_law_right.nd rfl rfl (sw_true rfl rfl rfl (by decide +kernel)) (pK_list K rfl (pe_lst (pa_cons (pe_mk0V PySem.F.excBase_ValueError T.ex_WrongValue T.g_WrongValue T.kx_WrongValue (by rfl)) (pa_cons (pe_mk0V PySem.F.excBase_LookupError T.ex_WrongName T.g_WrongName T.kx_WrongName (by rfl)) (pa_cons (pe_mk0V PySem.F.excBase_ArithmeticError T.ex_NotPossible T.g_NotPossible T.kx_NotPossible (by rfl)) pa_nil))))) (blkOk_by (N := N_law_right) (sc := defScope s_law_right) (by decide +kernel)) (fun _ _ _ _ _ => pg_name (i := 4) sc_law_right.nd rfl (Or.inl rfl)) (fun _ _ _ _ _ => pts_nil) (fun _ _ _ _ _ => (pe_slice (sK_list K rfl) (pe_call (ok_law_bases T) (hr.mono (by decide)) (by rfl) T.g_law_bases T.F_law_bases.kp T.b_law_bases .nil pass0 (pa_cons (pv 4) pa_nil)) po_none (po_some pe_int))))
      (pss_one (ps_ret (pe_cmpR (oK_eqD K rfl hr.units) (pv 3) (pe_lst (pa_cons (pe_lst (pa_cons pe_bl (pa_cons pe_bl (pa_cons pe_bl pa_nil)))) (pa_cons (pe_lst (pa_cons pe_bl (pa_cons pe_bl (pa_cons pe_bl pa_nil)))) (pa_cons (pe_lst (pa_cons pe_bl (pa_cons pe_bl (pa_cons pe_bl pa_nil)))) pa_nil)))) (nomark _)))))), fun i b vs F Q hp k q => ?_⟩
  subst hp
  refine s_forR (K := K) k (eda_cons ed_int eda_nil) (by decide) fun F1 H1 g1 k1 => ?_
  refine ⟨fun _ σ F2 H2 => ∃ y1 y2 y3 y4, σ = [some (.ref b), y1, y2, y3, y4] ∧ (wb b).ok F2 H2 ∧ Gr (wb b).M F H F2 H2, ⟨none, none, none, none, rfl, k1, g1⟩, ?_, ?_⟩
  · rintro i σ' F2 H2 hi ⟨y1, y2, y3, y4, rfl, k2, g2⟩
    dsimp only
    refine q_set k2 (ev_thingX rfl rfl) fun v3 F3 H3 g3 k3 ⟨d, r3, _, hs⟩ => ?_
    have sx := showB_x hs
    have hm := isX_mono T d
    refine s_if1 (b := false) k3 (EB.is (b := false || false) (eb_or ((eb_not (eb_B (K := K) (ed_true (ev_callE (A := fun vs F' => ∃ x u, vs = [x, u] ∧ LX (IsX T d) (List.range 20) x F' ∧ Rp K F' u d) (ea_cons (A := LX (IsX T d) (List.range 20)) (B := fun _ vs F' => RpA K F' vs [d]) (ev_callE (A := fun vs F' => RpA K F' vs [d]) (eda_cons (ed_var rfl r3) eda_nil) fun vs F7 _ p => ⟨d, p, fun v F8 _ h => h⟩) (fun x F7 e7 _ => eda_cons (ed_var rfl (r3.mono e7)) eda_nil) fun x xs F7 F8 _ p e8 p' => ?_) fun vs F7 _ ⟨x, u, e, h1, h2⟩ => ⟨d, ⟨x, u, e, h1, h2, sx⟩, fun v F8 _ p => p⟩)))).is rfl) fun _ => (eb_not (eb_B (K := K) (ed_true (ev_callE (A := fun vs F' => ∃ x u, vs = [x, u] ∧ LX (IsX T d) (List.range 20) x F' ∧ Rp K F' u d) (ea_cons (A := LX (IsX T d) (List.range 20)) (B := fun _ vs F' => RpA K F' vs [d]) (ev_callE (A := fun vs F' => RpA K F' vs [d]) (eda_cons (ed_var rfl r3) eda_nil) fun vs F7 _ p => ⟨d, p, fun v F8 _ h => h⟩) (fun x F7 e7 _ => eda_cons (ed_var rfl (r3.mono e7)) eda_nil) fun x xs F7 F8 _ p e8 p' => ?_) fun vs F7 _ ⟨x, u, e, h1, h2⟩ => ⟨d, ⟨x, u, e, h1, h2, sx⟩, fun v F8 _ p => p⟩)))).is rfl) rfl) (fun c => nomatch c) fun _ F6 H6 g6 k6 => ⟨F6, _, _, _, _, rfl, k6, (g2.trans g3).trans g6⟩
    · cases p' with
      | cons p1 p2 =>
        cases p2
        exact ⟨x, _, rfl, p.mono hm e8, p1⟩
    · cases p' with
      | cons p1 p2 =>
        cases p2
        exact ⟨x, _, rfl, p.mono hm e8, p1⟩
  · rintro σ' F2 H2 ⟨y1, y2, y3, y4, rfl, k2, g2⟩
    dsimp only
    have hm := rb_mono T
    have eb : ∀ {σ : St} {F' : Hp} {C : Addr} (i : Nat), i < 23 → xC T i = C → EV (wb b) (fun σ H Q => ∀ a, H a = none → Q (.ref a) (upd H a (exo a C none))) σ F' (RB T i) := fun {σ F' C} i hi hC => EV.imp ev_mk0V fun _ _ ⟨a, hv, h⟩ => ⟨hi, a, hv, by
      rw [hC]
      exact h⟩
    refine q_set k2 (P := fun v F' => Rp K F' v told3) (evX_lc (K := K) (R := RB T) (is := [20, 21, 22]) hm row3 (evX_lst (eaX_cons hm (eb 20 (by decide) rfl) fun _ _ => eaX_cons hm (eb 21 (by decide) rfl) fun _ _ => eaX_cons hm (eb 22 (by decide) rfl) fun _ _ => eaX_nil) hm (by decide)) (by decide) (fun _ => rfl) fun x i F7 hi e7 h => ?_) fun v3 F3 H3 g3 k3 p3 => ?_
    · refine (ed_sliceL (K := K) (ds := (List.range 6).map fun j => .bool (decide (j % 3 = baseNo i))) (ev_callE (A := fun vs F' => ∃ x, vs = [x] ∧ RB T i x F') (ea_cons (B := fun _ vs _ => vs = []) (ev_var (P := RB T i) rfl fun F9 e9 => hm _ _ _ _ e9 h) (fun _ _ _ _ => ea_nil fun _ => rfl) fun x xs F7 F8 _ p e8 p' => ⟨x, by rw [p'], hm _ _ _ _ e8 p⟩) fun vs F7 _ ⟨x, e, h⟩ => ⟨i, ⟨h.1, by
        obtain ⟨_, a, ea, hat⟩ := h
        exact ⟨a, by rw [e, ea], hat⟩⟩, fun v F8 _ p => p⟩) eo_none (eo_some (K := K) ed_int)).is ?_
      rw [show ((3 : Int)) = ((3 : Nat) : Int) from rfl, cut_take]
      simp only [List.mem_cons, List.not_mem_nil, or_false] at hi
      rcases hi with rfl | rfl | rfl <;> rfl
    have bl3 : ∀ {σ : St} {F' : Hp} (a c d : Bool), ED K (wb b) (tLst (tCons (tC (.bl a)) (tCons (tC (.bl c)) (tCons (tC (.bl d)) tNil)))) σ F' (.list [.bool a, .bool c, .bool d]) := fun a c d => ed_lst (eda_cons ed_bl (eda_cons ed_bl (eda_cons ed_bl eda_nil))) (show 3 ≤ 100000 by decide)
    refine s_ret k3 (ed_eqD (K := K) (d := told3) (e := told3) (ed_var rfl p3) ((ed_lst (eda_cons (bl3 true false false) (eda_cons (bl3 false true false) (eda_cons (bl3 false false true) eda_nil))) (show 3 ≤ 100000 by decide)).is rfl) (cmp_by (by decide +kernel)) (cmp_by (by decide +kernel))) fun v F' H' g k' p => q v F' H' ((g2.trans g3).trans g) k' ?_
    rw [show PyData.eqv told3 told3 = true by decide +kernel] at p
    exact rp_bl p
abbrev limD : PyData := .list [.int 4, .int 3, .int 1000000, .int 40, .int 8, .int 6]
theorem shows_lim : Shows limD := (sh_list (m := 8) (e := 0) (k := 6) (fun x hx => by
  simp only [List.mem_cons, List.not_mem_nil, or_false] at hx
  rcases hx with rfl | rfl | rfl | rfl | rfl | rfl <;> exact (sh_int (k := 7) (by decide) (by decide) (by decide))) (by simp)).shows (by decide) (by decide)
theorem ok_law (T : Txt K mg) : FnOkG P w K mg base 7 T.a_law T.d_law ["_law_script"] (spLaw K) := by
  refine gen_okG T.F_law sc_law (fun i vs F h => by obtain ⟨⟨a, rfl, _⟩, _⟩ := h; rfl) fun cdv A outer s H E hr hg => ⟨_, (pss_cons (ps_set (i := 1) sc_law.nd rfl (Or.inl rfl) (pe_lst (pa_cons (pe_glob (v := .int 4) rfl T.c_MOST_SIZE ⟨_, rfl⟩) (pa_cons (pe_glob (v := .int 3) rfl T.c_MOST_TABLES ⟨_, rfl⟩) (pa_cons (pe_glob (v := .int 1000000) rfl T.c_MOST_NUMBER ⟨_, rfl⟩) (pa_cons (pe_glob (v := .int 40) rfl T.c_MOST_LETTERS ⟨_, rfl⟩) (pa_cons (pe_glob (v := .int 8) rfl T.c_MOST_COLUMNS ⟨_, rfl⟩) (pa_cons (pe_glob (v := .int 6) rfl T.c_MOST_CHANGES ⟨_, rfl⟩) pa_nil))))))))
      (pss_cons (ps_if (pt_cmpR op_ne (pe_callB (cG_repr K rfl hr.units hg) (by rfl) T.n_repr (by decide +kernel) (pa_cons (pv 1) pa_nil)) (pe_callB (cG_repr K rfl hr.units hg) (by rfl) T.n_repr (by decide +kernel) (pa_cons (pe_lst (pa_cons pe_int (pa_cons pe_int (pa_cons (pe_op op_pow pe_int pe_int) (pa_cons pe_int (pa_cons pe_int (pa_cons pe_int pa_nil))))))) pa_nil)) (nomark _)) (pss_one (ps_ret pe_bl)) pss_nil)
      (pss_one (ps_ret (pe_callB (cK_all K rfl rfl) (by rfl) T.n_all (by decide +kernel) (pa_cons (pe_lc (own := [("_law_turn", 2)]) (g := gName 2) (tt := tYes) rfl sc_law.nd (pi_range1 rfl T.n_range (pa_cons (pe_callB (call_max2 rfl) (by rfl) T.n_max (by decide +kernel) (pa_cons pe_int (pa_cons (pe_callB (call_min2 rfl) (by rfl) T.n_min (by decide +kernel) (pa_cons (pe_callB (cK_len K rfl) (by rfl) T.n_len (by decide +kernel) (pa_cons (pv 0) pa_nil)) (pa_cons pe_int pa_nil))) pa_nil))) pa_nil)) (blkOk_by (N := N_law) (sc := defScope s_law) (by decide +kernel)) (fun _ _ _ _ _ => pg_name (i := 2) sc_law.nd rfl (Or.inl rfl)) (fun _ _ _ _ _ => pts_nil) (fun _ _ _ _ _ => (pe_callG (ok_law_right T) (hr.mono (by decide)) hg (by rfl) T.g_law_right T.F_law_right.kp T.b_law_right (pa_cons (pe_call (ok_law_begun T) (hr.mono (by decide)) (by rfl) T.g_law_begun T.F_law_begun.kp T.b_law_begun .nil pass0 (pa_cons (pv 0) (pa_cons (pv 2) pa_nil))) pa_nil)))) pa_nil)))))), fun ns vs F Q hp k q => ?_⟩
  obtain ⟨⟨a, rfl, hs⟩, hl, hb⟩ := hp
  refine q_set k (P := fun v F' => Rp K F' v limD) (ed_lst (eda_cons ed_int (eda_cons ed_int (eda_cons ed_int (eda_cons ed_int (eda_cons ed_int (eda_cons ed_int eda_nil)))))) (show 6 ≤ 100000 by decide)) fun v1 F1 H1 g1 k1 p1 => ?_
  refine q_if (b := false) k1 (eb_test ((ed_neS (K := K) (ed_reprD (d := limD) (ed_var rfl p1) (.inl ⟨_, rfl⟩) shows_lim) (ed_reprD (d := limD) ((ed_lst (eda_cons ed_int (eda_cons ed_int (eda_cons ((ed_pow ed_int ed_int ⟨by decide, by decide, by decide⟩).is (d' := .int 1000000) rfl) (eda_cons ed_int (eda_cons ed_int (eda_cons ed_int eda_nil)))))) (show 6 ≤ 100000 by decide))) (.inl ⟨_, rfl⟩) shows_lim)).is (by rw [decide_eq_true rfl]; rfl))) (fun c => nomatch c) fun _ F2 H2 g2 k2 => ?_
  have hs2 := sqlM (g1.trans g2).f hs
  refine s_ret k2 (er_allT (er_mapR (K := K) (fun d => d = .bool true) (eda_cons (ed_max2 ed_int (ed_min2 (ed_lenScr rfl hs2) ed_int)) eda_nil) ?_ (fun _ => rfl) (fun i F3 hi e1 => ?_) ?_)) fun v F' H' g k' p => q v F' H' ((g1.trans g2).trans g) p
  · split <;> split <;> omega
  · refine ev_onNew (A := fun vs F' => vs = [.ref a, .int (i : Nat)] ∧ SqL K F' a (ns.map V.int)) (ea_cons (A := fun v _ => v = .ref a) (B := fun _ vs _ => vs = [.int (i : Nat)]) (ed'_var rfl) (fun x F2 e2 p => ea_cons (A := fun v _ => v = .int (i : Nat)) (B := fun _ vs _ => vs = []) (ed'_var rfl) (fun _ _ _ _ => ea_nil fun _ => rfl) fun x xs F3 F4 _ p _ p' => by rw [p, p']) fun x xs F3 F4 e3 p e4 p' => ⟨by rw [p, p'], sqlM ((e1.trans e3).trans e4) hs2⟩) (fun _ _ => (ns, i)) (fun vs F2 e2 p => ⟨⟨a, p.1, p.2⟩, hb, ?_⟩) () (fun _ _ => rfl) fun v F2 e2 p => ⟨.bool true, rfl, by rw [p]; exact .bl true⟩
    have hi' : (i : Int) < 6 := Int.lt_of_lt_of_le hi (by split <;> split <;> omega)
    show i < 100
    omega
  · split <;> split <;> omega

end
end P1
set_option Elab.async false
set_option linter.all false
set_option maxRecDepth 100000
set_option maxHeartbeats 4000000
namespace P1
open PySem PySem.Spec L2 Wk Lt
theorem all_mk {P : Program} {w : World} {K : PySem.W.Frag} {h : Heap} {mg : Str → Option Value} {fa : Addr} (X : K.In h) (G : h.Ns mainGlobals mg) (hfa : mg "law" = some (.ref fa))
    {a_InvalidText : Addr}
    {a_InvalidName : Addr}
    {a_InvalidIndex : Addr}
    {a_InvalidSize : Addr}
    {a_InvalidTable : Addr}
    {a_InvalidView : Addr}
    {a_InvalidWish : Addr}
    {a_NotLot : Addr}
    {a_InvalidTables : Addr}
    {a_InvalidWord : Addr}
    {a_InvalidColumns : Addr}
    {a_InvalidChanges : Addr}
    {a_InvalidWishes : Addr}
    {a_UnknownName : Addr}
    {a_InUse : Addr}
    {a_NotTriangular : Addr}
    {a_OtherSize : Addr}
    {a_TooMany : Addr}
    {a_NothingToUndo : Addr}
    {a_Broken : Addr}
    {a_WrongValue : Addr}
    {a_WrongName : Addr}
    {a_NotPossible : Addr}
    {f_InvalidText_init : Addr} {nm_InvalidText q_InvalidText : Str} {N_InvalidText : Addr} {bs_InvalidText : List Value} {bm_InvalidText : List Value}
    {sn_InvalidText : List Str} {sub_InvalidText : List Value} {ab_InvalidText : Bool} {col_InvalidText : Option Bool} {dd_InvalidText : Option Addr} {k0_InvalidText k1_InvalidText k2_InvalidText k3_InvalidText k5_InvalidText : Option Value}
    {f_InvalidName_init : Addr} {nm_InvalidName q_InvalidName : Str} {N_InvalidName : Addr} {bs_InvalidName : List Value} {bm_InvalidName : List Value}
    {sn_InvalidName : List Str} {sub_InvalidName : List Value} {ab_InvalidName : Bool} {col_InvalidName : Option Bool} {dd_InvalidName : Option Addr} {k0_InvalidName k1_InvalidName k2_InvalidName k3_InvalidName k5_InvalidName : Option Value}
    {f_InvalidIndex_init : Addr} {nm_InvalidIndex q_InvalidIndex : Str} {N_InvalidIndex : Addr} {bs_InvalidIndex : List Value} {bm_InvalidIndex : List Value}
    {sn_InvalidIndex : List Str} {sub_InvalidIndex : List Value} {ab_InvalidIndex : Bool} {col_InvalidIndex : Option Bool} {dd_InvalidIndex : Option Addr} {k0_InvalidIndex k1_InvalidIndex k2_InvalidIndex k3_InvalidIndex k5_InvalidIndex : Option Value}
    {f_InvalidSize_init : Addr} {nm_InvalidSize q_InvalidSize : Str} {N_InvalidSize : Addr} {bs_InvalidSize : List Value} {bm_InvalidSize : List Value}
    {sn_InvalidSize : List Str} {sub_InvalidSize : List Value} {ab_InvalidSize : Bool} {col_InvalidSize : Option Bool} {dd_InvalidSize : Option Addr} {k0_InvalidSize k1_InvalidSize k2_InvalidSize k3_InvalidSize k5_InvalidSize : Option Value}
    {f_InvalidTable_init : Addr} {nm_InvalidTable q_InvalidTable : Str} {N_InvalidTable : Addr} {bs_InvalidTable : List Value} {bm_InvalidTable : List Value}
    {sn_InvalidTable : List Str} {sub_InvalidTable : List Value} {ab_InvalidTable : Bool} {col_InvalidTable : Option Bool} {dd_InvalidTable : Option Addr} {k0_InvalidTable k1_InvalidTable k2_InvalidTable k3_InvalidTable k5_InvalidTable : Option Value}
    {f_InvalidView_init : Addr} {nm_InvalidView q_InvalidView : Str} {N_InvalidView : Addr} {bs_InvalidView : List Value} {bm_InvalidView : List Value}
    {sn_InvalidView : List Str} {sub_InvalidView : List Value} {ab_InvalidView : Bool} {col_InvalidView : Option Bool} {dd_InvalidView : Option Addr} {k0_InvalidView k1_InvalidView k2_InvalidView k3_InvalidView k5_InvalidView : Option Value}
    {f_InvalidWish_init : Addr} {nm_InvalidWish q_InvalidWish : Str} {N_InvalidWish : Addr} {bs_InvalidWish : List Value} {bm_InvalidWish : List Value}
    {sn_InvalidWish : List Str} {sub_InvalidWish : List Value} {ab_InvalidWish : Bool} {col_InvalidWish : Option Bool} {dd_InvalidWish : Option Addr} {k0_InvalidWish k1_InvalidWish k2_InvalidWish k3_InvalidWish k5_InvalidWish : Option Value}
    {f_NotLot_init : Addr} {nm_NotLot q_NotLot : Str} {N_NotLot : Addr} {bs_NotLot : List Value} {bm_NotLot : List Value}
    {sn_NotLot : List Str} {sub_NotLot : List Value} {ab_NotLot : Bool} {col_NotLot : Option Bool} {dd_NotLot : Option Addr} {k0_NotLot k1_NotLot k2_NotLot k3_NotLot k5_NotLot : Option Value}
    {f_InvalidTables_init : Addr} {nm_InvalidTables q_InvalidTables : Str} {N_InvalidTables : Addr} {bs_InvalidTables : List Value} {bm_InvalidTables : List Value}
    {sn_InvalidTables : List Str} {sub_InvalidTables : List Value} {ab_InvalidTables : Bool} {col_InvalidTables : Option Bool} {dd_InvalidTables : Option Addr} {k0_InvalidTables k1_InvalidTables k2_InvalidTables k3_InvalidTables k5_InvalidTables : Option Value}
    {f_InvalidWord_init : Addr} {nm_InvalidWord q_InvalidWord : Str} {N_InvalidWord : Addr} {bs_InvalidWord : List Value} {bm_InvalidWord : List Value}
    {sn_InvalidWord : List Str} {sub_InvalidWord : List Value} {ab_InvalidWord : Bool} {col_InvalidWord : Option Bool} {dd_InvalidWord : Option Addr} {k0_InvalidWord k1_InvalidWord k2_InvalidWord k3_InvalidWord k5_InvalidWord : Option Value}
    {f_InvalidColumns_init : Addr} {nm_InvalidColumns q_InvalidColumns : Str} {N_InvalidColumns : Addr} {bs_InvalidColumns : List Value} {bm_InvalidColumns : List Value}
    {sn_InvalidColumns : List Str} {sub_InvalidColumns : List Value} {ab_InvalidColumns : Bool} {col_InvalidColumns : Option Bool} {dd_InvalidColumns : Option Addr} {k0_InvalidColumns k1_InvalidColumns k2_InvalidColumns k3_InvalidColumns k5_InvalidColumns : Option Value}
    {f_InvalidChanges_init : Addr} {nm_InvalidChanges q_InvalidChanges : Str} {N_InvalidChanges : Addr} {bs_InvalidChanges : List Value} {bm_InvalidChanges : List Value}
    {sn_InvalidChanges : List Str} {sub_InvalidChanges : List Value} {ab_InvalidChanges : Bool} {col_InvalidChanges : Option Bool} {dd_InvalidChanges : Option Addr} {k0_InvalidChanges k1_InvalidChanges k2_InvalidChanges k3_InvalidChanges k5_InvalidChanges : Option Value}
    {f_InvalidWishes_init : Addr} {nm_InvalidWishes q_InvalidWishes : Str} {N_InvalidWishes : Addr} {bs_InvalidWishes : List Value} {bm_InvalidWishes : List Value}
    {sn_InvalidWishes : List Str} {sub_InvalidWishes : List Value} {ab_InvalidWishes : Bool} {col_InvalidWishes : Option Bool} {dd_InvalidWishes : Option Addr} {k0_InvalidWishes k1_InvalidWishes k2_InvalidWishes k3_InvalidWishes k5_InvalidWishes : Option Value}
    {f_UnknownName_init : Addr} {nm_UnknownName q_UnknownName : Str} {N_UnknownName : Addr} {bs_UnknownName : List Value} {bm_UnknownName : List Value}
    {sn_UnknownName : List Str} {sub_UnknownName : List Value} {ab_UnknownName : Bool} {col_UnknownName : Option Bool} {dd_UnknownName : Option Addr} {k0_UnknownName k1_UnknownName k2_UnknownName k3_UnknownName k5_UnknownName : Option Value}
    {f_InUse_init : Addr} {nm_InUse q_InUse : Str} {N_InUse : Addr} {bs_InUse : List Value} {bm_InUse : List Value}
    {sn_InUse : List Str} {sub_InUse : List Value} {ab_InUse : Bool} {col_InUse : Option Bool} {dd_InUse : Option Addr} {k0_InUse k1_InUse k2_InUse k3_InUse k5_InUse : Option Value}
    {f_NotTriangular_init : Addr} {nm_NotTriangular q_NotTriangular : Str} {N_NotTriangular : Addr} {bs_NotTriangular : List Value} {bm_NotTriangular : List Value}
    {sn_NotTriangular : List Str} {sub_NotTriangular : List Value} {ab_NotTriangular : Bool} {col_NotTriangular : Option Bool} {dd_NotTriangular : Option Addr} {k0_NotTriangular k1_NotTriangular k2_NotTriangular k3_NotTriangular k5_NotTriangular : Option Value}
    {f_OtherSize_init : Addr} {nm_OtherSize q_OtherSize : Str} {N_OtherSize : Addr} {bs_OtherSize : List Value} {bm_OtherSize : List Value}
    {sn_OtherSize : List Str} {sub_OtherSize : List Value} {ab_OtherSize : Bool} {col_OtherSize : Option Bool} {dd_OtherSize : Option Addr} {k0_OtherSize k1_OtherSize k2_OtherSize k3_OtherSize k5_OtherSize : Option Value}
    {f_TooMany_init : Addr} {nm_TooMany q_TooMany : Str} {N_TooMany : Addr} {bs_TooMany : List Value} {bm_TooMany : List Value}
    {sn_TooMany : List Str} {sub_TooMany : List Value} {ab_TooMany : Bool} {col_TooMany : Option Bool} {dd_TooMany : Option Addr} {k0_TooMany k1_TooMany k2_TooMany k3_TooMany k5_TooMany : Option Value}
    {f_Broken_init : Addr} {nm_Broken q_Broken : Str} {N_Broken : Addr} {bs_Broken : List Value} {bm_Broken : List Value}
    {sn_Broken : List Str} {sub_Broken : List Value} {ab_Broken : Bool} {col_Broken : Option Bool} {dd_Broken : Option Addr} {k0_Broken k1_Broken k2_Broken k3_Broken k5_Broken : Option Value}
    {od_InvalidText_init an_InvalidText_init : Option Addr} {sl_InvalidText_init : Array (Option Value)} {oc_InvalidText_init kV_InvalidText_init dc_InvalidText_init pm_InvalidText_init cd_InvalidText_init ct_InvalidText_init : Value}
    {od_InvalidName_init an_InvalidName_init : Option Addr} {sl_InvalidName_init : Array (Option Value)} {oc_InvalidName_init kV_InvalidName_init dc_InvalidName_init pm_InvalidName_init cd_InvalidName_init ct_InvalidName_init : Value}
    {od_InvalidIndex_init an_InvalidIndex_init : Option Addr} {sl_InvalidIndex_init : Array (Option Value)} {oc_InvalidIndex_init kV_InvalidIndex_init dc_InvalidIndex_init pm_InvalidIndex_init cd_InvalidIndex_init ct_InvalidIndex_init : Value}
    {od_InvalidSize_init an_InvalidSize_init : Option Addr} {sl_InvalidSize_init : Array (Option Value)} {oc_InvalidSize_init kV_InvalidSize_init dc_InvalidSize_init pm_InvalidSize_init cd_InvalidSize_init ct_InvalidSize_init : Value}
    {od_InvalidTable_init an_InvalidTable_init : Option Addr} {sl_InvalidTable_init : Array (Option Value)} {oc_InvalidTable_init kV_InvalidTable_init dc_InvalidTable_init pm_InvalidTable_init cd_InvalidTable_init ct_InvalidTable_init : Value}
    {od_InvalidView_init an_InvalidView_init : Option Addr} {sl_InvalidView_init : Array (Option Value)} {oc_InvalidView_init kV_InvalidView_init dc_InvalidView_init pm_InvalidView_init cd_InvalidView_init ct_InvalidView_init : Value}
    {od_InvalidWish_init an_InvalidWish_init : Option Addr} {sl_InvalidWish_init : Array (Option Value)} {oc_InvalidWish_init kV_InvalidWish_init dc_InvalidWish_init pm_InvalidWish_init cd_InvalidWish_init ct_InvalidWish_init : Value}
    {od_NotLot_init an_NotLot_init : Option Addr} {sl_NotLot_init : Array (Option Value)} {oc_NotLot_init kV_NotLot_init dc_NotLot_init pm_NotLot_init cd_NotLot_init ct_NotLot_init : Value}
    {od_InvalidTables_init an_InvalidTables_init : Option Addr} {sl_InvalidTables_init : Array (Option Value)} {oc_InvalidTables_init kV_InvalidTables_init dc_InvalidTables_init pm_InvalidTables_init cd_InvalidTables_init ct_InvalidTables_init : Value}
    {od_InvalidWord_init an_InvalidWord_init : Option Addr} {sl_InvalidWord_init : Array (Option Value)} {oc_InvalidWord_init kV_InvalidWord_init dc_InvalidWord_init pm_InvalidWord_init cd_InvalidWord_init ct_InvalidWord_init : Value}
    {od_InvalidColumns_init an_InvalidColumns_init : Option Addr} {sl_InvalidColumns_init : Array (Option Value)} {oc_InvalidColumns_init kV_InvalidColumns_init dc_InvalidColumns_init pm_InvalidColumns_init cd_InvalidColumns_init ct_InvalidColumns_init : Value}
    {od_InvalidChanges_init an_InvalidChanges_init : Option Addr} {sl_InvalidChanges_init : Array (Option Value)} {oc_InvalidChanges_init kV_InvalidChanges_init dc_InvalidChanges_init pm_InvalidChanges_init cd_InvalidChanges_init ct_InvalidChanges_init : Value}
    {od_InvalidWishes_init an_InvalidWishes_init : Option Addr} {sl_InvalidWishes_init : Array (Option Value)} {oc_InvalidWishes_init kV_InvalidWishes_init dc_InvalidWishes_init pm_InvalidWishes_init cd_InvalidWishes_init ct_InvalidWishes_init : Value}
    {od_UnknownName_init an_UnknownName_init : Option Addr} {sl_UnknownName_init : Array (Option Value)} {oc_UnknownName_init kV_UnknownName_init dc_UnknownName_init pm_UnknownName_init cd_UnknownName_init ct_UnknownName_init : Value}
    {od_InUse_init an_InUse_init : Option Addr} {sl_InUse_init : Array (Option Value)} {oc_InUse_init kV_InUse_init dc_InUse_init pm_InUse_init cd_InUse_init ct_InUse_init : Value}
    {od_NotTriangular_init an_NotTriangular_init : Option Addr} {sl_NotTriangular_init : Array (Option Value)} {oc_NotTriangular_init kV_NotTriangular_init dc_NotTriangular_init pm_NotTriangular_init cd_NotTriangular_init ct_NotTriangular_init : Value}
    {od_OtherSize_init an_OtherSize_init : Option Addr} {sl_OtherSize_init : Array (Option Value)} {oc_OtherSize_init kV_OtherSize_init dc_OtherSize_init pm_OtherSize_init cd_OtherSize_init ct_OtherSize_init : Value}
    {od_TooMany_init an_TooMany_init : Option Addr} {sl_TooMany_init : Array (Option Value)} {oc_TooMany_init kV_TooMany_init dc_TooMany_init pm_TooMany_init cd_TooMany_init ct_TooMany_init : Value}
    {od_Broken_init an_Broken_init : Option Addr} {sl_Broken_init : Array (Option Value)} {oc_Broken_init kV_Broken_init dc_Broken_init pm_Broken_init cd_Broken_init ct_Broken_init : Value}
    {f_law_begun : Addr}
    {od_law_begun an_law_begun : Option Addr} {sl_law_begun : Array (Option Value)} {oc_law_begun kV_law_begun dc_law_begun pm_law_begun cd_law_begun ct_law_begun : Value}
    {f_law_cast : Addr}
    {od_law_cast an_law_cast : Option Addr} {sl_law_cast : Array (Option Value)} {oc_law_cast kV_law_cast dc_law_cast pm_law_cast cd_law_cast ct_law_cast : Value}
    {f_law_any_of : Addr}
    {od_law_any_of an_law_any_of : Option Addr} {sl_law_any_of : Array (Option Value)} {oc_law_any_of kV_law_any_of dc_law_any_of pm_law_any_of cd_law_any_of ct_law_any_of : Value}
    {f_law_thing : Addr}
    {od_law_thing an_law_thing : Option Addr} {sl_law_thing : Array (Option Value)} {oc_law_thing kV_law_thing dc_law_thing pm_law_thing cd_law_thing ct_law_thing : Value}
    {f_law_placed : Addr}
    {od_law_placed an_law_placed : Option Addr} {sl_law_placed : Array (Option Value)} {oc_law_placed kV_law_placed dc_law_placed pm_law_placed cd_law_placed ct_law_placed : Value}
    {f_law_named : Addr}
    {od_law_named an_law_named : Option Addr} {sl_law_named : Array (Option Value)} {oc_law_named kV_law_named dc_law_named pm_law_named cd_law_named ct_law_named : Value}
    {f_law_flags : Addr}
    {od_law_flags an_law_flags : Option Addr} {sl_law_flags : Array (Option Value)} {oc_law_flags kV_law_flags dc_law_flags pm_law_flags cd_law_flags ct_law_flags : Value}
    {f_law_bases : Addr}
    {od_law_bases an_law_bases : Option Addr} {sl_law_bases : Array (Option Value)} {oc_law_bases kV_law_bases dc_law_bases pm_law_bases cd_law_bases ct_law_bases : Value}
    {f_law_held : Addr}
    {od_law_held an_law_held : Option Addr} {sl_law_held : Array (Option Value)} {oc_law_held kV_law_held dc_law_held pm_law_held cd_law_held ct_law_held : Value}
    {f_law_some_right : Addr}
    {od_law_some_right an_law_some_right : Option Addr} {sl_law_some_right : Array (Option Value)} {oc_law_some_right kV_law_some_right dc_law_some_right pm_law_some_right cd_law_some_right ct_law_some_right : Value}
    {f_law_right : Addr}
    {od_law_right an_law_right : Option Addr} {sl_law_right : Array (Option Value)} {oc_law_right kV_law_right dc_law_right pm_law_right cd_law_right ct_law_right : Value}
    {f_law : Addr}
    {od_law an_law : Option Addr} {sl_law : Array (Option Value)} {oc_law kV_law dc_law pm_law cd_law ct_law : Value}
    {t_MOST_SIZE : Tok}
    {t_MOST_TABLES : Tok}
    {t_MOST_NUMBER : Tok}
    {t_MOST_LETTERS : Tok}
    {t_MOST_COLUMNS : Tok}
    {t_MOST_CHANGES : Tok}
    (aC_InvalidText : PySem.W.nsIn K mainGlobals "InvalidText" = some (some (.ref a_InvalidText)))
    (aC_InvalidName : PySem.W.nsIn K mainGlobals "InvalidName" = some (some (.ref a_InvalidName)))
    (aC_InvalidIndex : PySem.W.nsIn K mainGlobals "InvalidIndex" = some (some (.ref a_InvalidIndex)))
    (aC_InvalidSize : PySem.W.nsIn K mainGlobals "InvalidSize" = some (some (.ref a_InvalidSize)))
    (aC_InvalidTable : PySem.W.nsIn K mainGlobals "InvalidTable" = some (some (.ref a_InvalidTable)))
    (aC_InvalidView : PySem.W.nsIn K mainGlobals "InvalidView" = some (some (.ref a_InvalidView)))
    (aC_InvalidWish : PySem.W.nsIn K mainGlobals "InvalidWish" = some (some (.ref a_InvalidWish)))
    (aC_NotLot : PySem.W.nsIn K mainGlobals "NotLot" = some (some (.ref a_NotLot)))
    (aC_InvalidTables : PySem.W.nsIn K mainGlobals "InvalidTables" = some (some (.ref a_InvalidTables)))
    (aC_InvalidWord : PySem.W.nsIn K mainGlobals "InvalidWord" = some (some (.ref a_InvalidWord)))
    (aC_InvalidColumns : PySem.W.nsIn K mainGlobals "InvalidColumns" = some (some (.ref a_InvalidColumns)))
    (aC_InvalidChanges : PySem.W.nsIn K mainGlobals "InvalidChanges" = some (some (.ref a_InvalidChanges)))
    (aC_InvalidWishes : PySem.W.nsIn K mainGlobals "InvalidWishes" = some (some (.ref a_InvalidWishes)))
    (aC_UnknownName : PySem.W.nsIn K mainGlobals "UnknownName" = some (some (.ref a_UnknownName)))
    (aC_InUse : PySem.W.nsIn K mainGlobals "InUse" = some (some (.ref a_InUse)))
    (aC_NotTriangular : PySem.W.nsIn K mainGlobals "NotTriangular" = some (some (.ref a_NotTriangular)))
    (aC_OtherSize : PySem.W.nsIn K mainGlobals "OtherSize" = some (some (.ref a_OtherSize)))
    (aC_TooMany : PySem.W.nsIn K mainGlobals "TooMany" = some (some (.ref a_TooMany)))
    (aC_NothingToUndo : PySem.W.nsIn K mainGlobals "NothingToUndo" = some (some (.ref a_NothingToUndo)))
    (aC_Broken : PySem.W.nsIn K mainGlobals "Broken" = some (some (.ref a_Broken)))
    (aC_WrongValue : PySem.W.nsIn K mainGlobals "WrongValue" = some (some (.ref a_WrongValue)))
    (aC_WrongName : PySem.W.nsIn K mainGlobals "WrongName" = some (some (.ref a_WrongName)))
    (aC_NotPossible : PySem.W.nsIn K mainGlobals "NotPossible" = some (some (.ref a_NotPossible)))
    (lx_InvalidText : K.lookup a_InvalidText = some (PySem.excClassObj nm_InvalidText q_InvalidText a_InvalidText N_InvalidText bs_InvalidText bm_InvalidText true sn_InvalidText sub_InvalidText ab_InvalidText col_InvalidText dd_InvalidText k0_InvalidText k1_InvalidText k2_InvalidText k3_InvalidText k5_InvalidText "ValueError.__new__"))
    (rv_InvalidText : PySem.HandSPX.refsT PySem.HandSPX.veTail bm_InvalidText = true)
    (sa_InvalidText : PySem.W.findIn K (.ref a_InvalidText) "__setattr__" = some (some (.builtin "object.__setattr__")))
    (sb_InvalidText : PySem.W.subIn K (.ref a_InvalidText) (.type "BaseException") = some true)
    (ty_InvalidText : PySem.W.typeIn K (.ref a_InvalidText) = some (.type "type"))
    (kx_InvalidText : PySem.W.keepIn K (.ref a_InvalidText) = true)
    (oi_InvalidText : PySem.W.findIn K (.ref a_InvalidText) "__init__" = some (some (.ref f_InvalidText_init)))
    (ot_InvalidText : PySem.W.typeIn K (.ref f_InvalidText_init) = some (.type "function"))
    (nx_InvalidText : PySem.W.findIn K (.ref a_InvalidText) "given" = some none)
    (lx_InvalidName : K.lookup a_InvalidName = some (PySem.excClassObj nm_InvalidName q_InvalidName a_InvalidName N_InvalidName bs_InvalidName bm_InvalidName true sn_InvalidName sub_InvalidName ab_InvalidName col_InvalidName dd_InvalidName k0_InvalidName k1_InvalidName k2_InvalidName k3_InvalidName k5_InvalidName "ValueError.__new__"))
    (rv_InvalidName : PySem.HandSPX.refsT PySem.HandSPX.veTail bm_InvalidName = true)
    (sa_InvalidName : PySem.W.findIn K (.ref a_InvalidName) "__setattr__" = some (some (.builtin "object.__setattr__")))
    (sb_InvalidName : PySem.W.subIn K (.ref a_InvalidName) (.type "BaseException") = some true)
    (ty_InvalidName : PySem.W.typeIn K (.ref a_InvalidName) = some (.type "type"))
    (kx_InvalidName : PySem.W.keepIn K (.ref a_InvalidName) = true)
    (oi_InvalidName : PySem.W.findIn K (.ref a_InvalidName) "__init__" = some (some (.ref f_InvalidName_init)))
    (ot_InvalidName : PySem.W.typeIn K (.ref f_InvalidName_init) = some (.type "function"))
    (nx_InvalidName : PySem.W.findIn K (.ref a_InvalidName) "given" = some none)
    (lx_InvalidIndex : K.lookup a_InvalidIndex = some (PySem.excClassObj nm_InvalidIndex q_InvalidIndex a_InvalidIndex N_InvalidIndex bs_InvalidIndex bm_InvalidIndex true sn_InvalidIndex sub_InvalidIndex ab_InvalidIndex col_InvalidIndex dd_InvalidIndex k0_InvalidIndex k1_InvalidIndex k2_InvalidIndex k3_InvalidIndex k5_InvalidIndex "ValueError.__new__"))
    (rv_InvalidIndex : PySem.HandSPX.refsT PySem.HandSPX.veTail bm_InvalidIndex = true)
    (sa_InvalidIndex : PySem.W.findIn K (.ref a_InvalidIndex) "__setattr__" = some (some (.builtin "object.__setattr__")))
    (sb_InvalidIndex : PySem.W.subIn K (.ref a_InvalidIndex) (.type "BaseException") = some true)
    (ty_InvalidIndex : PySem.W.typeIn K (.ref a_InvalidIndex) = some (.type "type"))
    (kx_InvalidIndex : PySem.W.keepIn K (.ref a_InvalidIndex) = true)
    (oi_InvalidIndex : PySem.W.findIn K (.ref a_InvalidIndex) "__init__" = some (some (.ref f_InvalidIndex_init)))
    (ot_InvalidIndex : PySem.W.typeIn K (.ref f_InvalidIndex_init) = some (.type "function"))
    (nx_InvalidIndex : PySem.W.findIn K (.ref a_InvalidIndex) "given" = some none)
    (lx_InvalidSize : K.lookup a_InvalidSize = some (PySem.excClassObj nm_InvalidSize q_InvalidSize a_InvalidSize N_InvalidSize bs_InvalidSize bm_InvalidSize true sn_InvalidSize sub_InvalidSize ab_InvalidSize col_InvalidSize dd_InvalidSize k0_InvalidSize k1_InvalidSize k2_InvalidSize k3_InvalidSize k5_InvalidSize "ValueError.__new__"))
    (rv_InvalidSize : PySem.HandSPX.refsT PySem.HandSPX.veTail bm_InvalidSize = true)
    (sa_InvalidSize : PySem.W.findIn K (.ref a_InvalidSize) "__setattr__" = some (some (.builtin "object.__setattr__")))
    (sb_InvalidSize : PySem.W.subIn K (.ref a_InvalidSize) (.type "BaseException") = some true)
    (ty_InvalidSize : PySem.W.typeIn K (.ref a_InvalidSize) = some (.type "type"))
    (kx_InvalidSize : PySem.W.keepIn K (.ref a_InvalidSize) = true)
    (oi_InvalidSize : PySem.W.findIn K (.ref a_InvalidSize) "__init__" = some (some (.ref f_InvalidSize_init)))
    (ot_InvalidSize : PySem.W.typeIn K (.ref f_InvalidSize_init) = some (.type "function"))
    (nx_InvalidSize : PySem.W.findIn K (.ref a_InvalidSize) "given" = some none)
    (lx_InvalidTable : K.lookup a_InvalidTable = some (PySem.excClassObj nm_InvalidTable q_InvalidTable a_InvalidTable N_InvalidTable bs_InvalidTable bm_InvalidTable true sn_InvalidTable sub_InvalidTable ab_InvalidTable col_InvalidTable dd_InvalidTable k0_InvalidTable k1_InvalidTable k2_InvalidTable k3_InvalidTable k5_InvalidTable "ValueError.__new__"))
    (rv_InvalidTable : PySem.HandSPX.refsT PySem.HandSPX.veTail bm_InvalidTable = true)
    (sa_InvalidTable : PySem.W.findIn K (.ref a_InvalidTable) "__setattr__" = some (some (.builtin "object.__setattr__")))
    (sb_InvalidTable : PySem.W.subIn K (.ref a_InvalidTable) (.type "BaseException") = some true)
    (ty_InvalidTable : PySem.W.typeIn K (.ref a_InvalidTable) = some (.type "type"))
    (kx_InvalidTable : PySem.W.keepIn K (.ref a_InvalidTable) = true)
    (oi_InvalidTable : PySem.W.findIn K (.ref a_InvalidTable) "__init__" = some (some (.ref f_InvalidTable_init)))
    (ot_InvalidTable : PySem.W.typeIn K (.ref f_InvalidTable_init) = some (.type "function"))
    (nx_InvalidTable : PySem.W.findIn K (.ref a_InvalidTable) "given" = some none)
    (lx_InvalidView : K.lookup a_InvalidView = some (PySem.excClassObj nm_InvalidView q_InvalidView a_InvalidView N_InvalidView bs_InvalidView bm_InvalidView true sn_InvalidView sub_InvalidView ab_InvalidView col_InvalidView dd_InvalidView k0_InvalidView k1_InvalidView k2_InvalidView k3_InvalidView k5_InvalidView "ValueError.__new__"))
    (rv_InvalidView : PySem.HandSPX.refsT PySem.HandSPX.veTail bm_InvalidView = true)
    (sa_InvalidView : PySem.W.findIn K (.ref a_InvalidView) "__setattr__" = some (some (.builtin "object.__setattr__")))
    (sb_InvalidView : PySem.W.subIn K (.ref a_InvalidView) (.type "BaseException") = some true)
    (ty_InvalidView : PySem.W.typeIn K (.ref a_InvalidView) = some (.type "type"))
    (kx_InvalidView : PySem.W.keepIn K (.ref a_InvalidView) = true)
    (oi_InvalidView : PySem.W.findIn K (.ref a_InvalidView) "__init__" = some (some (.ref f_InvalidView_init)))
    (ot_InvalidView : PySem.W.typeIn K (.ref f_InvalidView_init) = some (.type "function"))
    (nx_InvalidView : PySem.W.findIn K (.ref a_InvalidView) "given" = some none)
    (lx_InvalidWish : K.lookup a_InvalidWish = some (PySem.excClassObj nm_InvalidWish q_InvalidWish a_InvalidWish N_InvalidWish bs_InvalidWish bm_InvalidWish true sn_InvalidWish sub_InvalidWish ab_InvalidWish col_InvalidWish dd_InvalidWish k0_InvalidWish k1_InvalidWish k2_InvalidWish k3_InvalidWish k5_InvalidWish "ValueError.__new__"))
    (rv_InvalidWish : PySem.HandSPX.refsT PySem.HandSPX.veTail bm_InvalidWish = true)
    (sa_InvalidWish : PySem.W.findIn K (.ref a_InvalidWish) "__setattr__" = some (some (.builtin "object.__setattr__")))
    (sb_InvalidWish : PySem.W.subIn K (.ref a_InvalidWish) (.type "BaseException") = some true)
    (ty_InvalidWish : PySem.W.typeIn K (.ref a_InvalidWish) = some (.type "type"))
    (kx_InvalidWish : PySem.W.keepIn K (.ref a_InvalidWish) = true)
    (oi_InvalidWish : PySem.W.findIn K (.ref a_InvalidWish) "__init__" = some (some (.ref f_InvalidWish_init)))
    (ot_InvalidWish : PySem.W.typeIn K (.ref f_InvalidWish_init) = some (.type "function"))
    (nx_InvalidWish : PySem.W.findIn K (.ref a_InvalidWish) "given" = some none)
    (lx_NotLot : K.lookup a_NotLot = some (PySem.excClassObj nm_NotLot q_NotLot a_NotLot N_NotLot bs_NotLot bm_NotLot true sn_NotLot sub_NotLot ab_NotLot col_NotLot dd_NotLot k0_NotLot k1_NotLot k2_NotLot k3_NotLot k5_NotLot "ValueError.__new__"))
    (rv_NotLot : PySem.HandSPX.refsT PySem.HandSPX.veTail bm_NotLot = true)
    (sa_NotLot : PySem.W.findIn K (.ref a_NotLot) "__setattr__" = some (some (.builtin "object.__setattr__")))
    (sb_NotLot : PySem.W.subIn K (.ref a_NotLot) (.type "BaseException") = some true)
    (ty_NotLot : PySem.W.typeIn K (.ref a_NotLot) = some (.type "type"))
    (kx_NotLot : PySem.W.keepIn K (.ref a_NotLot) = true)
    (oi_NotLot : PySem.W.findIn K (.ref a_NotLot) "__init__" = some (some (.ref f_NotLot_init)))
    (ot_NotLot : PySem.W.typeIn K (.ref f_NotLot_init) = some (.type "function"))
    (nx_NotLot : PySem.W.findIn K (.ref a_NotLot) "given" = some none)
    (lx_InvalidTables : K.lookup a_InvalidTables = some (PySem.excClassObj nm_InvalidTables q_InvalidTables a_InvalidTables N_InvalidTables bs_InvalidTables bm_InvalidTables true sn_InvalidTables sub_InvalidTables ab_InvalidTables col_InvalidTables dd_InvalidTables k0_InvalidTables k1_InvalidTables k2_InvalidTables k3_InvalidTables k5_InvalidTables "ValueError.__new__"))
    (rv_InvalidTables : PySem.HandSPX.refsT PySem.HandSPX.veTail bm_InvalidTables = true)
    (sa_InvalidTables : PySem.W.findIn K (.ref a_InvalidTables) "__setattr__" = some (some (.builtin "object.__setattr__")))
    (sb_InvalidTables : PySem.W.subIn K (.ref a_InvalidTables) (.type "BaseException") = some true)
    (ty_InvalidTables : PySem.W.typeIn K (.ref a_InvalidTables) = some (.type "type"))
    (kx_InvalidTables : PySem.W.keepIn K (.ref a_InvalidTables) = true)
    (oi_InvalidTables : PySem.W.findIn K (.ref a_InvalidTables) "__init__" = some (some (.ref f_InvalidTables_init)))
    (ot_InvalidTables : PySem.W.typeIn K (.ref f_InvalidTables_init) = some (.type "function"))
    (nx_InvalidTables : PySem.W.findIn K (.ref a_InvalidTables) "index" = some none)
    (lx_InvalidWord : K.lookup a_InvalidWord = some (PySem.excClassObj nm_InvalidWord q_InvalidWord a_InvalidWord N_InvalidWord bs_InvalidWord bm_InvalidWord true sn_InvalidWord sub_InvalidWord ab_InvalidWord col_InvalidWord dd_InvalidWord k0_InvalidWord k1_InvalidWord k2_InvalidWord k3_InvalidWord k5_InvalidWord "ValueError.__new__"))
    (rv_InvalidWord : PySem.HandSPX.refsT PySem.HandSPX.veTail bm_InvalidWord = true)
    (sa_InvalidWord : PySem.W.findIn K (.ref a_InvalidWord) "__setattr__" = some (some (.builtin "object.__setattr__")))
    (sb_InvalidWord : PySem.W.subIn K (.ref a_InvalidWord) (.type "BaseException") = some true)
    (ty_InvalidWord : PySem.W.typeIn K (.ref a_InvalidWord) = some (.type "type"))
    (kx_InvalidWord : PySem.W.keepIn K (.ref a_InvalidWord) = true)
    (oi_InvalidWord : PySem.W.findIn K (.ref a_InvalidWord) "__init__" = some (some (.ref f_InvalidWord_init)))
    (ot_InvalidWord : PySem.W.typeIn K (.ref f_InvalidWord_init) = some (.type "function"))
    (nx_InvalidWord : PySem.W.findIn K (.ref a_InvalidWord) "index" = some none)
    (lx_InvalidColumns : K.lookup a_InvalidColumns = some (PySem.excClassObj nm_InvalidColumns q_InvalidColumns a_InvalidColumns N_InvalidColumns bs_InvalidColumns bm_InvalidColumns true sn_InvalidColumns sub_InvalidColumns ab_InvalidColumns col_InvalidColumns dd_InvalidColumns k0_InvalidColumns k1_InvalidColumns k2_InvalidColumns k3_InvalidColumns k5_InvalidColumns "ValueError.__new__"))
    (rv_InvalidColumns : PySem.HandSPX.refsT PySem.HandSPX.veTail bm_InvalidColumns = true)
    (sa_InvalidColumns : PySem.W.findIn K (.ref a_InvalidColumns) "__setattr__" = some (some (.builtin "object.__setattr__")))
    (sb_InvalidColumns : PySem.W.subIn K (.ref a_InvalidColumns) (.type "BaseException") = some true)
    (ty_InvalidColumns : PySem.W.typeIn K (.ref a_InvalidColumns) = some (.type "type"))
    (kx_InvalidColumns : PySem.W.keepIn K (.ref a_InvalidColumns) = true)
    (oi_InvalidColumns : PySem.W.findIn K (.ref a_InvalidColumns) "__init__" = some (some (.ref f_InvalidColumns_init)))
    (ot_InvalidColumns : PySem.W.typeIn K (.ref f_InvalidColumns_init) = some (.type "function"))
    (nx_InvalidColumns : PySem.W.findIn K (.ref a_InvalidColumns) "index" = some none)
    (lx_InvalidChanges : K.lookup a_InvalidChanges = some (PySem.excClassObj nm_InvalidChanges q_InvalidChanges a_InvalidChanges N_InvalidChanges bs_InvalidChanges bm_InvalidChanges true sn_InvalidChanges sub_InvalidChanges ab_InvalidChanges col_InvalidChanges dd_InvalidChanges k0_InvalidChanges k1_InvalidChanges k2_InvalidChanges k3_InvalidChanges k5_InvalidChanges "ValueError.__new__"))
    (rv_InvalidChanges : PySem.HandSPX.refsT PySem.HandSPX.veTail bm_InvalidChanges = true)
    (sa_InvalidChanges : PySem.W.findIn K (.ref a_InvalidChanges) "__setattr__" = some (some (.builtin "object.__setattr__")))
    (sb_InvalidChanges : PySem.W.subIn K (.ref a_InvalidChanges) (.type "BaseException") = some true)
    (ty_InvalidChanges : PySem.W.typeIn K (.ref a_InvalidChanges) = some (.type "type"))
    (kx_InvalidChanges : PySem.W.keepIn K (.ref a_InvalidChanges) = true)
    (oi_InvalidChanges : PySem.W.findIn K (.ref a_InvalidChanges) "__init__" = some (some (.ref f_InvalidChanges_init)))
    (ot_InvalidChanges : PySem.W.typeIn K (.ref f_InvalidChanges_init) = some (.type "function"))
    (nx_InvalidChanges : PySem.W.findIn K (.ref a_InvalidChanges) "index" = some none)
    (lx_InvalidWishes : K.lookup a_InvalidWishes = some (PySem.excClassObj nm_InvalidWishes q_InvalidWishes a_InvalidWishes N_InvalidWishes bs_InvalidWishes bm_InvalidWishes true sn_InvalidWishes sub_InvalidWishes ab_InvalidWishes col_InvalidWishes dd_InvalidWishes k0_InvalidWishes k1_InvalidWishes k2_InvalidWishes k3_InvalidWishes k5_InvalidWishes "ValueError.__new__"))
    (rv_InvalidWishes : PySem.HandSPX.refsT PySem.HandSPX.veTail bm_InvalidWishes = true)
    (sa_InvalidWishes : PySem.W.findIn K (.ref a_InvalidWishes) "__setattr__" = some (some (.builtin "object.__setattr__")))
    (sb_InvalidWishes : PySem.W.subIn K (.ref a_InvalidWishes) (.type "BaseException") = some true)
    (ty_InvalidWishes : PySem.W.typeIn K (.ref a_InvalidWishes) = some (.type "type"))
    (kx_InvalidWishes : PySem.W.keepIn K (.ref a_InvalidWishes) = true)
    (oi_InvalidWishes : PySem.W.findIn K (.ref a_InvalidWishes) "__init__" = some (some (.ref f_InvalidWishes_init)))
    (ot_InvalidWishes : PySem.W.typeIn K (.ref f_InvalidWishes_init) = some (.type "function"))
    (nx_InvalidWishes : PySem.W.findIn K (.ref a_InvalidWishes) "index" = some none)
    (lx_UnknownName : K.lookup a_UnknownName = some (PySem.excClassObj nm_UnknownName q_UnknownName a_UnknownName N_UnknownName bs_UnknownName bm_UnknownName true sn_UnknownName sub_UnknownName ab_UnknownName col_UnknownName dd_UnknownName k0_UnknownName k1_UnknownName k2_UnknownName k3_UnknownName k5_UnknownName "LookupError.__new__"))
    (rv_UnknownName : PySem.HandSPX.refsT PySem.HandSPX.leTail bm_UnknownName = true)
    (sa_UnknownName : PySem.W.findIn K (.ref a_UnknownName) "__setattr__" = some (some (.builtin "object.__setattr__")))
    (sb_UnknownName : PySem.W.subIn K (.ref a_UnknownName) (.type "BaseException") = some true)
    (ty_UnknownName : PySem.W.typeIn K (.ref a_UnknownName) = some (.type "type"))
    (kx_UnknownName : PySem.W.keepIn K (.ref a_UnknownName) = true)
    (oi_UnknownName : PySem.W.findIn K (.ref a_UnknownName) "__init__" = some (some (.ref f_UnknownName_init)))
    (ot_UnknownName : PySem.W.typeIn K (.ref f_UnknownName_init) = some (.type "function"))
    (nx_UnknownName : PySem.W.findIn K (.ref a_UnknownName) "given" = some none)
    (lx_InUse : K.lookup a_InUse = some (PySem.excClassObj nm_InUse q_InUse a_InUse N_InUse bs_InUse bm_InUse true sn_InUse sub_InUse ab_InUse col_InUse dd_InUse k0_InUse k1_InUse k2_InUse k3_InUse k5_InUse "LookupError.__new__"))
    (rv_InUse : PySem.HandSPX.refsT PySem.HandSPX.leTail bm_InUse = true)
    (sa_InUse : PySem.W.findIn K (.ref a_InUse) "__setattr__" = some (some (.builtin "object.__setattr__")))
    (sb_InUse : PySem.W.subIn K (.ref a_InUse) (.type "BaseException") = some true)
    (ty_InUse : PySem.W.typeIn K (.ref a_InUse) = some (.type "type"))
    (kx_InUse : PySem.W.keepIn K (.ref a_InUse) = true)
    (oi_InUse : PySem.W.findIn K (.ref a_InUse) "__init__" = some (some (.ref f_InUse_init)))
    (ot_InUse : PySem.W.typeIn K (.ref f_InUse_init) = some (.type "function"))
    (nx_InUse : PySem.W.findIn K (.ref a_InUse) "index" = some none)
    (lx_NotTriangular : K.lookup a_NotTriangular = some (PySem.excClassObj nm_NotTriangular q_NotTriangular a_NotTriangular N_NotTriangular bs_NotTriangular bm_NotTriangular true sn_NotTriangular sub_NotTriangular ab_NotTriangular col_NotTriangular dd_NotTriangular k0_NotTriangular k1_NotTriangular k2_NotTriangular k3_NotTriangular k5_NotTriangular "ArithmeticError.__new__"))
    (rv_NotTriangular : PySem.HandSPX.refsT PySem.HandSPX.aeTail bm_NotTriangular = true)
    (sa_NotTriangular : PySem.W.findIn K (.ref a_NotTriangular) "__setattr__" = some (some (.builtin "object.__setattr__")))
    (sb_NotTriangular : PySem.W.subIn K (.ref a_NotTriangular) (.type "BaseException") = some true)
    (ty_NotTriangular : PySem.W.typeIn K (.ref a_NotTriangular) = some (.type "type"))
    (kx_NotTriangular : PySem.W.keepIn K (.ref a_NotTriangular) = true)
    (oi_NotTriangular : PySem.W.findIn K (.ref a_NotTriangular) "__init__" = some (some (.ref f_NotTriangular_init)))
    (ot_NotTriangular : PySem.W.typeIn K (.ref f_NotTriangular_init) = some (.type "function"))
    (nx_NotTriangular : PySem.W.findIn K (.ref a_NotTriangular) "given" = some none)
    (lx_OtherSize : K.lookup a_OtherSize = some (PySem.excClassObj nm_OtherSize q_OtherSize a_OtherSize N_OtherSize bs_OtherSize bm_OtherSize true sn_OtherSize sub_OtherSize ab_OtherSize col_OtherSize dd_OtherSize k0_OtherSize k1_OtherSize k2_OtherSize k3_OtherSize k5_OtherSize "ArithmeticError.__new__"))
    (rv_OtherSize : PySem.HandSPX.refsT PySem.HandSPX.aeTail bm_OtherSize = true)
    (sa_OtherSize : PySem.W.findIn K (.ref a_OtherSize) "__setattr__" = some (some (.builtin "object.__setattr__")))
    (sb_OtherSize : PySem.W.subIn K (.ref a_OtherSize) (.type "BaseException") = some true)
    (ty_OtherSize : PySem.W.typeIn K (.ref a_OtherSize) = some (.type "type"))
    (kx_OtherSize : PySem.W.keepIn K (.ref a_OtherSize) = true)
    (oi_OtherSize : PySem.W.findIn K (.ref a_OtherSize) "__init__" = some (some (.ref f_OtherSize_init)))
    (ot_OtherSize : PySem.W.typeIn K (.ref f_OtherSize_init) = some (.type "function"))
    (nx_OtherSize : PySem.W.findIn K (.ref a_OtherSize) "given" = some none)
    (lx_TooMany : K.lookup a_TooMany = some (PySem.excClassObj nm_TooMany q_TooMany a_TooMany N_TooMany bs_TooMany bm_TooMany true sn_TooMany sub_TooMany ab_TooMany col_TooMany dd_TooMany k0_TooMany k1_TooMany k2_TooMany k3_TooMany k5_TooMany "ArithmeticError.__new__"))
    (rv_TooMany : PySem.HandSPX.refsT PySem.HandSPX.aeTail bm_TooMany = true)
    (sa_TooMany : PySem.W.findIn K (.ref a_TooMany) "__setattr__" = some (some (.builtin "object.__setattr__")))
    (sb_TooMany : PySem.W.subIn K (.ref a_TooMany) (.type "BaseException") = some true)
    (ty_TooMany : PySem.W.typeIn K (.ref a_TooMany) = some (.type "type"))
    (kx_TooMany : PySem.W.keepIn K (.ref a_TooMany) = true)
    (oi_TooMany : PySem.W.findIn K (.ref a_TooMany) "__init__" = some (some (.ref f_TooMany_init)))
    (ot_TooMany : PySem.W.typeIn K (.ref f_TooMany_init) = some (.type "function"))
    (nx_TooMany : PySem.W.findIn K (.ref a_TooMany) "given" = some none)
    (lx_Broken : K.lookup a_Broken = some (PySem.excClassObj nm_Broken q_Broken a_Broken N_Broken bs_Broken bm_Broken true sn_Broken sub_Broken ab_Broken col_Broken dd_Broken k0_Broken k1_Broken k2_Broken k3_Broken k5_Broken "ArithmeticError.__new__"))
    (rv_Broken : PySem.HandSPX.refsT PySem.HandSPX.aeTail bm_Broken = true)
    (sa_Broken : PySem.W.findIn K (.ref a_Broken) "__setattr__" = some (some (.builtin "object.__setattr__")))
    (sb_Broken : PySem.W.subIn K (.ref a_Broken) (.type "BaseException") = some true)
    (ty_Broken : PySem.W.typeIn K (.ref a_Broken) = some (.type "type"))
    (kx_Broken : PySem.W.keepIn K (.ref a_Broken) = true)
    (oi_Broken : PySem.W.findIn K (.ref a_Broken) "__init__" = some (some (.ref f_Broken_init)))
    (ot_Broken : PySem.W.typeIn K (.ref f_Broken_init) = some (.type "function"))
    (nx_Broken : PySem.W.findIn K (.ref a_Broken) "index" = some none)
    (ex_NothingToUndo : PySem.W.excIn K a_NothingToUndo [.type "ArithmeticError", .type "Exception", .type "BaseException", .type "object"] "ArithmeticError.__new__" = true)
    (kx_NothingToUndo : PySem.W.keepIn K (.ref a_NothingToUndo) = true)
    (ex_WrongValue : PySem.W.excIn K a_WrongValue [.type "ValueError", .type "Exception", .type "BaseException", .type "object"] "ValueError.__new__" = true)
    (kx_WrongValue : PySem.W.keepIn K (.ref a_WrongValue) = true)
    (ex_WrongName : PySem.W.excIn K a_WrongName [.type "LookupError", .type "Exception", .type "BaseException", .type "object"] "LookupError.__new__" = true)
    (kx_WrongName : PySem.W.keepIn K (.ref a_WrongName) = true)
    (ex_NotPossible : PySem.W.excIn K a_NotPossible [.type "ArithmeticError", .type "Exception", .type "BaseException", .type "object"] "ArithmeticError.__new__" = true)
    (kx_NotPossible : PySem.W.keepIn K (.ref a_NotPossible) = true)
    (xd : [a_InvalidText, a_InvalidName, a_InvalidIndex, a_InvalidSize, a_InvalidTable, a_InvalidView, a_InvalidWish, a_NotLot, a_InvalidTables, a_InvalidWord, a_InvalidColumns, a_InvalidChanges, a_InvalidWishes, a_UnknownName, a_InUse, a_NotTriangular, a_OtherSize, a_TooMany, a_NothingToUndo, a_Broken, a_WrongValue, a_WrongName, a_NotPossible].all (excDB K) = true)
    (kr : krAll K [a_InvalidText, a_InvalidName, a_InvalidIndex, a_InvalidSize, a_InvalidTable, a_InvalidView, a_InvalidWish, a_NotLot, a_InvalidTables, a_InvalidWord, a_InvalidColumns, a_InvalidChanges, a_InvalidWishes, a_UnknownName, a_InUse, a_NotTriangular, a_OtherSize, a_TooMany, a_NothingToUndo, a_Broken] = true)
    (kb : kbAll K [a_InvalidText, a_InvalidName, a_InvalidIndex, a_InvalidSize, a_InvalidTable, a_InvalidView, a_InvalidWish, a_NotLot, a_InvalidTables, a_InvalidWord, a_InvalidColumns, a_InvalidChanges, a_InvalidWishes, a_UnknownName, a_InUse, a_NotTriangular, a_OtherSize, a_TooMany, a_NothingToUndo, a_Broken, a_WrongValue, a_WrongName, a_NotPossible] [.ref a_WrongValue, .ref a_WrongName, .ref a_NotPossible, .type "ValueError", .type "LookupError", .type "ArithmeticError"] = true)
    (l_InvalidText_init : K.lookup f_InvalidText_init = some ⟨oc_InvalidText_init, od_InvalidText_init, .func (PySem.W.fnOf "__init__" "InvalidText.__init__" (defArgs s_InvalidText_init) (defBody s_InvalidText_init) (defScope s_InvalidText_init) .none kV_InvalidText_init dc_InvalidText_init pm_InvalidText_init an_InvalidText_init cd_InvalidText_init ct_InvalidText_init), sl_InvalidText_init⟩)
    (c_InvalidText_init : PySem.W.codeIn K cd_InvalidText_init "InvalidText.__init__" = true)
    (k_InvalidText_init : PySem.W.keepIn K (.ref f_InvalidText_init) = true)
    (l_InvalidName_init : K.lookup f_InvalidName_init = some ⟨oc_InvalidName_init, od_InvalidName_init, .func (PySem.W.fnOf "__init__" "InvalidName.__init__" (defArgs s_InvalidName_init) (defBody s_InvalidName_init) (defScope s_InvalidName_init) .none kV_InvalidName_init dc_InvalidName_init pm_InvalidName_init an_InvalidName_init cd_InvalidName_init ct_InvalidName_init), sl_InvalidName_init⟩)
    (c_InvalidName_init : PySem.W.codeIn K cd_InvalidName_init "InvalidName.__init__" = true)
    (k_InvalidName_init : PySem.W.keepIn K (.ref f_InvalidName_init) = true)
    (l_InvalidIndex_init : K.lookup f_InvalidIndex_init = some ⟨oc_InvalidIndex_init, od_InvalidIndex_init, .func (PySem.W.fnOf "__init__" "InvalidIndex.__init__" (defArgs s_InvalidIndex_init) (defBody s_InvalidIndex_init) (defScope s_InvalidIndex_init) .none kV_InvalidIndex_init dc_InvalidIndex_init pm_InvalidIndex_init an_InvalidIndex_init cd_InvalidIndex_init ct_InvalidIndex_init), sl_InvalidIndex_init⟩)
    (c_InvalidIndex_init : PySem.W.codeIn K cd_InvalidIndex_init "InvalidIndex.__init__" = true)
    (k_InvalidIndex_init : PySem.W.keepIn K (.ref f_InvalidIndex_init) = true)
    (l_InvalidSize_init : K.lookup f_InvalidSize_init = some ⟨oc_InvalidSize_init, od_InvalidSize_init, .func (PySem.W.fnOf "__init__" "InvalidSize.__init__" (defArgs s_InvalidSize_init) (defBody s_InvalidSize_init) (defScope s_InvalidSize_init) .none kV_InvalidSize_init dc_InvalidSize_init pm_InvalidSize_init an_InvalidSize_init cd_InvalidSize_init ct_InvalidSize_init), sl_InvalidSize_init⟩)
    (c_InvalidSize_init : PySem.W.codeIn K cd_InvalidSize_init "InvalidSize.__init__" = true)
    (k_InvalidSize_init : PySem.W.keepIn K (.ref f_InvalidSize_init) = true)
    (l_InvalidTable_init : K.lookup f_InvalidTable_init = some ⟨oc_InvalidTable_init, od_InvalidTable_init, .func (PySem.W.fnOf "__init__" "InvalidTable.__init__" (defArgs s_InvalidTable_init) (defBody s_InvalidTable_init) (defScope s_InvalidTable_init) .none kV_InvalidTable_init dc_InvalidTable_init pm_InvalidTable_init an_InvalidTable_init cd_InvalidTable_init ct_InvalidTable_init), sl_InvalidTable_init⟩)
    (c_InvalidTable_init : PySem.W.codeIn K cd_InvalidTable_init "InvalidTable.__init__" = true)
    (k_InvalidTable_init : PySem.W.keepIn K (.ref f_InvalidTable_init) = true)
    (l_InvalidView_init : K.lookup f_InvalidView_init = some ⟨oc_InvalidView_init, od_InvalidView_init, .func (PySem.W.fnOf "__init__" "InvalidView.__init__" (defArgs s_InvalidView_init) (defBody s_InvalidView_init) (defScope s_InvalidView_init) .none kV_InvalidView_init dc_InvalidView_init pm_InvalidView_init an_InvalidView_init cd_InvalidView_init ct_InvalidView_init), sl_InvalidView_init⟩)
    (c_InvalidView_init : PySem.W.codeIn K cd_InvalidView_init "InvalidView.__init__" = true)
    (k_InvalidView_init : PySem.W.keepIn K (.ref f_InvalidView_init) = true)
    (l_InvalidWish_init : K.lookup f_InvalidWish_init = some ⟨oc_InvalidWish_init, od_InvalidWish_init, .func (PySem.W.fnOf "__init__" "InvalidWish.__init__" (defArgs s_InvalidWish_init) (defBody s_InvalidWish_init) (defScope s_InvalidWish_init) .none kV_InvalidWish_init dc_InvalidWish_init pm_InvalidWish_init an_InvalidWish_init cd_InvalidWish_init ct_InvalidWish_init), sl_InvalidWish_init⟩)
    (c_InvalidWish_init : PySem.W.codeIn K cd_InvalidWish_init "InvalidWish.__init__" = true)
    (k_InvalidWish_init : PySem.W.keepIn K (.ref f_InvalidWish_init) = true)
    (l_NotLot_init : K.lookup f_NotLot_init = some ⟨oc_NotLot_init, od_NotLot_init, .func (PySem.W.fnOf "__init__" "NotLot.__init__" (defArgs s_NotLot_init) (defBody s_NotLot_init) (defScope s_NotLot_init) .none kV_NotLot_init dc_NotLot_init pm_NotLot_init an_NotLot_init cd_NotLot_init ct_NotLot_init), sl_NotLot_init⟩)
    (c_NotLot_init : PySem.W.codeIn K cd_NotLot_init "NotLot.__init__" = true)
    (k_NotLot_init : PySem.W.keepIn K (.ref f_NotLot_init) = true)
    (l_InvalidTables_init : K.lookup f_InvalidTables_init = some ⟨oc_InvalidTables_init, od_InvalidTables_init, .func (PySem.W.fnOf "__init__" "InvalidTables.__init__" (defArgs s_InvalidTables_init) (defBody s_InvalidTables_init) (defScope s_InvalidTables_init) .none kV_InvalidTables_init dc_InvalidTables_init pm_InvalidTables_init an_InvalidTables_init cd_InvalidTables_init ct_InvalidTables_init), sl_InvalidTables_init⟩)
    (c_InvalidTables_init : PySem.W.codeIn K cd_InvalidTables_init "InvalidTables.__init__" = true)
    (k_InvalidTables_init : PySem.W.keepIn K (.ref f_InvalidTables_init) = true)
    (l_InvalidWord_init : K.lookup f_InvalidWord_init = some ⟨oc_InvalidWord_init, od_InvalidWord_init, .func (PySem.W.fnOf "__init__" "InvalidWord.__init__" (defArgs s_InvalidWord_init) (defBody s_InvalidWord_init) (defScope s_InvalidWord_init) .none kV_InvalidWord_init dc_InvalidWord_init pm_InvalidWord_init an_InvalidWord_init cd_InvalidWord_init ct_InvalidWord_init), sl_InvalidWord_init⟩)
    (c_InvalidWord_init : PySem.W.codeIn K cd_InvalidWord_init "InvalidWord.__init__" = true)
    (k_InvalidWord_init : PySem.W.keepIn K (.ref f_InvalidWord_init) = true)
    (l_InvalidColumns_init : K.lookup f_InvalidColumns_init = some ⟨oc_InvalidColumns_init, od_InvalidColumns_init, .func (PySem.W.fnOf "__init__" "InvalidColumns.__init__" (defArgs s_InvalidColumns_init) (defBody s_InvalidColumns_init) (defScope s_InvalidColumns_init) .none kV_InvalidColumns_init dc_InvalidColumns_init pm_InvalidColumns_init an_InvalidColumns_init cd_InvalidColumns_init ct_InvalidColumns_init), sl_InvalidColumns_init⟩)
    (c_InvalidColumns_init : PySem.W.codeIn K cd_InvalidColumns_init "InvalidColumns.__init__" = true)
    (k_InvalidColumns_init : PySem.W.keepIn K (.ref f_InvalidColumns_init) = true)
    (l_InvalidChanges_init : K.lookup f_InvalidChanges_init = some ⟨oc_InvalidChanges_init, od_InvalidChanges_init, .func (PySem.W.fnOf "__init__" "InvalidChanges.__init__" (defArgs s_InvalidChanges_init) (defBody s_InvalidChanges_init) (defScope s_InvalidChanges_init) .none kV_InvalidChanges_init dc_InvalidChanges_init pm_InvalidChanges_init an_InvalidChanges_init cd_InvalidChanges_init ct_InvalidChanges_init), sl_InvalidChanges_init⟩)
    (c_InvalidChanges_init : PySem.W.codeIn K cd_InvalidChanges_init "InvalidChanges.__init__" = true)
    (k_InvalidChanges_init : PySem.W.keepIn K (.ref f_InvalidChanges_init) = true)
    (l_InvalidWishes_init : K.lookup f_InvalidWishes_init = some ⟨oc_InvalidWishes_init, od_InvalidWishes_init, .func (PySem.W.fnOf "__init__" "InvalidWishes.__init__" (defArgs s_InvalidWishes_init) (defBody s_InvalidWishes_init) (defScope s_InvalidWishes_init) .none kV_InvalidWishes_init dc_InvalidWishes_init pm_InvalidWishes_init an_InvalidWishes_init cd_InvalidWishes_init ct_InvalidWishes_init), sl_InvalidWishes_init⟩)
    (c_InvalidWishes_init : PySem.W.codeIn K cd_InvalidWishes_init "InvalidWishes.__init__" = true)
    (k_InvalidWishes_init : PySem.W.keepIn K (.ref f_InvalidWishes_init) = true)
    (l_UnknownName_init : K.lookup f_UnknownName_init = some ⟨oc_UnknownName_init, od_UnknownName_init, .func (PySem.W.fnOf "__init__" "UnknownName.__init__" (defArgs s_UnknownName_init) (defBody s_UnknownName_init) (defScope s_UnknownName_init) .none kV_UnknownName_init dc_UnknownName_init pm_UnknownName_init an_UnknownName_init cd_UnknownName_init ct_UnknownName_init), sl_UnknownName_init⟩)
    (c_UnknownName_init : PySem.W.codeIn K cd_UnknownName_init "UnknownName.__init__" = true)
    (k_UnknownName_init : PySem.W.keepIn K (.ref f_UnknownName_init) = true)
    (l_InUse_init : K.lookup f_InUse_init = some ⟨oc_InUse_init, od_InUse_init, .func (PySem.W.fnOf "__init__" "InUse.__init__" (defArgs s_InUse_init) (defBody s_InUse_init) (defScope s_InUse_init) .none kV_InUse_init dc_InUse_init pm_InUse_init an_InUse_init cd_InUse_init ct_InUse_init), sl_InUse_init⟩)
    (c_InUse_init : PySem.W.codeIn K cd_InUse_init "InUse.__init__" = true)
    (k_InUse_init : PySem.W.keepIn K (.ref f_InUse_init) = true)
    (l_NotTriangular_init : K.lookup f_NotTriangular_init = some ⟨oc_NotTriangular_init, od_NotTriangular_init, .func (PySem.W.fnOf "__init__" "NotTriangular.__init__" (defArgs s_NotTriangular_init) (defBody s_NotTriangular_init) (defScope s_NotTriangular_init) .none kV_NotTriangular_init dc_NotTriangular_init pm_NotTriangular_init an_NotTriangular_init cd_NotTriangular_init ct_NotTriangular_init), sl_NotTriangular_init⟩)
    (c_NotTriangular_init : PySem.W.codeIn K cd_NotTriangular_init "NotTriangular.__init__" = true)
    (k_NotTriangular_init : PySem.W.keepIn K (.ref f_NotTriangular_init) = true)
    (l_OtherSize_init : K.lookup f_OtherSize_init = some ⟨oc_OtherSize_init, od_OtherSize_init, .func (PySem.W.fnOf "__init__" "OtherSize.__init__" (defArgs s_OtherSize_init) (defBody s_OtherSize_init) (defScope s_OtherSize_init) .none kV_OtherSize_init dc_OtherSize_init pm_OtherSize_init an_OtherSize_init cd_OtherSize_init ct_OtherSize_init), sl_OtherSize_init⟩)
    (c_OtherSize_init : PySem.W.codeIn K cd_OtherSize_init "OtherSize.__init__" = true)
    (k_OtherSize_init : PySem.W.keepIn K (.ref f_OtherSize_init) = true)
    (l_TooMany_init : K.lookup f_TooMany_init = some ⟨oc_TooMany_init, od_TooMany_init, .func (PySem.W.fnOf "__init__" "TooMany.__init__" (defArgs s_TooMany_init) (defBody s_TooMany_init) (defScope s_TooMany_init) .none kV_TooMany_init dc_TooMany_init pm_TooMany_init an_TooMany_init cd_TooMany_init ct_TooMany_init), sl_TooMany_init⟩)
    (c_TooMany_init : PySem.W.codeIn K cd_TooMany_init "TooMany.__init__" = true)
    (k_TooMany_init : PySem.W.keepIn K (.ref f_TooMany_init) = true)
    (l_Broken_init : K.lookup f_Broken_init = some ⟨oc_Broken_init, od_Broken_init, .func (PySem.W.fnOf "__init__" "Broken.__init__" (defArgs s_Broken_init) (defBody s_Broken_init) (defScope s_Broken_init) .none kV_Broken_init dc_Broken_init pm_Broken_init an_Broken_init cd_Broken_init ct_Broken_init), sl_Broken_init⟩)
    (c_Broken_init : PySem.W.codeIn K cd_Broken_init "Broken.__init__" = true)
    (k_Broken_init : PySem.W.keepIn K (.ref f_Broken_init) = true)
    (a_law_begun : PySem.W.nsIn K mainGlobals "_law_begun" = some (some (.ref f_law_begun)))
    (l_law_begun : K.lookup f_law_begun = some ⟨oc_law_begun, od_law_begun, .func (PySem.W.fnOf "_law_begun" "_law_begun" (defArgs s_law_begun) (defBody s_law_begun) (defScope s_law_begun) .none kV_law_begun dc_law_begun pm_law_begun an_law_begun cd_law_begun ct_law_begun), sl_law_begun⟩)
    (c_law_begun : PySem.W.codeIn K cd_law_begun "_law_begun" = true)
    (k_law_begun : PySem.W.keepIn K (.ref f_law_begun) = true)
    (a_law_cast : PySem.W.nsIn K mainGlobals "_law_cast" = some (some (.ref f_law_cast)))
    (l_law_cast : K.lookup f_law_cast = some ⟨oc_law_cast, od_law_cast, .func (PySem.W.fnOf "_law_cast" "_law_cast" (defArgs s_law_cast) (defBody s_law_cast) (defScope s_law_cast) .none kV_law_cast dc_law_cast pm_law_cast an_law_cast cd_law_cast ct_law_cast), sl_law_cast⟩)
    (c_law_cast : PySem.W.codeIn K cd_law_cast "_law_cast" = true)
    (k_law_cast : PySem.W.keepIn K (.ref f_law_cast) = true)
    (a_law_any_of : PySem.W.nsIn K mainGlobals "_law_any_of" = some (some (.ref f_law_any_of)))
    (l_law_any_of : K.lookup f_law_any_of = some ⟨oc_law_any_of, od_law_any_of, .func (PySem.W.fnOf "_law_any_of" "_law_any_of" (defArgs s_law_any_of) (defBody s_law_any_of) (defScope s_law_any_of) .none kV_law_any_of dc_law_any_of pm_law_any_of an_law_any_of cd_law_any_of ct_law_any_of), sl_law_any_of⟩)
    (c_law_any_of : PySem.W.codeIn K cd_law_any_of "_law_any_of" = true)
    (k_law_any_of : PySem.W.keepIn K (.ref f_law_any_of) = true)
    (a_law_thing : PySem.W.nsIn K mainGlobals "_law_thing" = some (some (.ref f_law_thing)))
    (l_law_thing : K.lookup f_law_thing = some ⟨oc_law_thing, od_law_thing, .func (PySem.W.fnOf "_law_thing" "_law_thing" (defArgs s_law_thing) (defBody s_law_thing) (defScope s_law_thing) .none kV_law_thing dc_law_thing pm_law_thing an_law_thing cd_law_thing ct_law_thing), sl_law_thing⟩)
    (c_law_thing : PySem.W.codeIn K cd_law_thing "_law_thing" = true)
    (k_law_thing : PySem.W.keepIn K (.ref f_law_thing) = true)
    (a_law_placed : PySem.W.nsIn K mainGlobals "_law_placed" = some (some (.ref f_law_placed)))
    (l_law_placed : K.lookup f_law_placed = some ⟨oc_law_placed, od_law_placed, .func (PySem.W.fnOf "_law_placed" "_law_placed" (defArgs s_law_placed) (defBody s_law_placed) (defScope s_law_placed) .none kV_law_placed dc_law_placed pm_law_placed an_law_placed cd_law_placed ct_law_placed), sl_law_placed⟩)
    (c_law_placed : PySem.W.codeIn K cd_law_placed "_law_placed" = true)
    (k_law_placed : PySem.W.keepIn K (.ref f_law_placed) = true)
    (a_law_named : PySem.W.nsIn K mainGlobals "_law_named" = some (some (.ref f_law_named)))
    (l_law_named : K.lookup f_law_named = some ⟨oc_law_named, od_law_named, .func (PySem.W.fnOf "_law_named" "_law_named" (defArgs s_law_named) (defBody s_law_named) (defScope s_law_named) .none kV_law_named dc_law_named pm_law_named an_law_named cd_law_named ct_law_named), sl_law_named⟩)
    (c_law_named : PySem.W.codeIn K cd_law_named "_law_named" = true)
    (k_law_named : PySem.W.keepIn K (.ref f_law_named) = true)
    (a_law_flags : PySem.W.nsIn K mainGlobals "_law_flags" = some (some (.ref f_law_flags)))
    (l_law_flags : K.lookup f_law_flags = some ⟨oc_law_flags, od_law_flags, .func (PySem.W.fnOf "_law_flags" "_law_flags" (defArgs s_law_flags) (defBody s_law_flags) (defScope s_law_flags) .none kV_law_flags dc_law_flags pm_law_flags an_law_flags cd_law_flags ct_law_flags), sl_law_flags⟩)
    (c_law_flags : PySem.W.codeIn K cd_law_flags "_law_flags" = true)
    (k_law_flags : PySem.W.keepIn K (.ref f_law_flags) = true)
    (a_law_bases : PySem.W.nsIn K mainGlobals "_law_bases" = some (some (.ref f_law_bases)))
    (l_law_bases : K.lookup f_law_bases = some ⟨oc_law_bases, od_law_bases, .func (PySem.W.fnOf "_law_bases" "_law_bases" (defArgs s_law_bases) (defBody s_law_bases) (defScope s_law_bases) .none kV_law_bases dc_law_bases pm_law_bases an_law_bases cd_law_bases ct_law_bases), sl_law_bases⟩)
    (c_law_bases : PySem.W.codeIn K cd_law_bases "_law_bases" = true)
    (k_law_bases : PySem.W.keepIn K (.ref f_law_bases) = true)
    (a_law_held : PySem.W.nsIn K mainGlobals "_law_held" = some (some (.ref f_law_held)))
    (l_law_held : K.lookup f_law_held = some ⟨oc_law_held, od_law_held, .func (PySem.W.fnOf "_law_held" "_law_held" (defArgs s_law_held) (defBody s_law_held) (defScope s_law_held) .none kV_law_held dc_law_held pm_law_held an_law_held cd_law_held ct_law_held), sl_law_held⟩)
    (c_law_held : PySem.W.codeIn K cd_law_held "_law_held" = true)
    (k_law_held : PySem.W.keepIn K (.ref f_law_held) = true)
    (a_law_some_right : PySem.W.nsIn K mainGlobals "_law_some_right" = some (some (.ref f_law_some_right)))
    (l_law_some_right : K.lookup f_law_some_right = some ⟨oc_law_some_right, od_law_some_right, .func (PySem.W.fnOf "_law_some_right" "_law_some_right" (defArgs s_law_some_right) (defBody s_law_some_right) (defScope s_law_some_right) .none kV_law_some_right dc_law_some_right pm_law_some_right an_law_some_right cd_law_some_right ct_law_some_right), sl_law_some_right⟩)
    (c_law_some_right : PySem.W.codeIn K cd_law_some_right "_law_some_right" = true)
    (k_law_some_right : PySem.W.keepIn K (.ref f_law_some_right) = true)
    (a_law_right : PySem.W.nsIn K mainGlobals "_law_right" = some (some (.ref f_law_right)))
    (l_law_right : K.lookup f_law_right = some ⟨oc_law_right, od_law_right, .func (PySem.W.fnOf "_law_right" "_law_right" (defArgs s_law_right) (defBody s_law_right) (defScope s_law_right) .none kV_law_right dc_law_right pm_law_right an_law_right cd_law_right ct_law_right), sl_law_right⟩)
    (c_law_right : PySem.W.codeIn K cd_law_right "_law_right" = true)
    (k_law_right : PySem.W.keepIn K (.ref f_law_right) = true)
    (a_law : PySem.W.nsIn K mainGlobals "law" = some (some (.ref f_law)))
    (l_law : K.lookup f_law = some ⟨oc_law, od_law, .func (PySem.W.fnOf "law" "law" (defArgs s_law) (defBody s_law) (defScope s_law) .none kV_law dc_law pm_law an_law cd_law ct_law), sl_law⟩)
    (c_law : PySem.W.codeIn K cd_law "law" = true)
    (k_law : PySem.W.keepIn K (.ref f_law) = true)
    (c_MOST_SIZE : PySem.W.nsIn K mainGlobals "MOST_SIZE" = some (some (.int 4 t_MOST_SIZE)))
    (c_MOST_TABLES : PySem.W.nsIn K mainGlobals "MOST_TABLES" = some (some (.int 3 t_MOST_TABLES)))
    (c_MOST_NUMBER : PySem.W.nsIn K mainGlobals "MOST_NUMBER" = some (some (.int 1000000 t_MOST_NUMBER)))
    (c_MOST_LETTERS : PySem.W.nsIn K mainGlobals "MOST_LETTERS" = some (some (.int 40 t_MOST_LETTERS)))
    (c_MOST_COLUMNS : PySem.W.nsIn K mainGlobals "MOST_COLUMNS" = some (some (.int 8 t_MOST_COLUMNS)))
    (c_MOST_CHANGES : PySem.W.nsIn K mainGlobals "MOST_CHANGES" = some (some (.int 6 t_MOST_CHANGES)))
    (n_isinstance : PySem.W.nsIn K mainGlobals "isinstance" = some none)
    (n_int : PySem.W.nsIn K mainGlobals "int" = some none)
    (n_len : PySem.W.nsIn K mainGlobals "len" = some none)
    (n_all : PySem.W.nsIn K mainGlobals "all" = some none)
    (n_range : PySem.W.nsIn K mainGlobals "range" = some none)
    (n_divmod : PySem.W.nsIn K mainGlobals "divmod" = some none)
    (n_abs : PySem.W.nsIn K mainGlobals "abs" = some none)
    (n_max : PySem.W.nsIn K mainGlobals "max" = some none)
    (n_min : PySem.W.nsIn K mainGlobals "min" = some none)
    (n_repr : PySem.W.nsIn K mainGlobals "repr" = some none)
    (n_ValueError : PySem.W.nsIn K mainGlobals "ValueError" = some none)
    (n_LookupError : PySem.W.nsIn K mainGlobals "LookupError" = some none)
    (n_ArithmeticError : PySem.W.nsIn K mainGlobals "ArithmeticError" = some none) :
    ∃ fd : FuncData, (∀ (s : Shared) (u : Value), BindsTo s fd ⟨[u], []⟩ [("_law_script", u)]) ∧ ∀ base : Heap, K.In base → base.Ns mainGlobals mg → FnOkG P w K mg base 7 fa fd ["_law_script"] (spLaw K) := by
  have e := (PySem.W.mg_of X G a_law).symm.trans hfa
  cases e
  have F_InvalidText_init := fun_mk (st := s_InvalidText_init) l_InvalidText_init c_InvalidText_init k_InvalidText_init
  have F_InvalidName_init := fun_mk (st := s_InvalidName_init) l_InvalidName_init c_InvalidName_init k_InvalidName_init
  have F_InvalidIndex_init := fun_mk (st := s_InvalidIndex_init) l_InvalidIndex_init c_InvalidIndex_init k_InvalidIndex_init
  have F_InvalidSize_init := fun_mk (st := s_InvalidSize_init) l_InvalidSize_init c_InvalidSize_init k_InvalidSize_init
  have F_InvalidTable_init := fun_mk (st := s_InvalidTable_init) l_InvalidTable_init c_InvalidTable_init k_InvalidTable_init
  have F_InvalidView_init := fun_mk (st := s_InvalidView_init) l_InvalidView_init c_InvalidView_init k_InvalidView_init
  have F_InvalidWish_init := fun_mk (st := s_InvalidWish_init) l_InvalidWish_init c_InvalidWish_init k_InvalidWish_init
  have F_NotLot_init := fun_mk (st := s_NotLot_init) l_NotLot_init c_NotLot_init k_NotLot_init
  have F_InvalidTables_init := fun_mk (st := s_InvalidTables_init) l_InvalidTables_init c_InvalidTables_init k_InvalidTables_init
  have F_InvalidWord_init := fun_mk (st := s_InvalidWord_init) l_InvalidWord_init c_InvalidWord_init k_InvalidWord_init
  have F_InvalidColumns_init := fun_mk (st := s_InvalidColumns_init) l_InvalidColumns_init c_InvalidColumns_init k_InvalidColumns_init
  have F_InvalidChanges_init := fun_mk (st := s_InvalidChanges_init) l_InvalidChanges_init c_InvalidChanges_init k_InvalidChanges_init
  have F_InvalidWishes_init := fun_mk (st := s_InvalidWishes_init) l_InvalidWishes_init c_InvalidWishes_init k_InvalidWishes_init
  have F_UnknownName_init := fun_mk (st := s_UnknownName_init) l_UnknownName_init c_UnknownName_init k_UnknownName_init
  have F_InUse_init := fun_mk (st := s_InUse_init) l_InUse_init c_InUse_init k_InUse_init
  have F_NotTriangular_init := fun_mk (st := s_NotTriangular_init) l_NotTriangular_init c_NotTriangular_init k_NotTriangular_init
  have F_OtherSize_init := fun_mk (st := s_OtherSize_init) l_OtherSize_init c_OtherSize_init k_OtherSize_init
  have F_TooMany_init := fun_mk (st := s_TooMany_init) l_TooMany_init c_TooMany_init k_TooMany_init
  have F_Broken_init := fun_mk (st := s_Broken_init) l_Broken_init c_Broken_init k_Broken_init
  have F_law_begun := fun_mk (st := s_law_begun) l_law_begun c_law_begun k_law_begun
  have F_law_cast := fun_mk (st := s_law_cast) l_law_cast c_law_cast k_law_cast
  have F_law_any_of := fun_mk (st := s_law_any_of) l_law_any_of c_law_any_of k_law_any_of
  have F_law_thing := fun_mk (st := s_law_thing) l_law_thing c_law_thing k_law_thing
  have F_law_placed := fun_mk (st := s_law_placed) l_law_placed c_law_placed k_law_placed
  have F_law_named := fun_mk (st := s_law_named) l_law_named c_law_named k_law_named
  have F_law_flags := fun_mk (st := s_law_flags) l_law_flags c_law_flags k_law_flags
  have F_law_bases := fun_mk (st := s_law_bases) l_law_bases c_law_bases k_law_bases
  have F_law_held := fun_mk (st := s_law_held) l_law_held c_law_held k_law_held
  have F_law_some_right := fun_mk (st := s_law_some_right) l_law_some_right c_law_some_right k_law_some_right
  have F_law_right := fun_mk (st := s_law_right) l_law_right c_law_right k_law_right
  have F_law := fun_mk (st := s_law) l_law c_law k_law
  obtain ⟨T, e1, e2⟩ : ∃ T : Txt K mg, T.a_law = fa ∧ T.d_law = PySem.W.fnOf "law" "law" (defArgs s_law) (defBody s_law) (defScope s_law) .none kV_law dc_law pm_law an_law cd_law ct_law := ⟨{
    a_InvalidText := a_InvalidText,
    g_InvalidText := PySem.W.mg_of X G aC_InvalidText,
    a_InvalidName := a_InvalidName,
    g_InvalidName := PySem.W.mg_of X G aC_InvalidName,
    a_InvalidIndex := a_InvalidIndex,
    g_InvalidIndex := PySem.W.mg_of X G aC_InvalidIndex,
    a_InvalidSize := a_InvalidSize,
    g_InvalidSize := PySem.W.mg_of X G aC_InvalidSize,
    a_InvalidTable := a_InvalidTable,
    g_InvalidTable := PySem.W.mg_of X G aC_InvalidTable,
    a_InvalidView := a_InvalidView,
    g_InvalidView := PySem.W.mg_of X G aC_InvalidView,
    a_InvalidWish := a_InvalidWish,
    g_InvalidWish := PySem.W.mg_of X G aC_InvalidWish,
    a_NotLot := a_NotLot,
    g_NotLot := PySem.W.mg_of X G aC_NotLot,
    a_InvalidTables := a_InvalidTables,
    g_InvalidTables := PySem.W.mg_of X G aC_InvalidTables,
    a_InvalidWord := a_InvalidWord,
    g_InvalidWord := PySem.W.mg_of X G aC_InvalidWord,
    a_InvalidColumns := a_InvalidColumns,
    g_InvalidColumns := PySem.W.mg_of X G aC_InvalidColumns,
    a_InvalidChanges := a_InvalidChanges,
    g_InvalidChanges := PySem.W.mg_of X G aC_InvalidChanges,
    a_InvalidWishes := a_InvalidWishes,
    g_InvalidWishes := PySem.W.mg_of X G aC_InvalidWishes,
    a_UnknownName := a_UnknownName,
    g_UnknownName := PySem.W.mg_of X G aC_UnknownName,
    a_InUse := a_InUse,
    g_InUse := PySem.W.mg_of X G aC_InUse,
    a_NotTriangular := a_NotTriangular,
    g_NotTriangular := PySem.W.mg_of X G aC_NotTriangular,
    a_OtherSize := a_OtherSize,
    g_OtherSize := PySem.W.mg_of X G aC_OtherSize,
    a_TooMany := a_TooMany,
    g_TooMany := PySem.W.mg_of X G aC_TooMany,
    a_NothingToUndo := a_NothingToUndo,
    g_NothingToUndo := PySem.W.mg_of X G aC_NothingToUndo,
    a_Broken := a_Broken,
    g_Broken := PySem.W.mg_of X G aC_Broken,
    a_WrongValue := a_WrongValue,
    g_WrongValue := PySem.W.mg_of X G aC_WrongValue,
    a_WrongName := a_WrongName,
    g_WrongName := PySem.W.mg_of X G aC_WrongName,
    a_NotPossible := a_NotPossible,
    g_NotPossible := PySem.W.mg_of X G aC_NotPossible,
    ox_InvalidText := ⟨⟨nm_InvalidText, q_InvalidText, N_InvalidText, bs_InvalidText, bm_InvalidText, sn_InvalidText, sub_InvalidText, ab_InvalidText, col_InvalidText, dd_InvalidText, k0_InvalidText, k1_InvalidText, k2_InvalidText, k3_InvalidText, k5_InvalidText, _, _, _, _, lx_InvalidText, PySem.HandSPX.exB_value, rv_InvalidText⟩, sa_InvalidText, sb_InvalidText, ty_InvalidText, kx_InvalidText⟩,
    oi_InvalidText := oi_InvalidText,
    ot_InvalidText := ot_InvalidText,
    nx_InvalidText := nx_InvalidText,
    kb1_InvalidText := Wk.Fun.kbn (n := 1) (ks := ["given"]) F_InvalidText_init fun _ _ _ _ _ _ us ws h1 h2 => match us, ws, h1, h2 with | [_], [_], _, _ => rfl,
    kb2_InvalidText := Wk.Fun.kbn (n := 2) (ks := []) F_InvalidText_init fun _ _ _ _ _ _ us ws h1 h2 => match us, ws, h1, h2 with | [_, _], [], _, _ => rfl,
    ox_InvalidName := ⟨⟨nm_InvalidName, q_InvalidName, N_InvalidName, bs_InvalidName, bm_InvalidName, sn_InvalidName, sub_InvalidName, ab_InvalidName, col_InvalidName, dd_InvalidName, k0_InvalidName, k1_InvalidName, k2_InvalidName, k3_InvalidName, k5_InvalidName, _, _, _, _, lx_InvalidName, PySem.HandSPX.exB_value, rv_InvalidName⟩, sa_InvalidName, sb_InvalidName, ty_InvalidName, kx_InvalidName⟩,
    oi_InvalidName := oi_InvalidName,
    ot_InvalidName := ot_InvalidName,
    nx_InvalidName := nx_InvalidName,
    kb1_InvalidName := Wk.Fun.kbn (n := 1) (ks := ["given"]) F_InvalidName_init fun _ _ _ _ _ _ us ws h1 h2 => match us, ws, h1, h2 with | [_], [_], _, _ => rfl,
    kb2_InvalidName := Wk.Fun.kbn (n := 2) (ks := []) F_InvalidName_init fun _ _ _ _ _ _ us ws h1 h2 => match us, ws, h1, h2 with | [_, _], [], _, _ => rfl,
    ox_InvalidIndex := ⟨⟨nm_InvalidIndex, q_InvalidIndex, N_InvalidIndex, bs_InvalidIndex, bm_InvalidIndex, sn_InvalidIndex, sub_InvalidIndex, ab_InvalidIndex, col_InvalidIndex, dd_InvalidIndex, k0_InvalidIndex, k1_InvalidIndex, k2_InvalidIndex, k3_InvalidIndex, k5_InvalidIndex, _, _, _, _, lx_InvalidIndex, PySem.HandSPX.exB_value, rv_InvalidIndex⟩, sa_InvalidIndex, sb_InvalidIndex, ty_InvalidIndex, kx_InvalidIndex⟩,
    oi_InvalidIndex := oi_InvalidIndex,
    ot_InvalidIndex := ot_InvalidIndex,
    nx_InvalidIndex := nx_InvalidIndex,
    kb1_InvalidIndex := Wk.Fun.kbn (n := 1) (ks := ["given"]) F_InvalidIndex_init fun _ _ _ _ _ _ us ws h1 h2 => match us, ws, h1, h2 with | [_], [_], _, _ => rfl,
    kb2_InvalidIndex := Wk.Fun.kbn (n := 2) (ks := []) F_InvalidIndex_init fun _ _ _ _ _ _ us ws h1 h2 => match us, ws, h1, h2 with | [_, _], [], _, _ => rfl,
    ox_InvalidSize := ⟨⟨nm_InvalidSize, q_InvalidSize, N_InvalidSize, bs_InvalidSize, bm_InvalidSize, sn_InvalidSize, sub_InvalidSize, ab_InvalidSize, col_InvalidSize, dd_InvalidSize, k0_InvalidSize, k1_InvalidSize, k2_InvalidSize, k3_InvalidSize, k5_InvalidSize, _, _, _, _, lx_InvalidSize, PySem.HandSPX.exB_value, rv_InvalidSize⟩, sa_InvalidSize, sb_InvalidSize, ty_InvalidSize, kx_InvalidSize⟩,
    oi_InvalidSize := oi_InvalidSize,
    ot_InvalidSize := ot_InvalidSize,
    nx_InvalidSize := nx_InvalidSize,
    kb1_InvalidSize := Wk.Fun.kbn (n := 1) (ks := ["given"]) F_InvalidSize_init fun _ _ _ _ _ _ us ws h1 h2 => match us, ws, h1, h2 with | [_], [_], _, _ => rfl,
    kb2_InvalidSize := Wk.Fun.kbn (n := 2) (ks := []) F_InvalidSize_init fun _ _ _ _ _ _ us ws h1 h2 => match us, ws, h1, h2 with | [_, _], [], _, _ => rfl,
    ox_InvalidTable := ⟨⟨nm_InvalidTable, q_InvalidTable, N_InvalidTable, bs_InvalidTable, bm_InvalidTable, sn_InvalidTable, sub_InvalidTable, ab_InvalidTable, col_InvalidTable, dd_InvalidTable, k0_InvalidTable, k1_InvalidTable, k2_InvalidTable, k3_InvalidTable, k5_InvalidTable, _, _, _, _, lx_InvalidTable, PySem.HandSPX.exB_value, rv_InvalidTable⟩, sa_InvalidTable, sb_InvalidTable, ty_InvalidTable, kx_InvalidTable⟩,
    oi_InvalidTable := oi_InvalidTable,
    ot_InvalidTable := ot_InvalidTable,
    nx_InvalidTable := nx_InvalidTable,
    kb1_InvalidTable := Wk.Fun.kbn (n := 1) (ks := ["given"]) F_InvalidTable_init fun _ _ _ _ _ _ us ws h1 h2 => match us, ws, h1, h2 with | [_], [_], _, _ => rfl,
    kb2_InvalidTable := Wk.Fun.kbn (n := 2) (ks := []) F_InvalidTable_init fun _ _ _ _ _ _ us ws h1 h2 => match us, ws, h1, h2 with | [_, _], [], _, _ => rfl,
    ox_InvalidView := ⟨⟨nm_InvalidView, q_InvalidView, N_InvalidView, bs_InvalidView, bm_InvalidView, sn_InvalidView, sub_InvalidView, ab_InvalidView, col_InvalidView, dd_InvalidView, k0_InvalidView, k1_InvalidView, k2_InvalidView, k3_InvalidView, k5_InvalidView, _, _, _, _, lx_InvalidView, PySem.HandSPX.exB_value, rv_InvalidView⟩, sa_InvalidView, sb_InvalidView, ty_InvalidView, kx_InvalidView⟩,
    oi_InvalidView := oi_InvalidView,
    ot_InvalidView := ot_InvalidView,
    nx_InvalidView := nx_InvalidView,
    kb1_InvalidView := Wk.Fun.kbn (n := 1) (ks := ["given"]) F_InvalidView_init fun _ _ _ _ _ _ us ws h1 h2 => match us, ws, h1, h2 with | [_], [_], _, _ => rfl,
    kb2_InvalidView := Wk.Fun.kbn (n := 2) (ks := []) F_InvalidView_init fun _ _ _ _ _ _ us ws h1 h2 => match us, ws, h1, h2 with | [_, _], [], _, _ => rfl,
    ox_InvalidWish := ⟨⟨nm_InvalidWish, q_InvalidWish, N_InvalidWish, bs_InvalidWish, bm_InvalidWish, sn_InvalidWish, sub_InvalidWish, ab_InvalidWish, col_InvalidWish, dd_InvalidWish, k0_InvalidWish, k1_InvalidWish, k2_InvalidWish, k3_InvalidWish, k5_InvalidWish, _, _, _, _, lx_InvalidWish, PySem.HandSPX.exB_value, rv_InvalidWish⟩, sa_InvalidWish, sb_InvalidWish, ty_InvalidWish, kx_InvalidWish⟩,
    oi_InvalidWish := oi_InvalidWish,
    ot_InvalidWish := ot_InvalidWish,
    nx_InvalidWish := nx_InvalidWish,
    kb1_InvalidWish := Wk.Fun.kbn (n := 1) (ks := ["given"]) F_InvalidWish_init fun _ _ _ _ _ _ us ws h1 h2 => match us, ws, h1, h2 with | [_], [_], _, _ => rfl,
    kb2_InvalidWish := Wk.Fun.kbn (n := 2) (ks := []) F_InvalidWish_init fun _ _ _ _ _ _ us ws h1 h2 => match us, ws, h1, h2 with | [_, _], [], _, _ => rfl,
    ox_NotLot := ⟨⟨nm_NotLot, q_NotLot, N_NotLot, bs_NotLot, bm_NotLot, sn_NotLot, sub_NotLot, ab_NotLot, col_NotLot, dd_NotLot, k0_NotLot, k1_NotLot, k2_NotLot, k3_NotLot, k5_NotLot, _, _, _, _, lx_NotLot, PySem.HandSPX.exB_value, rv_NotLot⟩, sa_NotLot, sb_NotLot, ty_NotLot, kx_NotLot⟩,
    oi_NotLot := oi_NotLot,
    ot_NotLot := ot_NotLot,
    nx_NotLot := nx_NotLot,
    kb1_NotLot := Wk.Fun.kbn (n := 1) (ks := ["given"]) F_NotLot_init fun _ _ _ _ _ _ us ws h1 h2 => match us, ws, h1, h2 with | [_], [_], _, _ => rfl,
    kb2_NotLot := Wk.Fun.kbn (n := 2) (ks := []) F_NotLot_init fun _ _ _ _ _ _ us ws h1 h2 => match us, ws, h1, h2 with | [_, _], [], _, _ => rfl,
    ox_InvalidTables := ⟨⟨nm_InvalidTables, q_InvalidTables, N_InvalidTables, bs_InvalidTables, bm_InvalidTables, sn_InvalidTables, sub_InvalidTables, ab_InvalidTables, col_InvalidTables, dd_InvalidTables, k0_InvalidTables, k1_InvalidTables, k2_InvalidTables, k3_InvalidTables, k5_InvalidTables, _, _, _, _, lx_InvalidTables, PySem.HandSPX.exB_value, rv_InvalidTables⟩, sa_InvalidTables, sb_InvalidTables, ty_InvalidTables, kx_InvalidTables⟩,
    oi_InvalidTables := oi_InvalidTables,
    ot_InvalidTables := ot_InvalidTables,
    nx_InvalidTables := nx_InvalidTables,
    kb1_InvalidTables := Wk.Fun.kbn (n := 1) (ks := ["index"]) F_InvalidTables_init fun _ _ _ _ _ _ us ws h1 h2 => match us, ws, h1, h2 with | [_], [_], _, _ => rfl,
    kb2_InvalidTables := Wk.Fun.kbn (n := 2) (ks := []) F_InvalidTables_init fun _ _ _ _ _ _ us ws h1 h2 => match us, ws, h1, h2 with | [_, _], [], _, _ => rfl,
    ox_InvalidWord := ⟨⟨nm_InvalidWord, q_InvalidWord, N_InvalidWord, bs_InvalidWord, bm_InvalidWord, sn_InvalidWord, sub_InvalidWord, ab_InvalidWord, col_InvalidWord, dd_InvalidWord, k0_InvalidWord, k1_InvalidWord, k2_InvalidWord, k3_InvalidWord, k5_InvalidWord, _, _, _, _, lx_InvalidWord, PySem.HandSPX.exB_value, rv_InvalidWord⟩, sa_InvalidWord, sb_InvalidWord, ty_InvalidWord, kx_InvalidWord⟩,
    oi_InvalidWord := oi_InvalidWord,
    ot_InvalidWord := ot_InvalidWord,
    nx_InvalidWord := nx_InvalidWord,
    kb1_InvalidWord := Wk.Fun.kbn (n := 1) (ks := ["index"]) F_InvalidWord_init fun _ _ _ _ _ _ us ws h1 h2 => match us, ws, h1, h2 with | [_], [_], _, _ => rfl,
    kb2_InvalidWord := Wk.Fun.kbn (n := 2) (ks := []) F_InvalidWord_init fun _ _ _ _ _ _ us ws h1 h2 => match us, ws, h1, h2 with | [_, _], [], _, _ => rfl,
    ox_InvalidColumns := ⟨⟨nm_InvalidColumns, q_InvalidColumns, N_InvalidColumns, bs_InvalidColumns, bm_InvalidColumns, sn_InvalidColumns, sub_InvalidColumns, ab_InvalidColumns, col_InvalidColumns, dd_InvalidColumns, k0_InvalidColumns, k1_InvalidColumns, k2_InvalidColumns, k3_InvalidColumns, k5_InvalidColumns, _, _, _, _, lx_InvalidColumns, PySem.HandSPX.exB_value, rv_InvalidColumns⟩, sa_InvalidColumns, sb_InvalidColumns, ty_InvalidColumns, kx_InvalidColumns⟩,
    oi_InvalidColumns := oi_InvalidColumns,
    ot_InvalidColumns := ot_InvalidColumns,
    nx_InvalidColumns := nx_InvalidColumns,
    kb1_InvalidColumns := Wk.Fun.kbn (n := 1) (ks := ["index"]) F_InvalidColumns_init fun _ _ _ _ _ _ us ws h1 h2 => match us, ws, h1, h2 with | [_], [_], _, _ => rfl,
    kb2_InvalidColumns := Wk.Fun.kbn (n := 2) (ks := []) F_InvalidColumns_init fun _ _ _ _ _ _ us ws h1 h2 => match us, ws, h1, h2 with | [_, _], [], _, _ => rfl,
    ox_InvalidChanges := ⟨⟨nm_InvalidChanges, q_InvalidChanges, N_InvalidChanges, bs_InvalidChanges, bm_InvalidChanges, sn_InvalidChanges, sub_InvalidChanges, ab_InvalidChanges, col_InvalidChanges, dd_InvalidChanges, k0_InvalidChanges, k1_InvalidChanges, k2_InvalidChanges, k3_InvalidChanges, k5_InvalidChanges, _, _, _, _, lx_InvalidChanges, PySem.HandSPX.exB_value, rv_InvalidChanges⟩, sa_InvalidChanges, sb_InvalidChanges, ty_InvalidChanges, kx_InvalidChanges⟩,
    oi_InvalidChanges := oi_InvalidChanges,
    ot_InvalidChanges := ot_InvalidChanges,
    nx_InvalidChanges := nx_InvalidChanges,
    kb1_InvalidChanges := Wk.Fun.kbn (n := 1) (ks := ["index"]) F_InvalidChanges_init fun _ _ _ _ _ _ us ws h1 h2 => match us, ws, h1, h2 with | [_], [_], _, _ => rfl,
    kb2_InvalidChanges := Wk.Fun.kbn (n := 2) (ks := []) F_InvalidChanges_init fun _ _ _ _ _ _ us ws h1 h2 => match us, ws, h1, h2 with | [_, _], [], _, _ => rfl,
    ox_InvalidWishes := ⟨⟨nm_InvalidWishes, q_InvalidWishes, N_InvalidWishes, bs_InvalidWishes, bm_InvalidWishes, sn_InvalidWishes, sub_InvalidWishes, ab_InvalidWishes, col_InvalidWishes, dd_InvalidWishes, k0_InvalidWishes, k1_InvalidWishes, k2_InvalidWishes, k3_InvalidWishes, k5_InvalidWishes, _, _, _, _, lx_InvalidWishes, PySem.HandSPX.exB_value, rv_InvalidWishes⟩, sa_InvalidWishes, sb_InvalidWishes, ty_InvalidWishes, kx_InvalidWishes⟩,
    oi_InvalidWishes := oi_InvalidWishes,
    ot_InvalidWishes := ot_InvalidWishes,
    nx_InvalidWishes := nx_InvalidWishes,
    kb1_InvalidWishes := Wk.Fun.kbn (n := 1) (ks := ["index"]) F_InvalidWishes_init fun _ _ _ _ _ _ us ws h1 h2 => match us, ws, h1, h2 with | [_], [_], _, _ => rfl,
    kb2_InvalidWishes := Wk.Fun.kbn (n := 2) (ks := []) F_InvalidWishes_init fun _ _ _ _ _ _ us ws h1 h2 => match us, ws, h1, h2 with | [_, _], [], _, _ => rfl,
    ox_UnknownName := ⟨⟨nm_UnknownName, q_UnknownName, N_UnknownName, bs_UnknownName, bm_UnknownName, sn_UnknownName, sub_UnknownName, ab_UnknownName, col_UnknownName, dd_UnknownName, k0_UnknownName, k1_UnknownName, k2_UnknownName, k3_UnknownName, k5_UnknownName, _, _, _, _, lx_UnknownName, PySem.HandSPX.exB_lookup, rv_UnknownName⟩, sa_UnknownName, sb_UnknownName, ty_UnknownName, kx_UnknownName⟩,
    oi_UnknownName := oi_UnknownName,
    ot_UnknownName := ot_UnknownName,
    nx_UnknownName := nx_UnknownName,
    kb1_UnknownName := Wk.Fun.kbn (n := 1) (ks := ["given"]) F_UnknownName_init fun _ _ _ _ _ _ us ws h1 h2 => match us, ws, h1, h2 with | [_], [_], _, _ => rfl,
    kb2_UnknownName := Wk.Fun.kbn (n := 2) (ks := []) F_UnknownName_init fun _ _ _ _ _ _ us ws h1 h2 => match us, ws, h1, h2 with | [_, _], [], _, _ => rfl,
    ox_InUse := ⟨⟨nm_InUse, q_InUse, N_InUse, bs_InUse, bm_InUse, sn_InUse, sub_InUse, ab_InUse, col_InUse, dd_InUse, k0_InUse, k1_InUse, k2_InUse, k3_InUse, k5_InUse, _, _, _, _, lx_InUse, PySem.HandSPX.exB_lookup, rv_InUse⟩, sa_InUse, sb_InUse, ty_InUse, kx_InUse⟩,
    oi_InUse := oi_InUse,
    ot_InUse := ot_InUse,
    nx_InUse := nx_InUse,
    kb1_InUse := Wk.Fun.kbn (n := 1) (ks := ["index"]) F_InUse_init fun _ _ _ _ _ _ us ws h1 h2 => match us, ws, h1, h2 with | [_], [_], _, _ => rfl,
    kb2_InUse := Wk.Fun.kbn (n := 2) (ks := []) F_InUse_init fun _ _ _ _ _ _ us ws h1 h2 => match us, ws, h1, h2 with | [_, _], [], _, _ => rfl,
    ox_NotTriangular := ⟨⟨nm_NotTriangular, q_NotTriangular, N_NotTriangular, bs_NotTriangular, bm_NotTriangular, sn_NotTriangular, sub_NotTriangular, ab_NotTriangular, col_NotTriangular, dd_NotTriangular, k0_NotTriangular, k1_NotTriangular, k2_NotTriangular, k3_NotTriangular, k5_NotTriangular, _, _, _, _, lx_NotTriangular, PySem.HandSPX.exB_arith, rv_NotTriangular⟩, sa_NotTriangular, sb_NotTriangular, ty_NotTriangular, kx_NotTriangular⟩,
    oi_NotTriangular := oi_NotTriangular,
    ot_NotTriangular := ot_NotTriangular,
    nx_NotTriangular := nx_NotTriangular,
    kb1_NotTriangular := Wk.Fun.kbn (n := 1) (ks := ["given"]) F_NotTriangular_init fun _ _ _ _ _ _ us ws h1 h2 => match us, ws, h1, h2 with | [_], [_], _, _ => rfl,
    kb2_NotTriangular := Wk.Fun.kbn (n := 2) (ks := []) F_NotTriangular_init fun _ _ _ _ _ _ us ws h1 h2 => match us, ws, h1, h2 with | [_, _], [], _, _ => rfl,
    ox_OtherSize := ⟨⟨nm_OtherSize, q_OtherSize, N_OtherSize, bs_OtherSize, bm_OtherSize, sn_OtherSize, sub_OtherSize, ab_OtherSize, col_OtherSize, dd_OtherSize, k0_OtherSize, k1_OtherSize, k2_OtherSize, k3_OtherSize, k5_OtherSize, _, _, _, _, lx_OtherSize, PySem.HandSPX.exB_arith, rv_OtherSize⟩, sa_OtherSize, sb_OtherSize, ty_OtherSize, kx_OtherSize⟩,
    oi_OtherSize := oi_OtherSize,
    ot_OtherSize := ot_OtherSize,
    nx_OtherSize := nx_OtherSize,
    kb1_OtherSize := Wk.Fun.kbn (n := 1) (ks := ["given"]) F_OtherSize_init fun _ _ _ _ _ _ us ws h1 h2 => match us, ws, h1, h2 with | [_], [_], _, _ => rfl,
    kb2_OtherSize := Wk.Fun.kbn (n := 2) (ks := []) F_OtherSize_init fun _ _ _ _ _ _ us ws h1 h2 => match us, ws, h1, h2 with | [_, _], [], _, _ => rfl,
    ox_TooMany := ⟨⟨nm_TooMany, q_TooMany, N_TooMany, bs_TooMany, bm_TooMany, sn_TooMany, sub_TooMany, ab_TooMany, col_TooMany, dd_TooMany, k0_TooMany, k1_TooMany, k2_TooMany, k3_TooMany, k5_TooMany, _, _, _, _, lx_TooMany, PySem.HandSPX.exB_arith, rv_TooMany⟩, sa_TooMany, sb_TooMany, ty_TooMany, kx_TooMany⟩,
    oi_TooMany := oi_TooMany,
    ot_TooMany := ot_TooMany,
    nx_TooMany := nx_TooMany,
    kb1_TooMany := Wk.Fun.kbn (n := 1) (ks := ["given"]) F_TooMany_init fun _ _ _ _ _ _ us ws h1 h2 => match us, ws, h1, h2 with | [_], [_], _, _ => rfl,
    kb2_TooMany := Wk.Fun.kbn (n := 2) (ks := []) F_TooMany_init fun _ _ _ _ _ _ us ws h1 h2 => match us, ws, h1, h2 with | [_, _], [], _, _ => rfl,
    ox_Broken := ⟨⟨nm_Broken, q_Broken, N_Broken, bs_Broken, bm_Broken, sn_Broken, sub_Broken, ab_Broken, col_Broken, dd_Broken, k0_Broken, k1_Broken, k2_Broken, k3_Broken, k5_Broken, _, _, _, _, lx_Broken, PySem.HandSPX.exB_arith, rv_Broken⟩, sa_Broken, sb_Broken, ty_Broken, kx_Broken⟩,
    oi_Broken := oi_Broken,
    ot_Broken := ot_Broken,
    nx_Broken := nx_Broken,
    kb1_Broken := Wk.Fun.kbn (n := 1) (ks := ["index"]) F_Broken_init fun _ _ _ _ _ _ us ws h1 h2 => match us, ws, h1, h2 with | [_], [_], _, _ => rfl,
    kb2_Broken := Wk.Fun.kbn (n := 2) (ks := []) F_Broken_init fun _ _ _ _ _ _ us ws h1 h2 => match us, ws, h1, h2 with | [_, _], [], _, _ => rfl,
    ex_NothingToUndo := ex_NothingToUndo,
    kx_NothingToUndo := kx_NothingToUndo,
    ex_WrongValue := ex_WrongValue,
    kx_WrongValue := kx_WrongValue,
    ex_WrongName := ex_WrongName,
    kx_WrongName := kx_WrongName,
    ex_NotPossible := ex_NotPossible,
    kx_NotPossible := kx_NotPossible,
    xd := xd,
    kr := kr,
    kb := kb,
    a_InvalidText_init := f_InvalidText_init,
    d_InvalidText_init := _,
    F_InvalidText_init := F_InvalidText_init,
    b_InvalidText_init := F_InvalidText_init.binds (ps := ["self", "given"]) fun _ _ _ _ _ _ us hl => match us, hl with | [_, _], _ => rfl,
    a_InvalidName_init := f_InvalidName_init,
    d_InvalidName_init := _,
    F_InvalidName_init := F_InvalidName_init,
    b_InvalidName_init := F_InvalidName_init.binds (ps := ["self", "given"]) fun _ _ _ _ _ _ us hl => match us, hl with | [_, _], _ => rfl,
    a_InvalidIndex_init := f_InvalidIndex_init,
    d_InvalidIndex_init := _,
    F_InvalidIndex_init := F_InvalidIndex_init,
    b_InvalidIndex_init := F_InvalidIndex_init.binds (ps := ["self", "given"]) fun _ _ _ _ _ _ us hl => match us, hl with | [_, _], _ => rfl,
    a_InvalidSize_init := f_InvalidSize_init,
    d_InvalidSize_init := _,
    F_InvalidSize_init := F_InvalidSize_init,
    b_InvalidSize_init := F_InvalidSize_init.binds (ps := ["self", "given"]) fun _ _ _ _ _ _ us hl => match us, hl with | [_, _], _ => rfl,
    a_InvalidTable_init := f_InvalidTable_init,
    d_InvalidTable_init := _,
    F_InvalidTable_init := F_InvalidTable_init,
    b_InvalidTable_init := F_InvalidTable_init.binds (ps := ["self", "given"]) fun _ _ _ _ _ _ us hl => match us, hl with | [_, _], _ => rfl,
    a_InvalidView_init := f_InvalidView_init,
    d_InvalidView_init := _,
    F_InvalidView_init := F_InvalidView_init,
    b_InvalidView_init := F_InvalidView_init.binds (ps := ["self", "given"]) fun _ _ _ _ _ _ us hl => match us, hl with | [_, _], _ => rfl,
    a_InvalidWish_init := f_InvalidWish_init,
    d_InvalidWish_init := _,
    F_InvalidWish_init := F_InvalidWish_init,
    b_InvalidWish_init := F_InvalidWish_init.binds (ps := ["self", "given"]) fun _ _ _ _ _ _ us hl => match us, hl with | [_, _], _ => rfl,
    a_NotLot_init := f_NotLot_init,
    d_NotLot_init := _,
    F_NotLot_init := F_NotLot_init,
    b_NotLot_init := F_NotLot_init.binds (ps := ["self", "given"]) fun _ _ _ _ _ _ us hl => match us, hl with | [_, _], _ => rfl,
    a_InvalidTables_init := f_InvalidTables_init,
    d_InvalidTables_init := _,
    F_InvalidTables_init := F_InvalidTables_init,
    b_InvalidTables_init := F_InvalidTables_init.binds (ps := ["self", "index"]) fun _ _ _ _ _ _ us hl => match us, hl with | [_, _], _ => rfl,
    a_InvalidWord_init := f_InvalidWord_init,
    d_InvalidWord_init := _,
    F_InvalidWord_init := F_InvalidWord_init,
    b_InvalidWord_init := F_InvalidWord_init.binds (ps := ["self", "index"]) fun _ _ _ _ _ _ us hl => match us, hl with | [_, _], _ => rfl,
    a_InvalidColumns_init := f_InvalidColumns_init,
    d_InvalidColumns_init := _,
    F_InvalidColumns_init := F_InvalidColumns_init,
    b_InvalidColumns_init := F_InvalidColumns_init.binds (ps := ["self", "index"]) fun _ _ _ _ _ _ us hl => match us, hl with | [_, _], _ => rfl,
    a_InvalidChanges_init := f_InvalidChanges_init,
    d_InvalidChanges_init := _,
    F_InvalidChanges_init := F_InvalidChanges_init,
    b_InvalidChanges_init := F_InvalidChanges_init.binds (ps := ["self", "index"]) fun _ _ _ _ _ _ us hl => match us, hl with | [_, _], _ => rfl,
    a_InvalidWishes_init := f_InvalidWishes_init,
    d_InvalidWishes_init := _,
    F_InvalidWishes_init := F_InvalidWishes_init,
    b_InvalidWishes_init := F_InvalidWishes_init.binds (ps := ["self", "index"]) fun _ _ _ _ _ _ us hl => match us, hl with | [_, _], _ => rfl,
    a_UnknownName_init := f_UnknownName_init,
    d_UnknownName_init := _,
    F_UnknownName_init := F_UnknownName_init,
    b_UnknownName_init := F_UnknownName_init.binds (ps := ["self", "given"]) fun _ _ _ _ _ _ us hl => match us, hl with | [_, _], _ => rfl,
    a_InUse_init := f_InUse_init,
    d_InUse_init := _,
    F_InUse_init := F_InUse_init,
    b_InUse_init := F_InUse_init.binds (ps := ["self", "index"]) fun _ _ _ _ _ _ us hl => match us, hl with | [_, _], _ => rfl,
    a_NotTriangular_init := f_NotTriangular_init,
    d_NotTriangular_init := _,
    F_NotTriangular_init := F_NotTriangular_init,
    b_NotTriangular_init := F_NotTriangular_init.binds (ps := ["self", "given"]) fun _ _ _ _ _ _ us hl => match us, hl with | [_, _], _ => rfl,
    a_OtherSize_init := f_OtherSize_init,
    d_OtherSize_init := _,
    F_OtherSize_init := F_OtherSize_init,
    b_OtherSize_init := F_OtherSize_init.binds (ps := ["self", "given"]) fun _ _ _ _ _ _ us hl => match us, hl with | [_, _], _ => rfl,
    a_TooMany_init := f_TooMany_init,
    d_TooMany_init := _,
    F_TooMany_init := F_TooMany_init,
    b_TooMany_init := F_TooMany_init.binds (ps := ["self", "given"]) fun _ _ _ _ _ _ us hl => match us, hl with | [_, _], _ => rfl,
    a_Broken_init := f_Broken_init,
    d_Broken_init := _,
    F_Broken_init := F_Broken_init,
    b_Broken_init := F_Broken_init.binds (ps := ["self", "index"]) fun _ _ _ _ _ _ us hl => match us, hl with | [_, _], _ => rfl,
    g_law_begun := PySem.W.mg_of X G a_law_begun,
    a_law_begun := f_law_begun,
    d_law_begun := _,
    F_law_begun := F_law_begun,
    b_law_begun := F_law_begun.binds (ps := ["_law_script", "_law_turn"]) fun _ _ _ _ _ _ us hl => match us, hl with | [_, _], _ => rfl,
    g_law_cast := PySem.W.mg_of X G a_law_cast,
    a_law_cast := f_law_cast,
    d_law_cast := _,
    F_law_cast := F_law_cast,
    b_law_cast := F_law_cast.binds (ps := ["_law_pail", "_law_many"]) fun _ _ _ _ _ _ us hl => match us, hl with | [_, _], _ => rfl,
    g_law_any_of := PySem.W.mg_of X G a_law_any_of,
    a_law_any_of := f_law_any_of,
    d_law_any_of := _,
    F_law_any_of := F_law_any_of,
    b_law_any_of := F_law_any_of.binds (ps := ["_law_pail", "_law_some"]) fun _ _ _ _ _ _ us hl => match us, hl with | [_, _], _ => rfl,
    g_law_thing := PySem.W.mg_of X G a_law_thing,
    a_law_thing := f_law_thing,
    d_law_thing := _,
    F_law_thing := F_law_thing,
    b_law_thing := F_law_thing.binds (ps := ["_law_pail"]) fun _ _ _ _ _ _ us hl => match us, hl with | [_], _ => rfl,
    g_law_placed := PySem.W.mg_of X G a_law_placed,
    a_law_placed := f_law_placed,
    d_law_placed := _,
    F_law_placed := F_law_placed,
    b_law_placed := F_law_placed.binds (ps := ["_law_thing_here"]) fun _ _ _ _ _ _ us hl => match us, hl with | [_], _ => rfl,
    g_law_named := PySem.W.mg_of X G a_law_named,
    a_law_named := f_law_named,
    d_law_named := _,
    F_law_named := F_law_named,
    b_law_named := F_law_named.binds (ps := ["_law_thing_here"]) fun _ _ _ _ _ _ us hl => match us, hl with | [_], _ => rfl,
    g_law_flags := PySem.W.mg_of X G a_law_flags,
    a_law_flags := f_law_flags,
    d_law_flags := _,
    F_law_flags := F_law_flags,
    b_law_flags := F_law_flags.binds (ps := ["_law_e"]) fun _ _ _ _ _ _ us hl => match us, hl with | [_], _ => rfl,
    g_law_bases := PySem.W.mg_of X G a_law_bases,
    a_law_bases := f_law_bases,
    d_law_bases := _,
    F_law_bases := F_law_bases,
    b_law_bases := F_law_bases.binds (ps := ["_law_e"]) fun _ _ _ _ _ _ us hl => match us, hl with | [_], _ => rfl,
    g_law_held := PySem.W.mg_of X G a_law_held,
    a_law_held := f_law_held,
    d_law_held := _,
    F_law_held := F_law_held,
    b_law_held := F_law_held.binds (ps := ["_law_e", "_law_at"]) fun _ _ _ _ _ _ us hl => match us, hl with | [_, _], _ => rfl,
    g_law_some_right := PySem.W.mg_of X G a_law_some_right,
    a_law_some_right := f_law_some_right,
    d_law_some_right := _,
    F_law_some_right := F_law_some_right,
    b_law_some_right := F_law_some_right.binds (ps := ["_law_some", "_law_thing_here"]) fun _ _ _ _ _ _ us hl => match us, hl with | [_, _], _ => rfl,
    g_law_right := PySem.W.mg_of X G a_law_right,
    a_law_right := f_law_right,
    d_law_right := _,
    F_law_right := F_law_right,
    b_law_right := F_law_right.binds (ps := ["_law_pail"]) fun _ _ _ _ _ _ us hl => match us, hl with | [_], _ => rfl,
    g_law := PySem.W.mg_of X G a_law,
    a_law := fa,
    d_law := _,
    F_law := F_law,
    b_law := F_law.binds (ps := ["_law_script"]) fun _ _ _ _ _ _ us hl => match us, hl with | [_], _ => rfl,
    t_MOST_SIZE := t_MOST_SIZE,
    c_MOST_SIZE := PySem.W.mg_of X G c_MOST_SIZE,
    t_MOST_TABLES := t_MOST_TABLES,
    c_MOST_TABLES := PySem.W.mg_of X G c_MOST_TABLES,
    t_MOST_NUMBER := t_MOST_NUMBER,
    c_MOST_NUMBER := PySem.W.mg_of X G c_MOST_NUMBER,
    t_MOST_LETTERS := t_MOST_LETTERS,
    c_MOST_LETTERS := PySem.W.mg_of X G c_MOST_LETTERS,
    t_MOST_COLUMNS := t_MOST_COLUMNS,
    c_MOST_COLUMNS := PySem.W.mg_of X G c_MOST_COLUMNS,
    t_MOST_CHANGES := t_MOST_CHANGES,
    c_MOST_CHANGES := PySem.W.mg_of X G c_MOST_CHANGES,
    n_isinstance := PySem.W.mg_none_of X G n_isinstance,
    n_int := PySem.W.mg_none_of X G n_int,
    n_len := PySem.W.mg_none_of X G n_len,
    n_all := PySem.W.mg_none_of X G n_all,
    n_range := PySem.W.mg_none_of X G n_range,
    n_divmod := PySem.W.mg_none_of X G n_divmod,
    n_abs := PySem.W.mg_none_of X G n_abs,
    n_max := PySem.W.mg_none_of X G n_max,
    n_min := PySem.W.mg_none_of X G n_min,
    n_repr := PySem.W.mg_none_of X G n_repr,
    n_ValueError := PySem.W.mg_none_of X G n_ValueError,
    n_LookupError := PySem.W.mg_none_of X G n_LookupError,
    n_ArithmeticError := PySem.W.mg_none_of X G n_ArithmeticError }, rfl, rfl⟩
  exact ⟨PySem.W.fnOf "law" "law" (defArgs s_law) (defBody s_law) (defScope s_law) .none kV_law dc_law pm_law an_law cd_law ct_law, fun s u => .of_eq rfl, fun base _ _ => by
    rw [← e1, ← e2]
    exact ok_law T⟩
theorem walk {l : PySem.W.OpenLaw} {q : Program} {loose : List Str} {XP : (Str → Option Value) → Heap → Prop} {YP : World → Heap → Prop} {d : DefRec} {K : Params → PySem.W.Frag} (hn : l.most = some 63) (hdf : d.params.defaults = [])
    (hY : ∀ (w : World) (h : Heap), YP w h → (K w.params).In h)
    (F : ∀ (w : World) (mg : Str → Option Value) (fa : Addr) (h : Heap), (K w.params).In h → h.Ns mainGlobals mg → mg d.name = some (.ref fa) →
      ∃ fd : FuncData, (∀ (s : Shared) (u : Value), BindsTo s fd ⟨[u], []⟩ [("_law_script", u)]) ∧ ∀ base : Heap, (K w.params).In base → base.Ns mainGlobals mg → FnOkG l.prog w (K w.params) mg base 7 fa fd ["_law_script"] (spLaw (K w.params))) :
    PySem.W.WalkO q loose XP YP l.row.toRowW d [] (fun f vs => PySem.call f vs) :=
  Wk.walk_ofG (n := 63) (k := 7) (x := "_law_script") (sp := fun w => spLaw (K w.params)) hn (by decide) hdf ⟨rfl, by decide, by decide⟩ rfl hY F fun w H a ns hl hb hO hS => ⟨H, ns, Same.refl H, ⟨⟨a, rfl, hS⟩, hl, hb⟩, fun v F' H' _ p => p⟩
end P1
open PySem PySem.W PyProof.Rows
set_option Elab.async false
set_option maxRecDepth 100000 in
set_option maxHeartbeats 0 in
theorem PySem.Challenge.cw_alltriangular_k01_limits_and_errors_holds : PySem.Challenge.rw_alltriangular_k01_limits_and_errors.Holds := by
  w_on; o_law; k_head; (case hw => w_witness2)
  k_fill
  refine P1.walk (l := PySem.Challenge.rw_alltriangular_k01_limits_and_errors) rfl rfl (fun w h Y => PySem.W.kIn_of Y) ?F
  case F =>
    intro w mg fa h KX G hmg
    refine' P1.all_mk KX G hmg ?aC_InvalidText ?aC_InvalidName ?aC_InvalidIndex ?aC_InvalidSize ?aC_InvalidTable ?aC_InvalidView ?aC_InvalidWish ?aC_NotLot ?aC_InvalidTables ?aC_InvalidWord ?aC_InvalidColumns ?aC_InvalidChanges ?aC_InvalidWishes ?aC_UnknownName ?aC_InUse ?aC_NotTriangular ?aC_OtherSize ?aC_TooMany ?aC_NothingToUndo ?aC_Broken ?aC_WrongValue ?aC_WrongName ?aC_NotPossible ?lx_InvalidText ?rv_InvalidText ?sa_InvalidText ?sb_InvalidText ?ty_InvalidText ?kx_InvalidText ?oi_InvalidText ?ot_InvalidText ?nx_InvalidText ?lx_InvalidName ?rv_InvalidName ?sa_InvalidName ?sb_InvalidName ?ty_InvalidName ?kx_InvalidName ?oi_InvalidName ?ot_InvalidName ?nx_InvalidName ?lx_InvalidIndex ?rv_InvalidIndex ?sa_InvalidIndex ?sb_InvalidIndex ?ty_InvalidIndex ?kx_InvalidIndex ?oi_InvalidIndex ?ot_InvalidIndex ?nx_InvalidIndex ?lx_InvalidSize ?rv_InvalidSize ?sa_InvalidSize ?sb_InvalidSize ?ty_InvalidSize ?kx_InvalidSize ?oi_InvalidSize ?ot_InvalidSize ?nx_InvalidSize ?lx_InvalidTable ?rv_InvalidTable ?sa_InvalidTable ?sb_InvalidTable ?ty_InvalidTable ?kx_InvalidTable ?oi_InvalidTable ?ot_InvalidTable ?nx_InvalidTable ?lx_InvalidView ?rv_InvalidView ?sa_InvalidView ?sb_InvalidView ?ty_InvalidView ?kx_InvalidView ?oi_InvalidView ?ot_InvalidView ?nx_InvalidView ?lx_InvalidWish ?rv_InvalidWish ?sa_InvalidWish ?sb_InvalidWish ?ty_InvalidWish ?kx_InvalidWish ?oi_InvalidWish ?ot_InvalidWish ?nx_InvalidWish ?lx_NotLot ?rv_NotLot ?sa_NotLot ?sb_NotLot ?ty_NotLot ?kx_NotLot ?oi_NotLot ?ot_NotLot ?nx_NotLot ?lx_InvalidTables ?rv_InvalidTables ?sa_InvalidTables ?sb_InvalidTables ?ty_InvalidTables ?kx_InvalidTables ?oi_InvalidTables ?ot_InvalidTables ?nx_InvalidTables ?lx_InvalidWord ?rv_InvalidWord ?sa_InvalidWord ?sb_InvalidWord ?ty_InvalidWord ?kx_InvalidWord ?oi_InvalidWord ?ot_InvalidWord ?nx_InvalidWord ?lx_InvalidColumns ?rv_InvalidColumns ?sa_InvalidColumns ?sb_InvalidColumns ?ty_InvalidColumns ?kx_InvalidColumns ?oi_InvalidColumns ?ot_InvalidColumns ?nx_InvalidColumns ?lx_InvalidChanges ?rv_InvalidChanges ?sa_InvalidChanges ?sb_InvalidChanges ?ty_InvalidChanges ?kx_InvalidChanges ?oi_InvalidChanges ?ot_InvalidChanges ?nx_InvalidChanges ?lx_InvalidWishes ?rv_InvalidWishes ?sa_InvalidWishes ?sb_InvalidWishes ?ty_InvalidWishes ?kx_InvalidWishes ?oi_InvalidWishes ?ot_InvalidWishes ?nx_InvalidWishes ?lx_UnknownName ?rv_UnknownName ?sa_UnknownName ?sb_UnknownName ?ty_UnknownName ?kx_UnknownName ?oi_UnknownName ?ot_UnknownName ?nx_UnknownName ?lx_InUse ?rv_InUse ?sa_InUse ?sb_InUse ?ty_InUse ?kx_InUse ?oi_InUse ?ot_InUse ?nx_InUse ?lx_NotTriangular ?rv_NotTriangular ?sa_NotTriangular ?sb_NotTriangular ?ty_NotTriangular ?kx_NotTriangular ?oi_NotTriangular ?ot_NotTriangular ?nx_NotTriangular ?lx_OtherSize ?rv_OtherSize ?sa_OtherSize ?sb_OtherSize ?ty_OtherSize ?kx_OtherSize ?oi_OtherSize ?ot_OtherSize ?nx_OtherSize ?lx_TooMany ?rv_TooMany ?sa_TooMany ?sb_TooMany ?ty_TooMany ?kx_TooMany ?oi_TooMany ?ot_TooMany ?nx_TooMany ?lx_Broken ?rv_Broken ?sa_Broken ?sb_Broken ?ty_Broken ?kx_Broken ?oi_Broken ?ot_Broken ?nx_Broken ?ex_NothingToUndo ?kx_NothingToUndo ?ex_WrongValue ?kx_WrongValue ?ex_WrongName ?kx_WrongName ?ex_NotPossible ?kx_NotPossible ?xd ?kr ?kb ?l_InvalidText_init ?c_InvalidText_init ?k_InvalidText_init ?l_InvalidName_init ?c_InvalidName_init ?k_InvalidName_init ?l_InvalidIndex_init ?c_InvalidIndex_init ?k_InvalidIndex_init ?l_InvalidSize_init ?c_InvalidSize_init ?k_InvalidSize_init ?l_InvalidTable_init ?c_InvalidTable_init ?k_InvalidTable_init ?l_InvalidView_init ?c_InvalidView_init ?k_InvalidView_init ?l_InvalidWish_init ?c_InvalidWish_init ?k_InvalidWish_init ?l_NotLot_init ?c_NotLot_init ?k_NotLot_init ?l_InvalidTables_init ?c_InvalidTables_init ?k_InvalidTables_init ?l_InvalidWord_init ?c_InvalidWord_init ?k_InvalidWord_init ?l_InvalidColumns_init ?c_InvalidColumns_init ?k_InvalidColumns_init ?l_InvalidChanges_init ?c_InvalidChanges_init ?k_InvalidChanges_init ?l_InvalidWishes_init ?c_InvalidWishes_init ?k_InvalidWishes_init ?l_UnknownName_init ?c_UnknownName_init ?k_UnknownName_init ?l_InUse_init ?c_InUse_init ?k_InUse_init ?l_NotTriangular_init ?c_NotTriangular_init ?k_NotTriangular_init ?l_OtherSize_init ?c_OtherSize_init ?k_OtherSize_init ?l_TooMany_init ?c_TooMany_init ?k_TooMany_init ?l_Broken_init ?c_Broken_init ?k_Broken_init ?a_law_begun ?l_law_begun ?c_law_begun ?k_law_begun ?a_law_cast ?l_law_cast ?c_law_cast ?k_law_cast ?a_law_any_of ?l_law_any_of ?c_law_any_of ?k_law_any_of ?a_law_thing ?l_law_thing ?c_law_thing ?k_law_thing ?a_law_placed ?l_law_placed ?c_law_placed ?k_law_placed ?a_law_named ?l_law_named ?c_law_named ?k_law_named ?a_law_flags ?l_law_flags ?c_law_flags ?k_law_flags ?a_law_bases ?l_law_bases ?c_law_bases ?k_law_bases ?a_law_held ?l_law_held ?c_law_held ?k_law_held ?a_law_some_right ?l_law_some_right ?c_law_some_right ?k_law_some_right ?a_law_right ?l_law_right ?c_law_right ?k_law_right ?a_law ?l_law ?c_law ?k_law ?c_MOST_SIZE ?c_MOST_TABLES ?c_MOST_NUMBER ?c_MOST_LETTERS ?c_MOST_COLUMNS ?c_MOST_CHANGES ?n_isinstance ?n_int ?n_len ?n_all ?n_range ?n_divmod ?n_abs ?n_max ?n_min ?n_repr ?n_ValueError ?n_LookupError ?n_ArithmeticError
    (case aC_InvalidText => k_is)
    (case aC_InvalidName => k_is)
    (case aC_InvalidIndex => k_is)
    (case aC_InvalidSize => k_is)
    (case aC_InvalidTable => k_is)
    (case aC_InvalidView => k_is)
    (case aC_InvalidWish => k_is)
    (case aC_NotLot => k_is)
    (case aC_InvalidTables => k_is)
    (case aC_InvalidWord => k_is)
    (case aC_InvalidColumns => k_is)
    (case aC_InvalidChanges => k_is)
    (case aC_InvalidWishes => k_is)
    (case aC_UnknownName => k_is)
    (case aC_InUse => k_is)
    (case aC_NotTriangular => k_is)
    (case aC_OtherSize => k_is)
    (case aC_TooMany => k_is)
    (case aC_NothingToUndo => k_is)
    (case aC_Broken => k_is)
    (case aC_WrongValue => k_is)
    (case aC_WrongName => k_is)
    (case aC_NotPossible => k_is)
    (case lx_InvalidText => k_is)
    (case rv_InvalidText => rfl)
    (case sa_InvalidText => k_is)
    (case sb_InvalidText => k_is)
    (case ty_InvalidText => k_is)
    (case kx_InvalidText => k_is)
    (case oi_InvalidText => k_is)
    (case ot_InvalidText => k_is)
    (case nx_InvalidText => k_is)
    (case lx_InvalidName => k_is)
    (case rv_InvalidName => rfl)
    (case sa_InvalidName => k_is)
    (case sb_InvalidName => k_is)
    (case ty_InvalidName => k_is)
    (case kx_InvalidName => k_is)
    (case oi_InvalidName => k_is)
    (case ot_InvalidName => k_is)
    (case nx_InvalidName => k_is)
    (case lx_InvalidIndex => k_is)
    (case rv_InvalidIndex => rfl)
    (case sa_InvalidIndex => k_is)
    (case sb_InvalidIndex => k_is)
    (case ty_InvalidIndex => k_is)
    (case kx_InvalidIndex => k_is)
    (case oi_InvalidIndex => k_is)
    (case ot_InvalidIndex => k_is)
    (case nx_InvalidIndex => k_is)
    (case lx_InvalidSize => k_is)
    (case rv_InvalidSize => rfl)
    (case sa_InvalidSize => k_is)
    (case sb_InvalidSize => k_is)
    (case ty_InvalidSize => k_is)
    (case kx_InvalidSize => k_is)
    (case oi_InvalidSize => k_is)
    (case ot_InvalidSize => k_is)
    (case nx_InvalidSize => k_is)
    (case lx_InvalidTable => k_is)
    (case rv_InvalidTable => rfl)
    (case sa_InvalidTable => k_is)
    (case sb_InvalidTable => k_is)
    (case ty_InvalidTable => k_is)
    (case kx_InvalidTable => k_is)
    (case oi_InvalidTable => k_is)
    (case ot_InvalidTable => k_is)
    (case nx_InvalidTable => k_is)
    (case lx_InvalidView => k_is)
    (case rv_InvalidView => rfl)
    (case sa_InvalidView => k_is)
    (case sb_InvalidView => k_is)
    (case ty_InvalidView => k_is)
    (case kx_InvalidView => k_is)
    (case oi_InvalidView => k_is)
    (case ot_InvalidView => k_is)
    (case nx_InvalidView => k_is)
    (case lx_InvalidWish => k_is)
    (case rv_InvalidWish => rfl)
    (case sa_InvalidWish => k_is)
    (case sb_InvalidWish => k_is)
    (case ty_InvalidWish => k_is)
    (case kx_InvalidWish => k_is)
    (case oi_InvalidWish => k_is)
    (case ot_InvalidWish => k_is)
    (case nx_InvalidWish => k_is)
    (case lx_NotLot => k_is)
    (case rv_NotLot => rfl)
    (case sa_NotLot => k_is)
    (case sb_NotLot => k_is)
    (case ty_NotLot => k_is)
    (case kx_NotLot => k_is)
    (case oi_NotLot => k_is)
    (case ot_NotLot => k_is)
    (case nx_NotLot => k_is)
    (case lx_InvalidTables => k_is)
    (case rv_InvalidTables => rfl)
    (case sa_InvalidTables => k_is)
    (case sb_InvalidTables => k_is)
    (case ty_InvalidTables => k_is)
    (case kx_InvalidTables => k_is)
    (case oi_InvalidTables => k_is)
    (case ot_InvalidTables => k_is)
    (case nx_InvalidTables => k_is)
    (case lx_InvalidWord => k_is)
    (case rv_InvalidWord => rfl)
    (case sa_InvalidWord => k_is)
    (case sb_InvalidWord => k_is)
    (case ty_InvalidWord => k_is)
    (case kx_InvalidWord => k_is)
    (case oi_InvalidWord => k_is)
    (case ot_InvalidWord => k_is)
    (case nx_InvalidWord => k_is)
    (case lx_InvalidColumns => k_is)
    (case rv_InvalidColumns => rfl)
    (case sa_InvalidColumns => k_is)
    (case sb_InvalidColumns => k_is)
    (case ty_InvalidColumns => k_is)
    (case kx_InvalidColumns => k_is)
    (case oi_InvalidColumns => k_is)
    (case ot_InvalidColumns => k_is)
    (case nx_InvalidColumns => k_is)
    (case lx_InvalidChanges => k_is)
    (case rv_InvalidChanges => rfl)
    (case sa_InvalidChanges => k_is)
    (case sb_InvalidChanges => k_is)
    (case ty_InvalidChanges => k_is)
    (case kx_InvalidChanges => k_is)
    (case oi_InvalidChanges => k_is)
    (case ot_InvalidChanges => k_is)
    (case nx_InvalidChanges => k_is)
    (case lx_InvalidWishes => k_is)
    (case rv_InvalidWishes => rfl)
    (case sa_InvalidWishes => k_is)
    (case sb_InvalidWishes => k_is)
    (case ty_InvalidWishes => k_is)
    (case kx_InvalidWishes => k_is)
    (case oi_InvalidWishes => k_is)
    (case ot_InvalidWishes => k_is)
    (case nx_InvalidWishes => k_is)
    (case lx_UnknownName => k_is)
    (case rv_UnknownName => rfl)
    (case sa_UnknownName => k_is)
    (case sb_UnknownName => k_is)
    (case ty_UnknownName => k_is)
    (case kx_UnknownName => k_is)
    (case oi_UnknownName => k_is)
    (case ot_UnknownName => k_is)
    (case nx_UnknownName => k_is)
    (case lx_InUse => k_is)
    (case rv_InUse => rfl)
    (case sa_InUse => k_is)
    (case sb_InUse => k_is)
    (case ty_InUse => k_is)
    (case kx_InUse => k_is)
    (case oi_InUse => k_is)
    (case ot_InUse => k_is)
    (case nx_InUse => k_is)
    (case lx_NotTriangular => k_is)
    (case rv_NotTriangular => rfl)
    (case sa_NotTriangular => k_is)
    (case sb_NotTriangular => k_is)
    (case ty_NotTriangular => k_is)
    (case kx_NotTriangular => k_is)
    (case oi_NotTriangular => k_is)
    (case ot_NotTriangular => k_is)
    (case nx_NotTriangular => k_is)
    (case lx_OtherSize => k_is)
    (case rv_OtherSize => rfl)
    (case sa_OtherSize => k_is)
    (case sb_OtherSize => k_is)
    (case ty_OtherSize => k_is)
    (case kx_OtherSize => k_is)
    (case oi_OtherSize => k_is)
    (case ot_OtherSize => k_is)
    (case nx_OtherSize => k_is)
    (case lx_TooMany => k_is)
    (case rv_TooMany => rfl)
    (case sa_TooMany => k_is)
    (case sb_TooMany => k_is)
    (case ty_TooMany => k_is)
    (case kx_TooMany => k_is)
    (case oi_TooMany => k_is)
    (case ot_TooMany => k_is)
    (case nx_TooMany => k_is)
    (case lx_Broken => k_is)
    (case rv_Broken => rfl)
    (case sa_Broken => k_is)
    (case sb_Broken => k_is)
    (case ty_Broken => k_is)
    (case kx_Broken => k_is)
    (case oi_Broken => k_is)
    (case ot_Broken => k_is)
    (case nx_Broken => k_is)
    (case ex_NothingToUndo => first | k_exc | k_is | kernel_rfl | rfl)
    (case kx_NothingToUndo => k_is)
    (case ex_WrongValue => first | k_exc | k_is | kernel_rfl | rfl)
    (case kx_WrongValue => k_is)
    (case ex_WrongName => first | k_exc | k_is | kernel_rfl | rfl)
    (case kx_WrongName => k_is)
    (case ex_NotPossible => first | k_exc | k_is | kernel_rfl | rfl)
    (case kx_NotPossible => k_is)
    (case xd => first | kernel_rfl | rfl)
    (case kr => first | kernel_rfl | rfl)
    (case kb => first | kernel_rfl | rfl)
    (case l_InvalidText_init => k_is)
    (case c_InvalidText_init => k_is)
    (case k_InvalidText_init => k_is)
    (case l_InvalidName_init => k_is)
    (case c_InvalidName_init => k_is)
    (case k_InvalidName_init => k_is)
    (case l_InvalidIndex_init => k_is)
    (case c_InvalidIndex_init => k_is)
    (case k_InvalidIndex_init => k_is)
    (case l_InvalidSize_init => k_is)
    (case c_InvalidSize_init => k_is)
    (case k_InvalidSize_init => k_is)
    (case l_InvalidTable_init => k_is)
    (case c_InvalidTable_init => k_is)
    (case k_InvalidTable_init => k_is)
    (case l_InvalidView_init => k_is)
    (case c_InvalidView_init => k_is)
    (case k_InvalidView_init => k_is)
    (case l_InvalidWish_init => k_is)
    (case c_InvalidWish_init => k_is)
    (case k_InvalidWish_init => k_is)
    (case l_NotLot_init => k_is)
    (case c_NotLot_init => k_is)
    (case k_NotLot_init => k_is)
    (case l_InvalidTables_init => k_is)
    (case c_InvalidTables_init => k_is)
    (case k_InvalidTables_init => k_is)
    (case l_InvalidWord_init => k_is)
    (case c_InvalidWord_init => k_is)
    (case k_InvalidWord_init => k_is)
    (case l_InvalidColumns_init => k_is)
    (case c_InvalidColumns_init => k_is)
    (case k_InvalidColumns_init => k_is)
    (case l_InvalidChanges_init => k_is)
    (case c_InvalidChanges_init => k_is)
    (case k_InvalidChanges_init => k_is)
    (case l_InvalidWishes_init => k_is)
    (case c_InvalidWishes_init => k_is)
    (case k_InvalidWishes_init => k_is)
    (case l_UnknownName_init => k_is)
    (case c_UnknownName_init => k_is)
    (case k_UnknownName_init => k_is)
    (case l_InUse_init => k_is)
    (case c_InUse_init => k_is)
    (case k_InUse_init => k_is)
    (case l_NotTriangular_init => k_is)
    (case c_NotTriangular_init => k_is)
    (case k_NotTriangular_init => k_is)
    (case l_OtherSize_init => k_is)
    (case c_OtherSize_init => k_is)
    (case k_OtherSize_init => k_is)
    (case l_TooMany_init => k_is)
    (case c_TooMany_init => k_is)
    (case k_TooMany_init => k_is)
    (case l_Broken_init => k_is)
    (case c_Broken_init => k_is)
    (case k_Broken_init => k_is)
    (case a_law_begun => k_is)
    (case l_law_begun => k_is)
    (case c_law_begun => k_is)
    (case k_law_begun => k_is)
    (case a_law_cast => k_is)
    (case l_law_cast => k_is)
    (case c_law_cast => k_is)
    (case k_law_cast => k_is)
    (case a_law_any_of => k_is)
    (case l_law_any_of => k_is)
    (case c_law_any_of => k_is)
    (case k_law_any_of => k_is)
    (case a_law_thing => k_is)
    (case l_law_thing => k_is)
    (case c_law_thing => k_is)
    (case k_law_thing => k_is)
    (case a_law_placed => k_is)
    (case l_law_placed => k_is)
    (case c_law_placed => k_is)
    (case k_law_placed => k_is)
    (case a_law_named => k_is)
    (case l_law_named => k_is)
    (case c_law_named => k_is)
    (case k_law_named => k_is)
    (case a_law_flags => k_is)
    (case l_law_flags => k_is)
    (case c_law_flags => k_is)
    (case k_law_flags => k_is)
    (case a_law_bases => k_is)
    (case l_law_bases => k_is)
    (case c_law_bases => k_is)
    (case k_law_bases => k_is)
    (case a_law_held => k_is)
    (case l_law_held => k_is)
    (case c_law_held => k_is)
    (case k_law_held => k_is)
    (case a_law_some_right => k_is)
    (case l_law_some_right => k_is)
    (case c_law_some_right => k_is)
    (case k_law_some_right => k_is)
    (case a_law_right => k_is)
    (case l_law_right => k_is)
    (case c_law_right => k_is)
    (case k_law_right => k_is)
    (case a_law => k_is)
    (case l_law => k_is)
    (case c_law => k_is)
    (case k_law => k_is)
    (case c_MOST_SIZE => k_is)
    (case c_MOST_TABLES => k_is)
    (case c_MOST_NUMBER => k_is)
    (case c_MOST_LETTERS => k_is)
    (case c_MOST_COLUMNS => k_is)
    (case c_MOST_CHANGES => k_is)
    (case n_isinstance => k_is)
    (case n_int => k_is)
    (case n_len => k_is)
    (case n_all => k_is)
    (case n_range => k_is)
    (case n_divmod => k_is)
    (case n_abs => k_is)
    (case n_max => k_is)
    (case n_min => k_is)
    (case n_repr => k_is)
    (case n_ValueError => k_is)
    (case n_LookupError => k_is)
    (case n_ArithmeticError => k_is)
