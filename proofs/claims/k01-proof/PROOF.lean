import PyProof.Rows.All
import Wide.All
import OpenK.AllK
import Wide.FinOn
import HandS.ForMost
import HandS.IsInst
import HandS.TupAny
import HandS.WideMore
import HandS.Deep
import HandS.Replace
import HandS.TupLe
import HandS.Walk
import KE.DataCmp
import KE.DataEq
import KE.DatumOrd
import KE.DataMinMax
import KE.KStateDown
import HandS.Defaults
import HandS.Head0
import HandS.Head1
import HandS.Head2
import HandS.HeadEnd
import HandS.HeadHook1
import HandS.HeadHook2
import PySem.Challenge.RW_sameanswer_k01_keys_and_ranges
set_option Elab.async false
set_option linter.all false
set_option maxRecDepth 100000
set_option maxHeartbeats 4000000
/-! Z: a def's meaning over plain data (PyData): what each construct asks and gives, without the heap. -/
namespace Z
open PySem PySem.Spec PyProof.Rows L2

abbrev DD := PyData
def Sub (G H : Hp) : Prop := ∀ a o, G a = some o → H a = some o
theorem Sub.rfl {G : Hp} : Sub G G := fun _ _ h => h
theorem Sub.trans {G H I : Hp} (a : Sub G H) (b : Sub H I) : Sub G I := fun x o h => b x o (a x o h)
theorem Sub.rd {G H : Hp} (s : Sub G H) {a : Addr} {u : HO} (h : Rd G a u) : Rd H a u := by
  rcases h with h | ⟨o, h⟩
  · exact Or.inl (s a _ h)
  · exact Or.inr ⟨o, s a _ h⟩
theorem Sub.sqT {K : PySem.W.Frag} {G H : Hp} (s : Sub G H) {a : Addr} {xs : List V} (h : SqT K G a xs) : SqT K H a xs := by
  rcases h with h | h
  · exact Or.inl (s.rd h)
  · exact Or.inr h
theorem Sub.sqL {K : PySem.W.Frag} {G H : Hp} (s : Sub G H) {a : Addr} {xs : List V} (h : SqL K G a xs) : SqL K H a xs := by
  rcases h with h | h
  · exact Or.inl (s.rd h)
  · exact Or.inr h
theorem Sub.new {H : Hp} {p : Addr} {o : HO} (h : H p = none) : Sub H (upd H p o) := fun a u e => by
  rw [upd_ne (ne_of_none e h)]; exact e
theorem Sub.both {G H : Hp} (s : Sub G H) {p : Addr} {o : HO} : Sub (upd G p o) (upd H p o) := fun a u e => by
  by_cases h : a = p
  · subst h; rw [upd_same] at e ⊢; exact e
  · rw [upd_ne h] at e ⊢; exact s a u e

mutual
inductive Rp (K : PySem.W.Frag) (G : Hp) : V → DD → Prop
  | non : Rp K G .non .none
  | bl (b : Bool) : Rp K G (.bl b) (.bool b)
  | int (i : Int) : Rp K G (.int i) (.int i)
  | str (x : Str) : Rp K G (.str x) (.str x)
  | lst {a : Addr} {xs : List V} {ds : List DD} : G a = some (.lst xs) → RpAll K G xs ds → Rp K G (.ref a) (.list ds)
  | tup {a : Addr} {xs : List V} {ds : List DD} : SqT K G a xs → RpAll K G xs ds → Rp K G (.ref a) (.tuple ds)
inductive RpAll (K : PySem.W.Frag) (G : Hp) : List V → List DD → Prop
  | nil : RpAll K G [] []
  | cons {v : V} {vs : List V} {d : DD} {ds : List DD} : Rp K G v d → RpAll K G vs ds → RpAll K G (v :: vs) (d :: ds)
end
section
variable {K : PySem.W.Frag} {G H : Hp}
mutual
theorem Rp.mono (s : Sub G H) : ∀ {v : V} {d : DD}, Rp K G v d → Rp K H v d
  | _, _, .non => .non
  | _, _, .bl b => .bl b
  | _, _, .int i => .int i
  | _, _, .str x => .str x
  | _, _, .lst h r => .lst (s _ _ h) (RpAll.mono s r)
  | _, _, .tup h r => .tup (s.sqT h) (RpAll.mono s r)
theorem RpAll.mono (s : Sub G H) : ∀ {vs : List V} {ds : List DD}, RpAll K G vs ds → RpAll K H vs ds
  | _, _, .nil => .nil
  | _, _, .cons a b => .cons (Rp.mono s a) (RpAll.mono s b)
end
mutual
theorem Rp.dp : ∀ {v : V} {d : DD}, Rp K G v d → Dp K G v d
  | _, _, .non => .non
  | _, _, .bl b => .bl b
  | _, _, .int i => .int i
  | _, _, .str x => .str x
  | _, _, .lst h r => .lst (SqL.of h) (RpAll.dp r)
  | _, _, .tup h r => .tup h (RpAll.dp r)
theorem RpAll.dp : ∀ {vs : List V} {ds : List DD}, RpAll K G vs ds → DpAll K G vs ds
  | _, _, .nil => .nil
  | _, _, .cons a b => .cons (Rp.dp a) (RpAll.dp b)
end
theorem RpAll.len : ∀ {vs : List V} {ds : List DD}, RpAll K G vs ds → vs.length = ds.length
  | _, _, .nil => rfl
  | _, _, .cons _ b => congrArg (· + 1) (RpAll.len b)
theorem RpAll.get : ∀ {vs : List V} {ds : List DD} {i : Nat} {v : V}, RpAll K G vs ds → vs[i]? = some v → ∃ d, ds[i]? = some d ∧ Rp K G v d
  | _, _, _, _, .nil, h => by simp at h
  | _, _, 0, _, .cons a b, h => by
    have e := Option.some.inj h
    subst e
    exact ⟨_, rfl, a⟩
  | _, _, i + 1, _, .cons a b, h => RpAll.get (i := i) b h
theorem RpAll.getD : ∀ {vs : List V} {ds : List DD} {i : Nat} {d : DD}, RpAll K G vs ds → ds[i]? = some d → ∃ v, vs[i]? = some v ∧ Rp K G v d
  | _, _, _, _, .nil, h => by simp at h
  | _, _, 0, _, .cons a b, h => by
    have e := Option.some.inj h
    subst e
    exact ⟨_, rfl, a⟩
  | _, _, i + 1, _, .cons a b, h => RpAll.getD (i := i) b h
theorem RpAll.append : ∀ {vs ws : List V} {ds es : List DD}, RpAll K G vs ds → RpAll K G ws es → RpAll K G (vs ++ ws) (ds ++ es)
  | _, _, _, _, .nil, h => h
  | _, _, _, _, .cons a b, h => .cons a (RpAll.append b h)
theorem RpAll.take : ∀ {vs : List V} {ds : List DD} (n : Nat), RpAll K G vs ds → RpAll K G (vs.take n) (ds.take n)
  | _, _, 0, _ => .nil
  | _, _, _ + 1, .nil => .nil
  | _, _, n + 1, .cons a b => .cons a (RpAll.take n b)
theorem RpAll.drop : ∀ {vs : List V} {ds : List DD} (n : Nat), RpAll K G vs ds → RpAll K G (vs.drop n) (ds.drop n)
  | _, _, 0, h => h
  | _, _, _ + 1, .nil => .nil
  | _, _, n + 1, .cons a b => RpAll.drop n b
end

/-! ### the world: what may turn besides -/
/-- fp: where what W says stands; st: what of it may turn -/
structure Wd where
  st : Addr → Prop
  fp : Addr → Prop
  W : Hp → Prop
  sf : ∀ a, st a → fp a
  loc : ∀ {H H' : Hp}, (∀ a, fp a → H' a = H a) → W H → W H'
def Wd.zero : Wd := ⟨fun _ => False, fun _ => False, fun _ => True, fun _ h => h, fun _ _ => trivial⟩
structure Okw (w : Wd) (G H : Hp) : Prop where
  sub : Sub G H
  wd : w.W H
  out : ∀ a, w.st a → G a = none
  here : ∀ a, w.fp a → H a ≠ none
structure Stp (w : Wd) (G H G2 H2 : Hp) : Prop where
  sub : Sub G2 H2
  up : Sub G G2
  kp : ∀ a o, ¬ w.st a → H a = some o → H2 a = some o
  th : ∀ a, H a ≠ none → H2 a ≠ none
  nw : ∀ a, H a ≠ none → G a = none → G2 a = none
  wd : w.W H2
section
variable {w : Wd} {G H G2 H2 G3 H3 : Hp}
theorem Okw.stp (k : Okw w G H) : Stp w G H G H := ⟨k.sub, Sub.rfl, fun _ _ _ h => h, fun _ h => h, fun _ _ h => h, k.wd⟩
theorem Stp.trans (a : Stp w G H G2 H2) (b : Stp w G2 H2 G3 H3) : Stp w G H G3 H3 :=
  ⟨b.sub, a.up.trans b.up, fun x o n h => b.kp x o n (a.kp x o n h), fun x h => b.th x (a.th x h), fun x h n => b.nw x (a.th x h) (a.nw x h n), b.wd⟩
theorem Stp.okw (k : Okw w G H) (a : Stp w G H G2 H2) : Okw w G2 H2 :=
  ⟨a.sub, a.wd, fun x h => a.nw x (k.here x (w.sf x h)) (k.out x h), fun x h => a.th x (k.here x h)⟩
theorem Okw.new (k : Okw w G H) {p : Addr} {o : HO} (h : H p = none) : w.W (upd H p o) := w.loc (fun a f => upd_ne fun z => k.here a f (by rw [z]; exact h)) k.wd
theorem Stp.new (k : Okw w G H) {p : Addr} {o : HO} (h : H p = none) : Stp w G H (upd G p o) (upd H p o) := by
  have gp : G p = none := by
    cases e : G p with
    | none => rfl
    | some u => rw [k.sub p u e] at h; cases h
  refine ⟨k.sub.both, Sub.new gp, fun a u _ e => Sub.new h a u e, fun a e => ?_, fun a e n => ?_, k.new h⟩
  · have ne : a ≠ p := fun z => e (by rw [z]; exact h)
    rw [upd_ne ne]; exact e
  · have ne : a ≠ p := fun z => e (by rw [z]; exact h)
    rw [upd_ne ne]; exact n
/-- a new object that G does not take up -/
theorem Stp.new0 (k : Okw w G H) {p : Addr} {o : HO} (h : H p = none) : Stp w G H G (upd H p o) := by
  refine ⟨k.sub.trans (Sub.new h), Sub.rfl, fun a u _ e => Sub.new h a u e, fun a e => ?_, fun a e n => n, k.new h⟩
  have ne : a ≠ p := fun z => e (by rw [z]; exact h)
  rw [upd_ne ne]; exact e
theorem Okw.g_none (k : Okw w G H) {p : Addr} (h : H p = none) : G p = none := by
  cases e : G p with
  | none => rfl
  | some u => rw [k.sub p u e] at h; cases h
/-- something that was new is written -/
theorem Stp.mut {H0 G0 : Hp} (k0 : Okw w G0 H0) (a : Stp w G0 H0 G H) {p : Addr} {o : HO} (h0 : H0 p = none) (hg : G p = none) : Stp w G0 H0 G (upd H p o) := by
  refine ⟨fun x u e => ?_, a.up, fun x u n e => ?_, fun x e => ?_, a.nw, w.loc (fun x f => upd_ne fun z => k0.here x f (by rw [z]; exact h0)) a.wd⟩
  · rw [upd_ne (ne_of_none e hg)]; exact a.sub x u e
  · rw [upd_ne (ne_of_none e h0)]; exact a.kp x u n e
  · rw [upd_ne (fun z => e (by rw [z]; exact h0))]; exact a.th x e
theorem Okw.mut (k : Okw w G H) {p : Addr} {o : HO} (hf : ¬ w.fp p) (hg : G p = none) : Okw w G (upd H p o) := by
  refine ⟨fun x u e => ?_, w.loc (fun x f => upd_ne fun (z : x = p) => hf (by rw [← z]; exact f)) k.wd, k.out, fun x f => ?_⟩
  · rw [upd_ne (ne_of_none e hg)]; exact k.sub x u e
  · rw [upd_ne fun (z : x = p) => hf (by rw [← z]; exact f)]; exact k.here x f
/-- what a pure callee did, in any world -/
theorem Stp.lift (k : Okw w G H) (a : Stp Wd.zero G H G2 H2) : Stp w G H G2 H2 :=
  ⟨a.sub, a.up, fun x o _ h => a.kp x o (fun z => z) h, a.th, a.nw, w.loc (fun x f => by
    cases e : H x with
    | none => exact absurd e (k.here x f)
    | some o => exact a.kp x o (fun z => z) e) k.wd⟩
theorem Okw.zero (k : Okw w G H) : Okw Wd.zero G H := ⟨k.sub, trivial, fun _ h => h.elim, fun _ h => h.elim⟩
end

/-! ### slots -/
inductive Ent where
  | un
  | dat (d : DD)
  | adr (a : Addr)
  | own (ds : List DD)
abbrev En := List Ent
structure SlOk (K : PySem.W.Frag) (G : Hp) (σ : L2.St) (ρ : En) : Prop where
  len : σ.length = ρ.length
  dat : ∀ (i : Nat) d, ρ[i]? = some (.dat d) → ∃ v, σ[i]? = some (some v) ∧ Rp K G v d
  adr : ∀ (i : Nat) a, ρ[i]? = some (.adr a) → σ[i]? = some (some (.ref a))
theorem SlOk.mono {K : PySem.W.Frag} {G H : Hp} {σ : L2.St} {ρ : En} (s : Sub G H) (h : SlOk K G σ ρ) : SlOk K H σ ρ :=
  ⟨h.len, fun i d e => let ⟨v, a, b⟩ := h.dat i d e; ⟨v, a, b.mono s⟩, h.adr⟩

/-! ### the readings over data -/
abbrev DE := En → (DD → Prop) → Prop
abbrev DT := En → (Bool → Prop) → Prop
abbrev DA := En → (List DD → Prop) → Prop
def RE (w : Wd) (K : PySem.W.Frag) (te : TE) (td : DE) : Prop := ∀ σ ρ G H (P : DD → Prop) (Q : VK), Okw w G H → SlOk K G σ ρ → td ρ P →
  (∀ v d G2 H2, Stp w G H G2 H2 → Rp K G2 v d → P d → Q v H2) → te σ H Q
def RT (w : Wd) (K : PySem.W.Frag) (tt : TT) (td : DT) : Prop := ∀ σ ρ G H (P : Bool → Prop) (Q : Bool → Hp → Prop), Okw w G H → SlOk K G σ ρ → td ρ P →
  (∀ b G2 H2, Stp w G H G2 H2 → P b → Q b H2) → tt σ H Q
def RA (w : Wd) (K : PySem.W.Frag) (n : Nat) (ta : TA) (td : DA) : Prop := ∀ σ ρ G H (P : List DD → Prop) (Q : List V → Hp → Prop), Okw w G H → SlOk K G σ ρ → td ρ P →
  (∀ vs ds G2 H2, Stp w G H G2 H2 → RpAll K G2 vs ds → vs.length = n → P ds → Q vs H2) → ta σ H Q
/-- a new list that nobody knows yet -/
def RN (w : Wd) (K : PySem.W.Frag) (te : TE) (td : DA) : Prop := ∀ σ ρ G H (P : List DD → Prop) (Q : VK), Okw w G H → SlOk K G σ ρ → td ρ P →
  (∀ p xs ds G2 H2, Stp w G H G2 H2 → H p = none → G2 p = none → H2 p = some (.lst xs) → RpAll K G2 xs ds → P ds → Q (.ref p) H2) → te σ H Q
structure PD (w : Wd) (X : Cx) (e : Expr) (td : DE) : Prop where
  ex : ∃ te, PE X e te ∧ RE w X.K te td
structure PDT (w : Wd) (X : Cx) (e : Expr) (td : DT) : Prop where
  ex : ∃ te, PT X e te ∧ RT w X.K te td
structure PDW (w : Wd) (X : Cx) (e : Expr) (td : DT) : Prop where
  ex : ∃ te, PW X e te ∧ RT w X.K te td
structure PDA (w : Wd) (X : Cx) (es : List Expr) (td : DA) : Prop where
  ex : ∃ te, PA X es te ∧ RA w X.K es.length te td
structure PDN (w : Wd) (X : Cx) (e : Expr) (td : DA) : Prop where
  ex : ∃ te, PE X e te ∧ RN w X.K te td
/-- an operation on two data -/
abbrev D2 := DD → DD → (DD → Prop) → Prop
def RO (w : Wd) (K : PySem.W.Frag) (r : R2) (g : D2) : Prop := ∀ x y d e G H (P : DD → Prop) (Q : VK), Okw w G H → Rp K G x d → Rp K G y e → g d e P →
  (∀ v d G2 H2, Stp w G H G2 H2 → Rp K G2 v d → P d → Q v H2) → r x y H Q
def OpD (w : Wd) (X : Cx) (f : Value → Value → Sem Value) (g : D2) : Prop := ∃ r, OpR X f r ∧ RO w X.K r g
/-- a call on data -/
abbrev D1 := List DD → (DD → Prop) → Prop
def RC (w : Wd) (K : PySem.W.Frag) (r : List V → Hp → VK → Prop) (g : D1) : Prop := ∀ xs ds G H (P : DD → Prop) (Q : VK), Okw w G H → RpAll K G xs ds → g ds P →
  (∀ v d G2 H2, Stp w G H G2 H2 → Rp K G2 v d → P d → Q v H2) → r xs H Q
def CallD (w : Wd) (X : Cx) (f : Value) (g : D1) : Prop := ∃ r, CallR X f r ∧ RC w X.K r g

section
variable {w : Wd} {X : Cx} {a b e : Expr} {es : List Expr} {ta tb : DE} {pos : Pos}

def dN (i : Nat) : DE := fun ρ P => match ρ[i]? with
  | some (.dat d) => P d
  | _ => False
theorem pd_n (i : Nat) {x : Str} {pos : Pos} (hN : X.N[i]? = some x := by rfl) (hv : Vis X.env.scope x := by first | exact Or.inl rfl | exact Or.inr (Or.inl rfl) | exact Or.inr (Or.inr rfl)) (hd : (x == ("__debug__" : Str)) = false := by decide)
    (hcd : (x == ("__classdict__" : Str)) = false := by decide) : PD w X (.Name x pos) (dN i) := by
  refine ⟨_, pe_var hN hv hd hcd, fun σ ρ G H P Q k s h q => ?_⟩
  unfold dN at h
  split at h
  · rename_i d e1
    obtain ⟨v, e2, r⟩ := s.dat _ _ e1
    exact ⟨v, e2, q v d G H k.stp r h⟩
  · exact h.elim
def dC (d : DD) : DE := fun _ P => P d
theorem pd_int {i j pos} : PD w X (.Constant (.int i) j pos) (dC (.int i)) := ⟨_, pe_int, fun _ _ G H _ _ k _ h q => q _ _ G H k.stp (.int i) h⟩
theorem pd_bl {i j pos} : PD w X (.Constant (.bool i) j pos) (dC (.bool i)) := ⟨_, pe_bl, fun _ _ G H _ _ k _ h q => q _ _ G H k.stp (.bl i) h⟩
theorem pd_non {j pos} : PD w X (.Constant .none j pos) (dC .none) := ⟨_, pe_non, fun _ _ G H _ _ k _ h q => q _ _ G H k.stp .non h⟩
theorem pd_str {i j pos} : PD w X (.Constant (.str i) j pos) (dC (.str i)) := ⟨_, pe_str, fun _ _ G H _ _ k _ h q => q _ _ G H k.stp (.str i) h⟩
theorem pd_gi {x : Str} {u : Tok} {i : Int} {pos : Pos} (hm : X.mg x = some (.int i u)) (hg : Gl X x := by rfl) (hd : (x == ("__debug__" : Str)) = false := by decide) : PD w X (.Name x pos) (dC (.int i)) :=
  ⟨_, pe_glob (v := .int i) hg hm ⟨_, rfl⟩ hd, fun _ _ G H _ _ k _ h q => q _ _ G H k.stp (.int i) h⟩
theorem pd_gs {x : Str} {u : Tok} {i : Str} {pos : Pos} (hm : X.mg x = some (.str i u)) (hg : Gl X x := by rfl) (hd : (x == ("__debug__" : Str)) = false := by decide) : PD w X (.Name x pos) (dC (.str i)) :=
  ⟨_, pe_glob (v := .str i) hg hm ⟨_, rfl⟩ hd, fun _ _ G H _ _ k _ h q => q _ _ G H k.stp (.str i) h⟩
/-! two in a row -/
def dOp (g : D2) (ta tb : DE) : DE := fun ρ P => ta ρ fun x => tb ρ fun y => g x y P
theorem re_op {r : R2} {g : D2} {ta' tb' : TE} (ho : RO w X.K r g) (ha : RE w X.K ta' ta) (hb : RE w X.K tb' tb) : RE w X.K (tOp r ta' tb') (dOp g ta tb) := by
  intro σ ρ G H P Q k s h q
  refine ha σ ρ G H _ _ k s h fun x d G1 H1 s1 r1 p1 => ?_
  refine hb σ ρ G1 H1 _ _ (s1.okw k) (s.mono s1.up) p1 fun y e G2 H2 s2 r2 p2 => ?_
  exact ho x y d e G2 H2 P Q (s2.okw (s1.okw k)) (r1.mono s2.up) r2 p2 fun v d G3 H3 s3 => q v d G3 H3 ((s1.trans s2).trans s3)
theorem pd_op {op : Operator} {g : D2} (ho : OpD w X (binaryOp op) g) (ha : PD w X a ta) (hb : PD w X b tb) : PD w X (.BinOp a op b pos) (dOp g ta tb) := by
  obtain ⟨r, o1, o2⟩ := ho
  obtain ⟨ta', a1, a2⟩ := ha
  obtain ⟨tb', b1, b2⟩ := hb
  exact ⟨_, pe_op o1 a1 b1, re_op o2 a2 b2⟩
def dUn (g : DD → (DD → Prop) → Prop) (ta : DE) : DE := fun ρ P => ta ρ fun x => g x P
def gNeg : DD → (DD → Prop) → Prop := fun x P => match x with
  | .int i => P (.int (-i))
  | _ => False
theorem pd_neg (ha : PD w X a ta) : PD w X (.UnaryOp .USub a pos) (dUn gNeg ta) := by
  obtain ⟨ta', a1, a2⟩ := ha
  refine ⟨_, pe_un un_neg a1, fun σ ρ G H P Q k s h q => ?_⟩
  refine a2 σ ρ G H _ _ k s h fun x d G1 H1 s1 r1 p1 => ?_
  cases r1 with
  | int i => exact ⟨i, rfl, q _ _ G1 H1 s1 (.int _) p1⟩
  | _ => exact p1.elim
def gIsN : D2 := fun x y P => match y with
  | .none => P (.bool (match x with | .none => true | _ => false))
  | _ => False
theorem od_isN : OpD w X (compareOp .Is) gIsN := by
  refine ⟨_, op_isN, fun x y d e G H P Q k r1 r2 h q => ?_⟩
  cases r2 with
  | non =>
    refine ⟨rfl, ?_⟩
    cases r1 <;> exact q _ _ G H k.stp (.bl _) h
  | _ => exact h.elim
def gNotN : D2 := fun x y P => match y with
  | .none => P (.bool (match x with | .none => false | _ => true))
  | _ => False
theorem od_notN : OpD w X (compareOp .IsNot) gNotN := by
  refine ⟨_, op_notN, fun x y d e G H P Q k r1 r2 h q => ?_⟩
  cases r2 with
  | non =>
    refine ⟨rfl, ?_⟩
    cases r1 <;> exact q _ _ G H k.stp (.bl _) h
  | _ => exact h.elim
/-! comparisons, as values and as tests -/
theorem pd_cmp {op : CmpOp} {g : D2} (ho : OpD w X (compareOp op) g) (ha : PD w X a ta) (hb : PD w X b tb) (hm : behindInMarks op b = false := by first | exact nomark _ (by decide) (by decide) | rfl) : PD w X (.Compare a [op] [b] pos) (dOp g ta tb) := by
  obtain ⟨r, o1, o2⟩ := ho
  obtain ⟨ta', a1, a2⟩ := ha
  obtain ⟨tb', b1, b2⟩ := hb
  exact ⟨_, pe_cmpR o1 a1 b1 hm, re_op o2 a2 b2⟩
def asB (P : Bool → Prop) : DD → Prop := fun x => match x with
  | .bool b => P b
  | _ => False
def dT (td : DE) : DT := fun ρ P => td ρ (asB P)
theorem rt_of {K : PySem.W.Frag} {te : TE} {td : DE} (h : RE w K te td) : RT w K (tTest te) (dT td) := by
  intro σ ρ G H P Q k s h1 q
  refine h σ ρ G H _ _ k s h1 fun v d G2 H2 s2 r p => ?_
  cases r with
  | bl b => exact ⟨b, rfl, q b G2 H2 s2 p⟩
  | _ => exact p.elim
theorem pt_cm {op : CmpOp} {g : D2} (ho : OpD w X (compareOp op) g) (ha : PD w X a ta) (hb : PD w X b tb) (hm : behindInMarks op b = false := by first | exact nomark _ (by decide) (by decide) | rfl) : PDT w X (.Compare a [op] [b] pos) (dT (dOp g ta tb)) := by
  obtain ⟨r, o1, o2⟩ := ho
  obtain ⟨ta', a1, a2⟩ := ha
  obtain ⟨tb', b1, b2⟩ := hb
  exact ⟨_, pt_cmpR o1 a1 b1 hm, rt_of (re_op o2 a2 b2)⟩
theorem pt_v {td : DE} (h : PD w X e td) (he : ∀ whole, isTrue e X.env whole = (do let v ← whole; standAt e.pos; holding [v] (truthy v)) := by intro _; rfl) : PDT w X e (dT td) := by
  obtain ⟨te, e1, e2⟩ := h
  exact ⟨_, pt_val e1 he, rt_of e2⟩
variable {tA tB : DT} {rest : List Expr}
def dAnd (t u : DT) : DT := fun ρ P => t ρ fun c => if c = true then u ρ P else P false
def dOr (t u : DT) : DT := fun ρ P => t ρ fun c => if c = true then P true else u ρ P
def dNot (t : DT) : DT := fun ρ P => t ρ fun c => P (!c)
theorem rt_and {K : PySem.W.Frag} {t u : TT} (ht : RT w K t tA) (hu : RT w K u tB) : RT w K (tAnd t u) (dAnd tA tB) := by
  intro σ ρ G H P Q k s h q
  refine ht σ ρ G H _ _ k s h fun b G1 H1 s1 p1 => ?_
  cases b with
  | true =>
    rw [if_pos rfl] at p1 ⊢
    exact hu σ ρ G1 H1 _ _ (s1.okw k) (s.mono s1.up) p1 fun b G2 H2 s2 => q b G2 H2 (s1.trans s2)
  | false => exact q false G1 H1 s1 p1
theorem rt_or {K : PySem.W.Frag} {t u : TT} (ht : RT w K t tA) (hu : RT w K u tB) : RT w K (tOr t u) (dOr tA tB) := by
  intro σ ρ G H P Q k s h q
  refine ht σ ρ G H _ _ k s h fun b G1 H1 s1 p1 => ?_
  cases b with
  | false =>
    rw [if_neg Bool.false_ne_true] at p1 ⊢
    exact hu σ ρ G1 H1 _ _ (s1.okw k) (s.mono s1.up) p1 fun b G2 H2 s2 => q b G2 H2 (s1.trans s2)
  | true => exact q true G1 H1 s1 p1
theorem pw_a1 (ha : PDT w X a tA) : PDW w X (.BoolOp .And [a] pos) tA := by
  obtain ⟨t, h1, h2⟩ := ha
  exact ⟨_, pw_and1 h1, h2⟩
theorem pw_o1 (ha : PDT w X a tA) : PDW w X (.BoolOp .Or [a] pos) tA := by
  obtain ⟨t, h1, h2⟩ := ha
  exact ⟨_, pw_or1 h1, h2⟩
theorem pw_a (ha : PDT w X a tA) (hb : PDW w X (.BoolOp .And (b :: rest) pos) tB) : PDW w X (.BoolOp .And (a :: b :: rest) pos) (dAnd tA tB) := by
  obtain ⟨t, h1, h2⟩ := ha
  obtain ⟨u, h3, h4⟩ := hb
  exact ⟨_, pw_and h1 h3, rt_and h2 h4⟩
theorem pw_o (ha : PDT w X a tA) (hb : PDW w X (.BoolOp .Or (b :: rest) pos) tB) : PDW w X (.BoolOp .Or (a :: b :: rest) pos) (dOr tA tB) := by
  obtain ⟨t, h1, h2⟩ := ha
  obtain ⟨u, h3, h4⟩ := hb
  exact ⟨_, pw_or h1 h3, rt_or h2 h4⟩
theorem PDW.t (h : PDW w X e tA) : PDT w X e tA := by
  obtain ⟨t, h1, h2⟩ := h
  exact ⟨_, h1.pt, h2⟩
theorem pt_no (ha : PDT w X a tA) : PDT w X (.UnaryOp .Not a pos) (dNot tA) := by
  obtain ⟨t, h1, h2⟩ := ha
  exact ⟨_, L2.pt_not h1, fun σ ρ G H P Q k s h q => h2 σ ρ G H _ _ k s h fun b G2 H2 s2 p => q _ G2 H2 s2 p⟩
/-! and, or, not of truth values, as values -/
def dAndV (ta tb : DE) : DE := fun ρ P => ta ρ (asB fun c => if c = true then tb ρ P else P (.bool false))
def dOrV (ta tb : DE) : DE := fun ρ P => ta ρ (asB fun c => if c = true then P (.bool true) else tb ρ P)
def dNotV (ta : DE) : DE := fun ρ P => ta ρ (asB fun c => P (.bool (!c)))
theorem pd_one {op} (ha : PD w X a ta) : PD w X (.BoolOp op [a] pos) ta := by
  obtain ⟨t, h1, h2⟩ := ha
  exact ⟨_, pe_one h1, h2⟩
theorem pd_and (ha : PD w X a ta) (hb : PD w X (.BoolOp .And (b :: rest) pos) tb) : PD w X (.BoolOp .And (a :: b :: rest) pos) (dAndV ta tb) := by
  obtain ⟨t, h1, h2⟩ := ha
  obtain ⟨u, h3, h4⟩ := hb
  refine ⟨_, pe_and h1 h3, fun σ ρ G H P Q k s h q => ?_⟩
  refine h2 σ ρ G H _ _ k s h fun x d G1 H1 s1 r1 p1 => ?_
  cases r1 with
  | bl c =>
    refine ⟨c, rfl, ?_⟩
    cases c with
    | true => exact h4 σ ρ G1 H1 _ _ (s1.okw k) (s.mono s1.up) p1 fun v d G2 H2 s2 => q v d G2 H2 (s1.trans s2)
    | false => exact q _ _ G1 H1 s1 (.bl false) p1
  | _ => exact p1.elim
theorem pd_or (ha : PD w X a ta) (hb : PD w X (.BoolOp .Or (b :: rest) pos) tb) : PD w X (.BoolOp .Or (a :: b :: rest) pos) (dOrV ta tb) := by
  obtain ⟨t, h1, h2⟩ := ha
  obtain ⟨u, h3, h4⟩ := hb
  refine ⟨_, pe_or h1 h3, fun σ ρ G H P Q k s h q => ?_⟩
  refine h2 σ ρ G H _ _ k s h fun x d G1 H1 s1 r1 p1 => ?_
  cases r1 with
  | bl c =>
    refine ⟨c, rfl, ?_⟩
    cases c with
    | false => exact h4 σ ρ G1 H1 _ _ (s1.okw k) (s.mono s1.up) p1 fun v d G2 H2 s2 => q v d G2 H2 (s1.trans s2)
    | true => exact q _ _ G1 H1 s1 (.bl true) p1
  | _ => exact p1.elim
theorem pd_not (ha : PD w X a ta) : PD w X (.UnaryOp .Not a pos) (dNotV ta) := by
  obtain ⟨t, h1, h2⟩ := ha
  refine ⟨_, pe_not h1, fun σ ρ G H P Q k s h q => ?_⟩
  refine h2 σ ρ G H _ _ k s h fun x d G1 H1 s1 r1 p1 => ?_
  cases r1 with
  | bl c => exact ⟨c, rfl, q _ _ G1 H1 s1 (.bl _) p1⟩
  | _ => exact p1.elim
def dIf (t : DT) (ta tb : DE) : DE := fun ρ P => t ρ fun c => if c = true then ta ρ P else tb ρ P
theorem pd_if {c : Expr} (hc : PDT w X c tA) (ha : PD w X a ta) (hb : PD w X b tb) : PD w X (.IfExp c a b pos) (dIf tA ta tb) := by
  obtain ⟨t, c1, c2⟩ := hc
  obtain ⟨t1, a1, a2⟩ := ha
  obtain ⟨t2, b1, b2⟩ := hb
  refine ⟨_, pe_ifExp c1 a1 b1, fun σ ρ G H P Q k s h q => ?_⟩
  refine c2 σ ρ G H _ _ k s h fun x G1 H1 s1 p1 => ?_
  cases x with
  | true => exact a2 σ ρ G1 H1 _ _ (s1.okw k) (s.mono s1.up) p1 fun v d G2 H2 s2 => q v d G2 H2 (s1.trans s2)
  | false => exact b2 σ ρ G1 H1 _ _ (s1.okw k) (s.mono s1.up) p1 fun v d G2 H2 s2 => q v d G2 H2 (s1.trans s2)
/-! a < b < c -/
def dCh (g g' : D2) (ta tb tc : DE) : DE := fun ρ P => ta ρ fun x => tb ρ fun y => g x y (asB fun c => if c = true then tc ρ fun z => g' y z P else P (.bool false))
/-! argument lists, displays -/
def dNil : DA := fun _ P => P []
def dCons (ta : DE) (tr : DA) : DA := fun ρ P => ta ρ fun x => tr ρ fun xs => P (x :: xs)
theorem da_nil : PDA w X [] dNil := ⟨_, pa_nil, fun _ _ G H _ _ k _ h q => q _ _ G H k.stp .nil rfl h⟩
theorem da_cons {tr : DA} (ha : PD w X e ta) (hr : PDA w X es tr) (hs : starEach (e :: es) X.env = (false, eval e X.env) :: starEach es X.env := by rfl) : PDA w X (e :: es) (dCons ta tr) := by
  obtain ⟨t, h1, h2⟩ := ha
  obtain ⟨u, h3, h4⟩ := hr
  refine ⟨_, pa_cons h1 h3 hs, fun σ ρ G H P Q k s h q => ?_⟩
  refine h2 σ ρ G H _ _ k s h fun x d G1 H1 s1 r1 p1 => ?_
  refine h4 σ ρ G1 H1 _ _ (s1.okw k) (s.mono s1.up) p1 fun xs ds G2 H2 s2 r2 l2 p2 => ?_
  exact q _ _ G2 H2 (s1.trans s2) (.cons (r1.mono s2.up) r2) (congrArg (· + 1) l2) p2
def dTup (t : DA) : DE := fun ρ P => t ρ fun xs => P (.tuple xs)
def dLst (t : DA) : DE := fun ρ P => t ρ fun xs => P (.list xs)
theorem line_le {n : Nat} (h : n ≤ 1000000) : n ≤ sizeLine := Nat.le_trans h (by decide)
theorem line_lt {n : Nat} (h : n < 1000000) : n < sizeLine := Nat.lt_of_lt_of_le h (by decide)
theorem pd_tup {x1} {t : DA} (h : PDA w X es t) (hl : es.length ≤ 1000 := by decide) : PD w X (.Tuple es x1 pos) (dTup t) := by
  obtain ⟨t', h1, h2⟩ := h
  refine ⟨_, pe_tup h1, fun σ ρ G H P Q k s h q => ?_⟩
  refine h2 σ ρ G H _ _ k s h fun xs ds G1 H1 s1 r1 l1 p1 => ⟨line_le (by omega), fun p hp => ?_⟩
  exact q _ _ _ _ (s1.trans (Stp.new (s1.okw k) hp)) (.tup (SqT.of upd_same) (r1.mono (Sub.new ((s1.okw k).g_none hp)))) p1
theorem pd_lst {t : DA} (h : PDA w X es t) (hl : es.length ≤ 1000 := by decide) : PD w X (.List es pos) (dLst t) := by
  obtain ⟨t', h1, h2⟩ := h
  refine ⟨_, pe_lst h1, fun σ ρ G H P Q k s h q => ?_⟩
  refine h2 σ ρ G H _ _ k s h fun xs ds G1 H1 s1 r1 l1 p1 => ⟨line_le (by omega), fun p hp => ?_⟩
  exact q _ _ _ _ (s1.trans (Stp.new (s1.okw k) hp)) (.lst upd_same (r1.mono (Sub.new ((s1.okw k).g_none hp)))) p1
/-- a display that a name takes for its own -/
theorem pn_lst {t : DA} (h : PDA w X es t) (hl : es.length ≤ 1000 := by decide) : PDN w X (.List es pos) t := by
  obtain ⟨t', h1, h2⟩ := h
  refine ⟨_, pe_lst h1, fun σ ρ G H P Q k s h q => ?_⟩
  refine h2 σ ρ G H _ _ k s h fun xs ds G1 H1 s1 r1 l1 p1 => ⟨line_le (by omega), fun p hp => ?_⟩
  have k1 := s1.okw k
  have hp0 : H p = none := by
    cases e : H p with
    | none => rfl
    | some u => exact absurd hp (s1.th p (by rw [e]; exact fun z => nomatch z))
  exact q p xs ds _ _ (s1.trans (Stp.new0 k1 hp)) hp0 (k1.g_none hp) upd_same r1 p1
end
end Z

set_option Elab.async false
set_option linter.all false
set_option maxRecDepth 100000
set_option maxHeartbeats 4000000
/-! Z2: < and > of tuples by the first difference, whatever stands behind it. -/
namespace ZO
open PySem PySem.SeqAt AutoSeq1 MeetsSeq MeetsSeq2 MeetsSeq3 SeqRoads2
/-- from place i on, k places left: the first that differs decides -/
def fd (e r : Nat → Bool) (z : Bool) : Nat → Nat → Bool
  | _, 0 => z
  | i, k + 1 => bif e i then fd e r z (i + 1) k else r i
def Rc (op : CmpOp) (A : Around) (s : Shared) (y x : Value) (k : Bool) : Prop :=
  ∀ (prog : Program) (w : World) (E : Value → Shared → Prop) (Q : Value → Shared → Prop), Q (.bool k) s → wpAny (model prog w) A (richCompare op y x) Q E s
theorem lt_walk (l b : Addr) (us ws : Array Value) (n m : Nat) (d1 d2 : Option Addr) (s1 s2 : Array (Option Value)) (e r : Nat → Bool) :
    Meets (Builtin.«tuple.__lt__» ⟨[.ref l, .ref b], []⟩) (fun A R s => s.heap.get? l = some ⟨.type "tuple", d1, .seq us n, s1⟩ ∧ s.heap.get? b = some ⟨.type "tuple", d2, .seq ws m, s2⟩ ∧
      (∀ j (h1 : j < us.size) (h2 : j < ws.size), (∀ i, i < j → e i = true) → EqAt A.in1 s us[j] ws[j] (e j)) ∧
      (∀ j (h1 : j < us.size) (h2 : j < ws.size), (∀ i, i < j → e i = true) → e j = false → Rc .Lt A.in1 s us[j] ws[j] (r j)) ∧
      R (.ok (.ret (.bool (fd e r (decide (us.size < ws.size)) 0 (min us.size ws.size))))) s) := .of_wp fun prog w A R s h => by
  obtain ⟨hp, g, d, tk, os⟩ := s; obtain ⟨hl, hb, he, hr, h⟩ := h
  have f2 := AutoSeq1.sub_tuple_tuple
  have hZ : (us.toList.zip ws.toList).length = min us.size ws.size := by simp
  wp_walk using wpAny_loadPart' hl, wpAny_loadPart' hb, wpAny_forIn_list _ (fun rest b s' => b.1 = none ∧ s' = ⟨hp, g, d, tk, os⟩ ∧ ∃ i, i ≤ min us.size ws.size ∧ (∀ j, j < i → e j = true) ∧ rest = (us.toList.zip ws.toList).drop i ∧ R (.ok (.ret (.bool (fd e r (decide (us.size < ws.size)) i (min us.size ws.size - i))))) ⟨hp, g, d, tk, os⟩) _
  case turn =>
    rintro ⟨y, x⟩ rest b s' ⟨hb', rfl, i, hle, hall, hz, hR⟩
    have hm : i < min us.size ws.size := by
      rcases Nat.lt_or_ge i (us.toList.zip ws.toList).length with h' | h'
      · exact hZ ▸ h'
      · rw [List.drop_of_length_le h'] at hz; cases hz
    have hlt : i < (us.toList.zip ws.toList).length := by rw [hZ]; exact hm
    have h1 : i < us.size := by omega
    have h2 : i < ws.size := by omega
    rw [List.drop_eq_getElem_cons hlt] at hz
    injection hz with hyx hrest
    obtain rfl : y = us[i] := by simpa using congrArg Prod.fst hyx
    obtain rfl : x = ws[i] := by simpa using congrArg Prod.snd hyx
    have hd : min us.size ws.size - i = (min us.size ws.size - (i + 1)) + 1 := by omega
    rw [hd] at hR
    refine wpAny_bind (he i h1 h2 hall prog w _ _ ?_)
    cases hy : e i with
    | true =>
      simp only [fd, hy, cond_true] at hR
      wp_walk
      refine ⟨rfl, rfl, i + 1, hm, fun j hj => ?_, hrest, hR⟩
      rcases Nat.lt_succ_iff_lt_or_eq.mp hj with z | z
      · exact hall j z
      · rw [z]; exact hy
    | false =>
      simp only [fd, hy, cond_false] at hR
      have hr' := hr i h1 h2 hall hy prog w
      dsimp only at hr' ⊢
      generalize PySem.richCompare .Lt us[i] ws[i] = rct at hr' ⊢
      wp_walk
      refine hr' _ _ ?_
      wp_walk
      exact ⟨_, rfl, hR⟩
  case fin =>
    rintro ⟨b1, b2⟩ s' ⟨hb', rfl, i, hle, hall, hz, hR⟩
    simp only at hb'
    subst hb'
    have hge : i = min us.size ws.size := by
      rcases Nat.lt_or_ge i (us.toList.zip ws.toList).length with h' | h'
      · rw [List.drop_eq_getElem_cons h'] at hz; cases hz
      · rw [hZ] at h'; omega
    subst hge
    rw [Nat.sub_self] at hR
    wp_walk
    exact ⟨_, rfl, by simpa [Builtin.Tuple.tupleCompareSizes, fd] using hR⟩
  case h => exact ⟨rfl, rfl, 0, Nat.zero_le _, fun j hj => absurd hj (Nat.not_lt_zero j), rfl, by simpa using h⟩
theorem gt_walk (l b : Addr) (us ws : Array Value) (n m : Nat) (d1 d2 : Option Addr) (s1 s2 : Array (Option Value)) (e r : Nat → Bool) :
    Meets (Builtin.«tuple.__gt__» ⟨[.ref l, .ref b], []⟩) (fun A R s => s.heap.get? l = some ⟨.type "tuple", d1, .seq us n, s1⟩ ∧ s.heap.get? b = some ⟨.type "tuple", d2, .seq ws m, s2⟩ ∧
      (∀ j (h1 : j < us.size) (h2 : j < ws.size), (∀ i, i < j → e i = true) → EqAt A.in1 s us[j] ws[j] (e j)) ∧
      (∀ j (h1 : j < us.size) (h2 : j < ws.size), (∀ i, i < j → e i = true) → e j = false → Rc .Gt A.in1 s us[j] ws[j] (r j)) ∧
      R (.ok (.ret (.bool (fd e r (decide (ws.size < us.size)) 0 (min us.size ws.size))))) s) := .of_wp fun prog w A R s h => by
  obtain ⟨hp, g, d, tk, os⟩ := s; obtain ⟨hl, hb, he, hr, h⟩ := h
  have f2 := AutoSeq1.sub_tuple_tuple
  have hZ : (us.toList.zip ws.toList).length = min us.size ws.size := by simp
  wp_walk using wpAny_loadPart' hl, wpAny_loadPart' hb, wpAny_forIn_list _ (fun rest b s' => b.1 = none ∧ s' = ⟨hp, g, d, tk, os⟩ ∧ ∃ i, i ≤ min us.size ws.size ∧ (∀ j, j < i → e j = true) ∧ rest = (us.toList.zip ws.toList).drop i ∧ R (.ok (.ret (.bool (fd e r (decide (ws.size < us.size)) i (min us.size ws.size - i))))) ⟨hp, g, d, tk, os⟩) _
  case turn =>
    rintro ⟨y, x⟩ rest b s' ⟨hb', rfl, i, hle, hall, hz, hR⟩
    have hm : i < min us.size ws.size := by
      rcases Nat.lt_or_ge i (us.toList.zip ws.toList).length with h' | h'
      · exact hZ ▸ h'
      · rw [List.drop_of_length_le h'] at hz; cases hz
    have hlt : i < (us.toList.zip ws.toList).length := by rw [hZ]; exact hm
    have h1 : i < us.size := by omega
    have h2 : i < ws.size := by omega
    rw [List.drop_eq_getElem_cons hlt] at hz
    injection hz with hyx hrest
    obtain rfl : y = us[i] := by simpa using congrArg Prod.fst hyx
    obtain rfl : x = ws[i] := by simpa using congrArg Prod.snd hyx
    have hd : min us.size ws.size - i = (min us.size ws.size - (i + 1)) + 1 := by omega
    rw [hd] at hR
    refine wpAny_bind (he i h1 h2 hall prog w _ _ ?_)
    cases hy : e i with
    | true =>
      simp only [fd, hy, cond_true] at hR
      wp_walk
      refine ⟨rfl, rfl, i + 1, hm, fun j hj => ?_, hrest, hR⟩
      rcases Nat.lt_succ_iff_lt_or_eq.mp hj with z | z
      · exact hall j z
      · rw [z]; exact hy
    | false =>
      simp only [fd, hy, cond_false] at hR
      have hr' := hr i h1 h2 hall hy prog w
      dsimp only at hr' ⊢
      generalize PySem.richCompare .Gt us[i] ws[i] = rct at hr' ⊢
      wp_walk
      refine hr' _ _ ?_
      wp_walk
      exact ⟨_, rfl, hR⟩
  case fin =>
    rintro ⟨b1, b2⟩ s' ⟨hb', rfl, i, hle, hall, hz, hR⟩
    simp only at hb'
    subst hb'
    have hge : i = min us.size ws.size := by
      rcases Nat.lt_or_ge i (us.toList.zip ws.toList).length with h' | h'
      · rw [List.drop_eq_getElem_cons h'] at hz; cases hz
      · rw [hZ] at h'; omega
    subst hge
    rw [Nat.sub_self] at hR
    wp_walk
    exact ⟨_, rfl, by simpa [Builtin.Tuple.tupleCompareSizes, fd] using hR⟩
  case h => exact ⟨rfl, rfl, 0, Nat.zero_le _, fun j hj => absurd hj (Nat.not_lt_zero j), rfl, by simpa using h⟩
section
variable {A : Around} {s : Shared} {l b : Addr} {us ws : Array Value} {e r : Nat → Bool}
theorem Rc.lt_tup (hl : s.heap.IsTuple l us) (hb : s.heap.IsTuple b ws) (hu : A.units < cLine)
    (he : ∀ j (h1 : j < us.size) (h2 : j < ws.size), (∀ i, i < j → e i = true) → EqAt A.in1 s us[j] ws[j] (e j))
    (hr : ∀ j (h1 : j < us.size) (h2 : j < ws.size), (∀ i, i < j → e i = true) → e j = false → Rc .Lt A.in1 s us[j] ws[j] (r j)) :
    Rc .Lt A s (.ref l) (.ref b) (fd e r (decide (us.size < ws.size)) 0 (min us.size ws.size)) := fun prog w E Q h => by
  obtain ⟨⟨cls, dd, data, sl⟩, ho, hc, n, hd⟩ := id hl; obtain ⟨⟨cls2, dd2, data2, sl2⟩, ho2, hc2, n2, hd2⟩ := id hb
  simp only at hc hd hc2 hd2; subst hc hd hc2 hd2
  exact richCompare_meets_room (op := .Lt) ⟨_, ho, rfl⟩ ⟨_, ho2, rfl⟩ F.slot_tuple_lt F.entry_tuple_lt (F.args_tuple_lt_2 _ _) (lt_walk l b us ws n n2 dd dd2 sl sl2 e r) ⟨ho, ho2, he, hr, ⟨(fun x => nomatch x), h⟩⟩ hu
theorem Rc.gt_tup (hl : s.heap.IsTuple l us) (hb : s.heap.IsTuple b ws) (hu : A.units < cLine)
    (he : ∀ j (h1 : j < us.size) (h2 : j < ws.size), (∀ i, i < j → e i = true) → EqAt A.in1 s us[j] ws[j] (e j))
    (hr : ∀ j (h1 : j < us.size) (h2 : j < ws.size), (∀ i, i < j → e i = true) → e j = false → Rc .Gt A.in1 s us[j] ws[j] (r j)) :
    Rc .Gt A s (.ref l) (.ref b) (fd e r (decide (ws.size < us.size)) 0 (min us.size ws.size)) := fun prog w E Q h => by
  obtain ⟨⟨cls, dd, data, sl⟩, ho, hc, n, hd⟩ := id hl; obtain ⟨⟨cls2, dd2, data2, sl2⟩, ho2, hc2, n2, hd2⟩ := id hb
  simp only at hc hd hc2 hd2; subst hc hd hc2 hd2
  exact richCompare_meets_room (op := .Gt) ⟨_, ho, rfl⟩ ⟨_, ho2, rfl⟩ F.slot_tuple_gt F.entry_tuple_gt (F.args_tuple_gt_2 _ _) (gt_walk l b us ws n n2 dd dd2 sl sl2 e r) ⟨ho, ho2, he, hr, ⟨(fun x => nomatch x), h⟩⟩ hu
end

/-! ### over data -/
mutual
/-- a < b (flip: a > b), where Python has an answer -/
def ord (f : Bool) : PyData → PyData → Option Bool
  | .int a, .int b => some (bif f then decide (b < a) else decide (a < b))
  | .str a, .str b => some (bif f then decide (b.cps.toList < a.cps.toList) else decide (a.cps.toList < b.cps.toList))
  | .tuple xs, .tuple ys => ordL f xs ys
  | _, _ => none
def ordL (f : Bool) : List PyData → List PyData → Option Bool
  | [], [] => some false
  | [], _ :: _ => some (!f)
  | _ :: _, [] => some f
  | x :: xs, y :: ys => bif PyData.eqv x y then ordL f xs ys else ord f x y
end
def opOf (f : Bool) : CmpOp := bif f then .Gt else .Lt
theorem fd_shift (e r : Nat → Bool) (z : Bool) : ∀ (k i : Nat), fd (fun j => e (j + 1)) (fun j => r (j + 1)) z i k = fd e r z (i + 1) k
  | 0, _ => rfl
  | k + 1, i => by simp only [fd, fd_shift e r z k (i + 1)]
theorem fd_ord (f : Bool) : ∀ (xs ys : List PyData) (k : Bool), ordL f xs ys = some k →
    fd (fun j => PyData.eqv (xs.getD j .none) (ys.getD j .none)) (fun j => (ord f (xs.getD j .none) (ys.getD j .none)).getD false) (bif f then decide (ys.length < xs.length) else decide (xs.length < ys.length)) 0 (min xs.length ys.length) = k
  | [], [], k, h => by
    have e : false = k := by simpa [ordL] using h
    subst e
    cases f <;> rfl
  | [], y :: ys, k, h => by
    have e : (!f) = k := by simpa [ordL] using h
    subst e
    cases f <;> simp [fd]
  | x :: xs, [], k, h => by
    have e : f = k := by simpa [ordL] using h
    subst e
    cases f <;> simp [fd]
  | x :: xs, y :: ys, k, h => by
    have hm : min (x :: xs).length (y :: ys).length = min xs.length ys.length + 1 := by simp only [List.length_cons]; omega
    rw [hm]
    simp only [fd, List.getD_cons_zero]
    simp only [ordL] at h
    cases he : PyData.eqv x y with
    | true =>
      rw [he] at h
      have ih := fd_ord f xs ys k h
      simp only [cond_true, ← fd_shift, List.getD_cons_succ, List.length_cons, Nat.add_lt_add_iff_right]
      exact ih
    | false =>
      rw [he] at h
      simp only [cond_false] at h ⊢
      rw [h]; rfl
theorem first_ord (f : Bool) : ∀ (xs ys : List PyData) (k : Bool), ordL f xs ys = some k → ∀ j, j < xs.length → j < ys.length → (∀ i, i < j → PyData.eqv (xs.getD i .none) (ys.getD i .none) = true) →
    PyData.eqv (xs.getD j .none) (ys.getD j .none) = false → ord f (xs.getD j .none) (ys.getD j .none) = some k
  | [], _, _, _, _, h, _, _, _ => absurd h (Nat.not_lt_zero _)
  | _ :: _, [], _, _, _, _, h, _, _ => absurd h (Nat.not_lt_zero _)
  | x :: xs, y :: ys, k, h, 0, _, _, _, he => by
    simp only [List.getD_cons_zero] at he ⊢
    rw [ordL, he] at h
    exact h
  | x :: xs, y :: ys, k, h, j + 1, h1, h2, ha, he => by
    have h0 := ha 0 (Nat.zero_lt_succ _)
    simp only [List.getD_cons_zero] at h0
    rw [ordL, h0] at h
    simp only [List.getD_cons_succ] at he ⊢
    exact first_ord f xs ys k h j (Nat.lt_of_succ_lt_succ h1) (Nat.lt_of_succ_lt_succ h2) (fun i hi => by simpa using ha (i + 1) (Nat.succ_lt_succ hi)) he
theorem plain_at : ∀ (xs : List PyData) (j : Nat), PyData.plainAll xs = true → j < xs.length → (xs.getD j .none).plain = true
  | [], _, _, h => absurd h (Nat.not_lt_zero _)
  | x :: xs, 0, h, _ => by simp [PyData.plainAll] at h; simpa using h.1
  | x :: xs, j + 1, h, hj => by simp [PyData.plainAll] at h; simpa using plain_at xs j h.2 (Nat.lt_of_succ_lt_succ hj)
theorem rc_ord (f : Bool) : ∀ (n : Nat) (d e : PyData) (A : Around) (s : Shared) (a b : Value) (as bs : List Addr) (k : Bool), d.depth ≤ n → Reads s.heap a d as → Reads s.heap b e bs → d.plain = true → e.plain = true → A.units + n < cLine → ord f d e = some k → Rc (opOf f) A s a b k := by
  intro n
  induction n with
  | zero =>
    intro d e A s a b as bs k hn ra rb hp hq hu ho
    cases d with
    | int i =>
      cases e with
      | int j =>
        cases ra; cases rb
        have z : (bif f then decide (j < i) else decide (i < j)) = k := by simpa [ord] using ho
        subst z
        intro prog w E Q h
        cases f with
        | true => exact PyProof.Rows.gt_int h
        | false => exact PyProof.Rows.lt_int h
      | _ => simp [ord] at ho
    | str i =>
      cases e with
      | str j =>
        cases ra; cases rb
        have z : (bif f then decide (j.cps.toList < i.cps.toList) else decide (i.cps.toList < j.cps.toList)) = k := by simpa [ord] using ho
        subst z
        intro prog w E Q h
        cases f with
        | true => exact PySem.P.gt_str h
        | false => exact PyProof.Rows.lt_str h
      | _ => simp [ord] at ho
    | tuple xs => simp [PyData.depth] at hn
    | _ => simp [ord] at ho
  | succ n ih =>
    intro d e A s a b as bs k hn ra rb hp hq hu ho
    cases d with
    | int i =>
      cases e with
      | int j =>
        cases ra; cases rb
        have z : (bif f then decide (j < i) else decide (i < j)) = k := by simpa [ord] using ho
        subst z
        intro prog w E Q h
        cases f with
        | true => exact PyProof.Rows.gt_int h
        | false => exact PyProof.Rows.lt_int h
      | _ => simp [ord] at ho
    | str i =>
      cases e with
      | str j =>
        cases ra; cases rb
        have z : (bif f then decide (j.cps.toList < i.cps.toList) else decide (i.cps.toList < j.cps.toList)) = k := by simpa [ord] using ho
        subst z
        intro prog w E Q h
        cases f with
        | true => exact PySem.P.gt_str h
        | false => exact PyProof.Rows.lt_str h
      | _ => simp [ord] at ho
    | tuple xs =>
      cases e with
      | tuple ys =>
        have hol : ordL f xs ys = some k := by rw [ord] at ho; exact ho
        have px : PyData.plainAll xs = true := by rw [PyData.plain] at hp; exact hp
        have py : PyData.plainAll ys = true := by rw [PyData.plain] at hq; exact hq
        have hdx : PyData.depthAll xs ≤ n := by rw [PyData.depth] at hn; omega
        cases ra with
        | @tuple la oa va na _ _ ga ca da ra =>
        cases rb with
        | @tuple lb ob vb nb _ _ gb cb db rb =>
        have n1 : va.size = xs.length := PySem.W.readsAll_len ra
        have n2 : vb.size = ys.length := PySem.W.readsAll_len rb
        have hl : s.heap.IsTuple la va := ⟨oa, ga, ca, na, da⟩
        have hb : s.heap.IsTuple lb vb := ⟨ob, gb, cb, nb, db⟩
        have at1 : ∀ j (h1 : j < va.size), ∃ cs, Reads s.heap va[j] (xs.getD j .none) cs ∧ (xs.getD j .none).depth ≤ n := fun j h1 => by
          obtain ⟨cs, r, _, _, dp⟩ := PySem.W.readsAll_atA ra j va[j] (by simp [h1])
          exact ⟨cs, r, Nat.le_trans dp hdx⟩
        have at2 : ∀ j (h2 : j < vb.size), ∃ cs, Reads s.heap vb[j] (ys.getD j .none) cs := fun j h2 => by
          obtain ⟨cs, r, _, _, _⟩ := PySem.W.readsAll_atA rb j vb[j] (by simp [h2])
          exact ⟨cs, r⟩
        have hu1 : A.in1.units + n < cLine := by show A.units + 1 + n < cLine; omega
        have he : ∀ j (h1 : j < va.size) (h2 : j < vb.size), (∀ i, i < j → PyData.eqv (xs.getD i .none) (ys.getD i .none) = true) → EqAt A.in1 s va[j] vb[j] (PyData.eqv (xs.getD j .none) (ys.getD j .none)) := fun j h1 h2 _ => by
          obtain ⟨cs, r1, dp⟩ := at1 j h1
          obtain ⟨cs', r2⟩ := at2 j h2
          refine eqAt_plain _ _ _ _ _ _ _ _ r1 r2 (plain_at xs j px (n1 ▸ h1)) (plain_at ys j py (n2 ▸ h2)) ?_
          have := Nat.min_le_left (xs.getD j PyData.none).depth (ys.getD j PyData.none).depth
          omega
        have hr : ∀ j (h1 : j < va.size) (h2 : j < vb.size), (∀ i, i < j → PyData.eqv (xs.getD i .none) (ys.getD i .none) = true) → PyData.eqv (xs.getD j .none) (ys.getD j .none) = false → Rc (opOf f) A.in1 s va[j] vb[j] ((ord f (xs.getD j .none) (ys.getD j .none)).getD false) := fun j h1 h2 ha hf => by
          obtain ⟨cs, r1, dp⟩ := at1 j h1
          obtain ⟨cs', r2⟩ := at2 j h2
          have ho2 := first_ord f xs ys k hol j (n1 ▸ h1) (n2 ▸ h2) ha hf
          rw [ho2]
          exact ih _ _ _ _ _ _ _ _ k dp r1 r2 (plain_at xs j px (n1 ▸ h1)) (plain_at ys j py (n2 ▸ h2)) hu1 ho2
        have fin := fd_ord f xs ys k hol
        cases f with
        | false =>
          have R := Rc.lt_tup hl hb (by omega) he hr
          rw [n1, n2] at R
          exact fin ▸ R
        | true =>
          have R := Rc.gt_tup hl hb (by omega) he hr
          rw [n1, n2] at R
          exact fin ▸ R
      | _ => simp [ord] at ho
    | _ => simp [ord] at ho
end ZO

set_option Elab.async false
set_option linter.all false
set_option maxRecDepth 100000
set_option maxHeartbeats 4000000
namespace Z
open PySem PySem.Spec PyProof.Rows L2
section
variable {w : Wd} {K : PySem.W.Frag} {G H : Hp}
mutual
theorem Rp.plain : ∀ {v : V} {d : DD}, Rp K G v d → d.plain = true
  | _, _, .non => rfl
  | _, _, .bl b => rfl
  | _, _, .int i => rfl
  | _, _, .str x => rfl
  | _, _, .lst h r => by rw [PyData.plain]; exact RpAll.plain r
  | _, _, .tup h r => by rw [PyData.plain]; exact RpAll.plain r
theorem RpAll.plain : ∀ {vs : List V} {ds : List DD}, RpAll K G vs ds → PyData.plainAll ds = true
  | _, _, .nil => rfl
  | _, _, .cons a b => by rw [PyData.plainAll, Rp.plain a, RpAll.plain b]; rfl
end
theorem Rp.reads {X : Cx} {pins : List (Addr × Obj)} {σ : L2.St} {s : Shared} {H : Hp} (I : Inv X pins σ H s) {d : DD} {v : V} {u : Value} (h : Rp X.K H v d) (r : RelV v u) : ∃ as, Reads s.heap u d as := Dp.reads I d v u h.dp r
end
/-- an operation that the library tells over data, the heap as it was -/
def rDat (K : PySem.W.Frag) (g : DD → DD → Option V) : R2 := fun x y H Q => ∃ d e z, Rp K H x d ∧ Rp K H y e ∧ g d e = some z ∧ Q z H
theorem opr_dat {X : Cx} {f : Value → Value → Sem Value} {g : DD → DD → Option Bool} (h : ∀ (pins : List (Addr × Obj)) (s : Shared) (σ : L2.St) (H : Hp) (d e : DD) (x y : V) (v u : Value) (k : Bool) (as bs : List Addr) (Q : Value → Shared → Prop), Inv X pins σ H s →
    d.plain = true → e.plain = true → Reads s.heap v d as → Reads s.heap u e bs → g d e = some k → Q (.bool k) s → wpAny (model X.prog X.w) X.A (f v u) Q X.xe s) : OpR X f (rDat X.K fun d e => (g d e).map V.bl) := by
  intro pins s σ H x y v u Q I rx ry hq
  obtain ⟨d, e, z, hd, he, hz, q⟩ := hq
  obtain ⟨as, r1⟩ := hd.reads I rx
  obtain ⟨bs, r2⟩ := he.reads I ry
  simp only at hz
  cases hg : g d e with
  | none => rw [hg] at hz; cases hz
  | some k =>
    rw [hg] at hz
    have ez : z = V.bl k := (Option.some.inj hz).symm
    subst ez
    exact h pins s σ H d e x y v u k as bs _ I hd.plain he.plain r1 r2 hg ⟨V.bl k, H, I, rfl, q⟩
def gB (g : DD → DD → Option Bool) : D2 := fun x y P => match g x y with
  | some k => P (.bool k)
  | none => False
theorem ro_dat {w : Wd} {K : PySem.W.Frag} {g : DD → DD → Option Bool} : RO w K (rDat K fun d e => (g d e).map V.bl) (gB g) := by
  intro x y d e G H P Q k r1 r2 h q
  unfold gB at h
  cases hg : g d e with
  | none => rw [hg] at h; exact h.elim
  | some b =>
    rw [hg] at h
    exact ⟨d, e, _, r1.mono k.sub, r2.mono k.sub, by simp only [hg]; rfl, q _ _ G H k.stp (.bl b) h⟩
def eqD (x y : DD) : Option Bool := if min x.depth y.depth ≤ 60 then some (PyData.eqv x y) else none
def neD (x y : DD) : Option Bool := if min x.depth y.depth ≤ 60 then some (!PyData.eqv x y) else none
def ltD (x y : DD) : Option Bool := if x.depth ≤ 60 then ZO.ord false x y else none
def gtD (x y : DD) : Option Bool := if x.depth ≤ 60 then ZO.ord true x y else none
section
variable {w : Wd} {X : Cx}
theorem od_eq {k : Nat} (hr : Room k X.A) : OpD w X (compareOp .Eq) (gB eqD) := by
  refine ⟨_, opr_dat (g := eqD) fun pins s σ H d e x y v u k as bs Q I p1 p2 r1 r2 hg q => ?_, ro_dat⟩
  unfold eqD at hg
  split at hg
  · have ez := Option.some.inj hg
    subst ez
    have h := hr.units
    exact SeqAt.eq_plain r1 r2 p1 p2 (by omega) q
  · cases hg
theorem od_ne {k : Nat} (hr : Room k X.A) : OpD w X (compareOp .NotEq) (gB neD) := by
  refine ⟨_, opr_dat (g := neD) fun pins s σ H d e x y v u k as bs Q I p1 p2 r1 r2 hg q => ?_, ro_dat⟩
  unfold neD at hg
  split at hg
  · have ez := Option.some.inj hg
    subst ez
    have h := hr.units
    exact SeqAt.ne_plain r1 r2 p1 p2 (by omega) q
  · cases hg
theorem od_lt {k : Nat} (hr : Room k X.A) : OpD w X (compareOp .Lt) (gB ltD) := by
  refine ⟨_, opr_dat (g := ltD) fun pins s σ H d e x y v u k as bs Q I p1 p2 r1 r2 hg q => ?_, ro_dat⟩
  unfold ltD at hg
  split at hg
  · have h := hr.units
    exact ZO.rc_ord false 60 d e X.A s v u as bs k (by assumption) r1 r2 p1 p2 (by omega) hg X.prog X.w _ _ q
  · cases hg
theorem od_gt {k : Nat} (hr : Room k X.A) : OpD w X (compareOp .Gt) (gB gtD) := by
  refine ⟨_, opr_dat (g := gtD) fun pins s σ H d e x y v u k as bs Q I p1 p2 r1 r2 hg q => ?_, ro_dat⟩
  unfold gtD at hg
  split at hg
  · have h := hr.units
    exact ZO.rc_ord true 60 d e X.A s v u as bs k (by assumption) r1 r2 p1 p2 (by omega) hg X.prog X.w _ _ q
  · cases hg
/-! the intsD of a list of data -/
def intsD : List DD → Option (List Int)
  | [] => some []
  | .int i :: r => (intsD r).map (i :: ·)
  | _ :: _ => none
theorem intsD_eq : ∀ {ds : List DD} {ns : List Int}, intsD ds = some ns → ds = ns.map PyData.int
  | [], ns, h => by cases h; rfl
  | .int i :: r, ns, h => by
    simp only [intsD] at h
    cases e : intsD r with
    | none => rw [e] at h; cases h
    | some ms => rw [e] at h; cases h; rw [intsD_eq e]; rfl
  | .none :: _, _, h => by simp [intsD] at h
  | .bool _ :: _, _, h => by simp [intsD] at h
  | .str _ :: _, _, h => by simp [intsD] at h
  | .list _ :: _, _, h => by simp [intsD] at h
  | .tuple _ :: _, _, h => by simp [intsD] at h
  | .dict _ :: _, _, h => by simp [intsD] at h
theorem intsD_map : ∀ ns : List Int, intsD (ns.map PyData.int) = some ns
  | [] => rfl
  | n :: ns => by simp [intsD, intsD_map ns]
theorem rp_ints {K : PySem.W.Frag} {G : Hp} : ∀ {ns : List Int} {vs : List V}, RpAll K G vs (ns.map PyData.int) → vs = ns.map V.int
  | [], _, .nil => rfl
  | _ :: _, _, .cons (.int _) r => by rw [rp_ints r]; rfl
/-- <= of intsD and of tuples of intsD -/
def gLe : D2 := fun x y P => match x, y with
  | .int i, .int j => P (.bool (decide (i ≤ j)))
  | .tuple xs, .tuple ys => match intsD xs, intsD ys with
    | some ns, some ms => P (.bool (!HT.lexLt ms ns))
    | _, _ => False
  | _, _ => False
theorem lex_shift (e r : Nat → Bool) (z : Bool) : ∀ (k i : Nat), Ob.lexAt (fun j => e (j + 1)) (fun j => r (j + 1)) z i k = Ob.lexAt e r z (i + 1) k
  | 0, _ => rfl
  | k + 1, i => by rw [Ob.lexAt_succ, Ob.lexAt_succ, lex_shift e r z k (i + 1)]
theorem lex_le : ∀ (ns ms : List Int), Ob.lexAt (fun j => decide (ns.getD j 0 = ms.getD j 0)) (fun j => decide (ns.getD j 0 ≤ ms.getD j 0)) (decide (ns.length ≤ ms.length)) 0 (min ns.length ms.length) = !HT.lexLt ms ns
  | [], [] => rfl
  | [], m :: ms => by simp [Ob.lexAt, HT.lexLt]
  | n :: ns, [] => by simp [Ob.lexAt, HT.lexLt]
  | n :: ns, m :: ms => by
    have hm : min (n :: ns).length (m :: ms).length = min ns.length ms.length + 1 := by simp only [List.length_cons]; omega
    rw [hm, Ob.lexAt_succ, ← lex_shift, HT.lexLt_cons]
    simp only [List.getD_cons_zero, List.getD_cons_succ, List.length_cons, Nat.add_le_add_iff_right]
    by_cases e : n = m
    · subst e; simp only [decide_true, if_true]; exact lex_le ns ms
    · rw [if_neg (by simpa using e), if_neg (fun z => e z.symm)]
      by_cases h : n ≤ m
      · have : ¬ m < n := by omega
        simp [h, this]
      · have : m < n := by omega
        simp [h, this]
theorem od_le {k : Nat} (hr : Room k X.A) : OpD w X (compareOp .LtE) gLe := by
  refine ⟨_, OpR.or op_le (op_leT hr.units0), fun x y d e G H P Q k r1 r2 h q => ?_⟩
  unfold gLe at h
  cases r1 with
  | int i =>
    cases r2 with
    | int j => exact .inl ⟨i, j, rfl, rfl, q _ _ G H k.stp (.bl _) h⟩
    | _ => exact h.elim
  | @tup a xs ds t1 a1 =>
    cases r2 with
    | @tup b ys es t2 a2 =>
      simp only at h
      cases h1 : intsD ds with
      | none => rw [h1] at h; exact h.elim
      | some ns =>
        cases h2 : intsD es with
        | none => rw [h1, h2] at h; exact h.elim
        | some ms =>
          rw [h1, h2] at h
          have e1 := intsD_eq h1
          have e2 := intsD_eq h2
          subst e1 e2
          have v1 := rp_ints a1
          have v2 := rp_ints a2
          subst v1 v2
          refine .inr ⟨a, b, ns, ms, rfl, rfl, k.sub.sqT t1, k.sub.sqT t2, ?_⟩
          rw [lex_le]
          exact q _ _ G H k.stp (.bl _) h
    | _ => exact h.elim
  | _ => exact h.elim
def gGe : D2 := fun x y P => match x, y with
  | .int i, .int j => P (.bool (decide (j ≤ i)))
  | _, _ => False
theorem od_ge : OpD w X (compareOp .GtE) gGe := by
  refine ⟨_, op_ge, fun x y d e G H P Q k r1 r2 h q => ?_⟩
  cases r1 with
  | int i =>
    cases r2 with
    | int j => exact ⟨i, j, rfl, rfl, q _ _ G H k.stp (.bl _) h⟩
    | _ => exact h.elim
  | _ => cases r2 <;> exact h.elim
/-! arithmetic -/
def gI (C : Int → Int → Prop) (f : Int → Int → Int) : D2 := fun x y P => match x, y with
  | .int i, .int j => C i j ∧ P (.int (f i j))
  | _, _ => False
theorem ro_I {K : PySem.W.Frag} {C : Int → Int → Prop} {f : Int → Int → Int} : RO w K (rI C fun i j => .int (f i j)) (gI C f) := by
  intro x y d e G H P Q k r1 r2 h q
  cases r1 with
  | int i =>
    cases r2 with
    | int j => exact ⟨i, j, rfl, rfl, h.1, q _ _ G H k.stp (.int _) h.2⟩
    | _ => exact h.elim
  | _ => cases r2 <;> exact h.elim
def gI0 (f : Int → Int → Int) : D2 := fun x y P => match x, y with
  | .int i, .int j => P (.int (f i j))
  | _, _ => False
theorem ro_I0 {K : PySem.W.Frag} {f : Int → Int → Int} : RO w K (rI0 fun i j => .int (f i j)) (gI0 f) := by
  intro x y d e G H P Q k r1 r2 h q
  cases r1 with
  | int i =>
    cases r2 with
    | int j => exact ⟨i, j, rfl, rfl, q _ _ G H k.stp (.int _) h⟩
    | _ => exact h.elim
  | _ => cases r2 <;> exact h.elim
theorem od_sub : OpD w X (binaryOp .Sub) (gI0 (· - ·)) := ⟨_, op_sub, ro_I0⟩
theorem od_mul : OpD w X (binaryOp .Mult) (gI CMul (· * ·)) := ⟨_, op_mul, ro_I⟩
theorem od_mod : OpD w X (binaryOp .Mod) (gI (fun _ j => 0 < j) (· % ·)) := ⟨_, op_mod, ro_I⟩
theorem od_div : OpD w X (binaryOp .FloorDiv) (gI CDivW (· / ·)) := ⟨_, op_fdivW, ro_I⟩
theorem od_pow : OpD w X (binaryOp .Pow) (gI CPow fun i j => i ^ j.toNat) := ⟨_, op_pow, ro_I⟩
theorem od_shr : OpD w X (binaryOp .RShift) (gI (fun _ j => 0 ≤ j) fun i j => i / 2 ^ j.toNat) := ⟨_, op_shr, ro_I⟩
theorem od_and : OpD w X (binaryOp .BitAnd) (gI0 Builtin.bitAnd) := ⟨_, op_and, ro_I0⟩
/-- +: intsD, lists, tuples, texts -/
def gAdd : D2 := fun x y P => match x, y with
  | .int i, .int j => P (.int (i + j))
  | .list xs, .list ys => xs.length + ys.length ≤ 1000000 ∧ P (.list (xs ++ ys))
  | .tuple xs, .tuple ys => xs.length + ys.length ≤ 1000000 ∧ P (.tuple (xs ++ ys))
  | _, _ => False
theorem od_add : OpD w X (binaryOp .Add) gAdd := by
  refine ⟨_, OpR.or op_add (OpR.or op_cat op_catA), fun x y d e G H P Q k r1 r2 h q => ?_⟩
  cases r1 with
  | int i =>
    cases r2 with
    | int j => exact .inl ⟨i, j, rfl, rfl, q _ _ G H k.stp (.int _) h⟩
    | _ => exact h.elim
  | @lst a xs ds t1 a1 =>
    cases r2 with
    | @lst b ys es t2 a2 =>
      obtain ⟨hl, h⟩ := h
      refine .inr (.inl ⟨a, b, xs, ys, rfl, rfl, k.sub _ _ t1, k.sub _ _ t2, line_le (by rw [a1.len, a2.len]; exact hl), fun p hp => ?_⟩)
      exact q _ _ _ _ (Stp.new k hp) (.lst upd_same ((a1.append a2).mono (Sub.new (k.g_none hp)))) h
    | _ => exact h.elim
  | @tup a xs ds t1 a1 =>
    cases r2 with
    | @tup b ys es t2 a2 =>
      obtain ⟨hl, h⟩ := h
      refine .inr (.inr ⟨a, b, xs, ys, rfl, rfl, k.sub.sqT t1, k.sub.sqT t2, line_le (by rw [a1.len, a2.len]; exact hl), fun e0 => ?_, fun _ e1 => ?_, fun _ _ p hp => ?_⟩)
      · subst e0
        cases a1
        exact q _ _ G H k.stp (.tup t2 a2) h
      · subst e1
        cases a2
        rw [List.append_nil] at h
        exact q _ _ G H k.stp (.tup t1 a1) h
      · exact q _ _ _ _ (Stp.new k hp) (.tup (SqT.of upd_same) ((a1.append a2).mono (Sub.new (k.g_none hp)))) h
    | _ => exact h.elim
  | _ => cases r2 <;> exact h.elim
/-! in -/
def flatD : DD → Bool
  | .none => true
  | .bool _ => true
  | .int _ => true
  | .str _ => true
  | _ => false
theorem Rp.flat {K : PySem.W.Frag} {G : Hp} {v : V} {d : DD} (r : Rp K G v d) (h : flatD d = true) : flatV v = true := by
  cases r <;> first | rfl | cases h
theorem RpAll.flat {K : PySem.W.Frag} {G : Hp} : ∀ {vs : List V} {ds : List DD}, RpAll K G vs ds → ds.all flatD = true → vs.all flatV = true
  | _, _, .nil, _ => rfl
  | _, _, .cons a b, h => by
    rw [List.all_cons, Bool.and_eq_true] at h ⊢
    exact ⟨a.flat h.1, RpAll.flat b h.2⟩
theorem Rp.eqV {K : PySem.W.Frag} {G : Hp} {v u : V} {d e : DD} (r : Rp K G v d) (r' : Rp K G u e) (h : flatD d = true) (h' : flatD e = true) : L2.eqV v u = PyData.eqv d e := by
  cases r <;> cases r' <;> first | rfl | cases h | cases h' | skip
  all_goals simp [L2.eqV, PyData.eqv]
theorem RpAll.inV {K : PySem.W.Frag} {G : Hp} {u : V} {e : DD} (r' : Rp K G u e) (h' : flatD e = true) : ∀ {vs : List V} {ds : List DD}, RpAll K G vs ds → ds.all flatD = true → (vs.any fun y => L2.eqV y u) = ds.any fun y => PyData.eqv y e
  | _, _, .nil, _ => rfl
  | _, _, .cons a b, h => by
    rw [List.all_cons, Bool.and_eq_true] at h
    rw [List.any_cons, List.any_cons, a.eqV r' h.1 h', RpAll.inV r' h' b h.2]
def seqOf : DD → Option (List DD)
  | .list ds => some ds
  | .tuple ds => some ds
  | _ => none
def inD (x y : DD) : Option Bool := match seqOf y with
  | some ds => if flatD x = true ∧ ds.all flatD = true then some (ds.any fun z => PyData.eqv z x) else none
  | none => none
theorem od_in : OpD w X (compareOp .In) (gB inD) := by
  refine ⟨_, op_in_seq, fun x y d e G H P Q k r1 r2 h q => ?_⟩
  unfold gB inD at h
  have main : ∀ (p : Addr) (xs : List V) (ds : List DD), y = .ref p → (SqL X.K H p xs ∨ SqT X.K H p xs) → RpAll X.K G xs ds → flatD d = true → ds.all flatD = true → P (.bool (ds.any fun z => PyData.eqv z d)) → rIn X.K false x y H Q := by
    intro p xs ds ey hs ha fx fa hp
    refine ⟨p, xs, ey, hs, r1.flat fx, ha.flat fa, ?_⟩
    have z : (if false = true then !L2.inV x xs else L2.inV x xs) = ds.any fun z => PyData.eqv z d := by
      rw [if_neg Bool.false_ne_true]; exact ha.inV r1 fx fa
    rw [z]
    exact q _ _ G H k.stp (.bl _) hp
  cases r2 with
  | @lst a xs ds t a1 =>
    simp only [seqOf] at h
    split at h
    · rename_i b hb
      split at hb
      · rename_i hf
        cases hb
        exact main a xs ds rfl (.inl (SqL.of (k.sub _ _ t))) a1 hf.1 hf.2 h
      · cases hb
    · exact h.elim
  | @tup a xs ds t a1 =>
    simp only [seqOf] at h
    split at h
    · rename_i b hb
      split at hb
      · rename_i hf
        cases hb
        exact main a xs ds rfl (.inr (k.sub.sqT t)) a1 hf.1 hf.2 h
      · cases hb
    · exact h.elim
  | _ => exact h.elim
end
end Z

set_option Elab.async false
set_option linter.all false
set_option maxRecDepth 100000
set_option maxHeartbeats 4000000
namespace Z
open PySem PySem.Spec PyProof.Rows L2
section
variable {w : Wd} {X : Cx} {a b c e : Expr} {es : List Expr} {ta tb tc : DE} {pos p2 : Pos}
/-! chains -/
theorem re_chain {r r' : R2} {g g' : D2} {ta' tb' tc' : TE} (ho : RO w X.K r g) (ho' : RO w X.K r' g') (ha : RE w X.K ta' ta) (hb : RE w X.K tb' tb) (hc : RE w X.K tc' tc) : RE w X.K (tChain r r' ta' tb' tc') (dCh g g' ta tb tc) := by
  intro σ ρ G H P Q k s h q
  refine ha σ ρ G H _ _ k s h fun x d G1 H1 s1 r1 p1 => ?_
  refine hb σ ρ G1 H1 _ _ (s1.okw k) (s.mono s1.up) p1 fun y e G2 H2 s2 r2 p2 => ?_
  have k2 := s2.okw (s1.okw k)
  refine ho x y d e G2 H2 _ _ k2 (r1.mono s2.up) r2 p2 fun v z G3 H3 s3 r3 p3 => ?_
  cases r3 with
  | bl m =>
    refine ⟨m, rfl, ?_⟩
    cases m with
    | true =>
      show tc' σ H3 _
      refine hc σ ρ G3 H3 _ _ (s3.okw k2) (s.mono ((s1.up.trans s2.up).trans s3.up)) p3 fun u f G4 H4 s4 r4 p4 => ?_
      exact ho' y u e f G4 H4 P Q (s4.okw (s3.okw k2)) (r2.mono (s3.up.trans s4.up)) r4 p4 fun v d G5 H5 s5 => q v d G5 H5 ((((s1.trans s2).trans s3).trans s4).trans s5)
    | false =>
      show Q (.bl false) H3
      exact q _ _ G3 H3 ((s1.trans s2).trans s3) (.bl false) p3
  | _ => exact p3.elim
theorem pd_ch {op op' : CmpOp} {g g' : D2} (ho : OpD w X (compareOp op) g) (ho' : OpD w X (compareOp op') g') (ha : PD w X a ta) (hb : PD w X b tb) (hc : PD w X c tc) (hm : lastMarks [op, op'] [b, c] = false := by with_unfolding_all rfl) :
    PD w X (.Compare a [op, op'] [b, c] pos) (dCh g g' ta tb tc) := by
  obtain ⟨r, o1, o2⟩ := ho
  obtain ⟨r', o1', o2'⟩ := ho'
  obtain ⟨ta', a1, a2⟩ := ha
  obtain ⟨tb', b1, b2⟩ := hb
  obtain ⟨tc', c1, c2⟩ := hc
  exact ⟨_, pe_chain o1 o1' a1 b1 c1 hm, re_chain o2 o2' a2 b2 c2⟩
theorem pt_ch {op op' : CmpOp} {g g' : D2} (ho : OpD w X (compareOp op) g) (ho' : OpD w X (compareOp op') g') (ha : PD w X a ta) (hb : PD w X b tb) (hc : PD w X c tc) (hm : lastMarks [op, op'] [b, c] = false := by with_unfolding_all rfl) :
    PDT w X (.Compare a [op, op'] [b, c] pos) (dT (dCh g g' ta tb tc)) := by
  obtain ⟨r, o1, o2⟩ := ho
  obtain ⟨r', o1', o2'⟩ := ho'
  obtain ⟨ta', a1, a2⟩ := ha
  obtain ⟨tb', b1, b2⟩ := hb
  obtain ⟨tc', c1, c2⟩ := hc
  exact ⟨_, pt_chain o1 o1' a1 b1 c1 hm, rt_of (re_chain o2 o2' a2 b2 c2)⟩
/-! subscripts -/
def gIx : D2 := fun x y P => match x, y with
  | .list ds, .int i => match atI ds i with | some d => P d | none => False
  | .tuple ds, .int i => match atI ds i with | some d => P d | none => False
  | .str z, .int i => z.length ≤ 1000000 ∧ match atI z.cps.toList i with | some c => P (.str ⟨#[c]⟩) | none => False
  | _, _ => False
theorem at_rp {K : PySem.W.Frag} {G : Hp} {xs : List V} {ds : List DD} {i : Int} {d : DD} (r : RpAll K G xs ds) (h : atI ds i = some d) : ∃ v, atI xs i = some v ∧ Rp K G v d := by
  unfold atI at h ⊢
  rw [r.len]
  cases e : ixN ds.length i with
  | none => rw [e] at h; cases h
  | some j =>
    rw [e] at h
    exact r.getD h
theorem pd_ix (ha : PD w X a ta) (hb : PD w X b tb) (hs : PlainIx b := by exact fun _ _ => rfl) : PD w X (.Subscript a b pos) (dOp gIx ta tb) := by
  obtain ⟨ta', a1, a2⟩ := ha
  obtain ⟨tb', b1, b2⟩ := hb
  refine ⟨_, pe_ix ix_seq a1 b1 hs, re_op (fun x y d e G H P Q k r1 r2 h q => ?_) a2 b2⟩
  unfold gIx at h
  cases r1 with
  | @lst p xs ds t1 q1 =>
    cases r2 with
    | int i =>
      simp only at h
      cases hd : atI ds i with
      | none => rw [hd] at h; exact h.elim
      | some d =>
        rw [hd] at h
        obtain ⟨v, hv, rv⟩ := at_rp q1 hd
        exact .inl ⟨p, xs, i, v, rfl, rfl, SqL.of (k.sub _ _ t1), hv, q _ _ G H k.stp rv h⟩
    | _ => exact h.elim
  | @tup p xs ds t1 q1 =>
    cases r2 with
    | int i =>
      simp only at h
      cases hd : atI ds i with
      | none => rw [hd] at h; exact h.elim
      | some d =>
        rw [hd] at h
        obtain ⟨v, hv, rv⟩ := at_rp q1 hd
        exact .inr (.inl ⟨p, xs, i, v, rfl, rfl, k.sub.sqT t1, hv, q _ _ G H k.stp rv h⟩)
    | _ => exact h.elim
  | str z =>
    cases r2 with
    | int i =>
      simp only at h
      obtain ⟨hz, h⟩ := h
      cases hd : atI z.cps.toList i with
      | none => rw [hd] at h; exact h.elim
      | some m =>
        rw [hd] at h
        exact .inr (.inr ⟨z, i, m, rfl, rfl, line_le hz, hd, q _ _ G H k.stp (.str _) h⟩)
    | _ => exact h.elim
  | _ => cases r2 <;> exact h.elim
/-! slices -/
abbrev DO := En → (Option Int → Prop) → Prop
structure PDO (w : Wd) (X : Cx) (e : Option Expr) (td : DO) : Prop where
  ex : ∃ to, PO X e to ∧ ∀ σ ρ G H (P : Option Int → Prop) (Q : Option Int → Hp → Prop), Okw w G H → SlOk X.K G σ ρ → td ρ P → (∀ o G2 H2, Stp w G H G2 H2 → P o → Q o H2) → to σ H Q
def dNo : DO := fun _ P => P none
def dSo (ta : DE) : DO := fun ρ P => ta ρ fun d => match d with
  | .int i => P (some i)
  | _ => False
theorem do_no : PDO w X none dNo := ⟨_, po_none, fun _ _ G H _ _ k _ h q => q _ G H k.stp h⟩
theorem do_so (ha : PD w X a ta) : PDO w X (some a) (dSo ta) := by
  obtain ⟨ta', a1, a2⟩ := ha
  refine ⟨_, po_some a1, fun σ ρ G H P Q k s h q => ?_⟩
  refine a2 σ ρ G H _ _ k s h fun v d G1 H1 s1 r1 p1 => ?_
  cases r1 with
  | int i => exact ⟨i, rfl, q _ G1 H1 s1 p1⟩
  | _ => exact p1.elim
def cutZ (xs : List DD) (lo hi : Option Int) : List DD := (xs.drop (HT.sIx xs.length 0 lo)).take (HT.sIx xs.length xs.length hi - HT.sIx xs.length 0 lo)
theorem RpAll.cut {K : PySem.W.Frag} {G : Hp} {xs : List V} {ds : List DD} (r : RpAll K G xs ds) (lo hi : Option Int) : RpAll K G (cutV xs lo hi) (cutZ ds lo hi) := by
  unfold cutV cutZ
  rw [r.len]
  exact (r.drop _).take _
theorem cut_whole (xs : List V) (lo hi : Option Int) (h : HT.sIx xs.length 0 lo = 0 ∧ HT.sIx xs.length xs.length hi = xs.length) : cutV xs lo hi = xs := by
  unfold cutV
  rw [h.1, h.2, List.drop_zero, Nat.sub_zero, List.take_length]
def dSl (ta : DE) (tl th : DO) : DE := fun ρ P => ta ρ fun x => tl ρ fun lo => th ρ fun hi => match x with
  | .list ds => P (.list (cutZ ds lo hi))
  | .tuple ds => P (.tuple (cutZ ds lo hi))
  | _ => False
variable {lo hi : Option Expr} {tl th : DO}
theorem pd_sl (ha : PD w X a ta) (hl : PDO w X lo tl) (hh : PDO w X hi th) : PD w X (.Subscript a (.Slice lo hi none p2) pos) (dSl ta tl th) := by
  obtain ⟨ta', a1, a2⟩ := ha
  obtain ⟨tl', l1, l2⟩ := hl
  obtain ⟨th', h1, h2⟩ := hh
  refine ⟨_, pe_slice (SlR.or sl_list sl_tupA) a1 l1 h1, fun σ ρ G H P Q k s h q => ?_⟩
  refine a2 σ ρ G H _ _ k s h fun x d G1 H1 s1 r1 p1 => ?_
  refine l2 σ ρ G1 H1 _ _ (s1.okw k) (s.mono s1.up) p1 fun o G2 H2 s2 p2 => ?_
  have k2 := s2.okw (s1.okw k)
  refine h2 σ ρ G2 H2 _ _ k2 (s.mono (s1.up.trans s2.up)) p2 fun o' G3 H3 s3 p3 => ?_
  have k3 := s3.okw k2
  have r3 := r1.mono (s2.up.trans s3.up)
  have s13 := (s1.trans s2).trans s3
  cases r3 with
  | @lst p xs ds t1 q1 =>
    exact .inl ⟨p, xs, rfl, SqL.of (k3.sub _ _ t1), fun n hn => q _ _ _ _ (s13.trans (Stp.new k3 hn)) (.lst upd_same ((q1.cut o o').mono (Sub.new (k3.g_none hn)))) p3⟩
  | @tup p xs ds t1 q1 =>
    refine .inr ⟨p, xs, rfl, k3.sub.sqT t1, fun hw => ?_, fun _ n hn => ?_⟩
    · refine q _ _ G3 H3 s13 (.tup t1 ?_) p3
      have z := q1.cut o o'
      rw [cut_whole xs o o' hw] at z
      exact z
    · exact q _ _ _ _ (s13.trans (Stp.new k3 hn)) (.tup (SqT.of upd_same) ((q1.cut o o').mono (Sub.new (k3.g_none hn)))) p3
  | _ => exact p3.elim
/-! calls of built-ins -/
variable {x : Str} {id : String} {p pp : Pos}
def dCall (g : D1) (t : DA) : DE := fun ρ P => t ρ fun ds => g ds P
theorem pd_cb {g : D1} {t : DA} (hc : CallD w X (.builtin id) g) (hm : X.mg x = none) (hv : bootBuiltins x = some (.builtin id)) (ha : PDA w X (e :: es) t) (hg : Gl X x := by rfl) (hn : x ≠ "__name__" := by decide) (hdb : (x == ("__debug__" : Str)) = false := by decide)
    (he : starEach (e :: es) X.env = (false, eval e X.env) :: starEach es X.env := by rfl) (hpl : (backTo pos (starEach es X.env)).any (·.1) = false := by rfl) : PD w X (.Call (.Name x p) (e :: es) [] pos) (dCall g t) := by
  obtain ⟨r, c1, c2⟩ := hc
  obtain ⟨t', a1, a2⟩ := ha
  refine ⟨_, pe_callB c1 hg hm hv a1 hn hdb he hpl, fun σ ρ G H P Q k s h q => ?_⟩
  refine a2 σ ρ G H _ _ k s h fun vs ds G1 H1 s1 r1 _ p1 => ?_
  exact c2 vs ds G1 H1 P Q (s1.okw k) r1 p1 fun v d G2 H2 s2 => q v d G2 H2 (s1.trans s2)
theorem pd_ct {g : D1} {t : DA} {T : String} (hc : CallD w X (.type T) g) (hm : X.mg x = none) (hv : bootBuiltins x = some (.type T)) (ha : PDA w X (e :: es) t) (hg : Gl X x := by rfl) (hn : x ≠ "__name__" := by decide) (hdb : (x == ("__debug__" : Str)) = false := by decide)
    (he : starEach (e :: es) X.env = (false, eval e X.env) :: starEach es X.env := by rfl) (hpl : (backTo pos (starEach es X.env)).any (·.1) = false := by rfl) : PD w X (.Call (.Name x p) (e :: es) [] pos) (dCall g t) := by
  obtain ⟨r, c1, c2⟩ := hc
  obtain ⟨t', a1, a2⟩ := ha
  refine ⟨_, pe_callTy c1 hg hm hv a1 hn hdb he hpl, fun σ ρ G H P Q k s h q => ?_⟩
  refine a2 σ ρ G H _ _ k s h fun vs ds G1 H1 s1 r1 _ p1 => ?_
  exact c2 vs ds G1 H1 P Q (s1.okw k) r1 p1 fun v d G2 H2 s2 => q v d G2 H2 (s1.trans s2)
/-- one argument -/
def g1 (g : DD → (DD → Prop) → Prop) : D1 := fun ds P => match ds with
  | [d] => g d P
  | _ => False
theorem one_of {K : PySem.W.Frag} {G : Hp} {vs : List V} {ds : List DD} {g : DD → (DD → Prop) → Prop} {P : DD → Prop} (r : RpAll K G vs ds) (h : g1 g ds P) : ∃ v d, vs = [v] ∧ Rp K G v d ∧ g d P := by
  cases r with
  | nil => exact h.elim
  | cons a b =>
    cases b with
    | nil => exact ⟨_, _, rfl, a, h⟩
    | cons _ _ => exact h.elim
def gLen : DD → (DD → Prop) → Prop := fun d P => match d with
  | .list ds => P (.int ds.length)
  | .tuple ds => P (.int ds.length)
  | .str z => z.length ≤ 1000000 ∧ P (.int z.length)
  | _ => False
theorem cd_len : CallD w X (.builtin "len") (g1 gLen) := by
  refine ⟨_, call_len, fun vs ds G H P Q k r h q => ?_⟩
  obtain ⟨v, d, rfl, r1, h⟩ := one_of r h
  cases r1 with
  | @lst p xs es t1 q1 => exact ⟨_, es.length, rfl, .inl ⟨xs, SqL.of (k.sub _ _ t1), q1.len.symm⟩, q _ _ G H k.stp (.int _) h⟩
  | @tup p xs es t1 q1 => exact ⟨_, es.length, rfl, .inr ⟨xs, k.sub.sqT t1, q1.len.symm⟩, q _ _ G H k.stp (.int _) h⟩
  | str z => exact ⟨_, z.length, rfl, ⟨line_le h.1, rfl⟩, q _ _ G H k.stp (.int _) h.2⟩
  | _ => exact h.elim
def gAbs : DD → (DD → Prop) → Prop := fun d P => match d with
  | .int i => P (.int (if i < 0 then -i else i))
  | _ => False
theorem cd_abs : CallD w X (.builtin "abs") (g1 gAbs) := by
  refine ⟨_, call_abs, fun vs ds G H P Q k r h q => ?_⟩
  obtain ⟨v, d, rfl, r1, h⟩ := one_of r h
  cases r1 with
  | int i => exact ⟨i, rfl, q _ _ G H k.stp (.int _) h⟩
  | _ => exact h.elim
def gInt : DD → (DD → Prop) → Prop := fun d P => match d with
  | .int i => P (.int i)
  | .bool b => P (.int (if b then 1 else 0))
  | _ => False
theorem cd_int : CallD w X (.type "int") (g1 gInt) := by
  refine ⟨_, call_int1, fun vs ds G H P Q k r h q => ?_⟩
  obtain ⟨v, d, rfl, r1, h⟩ := one_of r h
  cases r1 with
  | int i => exact .inl ⟨i, rfl, q _ _ G H k.stp (.int _) h⟩
  | bl i => exact .inr ⟨i, rfl, q _ _ G H k.stp (.int _) h⟩
  | _ => exact h.elim
def gOrd : DD → (DD → Prop) → Prop := fun d P => match d with
  | .str z => z.length = 1 ∧ P (.int (z.cps.getD 0 0 : Nat))
  | _ => False
theorem cd_ord : CallD w X (.builtin "ord") (g1 gOrd) := by
  refine ⟨_, call_ord, fun vs ds G H P Q k r h q => ?_⟩
  obtain ⟨v, d, rfl, r1, h⟩ := one_of r h
  cases r1 with
  | str z => exact ⟨z, rfl, h.1, q _ _ G H k.stp (.int _) h.2⟩
  | _ => exact h.elim
def gTuple : DD → (DD → Prop) → Prop := fun d P => match d with
  | .list ds => P (.tuple ds)
  | .tuple ds => P (.tuple ds)
  | _ => False
theorem cd_tuple : CallD w X (.type "tuple") (g1 gTuple) := by
  refine ⟨_, call_tuple_of, fun vs ds G H P Q k r h q => ?_⟩
  obtain ⟨v, d, rfl, r1, h⟩ := one_of r h
  cases r1 with
  | @lst p xs es t1 q1 => exact ⟨p, xs, rfl, .inl ⟨SqL.of (k.sub _ _ t1), fun n hn => q _ _ _ _ (Stp.new k hn) (.tup (SqT.of upd_same) (q1.mono (Sub.new (k.g_none hn)))) h⟩⟩
  | @tup p xs es t1 q1 => exact ⟨p, xs, rfl, .inr ⟨k.sub.sqT t1, q _ _ G H k.stp (.tup t1 q1) h⟩⟩
  | _ => exact h.elim
def gList : DD → (DD → Prop) → Prop := fun d P => match d with
  | .list ds => P (.list ds)
  | .tuple ds => P (.list ds)
  | _ => False
theorem cd_list : CallD w X (.type "list") (g1 gList) := by
  refine ⟨_, call_list_of, fun vs ds G H P Q k r h q => ?_⟩
  obtain ⟨v, d, rfl, r1, h⟩ := one_of r h
  cases r1 with
  | @lst p xs es t1 q1 => exact ⟨p, xs, rfl, .inl (SqL.of (k.sub _ _ t1)), fun n hn => q _ _ _ _ (Stp.new k hn) (.lst upd_same (q1.mono (Sub.new (k.g_none hn)))) h⟩
  | @tup p xs es t1 q1 => exact ⟨p, xs, rfl, .inr (k.sub.sqT t1), fun n hn => q _ _ _ _ (Stp.new k hn) (.lst upd_same (q1.mono (Sub.new (k.g_none hn)))) h⟩
  | _ => exact h.elim
/-! isinstance -/
inductive Ty where
  | str | int | bool | tuple | list
def Ty.nm : Ty → String
  | .str => "str"
  | .int => "int"
  | .bool => "bool"
  | .tuple => "tuple"
  | .list => "list"
def isa : Ty → DD → Bool
  | .str, .str _ => true
  | .int, .int _ => true
  | .int, .bool _ => true
  | .bool, .bool _ => true
  | .tuple, .tuple _ => true
  | .list, .list _ => true
  | _, _ => false
theorem isa_kit {K : PySem.W.Frag} {G : Hp} {v : V} {d : DD} (r : Rp K G v d) (T : Ty) : ∃ t, TyX K G v (.type t) ∧ kitB t T.nm = some (isa T d) := by
  cases r with
  | non => exact ⟨_, .base .non, by cases T <;> first | (show _ = some true; decide +kernel) | (show _ = some false; decide +kernel)⟩
  | bl b => exact ⟨_, .base (.bl b), by cases T <;> first | (show _ = some true; decide +kernel) | (show _ = some false; decide +kernel)⟩
  | int i => exact ⟨_, .base (.int i), by cases T <;> first | (show _ = some true; decide +kernel) | (show _ = some false; decide +kernel)⟩
  | str z => exact ⟨_, .base (.str z), by cases T <;> first | (show _ = some true; decide +kernel) | (show _ = some false; decide +kernel)⟩
  | lst h _ => exact ⟨_, .base (.lst h), by cases T <;> first | (show _ = some true; decide +kernel) | (show _ = some false; decide +kernel)⟩
  | tup h _ =>
    rcases h with (h | ⟨o, h⟩) | ⟨o, its, n, e, c, _⟩
    · exact ⟨_, .base (.tup h), by cases T <;> first | (show _ = some true; decide +kernel) | (show _ = some false; decide +kernel)⟩
    · exact ⟨_, .fTuple h, by cases T <;> first | (show _ = some true; decide +kernel) | (show _ = some false; decide +kernel)⟩
    · exact ⟨_, .kTuple e c, by cases T <;> first | (show _ = some true; decide +kernel) | (show _ = some false; decide +kernel)⟩
def dIsi (T : Ty) (ta : DE) : DE := fun ρ P => ta ρ fun d => P (.bool (isa T d))
theorem pd_isi (T : Ty) {y : Str} (hm : X.mg "isinstance" = none) (hm2 : X.mg y = none) (hv2 : bootBuiltins y = some (.type T.nm)) (ha : PD w X e ta) (hg : Gl X "isinstance" := by rfl) (hg2 : Gl X y := by rfl) (hn2 : y ≠ "__name__" := by decide) (hd2 : (y == ("__debug__" : Str)) = false := by decide)
    (hs1 : starEach [e, .Name y pp] X.env = (false, eval e X.env) :: starEach [.Name y pp] X.env := by rfl) (hpl : (backTo pos (starEach [.Name y pp] X.env)).any (·.1) = false := by rfl) : PD w X (.Call (.Name "isinstance" p) [e, .Name y pp] [] pos) (dIsi T ta) := by
  obtain ⟨ta', a1, a2⟩ := ha
  refine ⟨_, pe_callB call_isi hg hm (by decide +kernel) (pa_cons a1 (pa_cons (pe_bltn (v := .ty T.nm) hg2 hm2 hv2 rfl hn2 hd2) pa_nil) hs1) (by decide) (by decide) hs1 hpl, fun σ ρ G H P Q k s h q => ?_⟩
  refine a2 σ ρ G H _ _ k s h fun v d G1 H1 s1 r1 p1 => ?_
  obtain ⟨t, ht, hk⟩ := isa_kit (r1.mono s1.sub) T
  exact ⟨v, .ty T.nm, .type t, .type T.nm, isa T d, rfl, .ty _, ht, kit_ty hk, q _ _ G1 H1 s1 (.bl _) p1⟩
end
end Z

set_option Elab.async false
set_option linter.all false
set_option maxRecDepth 100000
set_option maxHeartbeats 4000000
namespace PySem
section
variable {prog : Program} {w : World} {A : Around} {E : Value → Shared → Prop} {s : Shared}
theorem zmax2 {a b : Value} {Q : Value → Shared → Prop} {bt : Nat → Nat → Bool} (hh : A.handled = none) (hc : CmpIn prog w A.in1 .Gt s.heap (fun i v => #[a, b][i]? = some v) bt)
    (h : ∀ h' tk, (∀ c o, s.heap.get? c = some o → h'.get? c = some o) → Q (if bt 1 0 then b else a) { s with heap := h', toks := tk }) : wpAny (model prog w) A (call (.builtin "max") [a, b]) Q E s := by
  have hname : (toString "max" ++ toString ".loop" : String) = "max.loop" := by decide
  refine call_function_tree F.kind_max F.plain_max F.entry_max (F.args_max2 _ _) (wpAny_bind (wpAny_of_eq (show Builtin.Builtins.bindParams "max" ["key", "default"] 0 ⟨[], []⟩ = pure [none, none] from rfl) ?_))
  show wpAny _ A.in1 (newTuple [a, b] >>= _) _ _ s
  have hT : (s.heap.push { cls := .type "tuple", data := .seq [a, b].toArray }).IsTuple s.heap.objs.size #[a, b] := ⟨_, Heap.get?_push_size _ rfl, rfl, 0, rfl⟩
  have keep0 : ∀ c o, s.heap.get? c = some o → (s.heap.push { cls := .type "tuple", data := .seq [a, b].toArray }).get? c = some o := fun c o e => Heap.get?_push_of_some _ e
  refine wpAny_bind (wpAny_newObj_type (wpAny_bind (W.iter_tupleW (A := A.in1) hh hT fun s₂ e WW st hfp hw hk => wpAny_bind (wpAny_newObj_type ?_))))
  have hSf := fun hm => Nat.lt_irrefl _ (hfp s₂.heap.objs.size hm)
  have kk : ∀ c o, s.heap.get? c = some o → s₂.heap.get? c = some o := fun c o z => hk c o (keep0 c o z)
  rw [hname]
  refine wpAny_pure ⟨plainId_quiet F.plain_max_loop _, codeAny_max_loop_firstH WW s.heap (fun c o z hm => hw c o (keep0 c o z) hm) bt hc s₂.heap.objs.size hSf (fresh_in kk) _ (show 0 < 2 from Nat.zero_lt_succ _) (fun c o z => Heap.get?_push_of_some _ (kk c o z)) (WW.frame 0 s₂ _ s₂.toks st (Nat.le_refl _) fun c _ o z => Heap.get?_push_of_some _ z) (Heap.get?_push_size _ rfl) fun v s' hP hm => ?_⟩
  obtain ⟨h', tk, rfl, hk'⟩ := PySem.W.moved_old e rfl (Moved.drop_new (tk := s₂.toks) hm (Nat.le_refl _))
  have hv : v = if bt 1 0 then b else a := by
    cases hb : bt 1 0 <;> simp [argBest, hb] at hP <;> simp [hP]
  rw [hv]
  exact h h' tk fun c o z => hk' c o (keep0 c o z)
theorem zmin2 {a b : Value} {Q : Value → Shared → Prop} {bt : Nat → Nat → Bool} (hh : A.handled = none) (hc : CmpIn prog w A.in1 .Lt s.heap (fun i v => #[a, b][i]? = some v) bt)
    (h : ∀ h' tk, (∀ c o, s.heap.get? c = some o → h'.get? c = some o) → Q (if bt 1 0 then b else a) { s with heap := h', toks := tk }) : wpAny (model prog w) A (call (.builtin "min") [a, b]) Q E s := by
  have hname : (toString "min" ++ toString ".loop" : String) = "min.loop" := by decide
  refine call_function_tree F.kind_min F.plain_min F.entry_min (F.args_min2 _ _) (wpAny_bind (wpAny_of_eq (show Builtin.Builtins.bindParams "min" ["key", "default"] 0 ⟨[], []⟩ = pure [none, none] from rfl) ?_))
  show wpAny _ A.in1 (newTuple [a, b] >>= _) _ _ s
  have hT : (s.heap.push { cls := .type "tuple", data := .seq [a, b].toArray }).IsTuple s.heap.objs.size #[a, b] := ⟨_, Heap.get?_push_size _ rfl, rfl, 0, rfl⟩
  have keep0 : ∀ c o, s.heap.get? c = some o → (s.heap.push { cls := .type "tuple", data := .seq [a, b].toArray }).get? c = some o := fun c o e => Heap.get?_push_of_some _ e
  refine wpAny_bind (wpAny_newObj_type (wpAny_bind (W.iter_tupleW (A := A.in1) hh hT fun s₂ e WW st hfp hw hk => wpAny_bind (wpAny_newObj_type ?_))))
  have hSf := fun hm => Nat.lt_irrefl _ (hfp s₂.heap.objs.size hm)
  have kk : ∀ c o, s.heap.get? c = some o → s₂.heap.get? c = some o := fun c o z => hk c o (keep0 c o z)
  rw [hname]
  refine wpAny_pure ⟨plainId_quiet F.plain_min_loop _, codeAny_min_loop_firstH WW s.heap (fun c o z hm => hw c o (keep0 c o z) hm) bt hc s₂.heap.objs.size hSf (fresh_in kk) _ (show 0 < 2 from Nat.zero_lt_succ _) (fun c o z => Heap.get?_push_of_some _ (kk c o z)) (WW.frame 0 s₂ _ s₂.toks st (Nat.le_refl _) fun c _ o z => Heap.get?_push_of_some _ z) (Heap.get?_push_size _ rfl) fun v s' hP hm => ?_⟩
  obtain ⟨h', tk, rfl, hk'⟩ := PySem.W.moved_old e rfl (Moved.drop_new (tk := s₂.toks) hm (Nat.le_refl _))
  have hv : v = if bt 1 0 then b else a := by
    cases hb : bt 1 0 <;> simp [argBest, hb] at hP <;> simp [hP]
  rw [hv]
  exact h h' tk fun c o z => hk' c o (keep0 c o z)
end
end PySem
namespace Z
open PySem PySem.Spec PyProof.Rows L2
theorem ordL_ints (f : Bool) : ∀ (ns ms : List Int), ZO.ordL f (ns.map PyData.int) (ms.map PyData.int) = some (bif f then HT.lexLt ms ns else HT.lexLt ns ms)
  | [], [] => by cases f <;> rfl
  | [], _ :: _ => by cases f <;> rfl
  | _ :: _, [] => by cases f <;> rfl
  | n :: ns, m :: ms => by
    simp only [List.map_cons, ZO.ordL, HT.lexLt_cons]
    by_cases e : n = m
    · subst e
      simp only [PyData.eqv, beq_self_eq_true, cond_true, if_true]
      exact ordL_ints f ns ms
    · have h : PyData.eqv (.int n) (.int m) = false := by simpa [PyData.eqv] using e
      rw [h, if_neg e, if_neg (fun z => e z.symm)]
      cases f <;> rfl
theorem ord_ints (f : Bool) (ns ms : List Int) : ZO.ord f (.tuple (ns.map PyData.int)) (.tuple (ms.map PyData.int)) = some (bif f then HT.lexLt ms ns else HT.lexLt ns ms) := by
  rw [ZO.ord]; exact ordL_ints f ns ms
theorem depth_ints : ∀ ns : List Int, PyData.depthAll (ns.map PyData.int) = 0
  | [] => rfl
  | n :: ns => by rw [List.map_cons, PyData.depthAll, depth_ints ns]; rfl
theorem plain_ints : ∀ ns : List Int, PyData.plainAll (ns.map PyData.int) = true
  | [] => rfl
  | n :: ns => by rw [List.map_cons, PyData.plainAll, plain_ints ns]; rfl
theorem rpAll_ints {K : PySem.W.Frag} {H : Hp} : ∀ ns : List Int, RpAll K H (ns.map V.int) (ns.map PyData.int)
  | [] => .nil
  | n :: ns => .cons (.int n) (rpAll_ints ns)
section
variable {w : Wd} {X : Cx}
def rM2 (K : PySem.W.Frag) (mx : Bool) : List V → Hp → VK → Prop := fun xs H Q => ∃ (a b : Addr) (ns ms : List Int), xs = [.ref a, .ref b] ∧ SqT K H a (ns.map V.int) ∧ SqT K H b (ms.map V.int) ∧ Q (.ref (if (bif mx then HT.lexLt ns ms else HT.lexLt ms ns) = true then b else a)) H
theorem cmp_m2 {pins : List (Addr × Obj)} {s : Shared} {σ : L2.St} {H : Hp} {a b : Addr} {ns ms : List Int} (f : Bool) (hu : X.A.units + 64 < cLine) (I : Inv X pins σ H s) (ha : SqT X.K H a (ns.map V.int)) (hb : SqT X.K H b (ms.map V.int)) :
    ∃ bt, CmpIn X.prog X.w X.A.in1 (ZO.opOf f) s.heap (fun i v => #[Value.ref a, Value.ref b][i]? = some v) bt ∧ bt 1 0 = bif f then HT.lexLt ns ms else HT.lexLt ms ns := by
  have ra : Rp X.K H (.ref a) (.tuple (ns.map PyData.int)) := .tup ha (rpAll_ints ns)
  have rb : Rp X.K H (.ref b) (.tuple (ms.map PyData.int)) := .tup hb (rpAll_ints ms)
  obtain ⟨as, r1⟩ := ra.reads I rfl
  obtain ⟨bs, r2⟩ := rb.reads I rfl
  have all : ∀ (i : Nat) v, #[Value.ref a, Value.ref b][i]? = some v → ∃ cs, Reads s.heap v (.tuple ((if i = 0 then ns else ms).map PyData.int)) cs := fun i v hv => by
    match i, hv with
    | 0, hv =>
      have e : Value.ref a = v := Option.some.inj hv
      subst e
      exact ⟨as, r1⟩
    | 1, hv =>
      have e : Value.ref b = v := Option.some.inj hv
      subst e
      exact ⟨bs, r2⟩
    | i + 2, hv => simp at hv
  refine ⟨fun i j => bif f then HT.lexLt (if j = 0 then ns else ms) (if i = 0 then ns else ms) else HT.lexLt (if i = 0 then ns else ms) (if j = 0 then ns else ms), fun i j vi vj s' Q E hk hi hj hq => ?_, by cases f <;> rfl⟩
  obtain ⟨cs, q1⟩ := all i vi hi
  obtain ⟨ds, q2⟩ := all j vj hj
  refine ZO.rc_ord f 1 _ _ X.A.in1 s' vi vj cs ds _ ?_ (Reads.keeps hk q1) (Reads.keeps hk q2) ?_ ?_ ?_ (ord_ints f _ _) X.prog X.w E Q hq
  · rw [PyData.depth, depth_ints]; exact Nat.le_refl _
  · rw [PyData.plain]; exact plain_ints _
  · rw [PyData.plain]; exact plain_ints _
  · show X.A.units + 1 + 1 < cLine; omega
theorem call_zmax2 (hu : X.A.units + 64 < cLine) (hc : X.calm = true) : CallR X (.builtin "max") (rM2 X.K true) := by
  intro pins s σ H xs us Q I r h
  obtain ⟨a, b, ns, ms, rfl, ha, hb, q⟩ := h
  obtain ⟨u, v, rfl, e1, e2⟩ := vals2 r
  cases e1; cases e2
  obtain ⟨bt, c1, c2⟩ := cmp_m2 (X := X) true hu I ha hb
  refine zmax2 (I.ok.hd hc) c1 fun h' tk k => ⟨_, H, I.kept k, ?_, q⟩
  rw [c2]
  show _ = Value.ref _
  cases z : (bif true then HT.lexLt ns ms else HT.lexLt ms ns) <;> rfl
theorem call_zmin2 (hu : X.A.units + 64 < cLine) (hc : X.calm = true) : CallR X (.builtin "min") (rM2 X.K false) := by
  intro pins s σ H xs us Q I r h
  obtain ⟨a, b, ns, ms, rfl, ha, hb, q⟩ := h
  obtain ⟨u, v, rfl, e1, e2⟩ := vals2 r
  cases e1; cases e2
  obtain ⟨bt, c1, c2⟩ := cmp_m2 (X := X) false hu I ha hb
  refine zmin2 (I.ok.hd hc) c1 fun h' tk k => ⟨_, H, I.kept k, ?_, q⟩
  rw [c2]
  show _ = Value.ref _
  cases z : (bif false then HT.lexLt ns ms else HT.lexLt ms ns) <;> rfl
/-- max, min of two ints or of two tuples of ints -/
def gM2 (mx : Bool) : D1 := fun ds P => match ds with
  | [.int i, .int j] => P (.int (bif mx then (if j > i then j else i) else (if j < i then j else i)))
  | [.tuple xs, .tuple ys] => match intsD xs, intsD ys with
    | some ns, some ms => P (.tuple (if (bif mx then HT.lexLt ns ms else HT.lexLt ms ns) = true then ys else xs))
    | _, _ => False
  | _ => False
def rI2 (mx : Bool) : List V → Hp → VK → Prop := fun xs H Q => ∃ i j, xs = [.int i, .int j] ∧ Q (.int (bif mx then (if j > i then j else i) else (if j < i then j else i))) H
theorem rc_m2 {K : PySem.W.Frag} (mx : Bool) : RC w K (fun xs H Q => rM2 K mx xs H Q ∨ rI2 mx xs H Q) (gM2 mx) := by
  intro vs ds G H P Q k r h q
  cases r with
  | nil => exact h.elim
  | cons r1 r =>
    cases r with
    | nil => cases r1 <;> exact h.elim
    | cons r2 r =>
      cases r with
      | cons _ _ => cases r1 <;> cases r2 <;> exact h.elim
      | nil =>
        cases r1 with
        | int i =>
          cases r2 with
          | int j => exact .inr ⟨i, j, rfl, q _ _ G H k.stp (.int _) h⟩
          | _ => exact h.elim
        | @tup a xs es t1 q1 =>
          cases r2 with
          | @tup b ys fs t2 q2 =>
            simp only [gM2] at h
            cases h1 : intsD es with
            | none => rw [h1] at h; exact h.elim
            | some ns =>
              cases h2 : intsD fs with
              | none => rw [h1, h2] at h; exact h.elim
              | some ms =>
                rw [h1, h2] at h
                have e1 := intsD_eq h1
                have e2 := intsD_eq h2
                subst e1 e2
                have v1 := rp_ints q1
                have v2 := rp_ints q2
                subst v1 v2
                refine .inl ⟨a, b, ns, ms, rfl, k.sub.sqT t1, k.sub.sqT t2, q _ _ G H k.stp ?_ h⟩
                split
                · exact .tup t2 q2
                · exact .tup t1 q1
          | _ => exact h.elim
        | _ => cases r2 <;> exact h.elim
theorem callR_or {f : Value} {r r' : List V → Hp → VK → Prop} (h : CallR X f r) (h' : CallR X f r') : CallR X f (fun xs H Q => r xs H Q ∨ r' xs H Q) := by
  intro pins s σ H xs us Q I rv q
  rcases q with q | q
  · exact h pins s σ H xs us Q I rv q
  · exact h' pins s σ H xs us Q I rv q
theorem cd_max2 {k : Nat} (hr : Room k X.A) (hc : X.calm = true := by rfl) : CallD w X (.builtin "max") (gM2 true) := ⟨_, callR_or (call_zmax2 hr.units hc) (call_max2 hc), rc_m2 true⟩
theorem cd_min2 {k : Nat} (hr : Room k X.A) (hc : X.calm = true := by rfl) : CallD w X (.builtin "min") (gM2 false) := ⟨_, callR_or (call_zmin2 hr.units hc) (call_min2 hc), rc_m2 false⟩
/-- max, min of one list or tuple of ints, not empty -/
def rM1 (K : PySem.W.Frag) (mx : Bool) : List V → Hp → VK → Prop := fun xs H Q => ∃ (a : Addr) (n : Int) (ns : List Int), xs = [.ref a] ∧ (SqT K H a ((n :: ns).map V.int) ∨ SqL K H a ((n :: ns).map V.int)) ∧ Q (.int (bif mx then ns.foldl (fun a y => if a < y then y else a) n else ns.foldl (fun a y => if y < a then y else a) n)) H
theorem call_zmax1 (hu : X.A.units + 64 < cLine) (hc : X.calm = true) : CallR X (.builtin "max") (rM1 X.K true) := by
  intro pins s σ H xs us Q I r h
  obtain ⟨a, n, ns, rfl, ha, q⟩ := h
  obtain ⟨u, rfl, e1⟩ := vals1 r
  cases e1
  rcases ha with ha | ha
  · obtain ⟨its, r1, p1, _⟩ := I.tuple ha
    refine PySem.W.max_tuple_datum (α := Int) (x := n) (xs := ns) (I.ok.hd hc) p1 (PySem.W.HoldAll.of_ints (Vals.ints r1)) (by show X.A.units + 1 + 0 < cLine; omega) fun i v h' tk hi Hv k => ?_
    obtain ⟨t, rfl⟩ := PySem.W.int_of_holds Hv
    exact ⟨.int _, H, I.kept k, ⟨t, rfl⟩, by simpa [PySem.W.maxOf, PySem.W.DatumOrd.lt] using q⟩
  · obtain ⟨its, r1, ⟨o, m, e, c, _, d⟩, _⟩ := I.list ha
    refine PySem.W.max_list_datum (α := Int) (x := n) (xs := ns) (I.ok.hd hc) ⟨o, e, c, m, d⟩ (PySem.W.HoldAll.of_ints (Vals.ints r1)) (by show X.A.units + 1 + 0 < cLine; omega) fun i v h' tk hi Hv k => ?_
    obtain ⟨t, rfl⟩ := PySem.W.int_of_holds Hv
    exact ⟨.int _, H, I.kept k, ⟨t, rfl⟩, by simpa [PySem.W.maxOf, PySem.W.DatumOrd.lt] using q⟩
theorem call_zmin1 (hu : X.A.units + 64 < cLine) (hc : X.calm = true) : CallR X (.builtin "min") (rM1 X.K false) := by
  intro pins s σ H xs us Q I r h
  obtain ⟨a, n, ns, rfl, ha, q⟩ := h
  obtain ⟨u, rfl, e1⟩ := vals1 r
  cases e1
  rcases ha with ha | ha
  · obtain ⟨its, r1, p1, _⟩ := I.tuple ha
    refine PySem.W.min_tuple_datum (α := Int) (x := n) (xs := ns) (I.ok.hd hc) p1 (PySem.W.HoldAll.of_ints (Vals.ints r1)) (by show X.A.units + 1 + 0 < cLine; omega) fun i v h' tk hi Hv k => ?_
    obtain ⟨t, rfl⟩ := PySem.W.int_of_holds Hv
    exact ⟨.int _, H, I.kept k, ⟨t, rfl⟩, by simpa [PySem.W.minOf, PySem.W.DatumOrd.lt] using q⟩
  · obtain ⟨its, r1, ⟨o, m, e, c, _, d⟩, _⟩ := I.list ha
    refine PySem.W.min_list_datum (α := Int) (x := n) (xs := ns) (I.ok.hd hc) ⟨o, e, c, m, d⟩ (PySem.W.HoldAll.of_ints (Vals.ints r1)) (by show X.A.units + 1 + 0 < cLine; omega) fun i v h' tk hi Hv k => ?_
    obtain ⟨t, rfl⟩ := PySem.W.int_of_holds Hv
    exact ⟨.int _, H, I.kept k, ⟨t, rfl⟩, by simpa [PySem.W.minOf, PySem.W.DatumOrd.lt] using q⟩
def bestI (mx : Bool) (n : Int) (ns : List Int) : Int := bif mx then ns.foldl (fun a y => if a < y then y else a) n else ns.foldl (fun a y => if y < a then y else a) n
def gM1 (mx : Bool) : DD → (DD → Prop) → Prop := fun d P => match seqOf d with
  | some ds => match intsD ds with
    | some (n :: ns) => P (.int (bestI mx n ns))
    | _ => False
  | none => False
theorem rc_m1 {K : PySem.W.Frag} (mx : Bool) : RC w K (rM1 K mx) (g1 (gM1 mx)) := by
  intro vs ds G H P Q k r h q
  obtain ⟨v, d, rfl, r1, h⟩ := one_of r h
  unfold gM1 at h
  cases r1 with
  | @lst a xs es t1 q1 =>
    simp only [seqOf] at h
    cases h1 : intsD es with
    | none => rw [h1] at h; exact h.elim
    | some l =>
      cases l with
      | nil => rw [h1] at h; exact h.elim
      | cons n ns =>
        rw [h1] at h
        have e1 := intsD_eq h1
        subst e1
        have v1 := rp_ints q1
        subst v1
        exact ⟨a, n, ns, rfl, .inr (SqL.of (k.sub _ _ t1)), q _ _ G H k.stp (.int _) h⟩
  | @tup a xs es t1 q1 =>
    simp only [seqOf] at h
    cases h1 : intsD es with
    | none => rw [h1] at h; exact h.elim
    | some l =>
      cases l with
      | nil => rw [h1] at h; exact h.elim
      | cons n ns =>
        rw [h1] at h
        have e1 := intsD_eq h1
        subst e1
        have v1 := rp_ints q1
        subst v1
        exact ⟨a, n, ns, rfl, .inl (k.sub.sqT t1), q _ _ G H k.stp (.int _) h⟩
  | _ => exact h.elim
theorem cd_max1 {k : Nat} (hr : Room k X.A) (hc : X.calm = true := by rfl) : CallD w X (.builtin "max") (g1 (gM1 true)) := ⟨_, call_zmax1 hr.units hc, rc_m1 true⟩
theorem cd_min1 {k : Nat} (hr : Room k X.A) (hc : X.calm = true := by rfl) : CallD w X (.builtin "min") (g1 (gM1 false)) := ⟨_, call_zmin1 hr.units hc, rc_m1 false⟩
end
end Z

set_option Elab.async false
set_option linter.all false
set_option maxRecDepth 100000
set_option maxHeartbeats 4000000
namespace Z
open PySem PySem.Spec PyProof.Rows L2
section
variable {w : Wd} {X : Cx} {a b c e o : Expr} {es : List Expr} {ta tb tc to : DE} {pos p2 : Pos}
/-! methods of texts and lists -/
def strsD : List DD → Option (List Str)
  | [] => some []
  | .str i :: r => (strsD r).map (i :: ·)
  | _ :: _ => none
theorem strsD_eq : ∀ {ds : List DD} {ns : List Str}, strsD ds = some ns → ds = ns.map PyData.str
  | [], ns, h => by cases h; rfl
  | .str i :: r, ns, h => by
    simp only [strsD] at h
    cases e : strsD r with
    | none => rw [e] at h; cases h
    | some ms => rw [e] at h; cases h; rw [strsD_eq e]; rfl
  | .none :: _, _, h => by simp [strsD] at h
  | .bool _ :: _, _, h => by simp [strsD] at h
  | .int _ :: _, _, h => by simp [strsD] at h
  | .list _ :: _, _, h => by simp [strsD] at h
  | .tuple _ :: _, _, h => by simp [strsD] at h
  | .dict _ :: _, _, h => by simp [strsD] at h
theorem strsD_map : ∀ ns : List Str, strsD (ns.map PyData.str) = some ns
  | [] => rfl
  | n :: ns => by simp [strsD, strsD_map ns]
theorem rp_strs {K : PySem.W.Frag} {G : Hp} : ∀ {ns : List Str} {vs : List V}, RpAll K G vs (ns.map PyData.str) → vs = ns.map V.str
  | [], _, .nil => rfl
  | _ :: _, _, .cons (.str _) r => by rw [rp_strs r]; rfl
/-- a method of one argument -/
def RM (w : Wd) (K : PySem.W.Frag) (r : V → List V → Hp → VK → Prop) (g : D2) : Prop := ∀ x y d e G H (P : DD → Prop) (Q : VK), Okw w G H → Rp K G x d → Rp K G y e → g d e P →
  (∀ v d G2 H2, Stp w G H G2 H2 → Rp K G2 v d → P d → Q v H2) → r x [y] H Q
def dM1 (g : D2) (to ta : DE) : DE := fun ρ P => to ρ fun x => match x with
  | .str a => ta ρ fun y => g (.str a) y P
  | _ => False
theorem re_m1 {r : V → List V → Hp → VK → Prop} {g : D2} {to' ta' : TE} (hr : RM w X.K r g) (o2 : RE w X.K to' to) (a2 : RE w X.K ta' ta) : RE w X.K (tM1 r to' ta') (dM1 g to ta) := by
  intro σ ρ G H P Q k s h q
  refine o2 σ ρ G H _ _ k s h fun x d G1 H1 s1 r1 p1 => ?_
  cases r1 with
  | str z =>
    refine ⟨⟨z, rfl⟩, ?_⟩
    refine a2 σ ρ G1 H1 _ _ (s1.okw k) (s.mono s1.up) p1 fun y e G2 H2 s2 r2 p2 => ?_
    exact hr (.str z) y (.str z) e G2 H2 P Q (s2.okw (s1.okw k)) (.str z) r2 p2 fun v d G3 H3 s3 => q v d G3 H3 ((s1.trans s2).trans s3)
  | _ => exact p1.elim
def gJoin : D2 := fun x y P => match x, y with
  | .str a, .list ds => match strsD ds with
    | some ys => ((ys.map (·.length)).sum + ys.length * a.length ≤ 16777216) ∧ P (.str (Txt.join a ys))
    | none => False
  | _, _ => False
theorem pd_join {apos : Pos} (ho : PD w X o to) (ha : PD w X a ta) (hs : starEach [a] X.env = [(false, eval a X.env)] := by rfl) (hbase : attributeBase o "join" X.env (eval o X.env) = eval o X.env := by rfl) (hline : (apos.endLine == pos.line) = true := by rfl) :
    PD w X (.Call (.Attribute o "join" apos) [a] [] pos) (dM1 gJoin to ta) := by
  obtain ⟨to', o1, o2⟩ := ho
  obtain ⟨ta', a1, a2⟩ := ha
  refine ⟨_, pe_join o1 a1 hs hbase hline, re_m1 (fun x y d e G H P Q k r1 r2 h q => ?_) o2 a2⟩
  cases r1 with
  | str z =>
    cases r2 with
    | @lst p xs ds t1 q1 =>
      simp only [gJoin] at h
      cases hd : strsD ds with
      | none => rw [hd] at h; exact h.elim
      | some ys =>
        rw [hd] at h
        have e1 := strsD_eq hd
        subst e1
        have v1 := rp_strs q1
        subst v1
        exact ⟨z, p, ys, rfl, rfl, .inl (SqL.of (k.sub _ _ t1)), h.1, q _ _ G H k.stp (.str _) h.2⟩
    | _ => exact h.elim
  | _ => cases r2 <;> exact h.elim
/-- text.index(text): there -/
def gSix : D2 := fun x y P => match x, y with
  | .str a, .str b => match Builtin.Str.occurrences a b 0 a.length 1 with
    | i :: _ => P (.int (i : Nat))
    | [] => False
  | _, _ => False
theorem pd_six {apos : Pos} (ho : PD w X o to) (ha : PD w X a ta) (hs : starEach [a] X.env = [(false, eval a X.env)] := by rfl) (hbase : attributeBase o "index" X.env (eval o X.env) = eval o X.env := by rfl) (hline : (apos.endLine == pos.line) = true := by rfl) :
    PD w X (.Call (.Attribute o "index" apos) [a] [] pos) (dM1 gSix to ta) := by
  obtain ⟨to', o1, o2⟩ := ho
  obtain ⟨ta', a1, a2⟩ := ha
  refine ⟨_, pe_m1 F.slot_str_index F.type_str_index mt_sindex o1 a1 hs hbase hline, re_m1 (fun x y d e G H P Q k r1 r2 h q => ?_) o2 a2⟩
  cases r1 with
  | str z =>
    cases r2 with
    | str y =>
      simp only [gSix] at h
      cases hd : Builtin.Str.occurrences z y 0 z.length 1 with
      | nil => rw [hd] at h; exact h.elim
      | cons i r =>
        rw [hd] at h
        exact ⟨z, y, i, r, rfl, rfl, hd, q _ _ G H k.stp (.int _) h⟩
    | _ => exact h.elim
  | _ => cases r2 <;> exact h.elim
/-- list.index(flat): there -/
def gLix : D2 := fun x y P => match x with
  | .list ds => flatD y = true ∧ ds.all flatD = true ∧ match ds.findIdx? (fun z => PyData.eqv z y) with
    | some j => P (.int (j : Nat))
    | none => False
  | _ => False
def dLix (to ta : DE) : DE := fun ρ P => to ρ fun x => match x with
  | .list ds => ta ρ fun y => gLix (.list ds) y P
  | _ => False
theorem pd_lix {apos : Pos} (ho : PD w X o to) (ha : PD w X a ta) (hbase : attributeBase o "index" X.env (eval o X.env) = eval o X.env := by rfl)
    (hfew : ((backTo pos (starEach [a] X.env)).all (fun x => !x.1) && (backToKw pos (keywordEach [] X.env)).all (fun x => x.1.isSome) && decide (([a] : List Expr).length + ([] : List Keyword).length + (if ([] : List Keyword).isEmpty then 0 else 1) < 30)) = true := by rfl)
    (hline : (apos.endLine == pos.line) = true := by rfl) (hs : starEach [a] X.env = (false, eval a X.env) :: starEach [] X.env := by rfl) (hplain : (backTo pos (starEach [] X.env)).any (·.1) = false := by rfl) :
    PD w X (.Call (.Attribute o "index" apos) [a] [] pos) (dLix to ta) := by
  obtain ⟨to', o1, o2⟩ := ho
  obtain ⟨ta', a1, a2⟩ := ha
  refine ⟨_, pe_bm PySem.F.plainAttrs_list PySem.F.slot_list_index PySem.F.type_list_index mt_index o1 (pa_cons a1 pa_nil hs) hbase hfew hline hs hplain, fun σ ρ G H P Q k s h q => ?_⟩
  refine o2 σ ρ G H _ _ k s h fun x d G1 H1 s1 r1 p1 => ?_
  cases r1 with
  | @lst p xs ds t1 q1 =>
    refine ⟨.inl ⟨rfl, xs, SqL.of ((s1.okw k).sub _ _ t1)⟩, ?_⟩
    refine a2 σ ρ G1 H1 _ _ (s1.okw k) (s.mono s1.up) p1 fun y e G2 H2 s2 r2 p2 => ?_
    obtain ⟨f1, f2, p2⟩ := p2
    have k2 := s2.okw (s1.okw k)
    have q2 := q1.mono s2.up
    cases hd : ds.findIdx? (fun z => PyData.eqv z e) with
    | none => rw [hd] at p2; exact p2.elim
    | some j =>
      rw [hd] at p2
      obtain ⟨hj, hp, hall⟩ := List.findIdx?_eq_some_iff_getElem.mp hd
      obtain ⟨v, hv, rv⟩ := q2.getD (List.getElem?_eq_getElem hj)
      have fl : ∀ (m : Nat) (hm : m < ds.length), flatD ds[m] = true := fun m hm => List.all_eq_true.mp f2 _ (List.getElem_mem hm)
      refine ⟨p, xs, y, j, v, rfl, rfl, SqL.of (k2.sub _ _ (s2.up _ _ t1)), r2.flat f1, q2.flat f2, hv, ?_, fun m z' hm hz => ?_, q _ _ G2 H2 (s1.trans s2) (.int _) p2⟩
      · rw [rv.eqV r2 (fl j hj) f1]; exact hp
      · obtain ⟨d', hd', rd'⟩ := q2.get hz
        have hm' : m < ds.length := (List.getElem?_eq_some_iff.mp hd').1
        have e' : d' = ds[m] := by rw [List.getElem?_eq_getElem hm'] at hd'; exact (Option.some.inj hd').symm
        have fd' : flatD d' = true := by rw [e']; exact fl m hm'
        have hne : ¬ PyData.eqv ds[m] e = true := hall m hm
        rw [rd'.eqV r2 fd' f1, e']
        exact Bool.eq_false_iff.mpr hne
  | _ => exact p1.elim
/-! own defs -/
/-- the contract of a pure def -/
def spD (K : PySem.W.Frag) (F : D1) : Sp := fun vs H Q _ => ∃ (G : Hp) (ds : List DD) (P : DD → Prop), Sub G H ∧ RpAll K G vs ds ∧ F ds P ∧ ∀ v d G2 H2, Stp Wd.zero G H G2 H2 → Rp K G2 v d → P d → Q v H2
variable {kf : Nat} {f : Addr} {fd : FuncData} {ps : List Str} {x : Str} {p : Pos}
theorem pd_fn {F : D1} {t : DA} (GF : FnOk X.prog X.w X.K X.mg X.base CX0 kf f fd ps (spD X.K F)) (hr : Room kf X.A) (hm : X.mg x = some (.ref f)) (hk : PySem.W.keepIn X.K (.ref f) = true) (hb : Binds X.K fd ps []) (ha : PDA w X (e :: es) t) (hg : Gl X x := by rfl)
    (hdb : (x == ("__debug__" : Str)) = false := by decide) (he : starEach (e :: es) X.env = (false, eval e X.env) :: starEach es X.env := by rfl) (hpl : (backTo pos (starEach es X.env)).any (·.1) = false := by rfl) : PD w X (.Call (.Name x p) (e :: es) [] pos) (dCall F t) := by
  obtain ⟨t', a1, a2⟩ := ha
  refine ⟨_, pe_call GF hr hg hm hk hb .nil (pass0 (X := X)) a1 hdb he hpl, fun σ ρ G H P Q k s h q => ?_⟩
  refine a2 σ ρ G H _ _ k s h fun vs ds G1 H1 s1 r1 _ p1 => ?_
  rw [List.append_nil]
  have k1 := s1.okw k
  exact ⟨G1, ds, P, k1.sub, r1, p1, fun v d G2 H2 s2 => q v d G2 H2 (s1.trans (s2.lift k1))⟩
theorem pd_fn0 {F : D1} (GF : FnOk X.prog X.w X.K X.mg X.base CX0 kf f fd ps (spD X.K F)) (hr : Room kf X.A) (hm : X.mg x = some (.ref f)) (hk : PySem.W.keepIn X.K (.ref f) = true) (hb : Binds X.K fd ps []) (hg : Gl X x := by rfl)
    (hdb : (x == ("__debug__" : Str)) = false := by decide) : PD w X (.Call (.Name x p) [] [] pos) (fun _ P => F [] P) := by
  refine ⟨_, pe_call0 GF hr hg hm hk hb .nil (pass0 (X := X)) hdb, fun σ ρ G H P Q k s h q => ?_⟩
  exact ⟨G, [], P, k.sub, .nil, h, fun v d G2 H2 s2 => q v d G2 H2 (s2.lift k)⟩
/-! ### what a for walks -/
structure Wk (K : PySem.W.Frag) (J : It) (ds : List DD) (B : Hp) : Prop where
  ex : ∃ Y, Walk J ds.length (fun H => Sub B H) Y ∧ ∀ i H x H', Y i H x H' → ∃ d, ds[i]? = some d ∧ ((H' = H ∧ Rp K B x d) ∨ ∃ p xs es, H p = none ∧ H' = upd H p (.tup xs) ∧ x = .ref p ∧ RpAll K B xs es ∧ d = .tuple es)
def RI (w : Wd) (K : PySem.W.Frag) (wi : TI) (td : DA) : Prop := ∀ σ ρ G H (P : List DD → Prop) (R : It → Hp → Prop), Okw w G H → SlOk K G σ ρ → td ρ P →
  (∀ J ds G2 H2, Stp w G H G2 H2 → Wk K J ds G2 → P ds → R J H2) → wi σ H R
structure PDI (w : Wd) (X : Cx) (tg e : Expr) (td : DA) : Prop where
  ex : ∃ wi, PI X tg e wi ∧ RI w X.K wi td
def dIl (ta : DE) : DA := fun ρ P => ta ρ fun d => match d with
  | .list ds => P ds
  | _ => False
def dIt (ta : DE) : DA := fun ρ P => ta ρ fun d => match d with
  | .tuple ds => P ds
  | _ => False
def chars (z : Str) : List DD := z.cps.toList.map fun c => .str ⟨#[c]⟩
def dIs (ta : DE) : DA := fun ρ P => ta ρ fun d => match d with
  | .str z => P (chars z)
  | _ => False
def upto (n : Int) : List DD := (List.range n.toNat).map fun i => .int (i : Nat)
def dIr (ta : DE) : DA := fun ρ P => ta ρ fun d => match d with
  | .int n => (-1000000 ≤ n ∧ n ≤ 1000000) ∧ P (upto n)
  | _ => False
variable {tg : Expr}
theorem wk_list {K : PySem.W.Frag} {B : Hp} {p : Addr} {xs : List V} {ds : List DD} (h : B p = some (.lst xs)) (r : RpAll K B xs ds) : Wk K (Itl K p) ds B := by
  refine ⟨fun i H x H' => H' = H ∧ xs[i]? = some x, ⟨fun i H hi hs => ?_, fun H hs => ⟨xs, SqL.of (hs _ _ h), by rw [r.len]; exact Nat.le_refl _⟩, fun i H x H' hi hs y => ⟨y.1, y.2 xs (SqL.of (hs _ _ h))⟩⟩, fun i H x H' y => ?_⟩
  · have hi' : i < xs.length := by rw [r.len]; exact hi
    exact ⟨xs, xs[i], SqL.of (hs _ _ h), List.getElem?_eq_getElem hi'⟩
  · obtain ⟨e, y⟩ := y
    obtain ⟨d, hd, rd⟩ := r.get y
    exact ⟨d, hd, .inl ⟨e, rd⟩⟩
theorem wk_tup {K : PySem.W.Frag} {B : Hp} {p : Addr} {xs : List V} {ds : List DD} (h : SqT K B p xs) (r : RpAll K B xs ds) : Wk K (Itt K p) ds B := by
  refine ⟨fun i H x H' => H' = H ∧ xs[i]? = some x, ⟨fun i H hi hs => ?_, fun H hs => ⟨xs, hs.sqT h, by rw [r.len]; exact Nat.le_refl _⟩, fun i H x H' hi hs y => ⟨y.1, y.2 xs (hs.sqT h)⟩⟩, fun i H x H' y => ?_⟩
  · have hi' : i < xs.length := by rw [r.len]; exact hi
    exact ⟨xs, xs[i], hs.sqT h, List.getElem?_eq_getElem hi'⟩
  · obtain ⟨e, y⟩ := y
    obtain ⟨d, hd, rd⟩ := r.get y
    exact ⟨d, hd, .inl ⟨e, rd⟩⟩
theorem wk_str {K : PySem.W.Frag} {B : Hp} {z : Str} : Wk K (Its z) (chars z) B := by
  have hl : (chars z).length = z.cps.size := by simp [chars]
  refine ⟨_, ⟨fun i H hi _ => by rw [hl] at hi; exact hi, fun H _ => by rw [hl]; exact Nat.le_refl _, fun i H x H' _ _ y => y⟩, fun i H x H' y => ?_⟩
  obtain ⟨e, c, hc, rfl⟩ := y
  refine ⟨.str ⟨#[c]⟩, ?_, .inl ⟨e, .str _⟩⟩
  have : z.cps.toList[i]? = some c := by rw [Array.getElem?_toList]; exact hc
  simp [chars, this]
theorem wk_range {K : PySem.W.Frag} {B : Hp} {n : Int} : Wk K (Itr 0 n.toNat) (upto n) B := by
  have hl : (upto n).length = n.toNat := by simp [upto]
  refine ⟨fun i H x H' => i < n.toNat ∧ H' = H ∧ x = .int (0 + i), ⟨fun i H hi _ => by rw [hl] at hi; exact hi, fun H _ => by rw [hl]; exact Nat.le_refl _, fun i H x H' hi _ y => ⟨by rw [hl] at hi; exact hi, y⟩⟩, fun i H x H' y => ?_⟩
  obtain ⟨hi, e, rfl⟩ := y
  refine ⟨.int (i : Nat), by simp [upto, hi], .inl ⟨e, ?_⟩⟩
  rw [Int.zero_add]
  exact .int _
theorem di_list (ha : PD w X a ta) : PDI w X tg a (dIl ta) := by
  obtain ⟨ta', a1, a2⟩ := ha
  refine ⟨_, pi_list a1, fun σ ρ G H P R k s h q => ?_⟩
  refine a2 σ ρ G H _ _ k s h fun v d G1 H1 s1 r1 p1 => ?_
  cases r1 with
  | @lst p xs ds t1 q1 => exact ⟨p, rfl, ⟨xs, SqL.of ((s1.okw k).sub _ _ t1)⟩, q _ ds G1 H1 s1 (wk_list t1 q1) p1⟩
  | _ => exact p1.elim
theorem di_tup (ha : PD w X a ta) : PDI w X tg a (dIt ta) := by
  obtain ⟨ta', a1, a2⟩ := ha
  refine ⟨_, pi_tup a1, fun σ ρ G H P R k s h q => ?_⟩
  refine a2 σ ρ G H _ _ k s h fun v d G1 H1 s1 r1 p1 => ?_
  cases r1 with
  | @tup p xs ds t1 q1 => exact ⟨p, rfl, ⟨xs, (s1.okw k).sub.sqT t1⟩, q _ ds G1 H1 s1 (wk_tup t1 q1) p1⟩
  | _ => exact p1.elim
theorem di_str (ha : PD w X a ta) : PDI w X tg a (dIs ta) := by
  obtain ⟨ta', a1, a2⟩ := ha
  refine ⟨_, pi_str a1, fun σ ρ G H P R k s h q => ?_⟩
  refine a2 σ ρ G H _ _ k s h fun v d G1 H1 s1 r1 p1 => ?_
  cases r1 with
  | str z => exact ⟨z, rfl, q _ _ G1 H1 s1 wk_str p1⟩
  | _ => exact p1.elim
theorem di_range (hm : X.mg "range" = none) (ha : PD w X a ta) (hg : Gl X "range" := by rfl) (hs : starEach [a] X.env = (false, eval a X.env) :: starEach [] X.env := by rfl) (hs2 : starEach [a] X.env = [(false, eval a X.env)] := by rfl) : PDI w X tg (.Call (.Name "range" p) [a] [] pos) (dIr ta) := by
  obtain ⟨ta', a1, a2⟩ := ha
  refine ⟨_, pi_range1 hg hm (pa_cons a1 pa_nil hs) hs2, fun σ ρ G H P R k s h q => ?_⟩
  refine a2 σ ρ G H _ _ k s h fun v d G1 H1 s1 r1 p1 => ?_
  cases r1 with
  | int n => exact ⟨n, rfl, by omega, by omega, q _ _ G1 H1 s1 wk_range p1.2⟩
  | _ => exact p1.elim
end
end Z

set_option Elab.async false
set_option linter.all false
set_option maxRecDepth 100000
set_option maxHeartbeats 4000000
namespace Z
open PySem PySem.Spec PyProof.Rows L2
/-! ### the reading that a meaning makes: the same wherever the code stands -/
def teOf (w : Wd) (K : PySem.W.Frag) (td : DE) : TE := fun σ H Q => ∃ ρ G P, Okw w G H ∧ SlOk K G σ ρ ∧ td ρ P ∧ ∀ v d G2 H2, Stp w G H G2 H2 → Rp K G2 v d → P d → Q v H2
def ttOf (w : Wd) (K : PySem.W.Frag) (td : DT) : TT := fun σ H Q => ∃ ρ G P, Okw w G H ∧ SlOk K G σ ρ ∧ td ρ P ∧ ∀ b G2 H2, Stp w G H G2 H2 → P b → Q b H2
section
variable {w : Wd} {X : Cx} {e : Expr} {td : DE} {tt : DT}
theorem PD.can (h : PD w X e td) : PE X e (teOf w X.K td) := by
  obtain ⟨te, h1, h2⟩ := h
  exact ⟨fun pins s σ H Q I ⟨ρ, G, P, k, sl, ht, q⟩ => h1.run pins s σ H Q I (h2 σ ρ G H P Q k sl ht q)⟩
theorem re_can {K : PySem.W.Frag} : RE w K (teOf w K td) td := fun _ ρ G _ P _ k s h q => ⟨ρ, G, P, k, s, h, q⟩
theorem rt_can {K : PySem.W.Frag} : RT w K (ttOf w K tt) tt := fun _ ρ G _ P _ k s h q => ⟨ρ, G, P, k, s, h, q⟩
structure PDTs (w : Wd) (X : Cx) (ifs : List Expr) (td : DT) : Prop where
  ex : ∃ te, PTs X ifs te ∧ RT w X.K te td
def dYes : DT := fun _ P => P true
theorem dts_nil : PDTs w X [] dYes := ⟨_, pts_nil, fun _ _ G H _ _ k _ h q => q true G H k.stp h⟩
theorem dts_one {c : Expr} (h : PDT w X c tt) : PDTs w X [c] tt := by
  obtain ⟨t, h1, h2⟩ := h
  exact ⟨_, pts_one h1, h2⟩
theorem PDTs.can {ifs : List Expr} (h : PDTs w X ifs tt) : PTs X ifs (ttOf w X.K tt) := by
  obtain ⟨te, h1, h2⟩ := h
  exact ⟨fun pins s σ H Q I ⟨ρ, G, P, k, sl, ht, q⟩ => h1.run pins s σ H Q I (h2 σ ρ G H P Q k sl ht q)⟩
end
/-! ### comprehensions -/
def comp (ρ : En) (j : Nat) (tt : DT) (td : DE) : List DD → List DD → (DD → Prop) → Prop
  | [], acc, P => P (.list acc)
  | x :: xs, acc, P => tt (ρ.set j (.dat x)) fun b => if b = true then td (ρ.set j (.dat x)) fun d => acc.length < 1000000 ∧ comp ρ j tt td xs (acc ++ [d]) P else comp ρ j tt td xs acc P
def dLc (ti : DA) (j : Nat) (tt : DT) (td : DE) : DE := fun ρ P => ti ρ fun items => comp ρ j tt td items [] P
theorem set_set_none {σ : L2.St} {j : Nat} {x : Option V} : (σ.set j none).set j x = σ.set j x := by rw [List.set_set]
theorem SlOk.set {K : PySem.W.Frag} {G : Hp} {σ : L2.St} {ρ : En} (s : SlOk K G σ ρ) {j : Nat} {v : V} {d : DD} (r : Rp K G v d) : SlOk K G (σ.set j (some v)) (ρ.set j (.dat d)) := by
  refine ⟨by rw [List.length_set, List.length_set]; exact s.len, fun i e h => ?_, fun i a h => ?_⟩
  · by_cases hij : j = i
    · subst hij
      have hl : j < ρ.length := by
        have := (List.getElem?_eq_some_iff.mp h).1
        rwa [List.length_set] at this
      rw [List.getElem?_set_self hl] at h
      have e1 : d = e := by injection (Option.some.inj h)
      subst e1
      exact ⟨v, by rw [List.getElem?_set_self (by rw [s.len]; exact hl)], r⟩
    · rw [List.getElem?_set_ne hij] at h
      obtain ⟨u, h1, h2⟩ := s.dat i e h
      exact ⟨u, by rw [List.getElem?_set_ne hij]; exact h1, h2⟩
  · by_cases hij : j = i
    · subst hij
      have hl : j < ρ.length := by
        have := (List.getElem?_eq_some_iff.mp h).1
        rwa [List.length_set] at this
      rw [List.getElem?_set_self hl] at h
      cases (Option.some.inj h)
    · rw [List.getElem?_set_ne hij] at h ⊢
      exact s.adr i a h
section
variable {w : Wd} {X : Cx}
theorem re_lc {wi : TI} {ti : DA} {j : Nat} {tt : DT} {td : DE} (hi : RI w X.K wi ti) : RE w X.K (tLc wi (gName j) (ttOf w X.K tt) (teOf w X.K td) [j]) (dLc ti j tt td) := by
  intro σ ρ G H P Q k s h q
  refine hi σ ρ G H _ _ k s h fun J items G1 H1 s1 wk p1 D hD => ?_
  have k1 := s1.okw k
  obtain ⟨Y, wlk, hy⟩ := wk
  refine lc_it wlk (fun i H' => ∃ G' acc ds, Stp w G1 H1 G' H' ∧ H' D = some (.lst acc) ∧ G' D = none ∧ RpAll X.K G' acc ds ∧ comp ρ j tt td (items.drop i) ds P) ?_ ?_ ?_ ?_
  · exact ⟨G1, [], [], Stp.new0 k1 hD, upd_same, k1.g_none hD, .nil, p1⟩
  · rintro i H' _ ⟨G', acc, ds, s2, _⟩
    exact s2.up.trans s2.sub
  · rintro i x H' H'' hlt ⟨G', acc, ds, s2, hacc, hgD, ra, hc⟩ y
    obtain ⟨d, hd, alt⟩ := hy i H' x H'' y
    have hdr : items.drop i = d :: items.drop (i + 1) := by
      obtain ⟨h1, h2⟩ := List.getElem?_eq_some_iff.mp hd
      rw [List.drop_eq_getElem_cons h1, h2]
    rw [hdr] at hc
    show wipe ((wipe σ [j]).set j (some x)) [j] = wipe σ [j] ∧ _
    refine ⟨by show (((σ.set j none).set j (some x)).set j none) = σ.set j none; rw [List.set_set, List.set_set], ?_⟩
    have e1 : (wipe σ [j]).set j (some x) = σ.set j (some x) := set_set_none
    rw [e1]
    -- the heap and what is known of x
    obtain ⟨G3, s3, rx, hacc3, hgD3⟩ : ∃ G3, Stp w G1 H1 G3 H'' ∧ Rp X.K G3 x d ∧ H'' D = some (.lst acc) ∧ G3 D = none ∧ Sub G' G3 := by
      have k2 := s2.okw k1
      rcases alt with ⟨rfl, rx⟩ | ⟨p, xs, es, hp, rfl, rfl, rx, rfl⟩
      · exact ⟨G', s2, rx.mono s2.up, hacc, hgD, Sub.rfl⟩
      · have sn := Stp.new (w := w) (o := .tup xs) k2 hp
        have ne : D ≠ p := ne_of_none hacc hp
        exact ⟨_, s2.trans sn, .tup (SqT.of upd_same) ((rx.mono s2.up).mono (Sub.new (k2.g_none hp))), by rw [upd_ne ne]; exact hacc, by rw [upd_ne ne]; exact hgD, sn.up⟩
    obtain ⟨hgD3, u3⟩ := hgD3
    have k3 := s3.okw k1
    have sl3 : SlOk X.K G3 (σ.set j (some x)) (ρ.set j (.dat d)) := (s.mono (s1.up.trans s3.up)).set rx
    refine ⟨_, G3, _, k3, sl3, hc, fun b G4 H4 s4 hb => ?_⟩
    have k4 := s4.okw k3
    have hst : ¬ w.st D := fun z => k1.here D (w.sf D z) hD
    have hacc4 : H4 D = some (.lst acc) := s4.kp D _ hst hacc3
    have hgD4 : G4 D = none := s4.nw D (by rw [hacc3]; exact fun z => nomatch z) hgD3
    cases b with
    | false =>
      rw [if_neg Bool.false_ne_true] at hb
      show ∃ G' acc ds, _
      exact ⟨G4, acc, ds, s3.trans s4, hacc4, hgD4, (ra.mono u3).mono s4.up, hb⟩
    | true =>
      rw [if_pos rfl] at hb
      show teOf w X.K td (List.set σ j (some x)) H4 _
      refine ⟨_, G4, _, k4, sl3.mono s4.up, hb, fun v e G5 H5 s5 re hp => ?_⟩
      have hacc5 : H5 D = some (.lst acc) := s5.kp D _ hst hacc4
      have hgD5 : G5 D = none := s5.nw D (by rw [hacc4]; exact fun z => nomatch z) hgD4
      have ra5 := ((ra.mono u3).mono s4.up).mono s5.up
      exact ⟨acc, hacc5, line_lt (by rw [ra5.len]; exact hp.1), G5, acc ++ [v], ds ++ [e], ((s3.trans s4).trans s5).mut k1 hD hgD5, upd_same, hgD5, ra5.append (.cons re .nil), hp.2⟩
  · rintro H' ⟨G', acc, ds, s2, hacc, hgD, ra, hc⟩
    rw [List.drop_length] at hc
    have hh : Stp w G1 H1 (upd G' D (.lst acc)) H' := by
      refine ⟨fun a u e => ?_, fun a u e => ?_, s2.kp, s2.th, fun a ha hg => ?_, s2.wd⟩
      · by_cases z : a = D
        · subst z; rw [upd_same] at e; rw [hacc]; exact e
        · rw [upd_ne z] at e; exact s2.sub a u e
      · rw [upd_ne (ne_of_none e (k1.g_none hD))]; exact s2.up a u e
      · rw [upd_ne (fun z => ha (by rw [z]; exact hD))]; exact s2.nw a ha hg
    exact q _ _ _ _ (s1.trans hh) (.lst upd_same (ra.mono (Sub.new hgD))) hc
theorem pd_lc {elt tg iter : Expr} {ifs : List Expr} {scope : Scope} {x : Str} {j : Nat} {pos : Pos} {ti : DA} {tt : DT} {td : DE} (hN : X.N.Nodup) (ok : BlkOk X.N X.env.scope scope [(x, j)]) (hi : PDI w X tg iter ti)
    (hg : ∀ (s : Shared) (H : Hp) (C : Addr) (cl : List (Str × Addr)) (fp : List Addr), PG (X.blk s H scope (compEnvC scope cl C X.env) fp) tg (gName j))
    (ht : ∀ (s : Shared) (H : Hp) (C : Addr) (cl : List (Str × Addr)) (fp : List Addr), PDTs w (X.blk s H scope (compEnvC scope cl C X.env) fp) ifs tt)
    (he : ∀ (s : Shared) (H : Hp) (C : Addr) (cl : List (Str × Addr)) (fp : List Addr), PD w (X.blk s H scope (compEnvC scope cl C X.env) fp) elt td)
    (hc : X.calm = true := by rfl) (hs : ∀ x, foldedSetIterable iter X.env x = pure x := by intro _; rfl) : PD w X (.ListComp elt [⟨tg, iter, ifs, 0⟩] scope pos) (dLc ti j tt td) := by
  obtain ⟨wi, i1, i2⟩ := hi
  exact ⟨_, pe_lc (own := [(x, j)]) hc hN i1 ok hg (fun s H C cl fp => (ht s H C cl fp).can) (fun s H C cl fp => (he s H C cl fp).can) hs, re_lc i2⟩
end
end Z

set_option Elab.async false
set_option linter.all false
set_option maxRecDepth 100000
set_option maxHeartbeats 4000000
namespace Z
open PySem PySem.Spec PyProof.Rows L2
/-! ### statements -/
structure SOk (w : Wd) (K : PySem.W.Frag) (G0 H0 B : Hp) (σ : L2.St) (ρ : En) (H G : Hp) : Prop where
  stp : Stp w G0 H0 G H
  lb : Sub B G
  sl : SlOk K G σ ρ
  own : ∀ (i : Nat) ds, ρ[i]? = some (.own ds) → ∃ a xs, σ[i]? = some (some (.ref a)) ∧ H a = some (.lst xs) ∧ RpAll K G xs ds ∧ G a = none ∧ H0 a = none
  sep : ∀ (i j : Nat) ds es a, ρ[i]? = some (.own ds) → ρ[j]? = some (.own es) → σ[i]? = some (some (.ref a)) → σ[j]? = some (some (.ref a)) → i = j
def SPo (w : Wd) (K : PySem.W.Frag) (G0 H0 B : Hp) (ρ : En) (σ : L2.St) (H : Hp) : Prop := ∃ G, SOk w K G0 H0 B σ ρ H G
theorem set_some {α : Type} {l : List α} {i j : Nat} {a b : α} (h : (l.set i a)[j]? = some b) : (i = j ∧ a = b ∧ i < l.length) ∨ (i ≠ j ∧ l[j]? = some b) := by
  by_cases e : i = j
  · subst e
    have hl : i < l.length := by
      have := (List.getElem?_eq_some_iff.mp h).1
      rwa [List.length_set] at this
    rw [List.getElem?_set_self hl] at h
    exact .inl ⟨rfl, Option.some.inj h, hl⟩
  · rw [List.getElem?_set_ne e] at h
    exact .inr ⟨e, h⟩
section
variable {w : Wd} {K : PySem.W.Frag} {G0 H0 B G H : Hp} {σ : L2.St} {ρ : En}
theorem SOk.okw (k0 : Okw w G0 H0) (s : SOk w K G0 H0 B σ ρ H G) : Okw w G H := s.stp.okw k0
/-- an expression has run: the slots as they were -/
theorem SOk.step (k0 : Okw w G0 H0) (s : SOk w K G0 H0 B σ ρ H G) {G2 H2 : Hp} (t : Stp w G H G2 H2) : SOk w K G0 H0 B σ ρ H2 G2 := by
  refine ⟨s.stp.trans t, s.lb.trans t.up, s.sl.mono t.up, fun i ds h => ?_, s.sep⟩
  obtain ⟨a, xs, h1, h2, h3, h4, h5⟩ := s.own i ds h
  exact ⟨a, xs, h1, t.kp a _ (fun z => k0.here a (w.sf a z) h5) h2, h3.mono t.up, t.nw a (by rw [h2]; exact fun z => nomatch z) h4, h5⟩
theorem SOk.set (s : SOk w K G0 H0 B σ ρ H G) {i : Nat} {v : V} {d : DD} (r : Rp K G v d) : SOk w K G0 H0 B (σ.set i (some v)) (ρ.set i (.dat d)) H G := by
  refine ⟨s.stp, s.lb, s.sl.set r, fun j ds h => ?_, fun j m ds es a h1 h2 h3 h4 => ?_⟩
  · rcases set_some h with ⟨_, z, _⟩ | ⟨ne, z⟩
    · cases z
    · obtain ⟨a, xs, q1, q2⟩ := s.own j ds z
      exact ⟨a, xs, by rw [List.getElem?_set_ne ne]; exact q1, q2⟩
  · rcases set_some h1 with ⟨_, z, _⟩ | ⟨n1, z1⟩
    · cases z
    · rcases set_some h2 with ⟨_, z, _⟩ | ⟨n2, z2⟩
      · cases z
      · rw [List.getElem?_set_ne n1] at h3
        rw [List.getElem?_set_ne n2] at h4
        exact s.sep j m ds es a z1 z2 h3 h4
theorem SlOk.setOwn (s : SlOk K G σ ρ) {i : Nat} {v : V} {ds : List DD} : SlOk K G (σ.set i (some v)) (ρ.set i (.own ds)) := by
  refine ⟨by rw [List.length_set, List.length_set]; exact s.len, fun j e h => ?_, fun j a h => ?_⟩
  · rcases set_some h with ⟨_, z, _⟩ | ⟨ne, z⟩
    · cases z
    · obtain ⟨u, h1, h2⟩ := s.dat j e z
      exact ⟨u, by rw [List.getElem?_set_ne ne]; exact h1, h2⟩
  · rcases set_some h with ⟨_, z, _⟩ | ⟨ne, z⟩
    · cases z
    · rw [List.getElem?_set_ne ne]; exact s.adr j a z
/-- a name takes a new list for its own -/
theorem SOk.setN (s : SOk w K G0 H0 B σ ρ H G) {i : Nat} {p : Addr} {xs : List V} {ds : List DD} (hp : H p = some (.lst xs)) (hg : G p = none) (h0 : H0 p = none) (r : RpAll K G xs ds) (nw : ∀ (j : Nat) es, ρ[j]? = some (.own es) → σ[j]? ≠ some (some (.ref p))) :
    SOk w K G0 H0 B (σ.set i (some (.ref p))) (ρ.set i (.own ds)) H G := by
  refine ⟨s.stp, s.lb, s.sl.setOwn, fun j es h => ?_, fun j m es fs a h1 h2 h3 h4 => ?_⟩
  · rcases set_some h with ⟨rfl, z, hl⟩ | ⟨ne, z⟩
    · cases z
      exact ⟨p, xs, List.getElem?_set_self (by rw [s.sl.len]; exact hl), hp, r, hg, h0⟩
    · obtain ⟨a, ys, q1, q2⟩ := s.own j es z
      exact ⟨a, ys, by rw [List.getElem?_set_ne ne]; exact q1, q2⟩
  · rcases set_some h1 with ⟨rfl, z, hl⟩ | ⟨n1, z1⟩
    · rcases set_some h2 with ⟨rfl, _, _⟩ | ⟨n2, z2⟩
      · rfl
      · rw [List.getElem?_set_self (by rw [s.sl.len]; exact hl)] at h3
        rw [List.getElem?_set_ne n2] at h4
        have e : p = a := by injection (Option.some.inj (Option.some.inj h3))
        subst e
        exact absurd h4 (nw m fs z2)
    · rcases set_some h2 with ⟨rfl, z, hl⟩ | ⟨n2, z2⟩
      · rw [List.getElem?_set_self (by rw [s.sl.len]; exact hl)] at h4
        rw [List.getElem?_set_ne n1] at h3
        have e : p = a := by injection (Option.some.inj (Option.some.inj h4))
        subst e
        exact absurd h3 (nw j es z1)
      · rw [List.getElem?_set_ne n1] at h3
        rw [List.getElem?_set_ne n2] at h4
        exact s.sep j m es fs a z1 z2 h3 h4
/-- the list that a name owns is written -/
theorem SOk.mut (k0 : Okw w G0 H0) (s : SOk w K G0 H0 B σ ρ H G) {i : Nat} {a : Addr} {xs : List V} {ds es : List DD} (hi : ρ[i]? = some (.own es)) (ha : σ[i]? = some (some (.ref a))) (hg : G a = none) (h0 : H0 a = none) (r : RpAll K G xs ds) :
    SOk w K G0 H0 B σ (ρ.set i (.own ds)) (upd H a (.lst xs)) G := by
  have hl : i < ρ.length := (List.getElem?_eq_some_iff.mp hi).1
  refine ⟨s.stp.mut k0 h0 hg, s.lb, ⟨by rw [List.length_set]; exact s.sl.len, fun j e h => ?_, fun j b h => ?_⟩, fun j fs h => ?_, fun j m fs gs b h1 h2 h3 h4 => ?_⟩
  · rcases set_some h with ⟨_, z, _⟩ | ⟨_, z⟩
    · cases z
    · exact s.sl.dat j e z
  · rcases set_some h with ⟨_, z, _⟩ | ⟨_, z⟩
    · cases z
    · exact s.sl.adr j b z
  · rcases set_some h with ⟨rfl, z, _⟩ | ⟨ne, z⟩
    · cases z
      exact ⟨a, xs, ha, upd_same, r, hg, h0⟩
    · obtain ⟨b, ys, q1, q2, q3, q4, q5⟩ := s.own j fs z
      have nb : b ≠ a := fun e => ne (s.sep i j es fs a hi z ha (by rw [q1, e]))
      exact ⟨b, ys, q1, by rw [upd_ne nb]; exact q2, q3, q4, q5⟩
  · have o1 : ∃ fs, ρ[j]? = some (.own fs) := by
      rcases set_some h1 with ⟨rfl, _, _⟩ | ⟨_, z⟩
      · exact ⟨_, hi⟩
      · exact ⟨_, z⟩
    have o2 : ∃ gs, ρ[m]? = some (.own gs) := by
      rcases set_some h2 with ⟨rfl, _, _⟩ | ⟨_, z⟩
      · exact ⟨_, hi⟩
      · exact ⟨_, z⟩
    obtain ⟨_, o1⟩ := o1
    obtain ⟨_, o2⟩ := o2
    exact s.sep j m _ _ b o1 o2 h3 h4
/-! the own lists seen as data -/
def Ent.full : Ent → Ent
  | .own ds => .dat (.list ds)
  | e => e
def full (ρ : En) : En := ρ.map Ent.full
open Classical in
noncomputable def fullG (σ : L2.St) (ρ : En) (G H : Hp) : Hp := fun a => if (∃ (i : Nat) (ds : List DD), ρ[i]? = some (.own ds) ∧ σ[i]? = some (some (.ref a))) then H a else G a
theorem fullG_own (h : ∃ (i : Nat) (ds : List DD), ρ[i]? = some (.own ds) ∧ σ[i]? = some (some (.ref a))) : fullG σ ρ G H a = H a := if_pos h
theorem fullG_not (h : ¬ ∃ (i : Nat) (ds : List DD), ρ[i]? = some (.own ds) ∧ σ[i]? = some (some (.ref a))) : fullG σ ρ G H a = G a := if_neg h
theorem SOk.own_at (s : SOk w K G0 H0 B σ ρ H G) {a : Addr} (h : ∃ (i : Nat) (ds : List DD), ρ[i]? = some (.own ds) ∧ σ[i]? = some (some (.ref a))) : G a = none ∧ H0 a = none := by
  obtain ⟨i, ds, h1, h2⟩ := h
  obtain ⟨b, xs, q1, q2, q3, q4, q5⟩ := s.own i ds h1
  rw [q1] at h2
  have e : b = a := by injection (Option.some.inj (Option.some.inj h2))
  subst e
  exact ⟨q4, q5⟩
theorem SOk.fullSub (s : SOk w K G0 H0 B σ ρ H G) : Sub G (fullG σ ρ G H) := fun a o e => by
  by_cases h : ∃ (i : Nat) (ds : List DD), ρ[i]? = some (.own ds) ∧ σ[i]? = some (some (.ref a))
  · rw [(s.own_at h).1] at e; cases e
  · rw [fullG_not h]; exact e
theorem SOk.fullStp (s : SOk w K G0 H0 B σ ρ H G) : Stp w G0 H0 (fullG σ ρ G H) H := by
  refine ⟨fun a o e => ?_, s.stp.up.trans s.fullSub, s.stp.kp, s.stp.th, fun a h1 h2 => ?_, s.stp.wd⟩
  · by_cases h : ∃ (i : Nat) (ds : List DD), ρ[i]? = some (.own ds) ∧ σ[i]? = some (some (.ref a))
    · rw [fullG_own h] at e; exact e
    · rw [fullG_not h] at e; exact s.stp.sub a o e
  · by_cases h : ∃ (i : Nat) (ds : List DD), ρ[i]? = some (.own ds) ∧ σ[i]? = some (some (.ref a))
    · exact absurd (s.own_at h).2 h1
    · rw [fullG_not h]; exact s.stp.nw a h1 h2
theorem SOk.fullSl (s : SOk w K G0 H0 B σ ρ H G) : SlOk K (fullG σ ρ G H) σ (full ρ) := by
  refine ⟨by unfold full; rw [List.length_map]; exact s.sl.len, fun i d h => ?_, fun i a h => ?_⟩
  · unfold full at h
    rw [List.getElem?_map] at h
    cases e : ρ[i]? with
    | none => rw [e] at h; cases h
    | some t =>
      rw [e] at h
      have h' : t.full = .dat d := Option.some.inj h
      cases t with
      | own ds =>
        have ed : PyData.list ds = d := by injection h'
        subst ed
        obtain ⟨a, xs, q1, q2, q3, q4, q5⟩ := s.own i ds e
        refine ⟨_, q1, .lst ?_ (q3.mono s.fullSub)⟩
        rw [fullG_own ⟨i, ds, e, q1⟩]
        exact q2
      | dat d' =>
        have ed : d' = d := by injection h'
        subst ed
        obtain ⟨v, q1, q2⟩ := s.sl.dat i _ e
        exact ⟨v, q1, q2.mono s.fullSub⟩
      | un => cases h'
      | adr _ => cases h'
  · unfold full at h
    rw [List.getElem?_map] at h
    cases e : ρ[i]? with
    | none => rw [e] at h; cases h
    | some t =>
      rw [e] at h
      have h' : t.full = .adr a := Option.some.inj h
      cases t with
      | adr b =>
        have ed : b = a := by injection h'
        subst ed
        exact s.sl.adr i _ e
      | own _ => cases h'
      | dat _ => cases h'
      | un => cases h'
/-- behind an expression that saw the own lists: what it made is forgotten -/
theorem SOk.after (k0 : Okw w G0 H0) (s : SOk w K G0 H0 B σ ρ H G) {G2 H2 : Hp} (t : Stp w (fullG σ ρ G H) H G2 H2) : SOk w K G0 H0 B σ ρ H2 G := by
  have st : ∀ a, w.st a → H0 a ≠ none := fun a z => k0.here a (w.sf a z)
  refine ⟨⟨(s.fullSub.trans t.up).trans t.sub, s.stp.up, fun a o n h => t.kp a o n (s.stp.kp a o n h), fun a h => t.th a (s.stp.th a h), s.stp.nw, t.wd⟩, s.lb, s.sl, fun i ds h => ?_, s.sep⟩
  obtain ⟨a, xs, h1, h2, h3, h4, h5⟩ := s.own i ds h
  exact ⟨a, xs, h1, t.kp a _ (fun z => st a z h5) h2, h3, h4, h5⟩
theorem Rp.flatTo {v : V} {d : DD} (r : Rp K G v d) (h : flatD d = true) : Rp K H v d := by
  cases r with
  | non => exact .non
  | bl b => exact .bl b
  | int i => exact .int i
  | str z => exact .str z
  | lst _ _ => cases h
  | tup _ _ => cases h
end

structure DEn where
  nx : En → Prop
  rt : DD → Prop
  bk : En → Prop
  ct : En → Prop
abbrev DS := DEn → En → Prop
structure Rel (w : Wd) (K : PySem.W.Frag) (G0 H0 B : Hp) (D : Ends) (E : DEn) : Prop where
  nx : ∀ σ ρ H, SPo w K G0 H0 B ρ σ H → E.nx ρ → D.nx σ H
  rt : ∀ v d G H, Stp w G0 H0 G H → Rp K G v d → E.rt d → D.rt v H
  bk : ∀ σ ρ H, SPo w K G0 H0 B ρ σ H → E.bk ρ → D.bk σ H
  ct : ∀ σ ρ H, SPo w K G0 H0 B ρ σ H → E.ct ρ → D.ct σ H
def RS (w : Wd) (K : PySem.W.Frag) (ts : TS) (ds : DS) : Prop := ∀ G0 H0 B σ ρ H (D : Ends) (E : DEn), Okw w G0 H0 → SPo w K G0 H0 B ρ σ H → ds E ρ → Rel w K G0 H0 B D E → ts D σ H
structure PDS (w : Wd) (X : Cx) (st : Stmt) (ds : DS) : Prop where
  ex : ∃ ts, PS X st ts ∧ RS w X.K ts ds
structure PDSs (w : Wd) (X : Cx) (st : List Stmt) (ds : DS) : Prop where
  ex : ∃ ts, PSs X st ts ∧ RS w X.K ts ds
section
variable {w : Wd} {X : Cx} {st : Stmt} {rest : List Stmt} {ds es : DS} {e : Expr} {td : DE} {pos : Pos}
def sNx : DS := fun E ρ => E.nx ρ
def sSeq (a b : DS) : DS := fun E ρ => a { E with nx := fun ρ' => b E ρ' } ρ
theorem rs_next {K : PySem.W.Frag} : RS w K tNext sNx := fun _ _ _ σ ρ H _ _ _ s h r => r.nx σ ρ H s h
theorem sds_nil : PDSs w X [] sNx := ⟨_, pss_nil, rs_next⟩
theorem rs_seq {K : PySem.W.Frag} {t u : TS} (h1 : RS w K t ds) (h2 : RS w K u es) : RS w K (tSeq t u) (sSeq ds es) := fun G0 H0 B σ ρ H D E k s h r =>
  h1 G0 H0 B σ ρ H _ _ k s h ⟨fun σ' ρ' H' s' h' => h2 G0 H0 B σ' ρ' H' D E k s' h' r, r.rt, r.bk, r.ct⟩
theorem sds_cons (h1 : PDS w X st ds) (h2 : PDSs w X rest es) : PDSs w X (st :: rest) (sSeq ds es) := by
  obtain ⟨t, a1, a2⟩ := h1
  obtain ⟨u, b1, b2⟩ := h2
  exact ⟨_, pss_cons a1 b1, rs_seq a2 b2⟩
theorem sds_one (h1 : PDS w X st ds) : PDSs w X [st] ds := by
  obtain ⟨t, a1, a2⟩ := h1
  exact ⟨_, pss_one a1, a2⟩
theorem sd_pass : PDS w X (.Pass pos) sNx := ⟨_, ps_pass, rs_next⟩
def sBk : DS := fun E ρ => E.bk ρ
def sCt : DS := fun E ρ => E.ct ρ
theorem sd_break : PDS w X (.Break pos) sBk := ⟨_, ps_break, fun _ _ _ σ ρ H _ _ _ s h r => r.bk σ ρ H s h⟩
theorem sd_continue : PDS w X (.Continue pos) sCt := ⟨_, ps_continue, fun _ _ _ σ ρ H _ _ _ s h r => r.ct σ ρ H s h⟩
/-! x = e -/
def sSet (i : Nat) (td : DE) : DS := fun E ρ => td ρ fun d => E.nx (ρ.set i (.dat d))
theorem rs_set {K : PySem.W.Frag} {te : TE} {i : Nat} (h : RE w K te td) : RS w K (tAsg te (gName i)) (sSet i td) := by
  intro G0 H0 B σ ρ H D E k ⟨G, s⟩ hd r
  refine h σ ρ G H _ _ (s.okw k) s.sl hd fun v d G2 H2 s2 rv p => ?_
  exact r.nx _ _ _ ⟨G2, (s.step k s2).set rv⟩ p
theorem sd_set {x : Str} {i : Nat} {pos' : Pos} (hN : X.N.Nodup) (he : PD w X e td) (hi : X.N[i]? = some x := by rfl) (hx : Loc X.env.scope x := by first | exact Or.inl rfl | exact Or.inr rfl) (hs : swapsWith e (some (.Name x pos')) pos.line X.env = pure false := by rfl)
    (hf : X.fn x = true ∨ X.env.scope.names.lookup x = some .local := by first | exact .inl rfl | exact .inr rfl | assumption) : PDS w X (.Assign [.Name x pos'] e pos) (sSet i td) := by
  obtain ⟨te, h1, h2⟩ := he
  exact ⟨_, ps_set hN hi hx h1 hs hf, rs_set h2⟩
/-- x = a value without parts, that may look at the own lists -/
def sSetF (i : Nat) (td : DE) : DS := fun E ρ => td (full ρ) fun d => flatD d = true ∧ E.nx (ρ.set i (.dat d))
theorem sd_setF {x : Str} {i : Nat} {pos' : Pos} (hN : X.N.Nodup) (he : PD w X e td) (hi : X.N[i]? = some x := by rfl) (hx : Loc X.env.scope x := by first | exact Or.inl rfl | exact Or.inr rfl) (hs : swapsWith e (some (.Name x pos')) pos.line X.env = pure false := by rfl)
    (hf : X.fn x = true ∨ X.env.scope.names.lookup x = some .local := by first | exact .inl rfl | exact .inr rfl | assumption) : PDS w X (.Assign [.Name x pos'] e pos) (sSetF i td) := by
  obtain ⟨te, h1, h2⟩ := he
  refine ⟨_, ps_set hN hi hx h1 hs hf, ?_⟩
  intro G0 H0 B σ ρ H D E k ⟨G, s⟩ hd r
  refine h2 σ (full ρ) _ H _ _ (s.fullStp.okw k) s.fullSl hd fun v d G2 H2 s2 rv p => ?_
  exact r.nx _ _ _ ⟨G, (s.after k s2).set (rv.flatTo p.1)⟩ p.2
/-- x = a new list, x's own -/
def sSetN (i : Nat) (tn : DA) : DS := fun E ρ => tn ρ fun ds => E.nx (ρ.set i (.own ds))
theorem sd_setN {tn : DA} {x : Str} {i : Nat} {pos' : Pos} (hN : X.N.Nodup) (he : PDN w X e tn) (hi : X.N[i]? = some x := by rfl) (hx : Loc X.env.scope x := by first | exact Or.inl rfl | exact Or.inr rfl) (hs : swapsWith e (some (.Name x pos')) pos.line X.env = pure false := by rfl)
    (hf : X.fn x = true ∨ X.env.scope.names.lookup x = some .local := by first | exact .inl rfl | exact .inr rfl | assumption) : PDS w X (.Assign [.Name x pos'] e pos) (sSetN i tn) := by
  obtain ⟨te, h1, h2⟩ := he
  refine ⟨_, ps_set hN hi hx h1 hs hf, ?_⟩
  intro G0 H0 B σ ρ H D E k ⟨G, s⟩ hd r
  refine h2 σ ρ G H _ _ (s.okw k) s.sl hd fun p xs ds G2 H2 s2 hp hg2 hl rv q => ?_
  have h0 : H0 p = none := by
    cases z : H0 p with
    | none => rfl
    | some u => exact absurd hp (s.stp.th p (by rw [z]; exact fun z => nomatch z))
  refine r.nx _ _ _ ⟨G2, (s.step k s2).setN hl hg2 h0 rv fun j es hj hσ => ?_⟩ q
  obtain ⟨a, ys, q1, q2, _⟩ := s.own j es hj
  rw [q1] at hσ
  have ea : a = p := by injection (Option.some.inj (Option.some.inj hσ))
  subst ea
  rw [hp] at q2; cases q2
/-! return, if -/
def sRet (td : DE) : DS := fun E ρ => td (full ρ) E.rt
theorem sd_ret (he : PD w X e td) : PDS w X (.Return (some e) pos) (sRet td) := by
  obtain ⟨te, h1, h2⟩ := he
  refine ⟨_, ps_ret h1, ?_⟩
  intro G0 H0 B σ ρ H D E k ⟨G, s⟩ hd r
  exact h2 σ (full ρ) _ H _ _ (s.fullStp.okw k) s.fullSl hd fun v d G2 H2 s2 rv p => r.rt v d G2 H2 (s.fullStp.trans s2) rv p
def sRetN : DS := fun E _ => E.rt .none
theorem sd_retN : PDS w X (.Return none pos) sRetN := ⟨_, ps_retN, fun G0 H0 B σ ρ H D E k ⟨G, s⟩ hd r => r.rt _ _ G H s.stp .non hd⟩
def sIf (tt : DT) (a b : DS) : DS := fun E ρ => tt (full ρ) fun c => if c = true then a E ρ else b E ρ
theorem sd_if {c : Expr} {a b : List Stmt} {tt : DT} (hc : PDT w X c tt) (ha : PDSs w X a ds) (hb : PDSs w X b es) : PDS w X (.If c a b pos) (sIf tt ds es) := by
  obtain ⟨tc, c1, c2⟩ := hc
  obtain ⟨t, a1, a2⟩ := ha
  obtain ⟨u, b1, b2⟩ := hb
  refine ⟨_, ps_if c1 a1 b1, ?_⟩
  intro G0 H0 B σ ρ H D E k ⟨G, s⟩ hd r
  refine c2 σ (full ρ) _ H _ _ (s.fullStp.okw k) s.fullSl hd fun v G2 H2 s2 p => ?_
  cases v with
  | true => exact a2 G0 H0 B σ ρ H2 D E k ⟨G, s.after k s2⟩ p r
  | false => exact b2 G0 H0 B σ ρ H2 D E k ⟨G, s.after k s2⟩ p r
/-! x.append(e), x.extend(e), x a name's own list -/
def sApp (i : Nat) (td : DE) : DS := fun E ρ => match ρ[i]? with
  | some (.own ds) => td ρ fun d => ds.length < 1000000 ∧ E.nx (ρ.set i (.own (ds ++ [d])))
  | _ => False
def sExt (i : Nat) (td : DE) : DS := fun E ρ => match ρ[i]? with
  | some (.own ds) => td ρ fun d => match d with
    | .list es => ds.length + es.length ≤ 1000000 ∧ E.nx (ρ.set i (.own (ds ++ es)))
    | _ => False
  | _ => False
theorem sd_app {x : Str} {i : Nat} {p1 p2 p3 : Pos} (hx : PE X (.Name x p1) (tVar i)) (he : PD w X e td) (hbase : attributeBase (.Name x p1) "append" X.env (eval (.Name x p1) X.env) = eval (.Name x p1) X.env := by rfl)
    (hfew : ((backTo p3 (starEach [e] X.env)).all (fun x => !x.1) && (backToKw p3 (keywordEach [] X.env)).all (fun x => x.1.isSome) && decide (([e] : List Expr).length + ([] : List Keyword).length + (if ([] : List Keyword).isEmpty then 0 else 1) < 30)) = true := by rfl)
    (hline : (p2.endLine == p3.line) = true := by rfl) (hs : starEach [e] X.env = (false, eval e X.env) :: starEach [] X.env := by rfl) (hplain : (backTo p3 (starEach [] X.env)).any (·.1) = false := by rfl)
    (hsw : swapsWith (.Call (.Attribute (.Name x p1) "append" p2) [e] [] p3) none pos.line X.env = pure false := by rfl) : PDS w X (.Expr (.Call (.Attribute (.Name x p1) "append" p2) [e] [] p3) pos) (sApp i td) := by
  obtain ⟨te, h1, h2⟩ := he
  refine ⟨_, ps_expr (pe_bm PySem.F.plainAttrs_list PySem.F.slot_list_append PySem.F.type_list_append mt_append hx (pa_cons h1 pa_nil hs) hbase hfew hline hs hplain) hsw, ?_⟩
  intro G0 H0 B σ ρ H D E k ⟨G, s⟩ hd r
  unfold sApp at hd
  split at hd
  · rename_i ds hi
    obtain ⟨a, xs, q1, q2, q3, q4, q5⟩ := s.own i ds hi
    refine ⟨_, q1, .inl ⟨rfl, xs, SqL.of q2⟩, ?_⟩
    refine h2 σ ρ G H _ _ (s.okw k) s.sl hd fun v d G2 H2 s2 rv p => ?_
    have s' := s.step k s2
    have z : H2 a = some (.lst xs) := s2.kp a _ (fun z => k.here a (w.sf a z) q5) q2
    have hg : G2 a = none := s2.nw a (by rw [q2]; exact fun z => nomatch z) q4
    have q3' := q3.mono s2.up
    exact ⟨a, xs, v, rfl, rfl, z, line_lt (by rw [q3'.len]; exact p.1), r.nx _ _ _ ⟨G2, s'.mut k hi q1 hg q5 (q3'.append (.cons rv .nil))⟩ p.2⟩
  · exact hd.elim
theorem sd_ext {x : Str} {i : Nat} {p1 p2 p3 : Pos} (hx : PE X (.Name x p1) (tVar i)) (he : PD w X e td) (hbase : attributeBase (.Name x p1) "extend" X.env (eval (.Name x p1) X.env) = eval (.Name x p1) X.env := by rfl)
    (hfew : ((backTo p3 (starEach [e] X.env)).all (fun x => !x.1) && (backToKw p3 (keywordEach [] X.env)).all (fun x => x.1.isSome) && decide (([e] : List Expr).length + ([] : List Keyword).length + (if ([] : List Keyword).isEmpty then 0 else 1) < 30)) = true := by rfl)
    (hline : (p2.endLine == p3.line) = true := by rfl) (hs : starEach [e] X.env = (false, eval e X.env) :: starEach [] X.env := by rfl) (hplain : (backTo p3 (starEach [] X.env)).any (·.1) = false := by rfl)
    (hsw : swapsWith (.Call (.Attribute (.Name x p1) "extend" p2) [e] [] p3) none pos.line X.env = pure false := by rfl) : PDS w X (.Expr (.Call (.Attribute (.Name x p1) "extend" p2) [e] [] p3) pos) (sExt i td) := by
  obtain ⟨te, h1, h2⟩ := he
  refine ⟨_, ps_expr (pe_bm PySem.F.plainAttrs_list PySem.F.slot_list_extend PySem.F.type_list_extend mt_extend hx (pa_cons h1 pa_nil hs) hbase hfew hline hs hplain) hsw, ?_⟩
  intro G0 H0 B σ ρ H D E k ⟨G, s⟩ hd r
  unfold sExt at hd
  split at hd
  · rename_i ds hi
    obtain ⟨a, xs, q1, q2, q3, q4, q5⟩ := s.own i ds hi
    refine ⟨_, q1, .inl ⟨rfl, xs, SqL.of q2⟩, ?_⟩
    refine h2 σ ρ G H _ _ (s.okw k) s.sl hd fun v d G2 H2 s2 rv p => ?_
    have s' := s.step k s2
    have z : H2 a = some (.lst xs) := s2.kp a _ (fun z => k.here a (w.sf a z) q5) q2
    have hg : G2 a = none := s2.nw a (by rw [q2]; exact fun z => nomatch z) q4
    have q3' := q3.mono s2.up
    cases rv with
    | @lst b ys fs t1 r1 => exact ⟨a, b, xs, ys, rfl, rfl, z, s2.sub _ _ t1, line_le (by rw [q3'.len, r1.len]; exact p.1), r.nx _ _ _ ⟨G2, s'.mut k hi q1 hg q5 (q3'.append r1)⟩ p.2⟩
    | _ => exact p.elim
  · exact hd.elim
end
end Z

set_option Elab.async false
set_option linter.all false
set_option maxRecDepth 100000
set_option maxHeartbeats 4000000
namespace Z
open PySem PySem.Spec PyProof.Rows L2
/-! targets -/
abbrev DG := DD → En → (En → Prop) → Prop
abbrev DGs := List DD → En → (En → Prop) → Prop
def RG (w : Wd) (K : PySem.W.Frag) (g : TG) (gd : DG) : Prop := ∀ G0 H0 B σ ρ H G x d (k : En → Prop) (Q : L2.St → Hp → Prop), SOk w K G0 H0 B σ ρ H G → Rp K G x d → gd d ρ k → (∀ σ' ρ' H', SPo w K G0 H0 B ρ' σ' H' → k ρ' → Q σ' H') → g x σ H Q
def RGs (w : Wd) (K : PySem.W.Frag) (g : TGs) (gd : DGs) : Prop := ∀ G0 H0 B σ ρ H G xs ds (k : En → Prop) (Q : L2.St → Hp → Prop), SOk w K G0 H0 B σ ρ H G → RpAll K G xs ds → gd ds ρ k → (∀ σ' ρ' H', SPo w K G0 H0 B ρ' σ' H' → k ρ' → Q σ' H') → g xs σ H Q
structure PDG (w : Wd) (X : Cx) (tg : Expr) (gd : DG) : Prop where
  ex : ∃ g, PG X tg g ∧ RG w X.K g gd
structure PDGs (w : Wd) (X : Cx) (tgs : List Expr) (gd : DGs) : Prop where
  ex : ∃ g, PGs X tgs g ∧ RGs w X.K g gd
def tN (i : Nat) : DG := fun d ρ k => k (ρ.set i (.dat d))
def tNil : DGs := fun ds ρ k => ds = [] ∧ k ρ
/-- the further targets are names, too -/
def tNs : List Nat → DGs
  | [] => fun ds ρ k => match ds with
    | [] => k ρ
    | _ => False
  | i :: is => fun ds ρ k => match ds with
    | d :: r => tNs is r (ρ.set i (.dat d)) k
    | _ => False
def tT (is : List Nat) : DG := fun d ρ k => match d with
  | .tuple ds => tNs is ds ρ k
  | _ => False
section
variable {w : Wd} {X : Cx} {pos : Pos} {e tg : Expr} {es : List Expr} {td : DE}
theorem rg_name {K : PySem.W.Frag} {i : Nat} : RG w K (gName i) (tN i) := fun G0 H0 B σ ρ H G x d k Q s r h q => q _ _ _ ⟨G, s.set r⟩ h
theorem dg_n {i : Nat} {x : Str} (hN : X.N.Nodup) (hi : X.N[i]? = some x := by rfl) (hx : Loc X.env.scope x := by first | exact Or.inl rfl | exact Or.inr rfl) (hf : X.fn x = true ∨ X.env.scope.names.lookup x = some .local := by first | exact .inl rfl | exact .inr rfl | assumption) : PDG w X (.Name x pos) (tN i) :=
  ⟨_, pg_name hN hi hx hf, rg_name⟩
theorem dgs_nil : PDGs w X [] (tNs []) := by
  refine ⟨_, pgs_nil, fun G0 H0 B σ ρ H G xs ds k Q s r h q => ?_⟩
  cases r with
  | nil => exact ⟨rfl, q _ _ _ ⟨G, s⟩ h⟩
  | cons _ _ => exact h.elim
theorem dgs_n {i : Nat} {is : List Nat} {x : Str} {rest : List Expr} (hN : X.N.Nodup) (hr : PDGs w X rest (tNs is)) (hi : X.N[i]? = some x := by rfl) (hx : Loc X.env.scope x := by first | exact Or.inl rfl | exact Or.inr rfl)
    (hf : X.fn x = true ∨ X.env.scope.names.lookup x = some .local := by first | exact .inl rfl | exact .inr rfl | assumption) (hs : (assignEach (.Name x pos :: rest) X.env).map (·.2) = assign (.Name x pos) X.env :: (assignEach rest X.env).map (·.2) := by rfl) : PDGs w X (.Name x pos :: rest) (tNs (i :: is)) := by
  obtain ⟨g, h1, h2⟩ := hr
  refine ⟨_, pgs_cons (pg_name hN hi hx hf) h1 hs, fun G0 H0 B σ ρ H G xs ds k Q s r h q => ?_⟩
  cases r with
  | nil => exact h.elim
  | cons ra rb => exact ⟨_, _, rfl, h2 G0 H0 B _ _ H G _ _ k Q (s.set ra) rb h q⟩
theorem dg_t {is : List Nat} {kx : Nat} (hr : PDGs w X es (tNs is)) (hl : es.length = is.length := by rfl) (hc : X.calm = true := by rfl) (hn : (assignEach es X.env).length = es.length := by rfl) (hst : (assignEach es X.env).findIdx? (·.1) = none := by rfl) : PDG w X (.Tuple es kx pos) (tT is) := by
  obtain ⟨g, h1, h2⟩ := hr
  refine ⟨_, pg_tup hc h1 hn hst, fun G0 H0 B σ ρ H G x d k Q s r h q => ?_⟩
  cases r with
  | @tup a xs ds t1 r1 =>
    have len : ∀ (is : List Nat) (ds : List DD) ρ, tNs is ds ρ k → ds.length = is.length := fun is => by
      induction is with
      | nil => intro ds ρ h; cases ds with
        | nil => rfl
        | cons _ _ => exact h.elim
      | cons i is ih => intro ds ρ h; cases ds with
        | nil => exact h.elim
        | cons d ds => exact congrArg (· + 1) (ih ds _ h)
    exact ⟨a, xs, rfl, s.stp.sub.sqT t1, by rw [r1.len, len is ds ρ h, hl], h2 G0 H0 B σ ρ H G xs ds k Q s r1 h q⟩
  | _ => exact h.elim
/-! target = e -/
def sAsg (td : DE) (gd : DG) : DS := fun E ρ => td ρ fun d => gd d ρ E.nx
theorem sd_asg {gd : DG} (he : PD w X e td) (hg : PDG w X tg gd) (hs : swapsWithSole [tg] e pos.line X.env = pure false := by rfl) (hw : swappedStores [tg] e X.env = pure none := by rfl)
    (h1 : (assignEach [tg] X.env).map (·.2) = [assign tg X.env] := by rfl) : PDS w X (.Assign [tg] e pos) (sAsg td gd) := by
  obtain ⟨te, e1, e2⟩ := he
  obtain ⟨g, g1, g2⟩ := hg
  refine ⟨_, ps_asg e1 g1 hs hw h1, ?_⟩
  intro G0 H0 B σ ρ H D E k ⟨G, s⟩ hd r
  refine e2 σ ρ G H _ _ (s.okw k) s.sl hd fun v d G2 H2 s2 rv p => ?_
  exact g2 G0 H0 B σ ρ H2 G2 v d _ _ (s.step k s2) rv p r.nx
/-- x = [.. for ..] where the comprehension stores by itself -/
theorem sd_lc {elt iter : Expr} {ifs : List Expr} {scope : Scope} {x y : Str} {i j : Nat} {lpos py : Pos} {ti : DA} {tt : DT} (hN : X.N.Nodup) (hyl : X.env.scope.names.lookup y = some .local) (ok : BlkOk X.N X.env.scope scope [(x, j)]) (hi : PDI w X tg iter ti)
    (hg : ∀ (s : Shared) (H : Hp) (C : Addr) (cl : List (Str × Addr)) (fp : List Addr), PG (X.blk s H scope (compEnvC scope cl C X.env) fp) tg (gName j))
    (ht : ∀ (s : Shared) (H : Hp) (C : Addr) (cl : List (Str × Addr)) (fp : List Addr), PDTs w (X.blk s H scope (compEnvC scope cl C X.env) fp) ifs tt)
    (he : ∀ (s : Shared) (H : Hp) (C : Addr) (cl : List (Str × Addr)) (fp : List Addr), PD w (X.blk s H scope (compEnvC scope cl C X.env) fp) elt td)
    (hsw : swapsWith (.ListComp elt [⟨tg, iter, ifs, 0⟩] scope lpos) (some (.Name y py)) pos.line X.env = pure true)
    (hy : X.N[i]? = some y := by rfl) (hc : X.calm = true := by rfl) (hs : ∀ x, foldedSetIterable iter X.env x = pure x := by intro _; rfl) : PDS w X (.Assign [.Name y py] (.ListComp elt [⟨tg, iter, ifs, 0⟩] scope lpos) pos) (sSet i (dLc ti j tt td)) := by
  obtain ⟨wi, i1, i2⟩ := hi
  exact ⟨_, ps_setLc (own := [(x, j)]) hc hN hy hyl hsw i1 ok hg (fun s H C cl fp => (ht s H C cl fp).can) (fun s H C cl fp => (he s H C cl fp).can) hs, rs_set (re_lc i2)⟩
/-! x += int -/
def sAug (i : Nat) (td : DE) : DS := fun E ρ => match ρ[i]? with
  | some (.dat (.int a)) => td ρ fun d => match d with
    | .int b => E.nx (ρ.set i (.dat (.int (a + b))))
    | _ => False
  | _ => False
theorem sd_aug {i : Nat} {x : Str} {pos' : Pos} (hN : X.N.Nodup) (he : PD w X e td) (hi : X.N[i]? = some x := by rfl) (hx : Loc X.env.scope x := by first | exact Or.inl rfl | exact Or.inr rfl) (hf : X.fn x = true ∨ X.env.scope.names.lookup x = some .local := by first | exact .inl rfl | exact .inr rfl | assumption) :
    PDS w X (.AugAssign (.Name x pos') .Add e pos) (sAug i td) := by
  obtain ⟨te, e1, e2⟩ := he
  refine ⟨_, ps_aug hN hi hx e1 ip_add hf, ?_⟩
  intro G0 H0 B σ ρ H D E k ⟨G, s⟩ hd r
  unfold sAug at hd
  split at hd
  · rename_i a ha
    obtain ⟨v, q1, q2⟩ := s.sl.dat i _ ha
    cases q2
    refine ⟨_, q1, ?_⟩
    refine e2 σ ρ G H _ _ (s.okw k) s.sl hd fun v d G2 H2 s2 rv p => ?_
    cases rv with
    | int b => exact ⟨a, b, rfl, rfl, r.nx _ _ _ ⟨G2, (s.step k s2).set (.int _)⟩ p⟩
    | _ => exact p.elim
  · exact hd.elim
/-! loops -/
def loop (gd : DG) (sb : DS) (E : DEn) : List DD → En → Prop
  | [] => E.nx
  | x :: xs => fun ρ => gd x ρ fun ρ1 => sb ⟨loop gd sb E xs, E.rt, E.nx, loop gd sb E xs⟩ ρ1
def sFor (ti : DA) (gd : DG) (sb : DS) : DS := fun E ρ => ti ρ fun items => loop gd sb E items ρ
theorem SOk.lower {K : PySem.W.Frag} {G0 H0 B B' : Hp} {σ : L2.St} {ρ : En} {H G : Hp} (s : SOk w K G0 H0 B' σ ρ H G) (h : Sub B B') : SOk w K G0 H0 B σ ρ H G := ⟨s.stp, h.trans s.lb, s.sl, s.own, s.sep⟩
theorem rs_for {K : PySem.W.Frag} {wi : TI} {g : TG} {tb : TS} {ti : DA} {gd : DG} {sb : DS} (hi : RI w K wi ti) (hg : RG w K g gd) (hb : RS w K tb sb) : RS w K (tFor wi g tb) (sFor ti gd sb) := by
  intro G0 H0 B σ ρ H D E k ⟨G, s⟩ hd r
  refine hi σ ρ G H _ _ (s.okw k) s.sl hd fun J items G2 H2 s2 wk p => ?_
  have s' := s.step k s2
  have lbB : Sub B G2 := s'.lb
  obtain ⟨Y, wlk, hy⟩ := wk
  refine for_it wlk (fun i σ' H' => ∃ ρ', SPo w K G0 H0 G2 ρ' σ' H' ∧ loop gd sb E (items.drop i) ρ') ?_ ?_ ?_ ?_
  · exact ⟨ρ, ⟨G2, s'.stp, Sub.rfl, s'.sl, s'.own, s'.sep⟩, p⟩
  · rintro i σ' H' _ ⟨ρ', ⟨G', s1⟩, _⟩
    exact s1.lb.trans s1.stp.sub
  · rintro i x σ' H' H'' hlt ⟨ρ', ⟨G', s1⟩, hl⟩ y
    obtain ⟨d, hd, alt⟩ := hy i H' x H'' y
    have hdr : items.drop i = d :: items.drop (i + 1) := by
      obtain ⟨h1, h2⟩ := List.getElem?_eq_some_iff.mp hd
      rw [List.drop_eq_getElem_cons h1, h2]
    rw [hdr] at hl
    obtain ⟨G3, s3, rx⟩ : ∃ G3, SOk w K G0 H0 G2 σ' ρ' H'' G3 ∧ Rp K G3 x d := by
      rcases alt with ⟨rfl, rx⟩ | ⟨pp, xs, es, hp, rfl, rfl, rx, rfl⟩
      · exact ⟨G', s1, rx.mono s1.lb⟩
      · have k1 := s1.okw k
        have sn := Stp.new (w := w) (o := .tup xs) k1 hp
        exact ⟨_, s1.step k sn, .tup (SqT.of upd_same) ((rx.mono s1.lb).mono sn.up)⟩
    refine hg G0 H0 G2 σ' ρ' H'' G3 x d _ _ s3 rx hl fun σ4 ρ4 H4 s4 h4 => ?_
    refine hb G0 H0 G2 σ4 ρ4 H4 _ _ k s4 h4 ⟨fun σ5 ρ5 H5 s5 h5 => ⟨ρ5, s5, h5⟩, r.rt, fun σ5 ρ5 H5 s5 h5 => ?_, fun σ5 ρ5 H5 s5 h5 => ⟨ρ5, s5, h5⟩⟩
    obtain ⟨G5, s5⟩ := s5
    exact r.nx _ _ _ ⟨G5, s5.lower lbB⟩ h5
  · rintro σ' H' ⟨ρ', ⟨G', s1⟩, hl⟩
    rw [List.drop_length] at hl
    exact r.nx _ _ _ ⟨G', s1.lower lbB⟩ hl
theorem sd_for {iter : Expr} {body : List Stmt} {ti : DA} {gd : DG} {sb : DS} (hi : PDI w X tg iter ti) (hg : PDG w X tg gd) (hb : PDSs w X body sb) (hp : PassesOwn (model X.prog X.w) X.A X.env X.xe := by exact PassesOwn.never) (hc : X.calm = true := by rfl)
    (hs : ∀ x, foldedSetIterable iter X.env x = pure x := by intro _; rfl) : PDS w X (.For tg iter body [] pos) (sFor ti gd sb) := by
  obtain ⟨wi, i1, i2⟩ := hi
  obtain ⟨g, g1, g2⟩ := hg
  obtain ⟨tb, b1, b2⟩ := hb
  exact ⟨_, ps_for hp hc i1 g1 b1 hs, rs_for i2 g2 b2⟩
/-- at most n turns -/
def turns (tt : DT) (sb : DS) (E : DEn) : Nat → En → Prop
  | 0 => fun _ => False
  | n + 1 => fun ρ => tt (full ρ) fun c => if c = true then sb ⟨turns tt sb E n, E.rt, E.nx, turns tt sb E n⟩ ρ else E.nx ρ
def sWh (tt : DT) (sb : DS) : DS := fun E ρ => ∃ n, turns tt sb E n ρ
theorem sd_wh {c : Expr} {body : List Stmt} {tt : DT} {sb : DS} (ht : PDT w X c tt) (hb : PDSs w X body sb) (hp : PassesOwn (model X.prog X.w) X.A X.env X.xe := by exact PassesOwn.never) : PDS w X (.While c body [] pos) (sWh tt sb) := by
  obtain ⟨tc, c1, c2⟩ := ht
  obtain ⟨tb, b1, b2⟩ := hb
  refine ⟨_, ps_while hp c1 b1, ?_⟩
  intro G0 H0 B σ ρ H D E k s ⟨n, hn⟩ r
  refine ⟨fun m σ' H' => ∃ ρ', SPo w X.K G0 H0 B ρ' σ' H' ∧ turns tt sb E m ρ', ⟨n, ρ, s, hn⟩, fun m σ' H' ⟨ρ', ⟨G', s1⟩, ht⟩ => ?_⟩
  cases m with
  | zero => exact ht.elim
  | succ m =>
    refine c2 σ' (full ρ') _ H' _ _ (s1.fullStp.okw k) s1.fullSl ht fun b G2 H2 s2 p => ?_
    have s3 : SPo w X.K G0 H0 B ρ' σ' H2 := ⟨G', s1.after k s2⟩
    cases b with
    | false => exact r.nx _ _ _ s3 p
    | true =>
      refine ⟨fun σ4 H4 => ∃ ρ4, SPo w X.K G0 H0 B ρ4 σ4 H4 ∧ turns tt sb E m ρ4, fun σ4 H4 h4 => ⟨m, Nat.lt_succ_self m, h4⟩, ?_⟩
      exact b2 G0 H0 B σ' ρ' H2 _ _ k s3 p ⟨fun σ5 ρ5 H5 s5 h5 => ⟨ρ5, s5, h5⟩, r.rt, fun σ5 ρ5 H5 s5 h5 => r.nx _ _ _ s5 h5, fun σ5 ρ5 H5 s5 h5 => ⟨ρ5, s5, h5⟩⟩
end
/-! ### a def -/
def startD (N : List Str) (ds : List DD) : En := ds.map Ent.dat ++ List.replicate (N.length - ds.length) Ent.un
theorem sl_start {K : PySem.W.Frag} {G : Hp} {N : List Str} {vs : List V} {ds : List DD} (r : RpAll K G vs ds) : SlOk K G (start N vs) (startD N ds) := by
  have hl := r.len
  refine ⟨by simp [L2.start, startD, hl], fun i d h => ?_, fun i a h => ?_⟩
  · unfold startD at h
    by_cases hi : i < ds.length
    · rw [List.getElem?_append_left (by simpa using hi), List.getElem?_map] at h
      cases e : ds[i]? with
      | none => rw [e] at h; cases h
      | some d' =>
        rw [e] at h
        have ed : d' = d := by injection (Option.some.inj h)
        subst ed
        obtain ⟨v, hv, rv⟩ := r.getD e
        refine ⟨v, ?_, rv⟩
        unfold L2.start
        rw [List.getElem?_append_left (by rw [List.length_map, hl]; exact hi), List.getElem?_map, hv]
        rfl
    · rw [List.getElem?_append_right (by simpa using Nat.le_of_not_lt hi)] at h
      rw [List.getElem?_replicate] at h
      split at h <;> cases h
  · unfold startD at h
    by_cases hi : i < ds.length
    · rw [List.getElem?_append_left (by simpa using hi), List.getElem?_map] at h
      cases e : ds[i]? with
      | none => rw [e] at h; cases h
      | some d' => rw [e] at h; cases h
    · rw [List.getElem?_append_right (by simpa using Nat.le_of_not_lt hi)] at h
      rw [List.getElem?_replicate] at h
      split at h <;> cases h
def endsD (P : DD → Prop) : DEn := ⟨fun _ => P .none, P, fun _ => False, fun _ => False⟩
section
variable {P : Program} {wd : World} {K : PySem.W.Frag} {mg : Str → Option Value} {base : Heap} {x qual : Str} {st : Stmt} {f : Addr} {fd : FuncData} {N ps : List Str} {k : Nat} {F : D1} {sd : DS}
/-- THE RULE for a pure def: its body's meaning, and that it does what F says -/
theorem fn_pure (Fn : Fun K x qual st f fd) (S : FnScope N ps (defScope st))
    (body : ∀ (cdv : Value) (A : Around) (outer : List Env) (s : Shared) (H : Hp) (E : XK), Room k (A.deeper (envOfC qual (defScope st) s.heap.objs.size f cdv)) → PDSs Wd.zero (cxOf CX0 P wd K mg base N qual (defScope st) f cdv A outer s H E).nox (defBody st) sd)
    (hF : ∀ ds Q, F ds Q → ds.length = ps.length ∧ sd (endsD Q) (startD N ds)) : FnOk P wd K mg base CX0 (k + 1) f fd ps (spD K F) := by
  refine Fn.ok S (fun vs H Q E h => ?_) (fun cdv A outer s H vs Q E hr h => ?_)
  · obtain ⟨G, ds, P', hs, r, hf, _⟩ := h
    rw [r.len]; exact (hF ds P' hf).1
  · obtain ⟨G, ds, P', hs, r, hf, q⟩ := h
    obtain ⟨ts, t1, t2⟩ := body cdv A outer s H E hr
    refine ⟨ts, t1, ?_⟩
    have k0 : Okw Wd.zero G H := ⟨hs, trivial, fun _ h => h.elim, fun _ h => h.elim⟩
    have nown : ∀ (i : Nat) es, (startD N ds)[i]? ≠ some (.own es) := fun i es h => by
      have z : Ent.own es ∈ startD N ds := List.mem_of_getElem? h
      unfold startD at z
      rcases List.mem_append.mp z with z | z
      · obtain ⟨d, _, e⟩ := List.mem_map.mp z
        cases e
      · rw [List.mem_replicate] at z
        cases z.2
    refine t2 G H G (start N vs) (startD N ds) H _ (endsD P') k0 ⟨G, k0.stp, Sub.rfl, sl_start r, fun i es h => absurd h (nown i es), fun i j es _ a h => absurd h (nown i es)⟩ (hF ds P' hf).2 ⟨fun σ ρ H' s' h' => ?_, fun v d G' H' s' r' h' => q v d G' H' s' r' h', fun _ _ _ _ h' => h'.elim, fun _ _ _ _ h' => h'.elim⟩
    obtain ⟨G', s'⟩ := s'
    exact q _ _ G' H' s'.stp .non h'
end
end Z

set_option Elab.async false
set_option linter.all false
set_option maxRecDepth 100000
set_option maxHeartbeats 4000000
namespace Z
open PySem PySem.Spec PyProof.Rows L2
/-! ### a name's own list: made by a comprehension, written by place, given up -/
section
variable {w : Wd} {X : Cx} {st : Stmt} {rest : List Stmt} {ds es : DS} {e : Expr} {td : DE} {pos : Pos}
def compN (ρ : En) (j : Nat) (tt : DT) (td : DE) (items : List DD) (P : List DD → Prop) : Prop := comp ρ j tt td items [] fun d => match d with
  | .list ds => P ds
  | _ => False
def dLcN (ti : DA) (j : Nat) (tt : DT) (td : DE) : DA := fun ρ P => ti ρ fun items => compN ρ j tt td items P
/-- any reading of a value that is a list that nobody knows may be its owner's -/
theorem rn_lc {wi : TI} {ti : DA} {j : Nat} {tt : DT} {td : DE} (hi : RI w X.K wi ti) : RN w X.K (tLc wi (gName j) (ttOf w X.K tt) (teOf w X.K td) [j]) (dLcN ti j tt td) := by
  intro σ ρ G H P Q k s h q
  refine hi σ ρ G H _ _ k s h fun J items G1 H1 s1 wk p1 D hD => ?_
  have k1 := s1.okw k
  obtain ⟨Y, wlk, hy⟩ := wk
  refine lc_it wlk (fun i H' => ∃ G' acc ds, Stp w G1 H1 G' H' ∧ H' D = some (.lst acc) ∧ G' D = none ∧ RpAll X.K G' acc ds ∧ comp ρ j tt td (items.drop i) ds fun d => match d with
    | .list ds => P ds
    | _ => False) ?_ ?_ ?_ ?_
  · exact ⟨G1, [], [], Stp.new0 k1 hD, upd_same, k1.g_none hD, .nil, p1⟩
  · rintro i H' _ ⟨G', acc, ds, s2, _⟩
    exact s2.up.trans s2.sub
  · rintro i x H' H'' hlt ⟨G', acc, ds, s2, hacc, hgD, ra, hc⟩ y
    obtain ⟨d, hd, alt⟩ := hy i H' x H'' y
    have hdr : items.drop i = d :: items.drop (i + 1) := by
      obtain ⟨h1, h2⟩ := List.getElem?_eq_some_iff.mp hd
      rw [List.drop_eq_getElem_cons h1, h2]
    rw [hdr] at hc
    show wipe ((wipe σ [j]).set j (some x)) [j] = wipe σ [j] ∧ _
    refine ⟨by show (((σ.set j none).set j (some x)).set j none) = σ.set j none; rw [List.set_set, List.set_set], ?_⟩
    have e1 : (wipe σ [j]).set j (some x) = σ.set j (some x) := set_set_none
    rw [e1]
    obtain ⟨G3, s3, rx, hacc3, hgD3⟩ : ∃ G3, Stp w G1 H1 G3 H'' ∧ Rp X.K G3 x d ∧ H'' D = some (.lst acc) ∧ G3 D = none ∧ Sub G' G3 := by
      have k2 := s2.okw k1
      rcases alt with ⟨rfl, rx⟩ | ⟨p, xs, es, hp, rfl, rfl, rx, rfl⟩
      · exact ⟨G', s2, rx.mono s2.up, hacc, hgD, Sub.rfl⟩
      · have sn := Stp.new (w := w) (o := .tup xs) k2 hp
        have ne : D ≠ p := ne_of_none hacc hp
        exact ⟨_, s2.trans sn, .tup (SqT.of upd_same) ((rx.mono s2.up).mono (Sub.new (k2.g_none hp))), by rw [upd_ne ne]; exact hacc, by rw [upd_ne ne]; exact hgD, sn.up⟩
    obtain ⟨hgD3, u3⟩ := hgD3
    have k3 := s3.okw k1
    have sl3 : SlOk X.K G3 (σ.set j (some x)) (ρ.set j (.dat d)) := (s.mono (s1.up.trans s3.up)).set rx
    refine ⟨_, G3, _, k3, sl3, hc, fun b G4 H4 s4 hb => ?_⟩
    have k4 := s4.okw k3
    have hst : ¬ w.st D := fun z => k1.here D (w.sf D z) hD
    have hacc4 : H4 D = some (.lst acc) := s4.kp D _ hst hacc3
    have hgD4 : G4 D = none := s4.nw D (by rw [hacc3]; exact fun z => nomatch z) hgD3
    cases b with
    | false =>
      rw [if_neg Bool.false_ne_true] at hb
      show ∃ G' acc ds, _
      exact ⟨G4, acc, ds, s3.trans s4, hacc4, hgD4, (ra.mono u3).mono s4.up, hb⟩
    | true =>
      rw [if_pos rfl] at hb
      show teOf w X.K td (List.set σ j (some x)) H4 _
      refine ⟨_, G4, _, k4, sl3.mono s4.up, hb, fun v e G5 H5 s5 re hp => ?_⟩
      have hacc5 : H5 D = some (.lst acc) := s5.kp D _ hst hacc4
      have hgD5 : G5 D = none := s5.nw D (by rw [hacc4]; exact fun z => nomatch z) hgD4
      have ra5 := ((ra.mono u3).mono s4.up).mono s5.up
      exact ⟨acc, hacc5, line_lt (by rw [ra5.len]; exact hp.1), G5, acc ++ [v], ds ++ [e], ((s3.trans s4).trans s5).mut k1 hD hgD5, upd_same, hgD5, ra5.append (.cons re .nil), hp.2⟩
  · rintro H' ⟨G', acc, ds, s2, hacc, hgD, ra, hc⟩
    rw [List.drop_length] at hc
    have hD0 : H D = none := by
      cases z : H D with
      | none => rfl
      | some u => exact absurd hD (s1.th D (by rw [z]; exact fun z => nomatch z))
    exact q D acc ds G' H' (s1.trans s2) hD0 hgD hacc ra hc
theorem sd_lcN {elt iter tg : Expr} {ifs : List Expr} {scope : Scope} {x y : Str} {i j : Nat} {lpos py : Pos} {ti : DA} {tt : DT} (hN : X.N.Nodup) (hyl : X.env.scope.names.lookup y = some .local) (ok : BlkOk X.N X.env.scope scope [(x, j)]) (hi : PDI w X tg iter ti)
    (hg : ∀ (s : Shared) (H : Hp) (C : Addr) (cl : List (Str × Addr)) (fp : List Addr), PG (X.blk s H scope (compEnvC scope cl C X.env) fp) tg (gName j))
    (ht : ∀ (s : Shared) (H : Hp) (C : Addr) (cl : List (Str × Addr)) (fp : List Addr), PDTs w (X.blk s H scope (compEnvC scope cl C X.env) fp) ifs tt)
    (he : ∀ (s : Shared) (H : Hp) (C : Addr) (cl : List (Str × Addr)) (fp : List Addr), PD w (X.blk s H scope (compEnvC scope cl C X.env) fp) elt td)
    (hsw : swapsWith (.ListComp elt [⟨tg, iter, ifs, 0⟩] scope lpos) (some (.Name y py)) pos.line X.env = pure true)
    (hy : X.N[i]? = some y := by rfl) (hc : X.calm = true := by rfl) (hs : ∀ x, foldedSetIterable iter X.env x = pure x := by intro _; rfl) : PDS w X (.Assign [.Name y py] (.ListComp elt [⟨tg, iter, ifs, 0⟩] scope lpos) pos) (sSetN i (dLcN ti j tt td)) := by
  obtain ⟨wi, i1, i2⟩ := hi
  refine ⟨_, ps_setLc (own := [(x, j)]) (tt := ttOf w X.K tt) (te := teOf w X.K td) hc hN hy hyl hsw i1 ok hg (fun s H C cl fp => (ht s H C cl fp).can) (fun s H C cl fp => (he s H C cl fp).can) hs, ?_⟩
  intro G0 H0 B σ ρ H D E k ⟨G, s⟩ hd r
  refine rn_lc i2 σ ρ G H _ _ (s.okw k) s.sl hd fun p xs ds G2 H2 s2 hp hg2 hl rv q => ?_
  have h0 : H0 p = none := by
    cases z : H0 p with
    | none => rfl
    | some u => exact absurd hp (s.stp.th p (by rw [z]; exact fun z => nomatch z))
  refine r.nx _ _ _ ⟨G2, (s.step k s2).setN hl hg2 h0 rv fun j es hj hσ => ?_⟩ q
  obtain ⟨a, ys, q1, q2, _⟩ := s.own j es hj
  rw [q1] at hσ
  have ea : a = p := by injection (Option.some.inj (Option.some.inj hσ))
  subst ea
  rw [hp] at q2; cases q2
/-- x[n] = e, x a name's own list -/
def sPut (i : Nat) (tn td : DE) : DS := fun E ρ => match ρ[i]? with
  | some (.own ds) => td (full ρ) fun d => tn ρ fun n => match n with
    | .int n => match ixN ds.length n with
      | some j => E.nx (ρ.set i (.own (ds.set j d)))
      | none => False
    | _ => False
  | _ => False
/-- a name gives its list up: from now on it is data -/
def sFrz (i : Nat) (ds : DS) : DS := fun E ρ => match ρ[i]? with
  | some (.own es) => ds E (ρ.set i (.dat (.list es)))
  | _ => False
theorem SOk.frz {K : PySem.W.Frag} {G0 H0 B G H : Hp} {σ : L2.St} {ρ : En} (k0 : Okw w G0 H0) (s : SOk w K G0 H0 B σ ρ H G) {i : Nat} {ds : List DD} (hi : ρ[i]? = some (.own ds)) : SPo w K G0 H0 B (ρ.set i (.dat (.list ds))) σ H := by
  obtain ⟨a, xs, q1, q2, q3, q4, q5⟩ := s.own i ds hi
  have hl : i < ρ.length := (List.getElem?_eq_some_iff.mp hi).1
  have up : Sub G (upd G a (.lst xs)) := Sub.new q4
  refine ⟨upd G a (.lst xs), ⟨fun b o e => ?_, s.stp.up.trans up, s.stp.kp, s.stp.th, fun b h1 h2 => ?_, s.stp.wd⟩, s.lb.trans up, ⟨by rw [List.length_set]; exact s.sl.len, fun j d h => ?_, fun j b h => ?_⟩, fun j es h => ?_, fun j m es fs b h1 h2 h3 h4 => ?_⟩
  · by_cases z : b = a
    · subst z; rw [upd_same] at e; rw [q2]; exact e
    · rw [upd_ne z] at e; exact s.stp.sub b o e
  · rw [upd_ne (fun z => h1 (by rw [z]; exact q5))]; exact s.stp.nw b h1 h2
  · rcases set_some h with ⟨rfl, z, _⟩ | ⟨ne, z⟩
    · have ed : PyData.list ds = d := by injection z
      subst ed
      exact ⟨_, q1, .lst upd_same (q3.mono up)⟩
    · obtain ⟨v, r1, r2⟩ := s.sl.dat j d z
      exact ⟨v, r1, r2.mono up⟩
  · rcases set_some h with ⟨rfl, z, _⟩ | ⟨ne, z⟩
    · cases z
    · exact s.sl.adr j b z
  · rcases set_some h with ⟨rfl, z, _⟩ | ⟨ne, z⟩
    · cases z
    · obtain ⟨b, ys, r1, r2, r3, r4, r5⟩ := s.own j es z
      have nb : b ≠ a := fun e => ne (s.sep i j ds es a hi z q1 (by rw [r1, e]))
      exact ⟨b, ys, r1, r2, r3.mono up, by rw [upd_ne nb]; exact r4, r5⟩
  · rcases set_some h1 with ⟨rfl, z, _⟩ | ⟨_, z1⟩
    · cases z
    · rcases set_some h2 with ⟨rfl, z, _⟩ | ⟨_, z2⟩
      · cases z
      · exact s.sep j m es fs b z1 z2 h3 h4
theorem sds_frz (i : Nat) (h : PDSs w X rest es) : PDSs w X rest (sFrz i es) := by
  obtain ⟨ts, h1, h2⟩ := h
  refine ⟨ts, h1, fun G0 H0 B σ ρ H D E k ⟨G, s⟩ hd r => ?_⟩
  unfold sFrz at hd
  split at hd
  · rename_i es' hi
    exact h2 G0 H0 B σ _ H D E k (s.frz k hi) hd r
  · exact hd.elim
end
/-! ### the drawing state: a list that every draw turns -/
def wst (a l : Addr) (ns : List Int) : Wd where
  st := fun b => b = a
  fp := fun b => b = a ∨ b = l
  W := fun H => H l = some (.lst (ns.map V.int)) ∧ l ≠ a ∧ ∃ (i : Nat) (v s : Int), H a = some (.lst [.ref l, .int i, .int v, .int s]) ∧ i ≤ ns.length ∧ 0 ≤ v ∧ 0 ≤ s ∧ s < 2147483647
  sf := fun b h => .inl h
  loc := fun {H H'} e h => by
    obtain ⟨h1, h2, i, v, s, h3, h4⟩ := h
    exact ⟨by rw [e l (.inr rfl)]; exact h1, h2, i, v, s, by rw [e a (.inl rfl)]; exact h3, h4⟩
/-- the contract of a def whose first argument is the state -/
def spS (K : PySem.W.Frag) (F : D1) : Sp := fun vs H Q _ => ∃ (a l : Addr) (ns : List Int) (G : Hp) (us : List V) (ds : List DD) (P : DD → Prop), vs = .ref a :: us ∧ Okw (wst a l ns) G H ∧ RpAll K G us ds ∧ F ds P ∧
  ∀ v d G2 H2, Stp (wst a l ns) G H G2 H2 → Rp K G2 v d → P d → Q v H2
section
variable {X : Cx} {a l : Addr} {ns : List Int} {es : List Expr} {kf : Nat} {f : Addr} {fd : FuncData} {ps : List Str} {x y : Str} {p py pos : Pos}
def dSt (a : Addr) (i : Nat) (F : D1) (t : DA) : DE := fun ρ P => ρ[i]? = some (.adr a) ∧ t ρ fun ds => F ds P
theorem pd_sfn {F : D1} {t : DA} {i : Nat} (GF : FnOk X.prog X.w X.K X.mg X.base CX0 kf f fd ps (spS X.K F)) (hr : Room kf X.A) (hm : X.mg x = some (.ref f)) (hk : PySem.W.keepIn X.K (.ref f) = true) (hb : Binds X.K fd ps []) (hv : PE X (.Name y py) (tVar i)) (ha : PDA (wst a l ns) X es t) (hg : Gl X x := by rfl)
    (hdb : (x == ("__debug__" : Str)) = false := by decide) (he : starEach (.Name y py :: es) X.env = (false, eval (.Name y py) X.env) :: starEach es X.env := by rfl) (hpl : (backTo pos (starEach es X.env)).any (·.1) = false := by rfl) : PD (wst a l ns) X (.Call (.Name x p) (.Name y py :: es) [] pos) (dSt a i F t) := by
  obtain ⟨t', a1, a2⟩ := ha
  refine ⟨_, pe_call GF hr hg hm hk hb .nil (pass0 (X := X)) (pa_cons hv a1 he) hdb he hpl, fun σ ρ G H P Q k s h q => ?_⟩
  refine ⟨_, s.adr i a h.1, ?_⟩
  refine a2 σ ρ G H _ _ k s h.2 fun vs ds G1 H1 s1 r1 _ p1 => ?_
  show spS X.K F ((V.ref a :: vs) ++ []) H1 Q E0
  rw [List.append_nil]
  exact ⟨a, l, ns, G1, vs, ds, P, rfl, s1.okw k, r1, p1, fun v d G2 H2 s2 => q v d G2 H2 (s1.trans s2)⟩
end
def startS (a : Addr) (N : List Str) (ds : List DD) : En := Ent.adr a :: (ds.map Ent.dat ++ List.replicate (N.length - 1 - ds.length) Ent.un)
theorem pss_any {X : Cx} {st : List Stmt} : PSs X st (fun D σ H => ∃ ts, PSs X st ts ∧ ts D σ H) := ⟨fun pins s σ H D I ⟨ts, h1, h2⟩ => h1.run pins s σ H D I h2⟩
section
variable {P : Program} {wd : World} {K : PySem.W.Frag} {mg : Str → Option Value} {base : Heap} {x qual : Str} {st : Stmt} {f : Addr} {fd : FuncData} {N ps : List Str} {k : Nat} {F : D1} {sd : Addr → DS}
theorem fn_state (Fn : Fun K x qual st f fd) (S : FnScope N ps (defScope st)) (hn : 1 ≤ N.length)
    (body : ∀ (a l : Addr) (ns : List Int) (cdv : Value) (A : Around) (outer : List Env) (s : Shared) (H : Hp) (E : XK), Room k (A.deeper (envOfC qual (defScope st) s.heap.objs.size f cdv)) → PDSs (wst a l ns) (cxOf CX0 P wd K mg base N qual (defScope st) f cdv A outer s H E).nox (defBody st) (sd a))
    (hF : ∀ a ds Q, F ds Q → ds.length + 1 = ps.length ∧ sd a (endsD Q) (startS a N ds)) : FnOk P wd K mg base CX0 (k + 1) f fd ps (spS K F) := by
  refine Fn.ok S (fun vs H Q E h => ?_) (fun cdv A outer s H vs Q E hr h => ?_)
  · obtain ⟨a, l, ns, G, us, ds, P', rfl, hs, r, hf, _⟩ := h
    rw [List.length_cons, r.len]; exact (hF a ds P' hf).1
  · obtain ⟨a, l, ns, G, us, ds, P', rfl, k0, r, hf, q⟩ := h
    refine ⟨_, pss_any, ?_⟩
    obtain ⟨ts, t1, t2⟩ := body a l ns cdv A outer s H E hr
    refine ⟨ts, t1, ?_⟩
    have nown : ∀ (i : Nat) es, (startS a N ds)[i]? ≠ some (.own es) := fun i es h => by
      have z : Ent.own es ∈ startS a N ds := List.mem_of_getElem? h
      unfold startS at z
      rcases List.mem_cons.mp z with z | z
      · cases z
      · rcases List.mem_append.mp z with z | z
        · obtain ⟨d, _, e⟩ := List.mem_map.mp z
          cases e
        · rw [List.mem_replicate] at z
          cases z.2
    have sl : SlOk K G (L2.start N (.ref a :: us)) (startS a N ds) := by
      have hl := r.len
      refine ⟨by simp [L2.start, startS, hl]; omega, fun i d h => ?_, fun i b h => ?_⟩
      · cases i with
        | zero => cases (Option.some.inj h)
        | succ i =>
          have h' : (ds.map Ent.dat ++ List.replicate (N.length - 1 - ds.length) Ent.un)[i]? = some (.dat d) := h
          by_cases hi : i < ds.length
          · rw [List.getElem?_append_left (by simpa using hi), List.getElem?_map] at h'
            cases e : ds[i]? with
            | none => rw [e] at h'; cases h'
            | some d' =>
              rw [e] at h'
              have ed : d' = d := by injection (Option.some.inj h')
              subst ed
              obtain ⟨v, hv, rv⟩ := r.getD e
              refine ⟨v, ?_, rv⟩
              show (us.map some ++ _)[i]? = _
              rw [List.getElem?_append_left (by rw [List.length_map, hl]; exact hi), List.getElem?_map, hv]
              rfl
          · rw [List.getElem?_append_right (by simpa using Nat.le_of_not_lt hi), List.getElem?_replicate] at h'
            split at h' <;> cases h'
      · cases i with
        | zero =>
          have eb : a = b := by injection (Option.some.inj h)
          subst eb
          rfl
        | succ i =>
          have h' : (ds.map Ent.dat ++ List.replicate (N.length - 1 - ds.length) Ent.un)[i]? = some (.adr b) := h
          by_cases hi : i < ds.length
          · rw [List.getElem?_append_left (by simpa using hi), List.getElem?_map] at h'
            cases e : ds[i]? with
            | none => rw [e] at h'; cases h'
            | some d' => rw [e] at h'; cases (Option.some.inj h')
          · rw [List.getElem?_append_right (by simpa using Nat.le_of_not_lt hi), List.getElem?_replicate] at h'
            split at h' <;> cases h'
    refine t2 G H G _ (startS a N ds) H _ (endsD P') k0 ⟨G, k0.stp, Sub.rfl, sl, fun i es h => absurd h (nown i es), fun i j es _ b h => absurd h (nown i es)⟩ (hF a ds P' hf).2 ⟨fun σ ρ H' s' h' => ?_, fun v d G' H' s' r' h' => q v d G' H' s' r' h', fun _ _ _ _ h' => h'.elim, fun _ _ _ _ h' => h'.elim⟩
    obtain ⟨G', s'⟩ := s'
    exact q _ _ G' H' s'.stp .non h'
end
end Z

set_option Elab.async false
set_option linter.all false
set_option maxRecDepth 100000
set_option maxHeartbeats 4000000
namespace Z
open PySem PySem.Spec PyProof.Rows L2
mutual
/-- no list lies within -/
def nol : DD → Bool
  | .list _ => false
  | .tuple ds => nolAll ds
  | .dict _ => false
  | _ => true
def nolAll : List DD → Bool
  | [] => true
  | d :: ds => nol d && nolAll ds
end
section
variable {K : PySem.W.Frag} {G G' : Hp}
mutual
theorem Rp.nolTo (e : ∀ a u, G a = some u → (∀ xs, u ≠ .lst xs) → G' a = some u) : ∀ {v : V} {d : DD}, Rp K G v d → nol d = true → Rp K G' v d
  | _, _, .non, _ => .non
  | _, _, .bl b, _ => .bl b
  | _, _, .int i, _ => .int i
  | _, _, .str x, _ => .str x
  | _, _, .lst _ _, h => by simp [nol] at h
  | _, _, .tup t r, h => by
    rw [nol] at h
    refine .tup ?_ (RpAll.nolTo e r h)
    rcases t with (t | ⟨o, t⟩) | t
    · exact .inl (.inl (e _ _ t (fun _ z => by cases z)))
    · exact .inl (.inr ⟨o, e _ _ t (fun _ z => by cases z)⟩)
    · exact .inr t
theorem RpAll.nolTo (e : ∀ a u, G a = some u → (∀ xs, u ≠ .lst xs) → G' a = some u) : ∀ {vs : List V} {ds : List DD}, RpAll K G vs ds → nolAll ds = true → RpAll K G' vs ds
  | _, _, .nil, _ => .nil
  | _, _, .cons a b, h => by
    rw [nolAll, Bool.and_eq_true] at h
    exact .cons (Rp.nolTo e a h.1) (RpAll.nolTo e b h.2)
end
end
section
variable {w : Wd} {K : PySem.W.Frag} {G0 H0 B G H : Hp} {σ : L2.St} {ρ : En}
open Classical in
/-- behind an expression that saw the own lists: what it made is kept, but for the own lists -/
theorem SOk.afterN (k0 : Okw w G0 H0) (s : SOk w K G0 H0 B σ ρ H G) {G2 H2 : Hp} (t : Stp w (fullG σ ρ G H) H G2 H2) : ∃ G3, SOk w K G0 H0 B σ ρ H2 G3 ∧ ∀ v d, Rp K G2 v d → nol d = true → Rp K G3 v d := by
  have fs := s.fullStp.trans t
  have st : ∀ a, w.st a → H0 a ≠ none := fun a z => k0.here a (w.sf a z)
  have own2 : ∀ a, (∃ (i : Nat) (ds : List DD), ρ[i]? = some (.own ds) ∧ σ[i]? = some (some (.ref a))) → ∃ xs, H2 a = some (.lst xs) := fun a ⟨i, ds, h1, h2⟩ => by
    obtain ⟨b, xs, q1, q2, q3, q4, q5⟩ := s.own i ds h1
    rw [q1] at h2
    have e : b = a := by injection (Option.some.inj (Option.some.inj h2))
    subst e
    exact ⟨xs, t.kp _ _ (fun z => st _ z q5) q2⟩
  let G3 : Hp := fun a => if (∃ (i : Nat) (ds : List DD), ρ[i]? = some (.own ds) ∧ σ[i]? = some (some (.ref a))) then none else G2 a
  have g3y : ∀ a, (∃ (i : Nat) (ds : List DD), ρ[i]? = some (.own ds) ∧ σ[i]? = some (some (.ref a))) → G3 a = none := fun a h => if_pos h
  have g3n : ∀ a, ¬ (∃ (i : Nat) (ds : List DD), ρ[i]? = some (.own ds) ∧ σ[i]? = some (some (.ref a))) → G3 a = G2 a := fun a h => if_neg h
  have up : Sub G G3 := fun a o e => by
    by_cases h : ∃ (i : Nat) (ds : List DD), ρ[i]? = some (.own ds) ∧ σ[i]? = some (some (.ref a))
    · rw [(s.own_at h).1] at e; cases e
    · rw [g3n a h]; exact t.up a o (s.fullSub a o e)
  refine ⟨G3, ⟨⟨fun a o e => ?_, s.stp.up.trans up, fs.kp, fs.th, fun a h1 h2 => ?_, fs.wd⟩, s.lb.trans up, s.sl.mono up, fun i ds h => ?_, s.sep⟩, fun v d r n => r.nolTo (fun a u e nl => ?_) n⟩
  · by_cases h : ∃ (i : Nat) (ds : List DD), ρ[i]? = some (.own ds) ∧ σ[i]? = some (some (.ref a))
    · rw [g3y a h] at e; cases e
    · rw [g3n a h] at e; exact t.sub a o e
  · by_cases h : ∃ (i : Nat) (ds : List DD), ρ[i]? = some (.own ds) ∧ σ[i]? = some (some (.ref a))
    · exact g3y a h
    · rw [g3n a h]; exact fs.nw a h1 h2
  · obtain ⟨a, xs, q1, q2, q3, q4, q5⟩ := s.own i ds h
    exact ⟨a, xs, q1, t.kp a _ (fun z => st a z q5) q2, q3.mono up, g3y a ⟨i, ds, h, q1⟩, q5⟩
  · by_cases h : ∃ (i : Nat) (ds : List DD), ρ[i]? = some (.own ds) ∧ σ[i]? = some (some (.ref a))
    · obtain ⟨xs, hx⟩ := own2 a h
      have := t.sub a u e
      rw [hx] at this
      exact absurd (Option.some.inj this).symm (nl xs)
    · rw [g3n a h]; exact e
end
section
variable {w : Wd} {X : Cx} {e ei : Expr} {td tn : DE} {pos p1 p2 : Pos}
/-- x = a value without lists, that may look at the own lists -/
def sSetT (i : Nat) (td : DE) : DS := fun E ρ => td (full ρ) fun d => nol d = true ∧ E.nx (ρ.set i (.dat d))
theorem sd_setT {x : Str} {i : Nat} {pos' : Pos} (hN : X.N.Nodup) (he : PD w X e td) (hi : X.N[i]? = some x := by rfl) (hx : Loc X.env.scope x := by first | exact Or.inl rfl | exact Or.inr rfl) (hs : swapsWith e (some (.Name x pos')) pos.line X.env = pure false := by rfl)
    (hf : X.fn x = true ∨ X.env.scope.names.lookup x = some .local := by first | exact .inl rfl | exact .inr rfl | assumption) : PDS w X (.Assign [.Name x pos'] e pos) (sSetT i td) := by
  obtain ⟨te, h1, h2⟩ := he
  refine ⟨_, ps_set hN hi hx h1 hs hf, ?_⟩
  intro G0 H0 B σ ρ H D E k ⟨G, s⟩ hd r
  refine h2 σ (full ρ) _ H _ _ (s.fullStp.okw k) s.fullSl hd fun v d G2 H2 s2 rv p => ?_
  obtain ⟨G3, s3, tr⟩ := s.afterN k s2
  exact r.nx _ _ _ ⟨G3, s3.set (tr v d rv p.1)⟩ p.2
def sPut1 (i : Nat) (tn td : DE) : DS := fun E ρ => match ρ[i]? with
  | some (.own ds) => td (full ρ) fun d => nol d = true ∧ tn ρ fun n => match n with
    | .int n => match ixN ds.length n with
      | some j => E.nx (ρ.set i (.own (ds.set j d)))
      | none => False
    | _ => False
  | _ => False
theorem RpAll.set {K : PySem.W.Frag} {G : Hp} {v : V} {d : DD} (r : Rp K G v d) : ∀ {vs : List V} {ds : List DD} (j : Nat), RpAll K G vs ds → RpAll K G (vs.set j v) (ds.set j d)
  | _, _, _, .nil => .nil
  | _, _, 0, .cons _ b => .cons r b
  | _, _, j + 1, .cons a b => .cons a (RpAll.set r j b)
theorem sd_put {x : Str} {i : Nat} (hx : PE X (.Name x p1) (tVar i)) (hn : PD w X ei tn) (he : PD w X e td)
    (ha : ∀ v, assign (.Subscript (.Name x p1) ei p2) X.env v = (do let ov ← holding [v] (eval (.Name x p1) X.env); let iv ← holding [v, ov] (eval ei X.env); standAt p2; holding [v, ov, iv] (setItem ov iv v); release [v, ov, iv] []) := by intro _; rfl)
    (hs : swapsWithSole [.Subscript (.Name x p1) ei p2] e pos.line X.env = pure false := by rfl) (hw : swappedStores [.Subscript (.Name x p1) ei p2] e X.env = pure none := by rfl) (h1 : (assignEach [.Subscript (.Name x p1) ei p2] X.env).map (·.2) = [assign (.Subscript (.Name x p1) ei p2) X.env] := by rfl) :
    PDS w X (.Assign [.Subscript (.Name x p1) ei p2] e pos) (sPut1 i tn td) := by
  obtain ⟨te, e1, e2⟩ := he
  obtain ⟨tn', n1, n2⟩ := hn
  refine ⟨_, ps_asg e1 (pg_sub hx n1 set_list ha) hs hw h1, ?_⟩
  intro G0 H0 B σ ρ H D E k ⟨G, s⟩ hd r
  unfold sPut1 at hd
  split at hd
  · rename_i ds hi
    refine e2 σ (full ρ) _ H _ _ (s.fullStp.okw k) s.fullSl hd fun v d G2 H2 s2 rv p => ?_
    obtain ⟨G3, s3, tr⟩ := s.afterN k s2
    have rv3 := tr v d rv p.1
    obtain ⟨a, xs, q1, q2, q3, q4, q5⟩ := s3.own i ds hi
    refine ⟨_, q1, ?_⟩
    refine n2 σ ρ G3 H2 _ _ (s3.okw k) s3.sl p.2 fun u n G4 H4 s4 rn pn => ?_
    have s5 := s3.step k s4
    cases rn with
    | int m =>
      simp only at pn
      cases hj : ixN ds.length m with
      | none => rw [hj] at pn; exact pn.elim
      | some j =>
        rw [hj] at pn
        have z : H4 a = some (.lst xs) := s4.kp a _ (fun z => k.here a (w.sf a z) q5) q2
        have hg : G4 a = none := s4.nw a (by rw [q2]; exact fun z => nomatch z) q4
        exact ⟨a, xs, m, j, rfl, rfl, z, by rw [q3.len]; exact hj, r.nx _ _ _ ⟨G4, s5.mut k hi q1 hg q5 ((q3.mono s4.up).set (rv3.mono s4.up) j)⟩ pn⟩
    | _ => exact pn.elim
  · exact hd.elim
end
end Z

set_option Elab.async false
set_option linter.all false
set_option maxRecDepth 100000
set_option maxHeartbeats 4000000
namespace Z
open PySem PySem.Spec PyProof.Rows L2
theorem bt_len : bootBuiltins "len" = some (.builtin "len") := by decide +kernel
theorem bt_abs : bootBuiltins "abs" = some (.builtin "abs") := by decide +kernel
theorem bt_ord : bootBuiltins "ord" = some (.builtin "ord") := by decide +kernel
theorem bt_max : bootBuiltins "max" = some (.builtin "max") := by decide +kernel
theorem bt_min : bootBuiltins "min" = some (.builtin "min") := by decide +kernel
theorem bt_int : bootBuiltins "int" = some (.type "int") := by decide +kernel
theorem bt_str : bootBuiltins "str" = some (.type "str") := by decide +kernel
theorem bt_bool : bootBuiltins "bool" = some (.type "bool") := by decide +kernel
theorem bt_tuple : bootBuiltins "tuple" = some (.type "tuple") := by decide +kernel
theorem bt_list : bootBuiltins "list" = some (.type "list") := by decide +kernel
/-- names of the language that the text doesn't take for its own -/
structure Blt (mg : Str → Option Value) : Prop where
  len : mg "len" = none
  abs : mg "abs" = none
  ord : mg "ord" = none
  max : mg "max" = none
  min : mg "min" = none
  int : mg "int" = none
  str : mg "str" = none
  bool : mg "bool" = none
  tuple : mg "tuple" = none
  list : mg "list" = none
  isinstance : mg "isinstance" = none
  range : mg "range" = none
/-- a constant of the text -/
inductive Cst (mg : Str → Option Value) (x : Str) : DD → Prop where
  | int {i : Int} {u : Tok} (h : mg x = some (.int i u)) : Cst mg x (.int i)
  | str {z : Str} {u : Tok} (h : mg x = some (.str z u)) : Cst mg x (.str z)
structure Fnc (P : Program) (wd : World) (K : PySem.W.Frag) (mg : Str → Option Value) (base : Heap) (k : Nat) (x : Str) (F : D1) : Prop where
  ex : ∃ f fd ps, FnOk P wd K mg base CX0 k f fd ps (spD K F) ∧ mg x = some (.ref f) ∧ PySem.W.keepIn K (.ref f) = true ∧ Binds K fd ps []
structure Sfn (P : Program) (wd : World) (K : PySem.W.Frag) (mg : Str → Option Value) (base : Heap) (k : Nat) (x : Str) (F : D1) : Prop where
  ex : ∃ f fd ps, FnOk P wd K mg base CX0 k f fd ps (spS K F) ∧ mg x = some (.ref f) ∧ PySem.W.keepIn K (.ref f) = true ∧ Binds K fd ps []
/-- a def of the text by its name -/
structure Dfn (K : PySem.W.Frag) (mg : Str → Option Value) (x : Str) (st : Stmt) (ps : List Str) : Prop where
  ex : ∃ f fd, Fun K x x st f fd ∧ mg x = some (.ref f) ∧ Binds K fd ps []
section
variable {w : Wd} {X : Cx} {e : Expr} {es : List Expr} {pos p py : Pos} {x y : Str} {kf j : Nat} {F : D1} {t : DA}
theorem pd_gI {i : Int} (h : Cst X.mg x (.int i)) (hg : Gl X x := by rfl) (hd : (x == ("__debug__" : Str)) = false := by decide) : PD w X (.Name x pos) (dC (.int i)) := by
  cases h with
  | int h => exact pd_gi h hg hd
theorem pd_gS {i : Str} (h : Cst X.mg x (.str i)) (hg : Gl X x := by rfl) (hd : (x == ("__debug__" : Str)) = false := by decide) : PD w X (.Name x pos) (dC (.str i)) := by
  cases h with
  | str h => exact pd_gs h hg hd
theorem pd_f (C : Fnc X.prog X.w X.K X.mg X.base kf x F) (hr : Room j X.A) (ha : PDA w X (e :: es) t) (hj : kf ≤ j := by decide) (hg : Gl X x := by rfl) (hdb : (x == ("__debug__" : Str)) = false := by decide)
    (he : starEach (e :: es) X.env = (false, eval e X.env) :: starEach es X.env := by rfl) (hpl : (backTo pos (starEach es X.env)).any (·.1) = false := by rfl) : PD w X (.Call (.Name x p) (e :: es) [] pos) (dCall F t) := by
  obtain ⟨f, fd, ps, h1, h2, h3, h4⟩ := C
  exact pd_fn h1 (hr.mono hj) h2 h3 h4 ha hg hdb he hpl
theorem pd_f0 (C : Fnc X.prog X.w X.K X.mg X.base kf x F) (hr : Room j X.A) (hj : kf ≤ j := by decide) (hg : Gl X x := by rfl) (hdb : (x == ("__debug__" : Str)) = false := by decide) : PD w X (.Call (.Name x p) [] [] pos) (fun _ P => F [] P) := by
  obtain ⟨f, fd, ps, h1, h2, h3, h4⟩ := C
  exact pd_fn0 h1 (hr.mono hj) h2 h3 h4 hg hdb
theorem pd_s {a l : Addr} {ns : List Int} {i : Nat} (C : Sfn X.prog X.w X.K X.mg X.base kf x F) (hr : Room j X.A) (hv : PE X (.Name y py) (tVar i)) (ha : PDA (wst a l ns) X es t) (hj : kf ≤ j := by decide) (hg : Gl X x := by rfl) (hdb : (x == ("__debug__" : Str)) = false := by decide)
    (he : starEach (.Name y py :: es) X.env = (false, eval (.Name y py) X.env) :: starEach es X.env := by rfl) (hpl : (backTo pos (starEach es X.env)).any (·.1) = false := by rfl) : PD (wst a l ns) X (.Call (.Name x p) (.Name y py :: es) [] pos) (dSt a i F t) := by
  obtain ⟨f, fd, ps, h1, h2, h3, h4⟩ := C
  exact pd_sfn h1 (hr.mono hj) h2 h3 h4 hv ha hg hdb he hpl
end
section
variable {P : Program} {wd : World} {K : PySem.W.Frag} {mg : Str → Option Value} {base : Heap} {x : Str} {st : Stmt} {N ps : List Str} {k : Nat} {F : D1}
theorem fnc_mk {sd : DS} (D : Dfn K mg x st ps) (S : FnScope N ps (defScope st))
    (body : ∀ (f : Addr) (cdv : Value) (A : Around) (outer : List Env) (s : Shared) (H : Hp) (E : XK), Room k (A.deeper (envOfC x (defScope st) s.heap.objs.size f cdv)) → PDSs Wd.zero (cxOf CX0 P wd K mg base N x (defScope st) f cdv A outer s H E).nox (defBody st) sd)
    (hF : ∀ ds Q, F ds Q → ds.length = ps.length ∧ sd (endsD Q) (startD N ds)) : Fnc P wd K mg base (k + 1) x F := by
  obtain ⟨f, fd, Fn, h2, h3⟩ := D
  exact ⟨f, fd, ps, fn_pure Fn S (body f) hF, h2, Fn.kp, h3⟩
theorem sfn_mk {sd : Addr → DS} (D : Dfn K mg x st ps) (S : FnScope N ps (defScope st)) (hn : 1 ≤ N.length)
    (body : ∀ (f a l : Addr) (ns : List Int) (cdv : Value) (A : Around) (outer : List Env) (s : Shared) (H : Hp) (E : XK), Room k (A.deeper (envOfC x (defScope st) s.heap.objs.size f cdv)) → PDSs (wst a l ns) (cxOf CX0 P wd K mg base N x (defScope st) f cdv A outer s H E).nox (defBody st) (sd a))
    (hF : ∀ a ds Q, F ds Q → ds.length + 1 = ps.length ∧ sd a (endsD Q) (startS a N ds)) : Sfn P wd K mg base (k + 1) x F := by
  obtain ⟨f, fd, Fn, h2, h3⟩ := D
  exact ⟨f, fd, ps, fn_state Fn S hn (body f) hF, h2, Fn.kp, h3⟩
end
end Z

set_option Elab.async false
set_option linter.all false
set_option maxRecDepth 100000
set_option maxHeartbeats 4000000
/-! the mathematics of keys: what each def of the text is worth, over plain data -/
namespace Z
open PySem PySem.Spec PyProof.Rows L2
def CH : Str := Str.ofString " !\"#$&'()*+,-./0123456789:;<=>?@ABCDEFGHIJKLMNOPQRSTUVWXYZ[\\]^_`abcdefghijklmnopqrstuvwxyz{|}~"
def okC (c : Nat) : Bool := decide (32 ≤ c ∧ c ≤ 126 ∧ c ≠ 37)
def okV : DD → Bool
  | .int n => decide (-1000000000 ≤ n ∧ n ≤ 1000000000)
  | .str z => decide (z.cps.size ≤ 6) && z.cps.toList.all okC
  | _ => false
def be5 (m : Int) : List Int := [m / 2 ^ 32 % 256, m / 2 ^ 24 % 256, m / 2 ^ 16 % 256, m / 2 ^ 8 % 256, m % 256]
def bytesV : DD → List Int
  | .int n => 1 :: be5 (n + 549755813888)
  | .str z => 2 :: (z.cps.toList.map fun (c : Nat) => (c : Int)) ++ [0]
  | _ => []
def keyI (vs : List DD) : List Int := vs.flatMap bytesV
def iD (ns : List Int) : List DD := ns.map PyData.int
def tD (ns : List Int) : DD := .tuple (iD ns)
def isB (b : Int) : Bool := decide (0 ≤ b ∧ b ≤ 255)
def F_integer_bytes : D1 := fun ds P => match ds with
  | [.int n] => okV (.int n) = true ∧ P (.list (iD (bytesV (.int n))))
  | _ => False
def F_text_bytes : D1 := fun ds P => match ds with
  | [.str z] => okV (.str z) = true ∧ P (.list (iD (bytesV (.str z))))
  | _ => False
def F_key_of : D1 := fun ds P => match ds with
  | [.tuple vs] => (vs.length ≤ 1000 ∧ vs.all okV = true) ∧ P (tD (keyI vs))
  | _ => False
def chD (c : Int) : DD := if 32 ≤ c ∧ c ≤ 126 ∧ c ≠ 37 then .str ⟨#[c.toNat]⟩ else .none
def F_character_of : D1 := fun ds P => match ds with
  | [.int c] => P (chD c)
  | _ => False
def textD (cs : List Int) : DD := if cs.length ≤ 6 ∧ cs.all (fun c => decide (32 ≤ c ∧ c ≤ 126 ∧ c ≠ 37)) = true then .str ⟨(cs.map Int.toNat).toArray⟩ else .none
def F_text_of : D1 := fun ds P => match ds with
  | [.tuple es] => ∃ cs, es = iD cs ∧ cs.length ≤ 100000 ∧ P (textD cs)
  | _ => False
def val5 (ds : List Int) : Int := ds.foldl (fun a d => a * 256 + d) 0
def intB (ds : List Int) : DD := if ds.length < 5 then .none else if -1000000000 ≤ val5 ds - 549755813888 ∧ val5 ds - 549755813888 ≤ 1000000000 then .int (val5 ds - 549755813888) else .none
def F_integer_of : D1 := fun ds P => match ds with
  | [.tuple es] => ∃ cs, es = iD cs ∧ cs.length ≤ 5 ∧ cs.all isB = true ∧ P (intB cs)
  | _ => False
/-- the first value of these bytes (none: there is none), and how many bytes it takes -/
def first (r : List Int) : DD × Nat := match r with
  | 1 :: t => (intB (t.take 5), 6)
  | 2 :: t => match t.findIdx? (· == 0) with
    | some j => (textD (t.take j), j + 2)
    | none => (.none, 0)
  | _ => (.none, 0)
def F_value_at : D1 := fun ds P => match ds with
  | [.tuple es, .int i] => ∃ (cs : List Int) (j : Nat), es = iD cs ∧ i = (j : Nat) ∧ cs.length ≤ 100000 ∧ cs.all isB = true ∧ j < cs.length ∧ P (.tuple [(first (cs.drop j)).1, .int ((j + (first (cs.drop j)).2 : Nat) : Int)])
  | _ => False
/-- all values of these bytes, or none -/
def decode : Nat → List Int → Option (List DD)
  | _, [] => some []
  | 0, _ :: _ => none
  | n + 1, r@(_ :: _) => match first r with
    | (.none, _) => none
    | (v, k) => (decode n (r.drop k)).map (v :: ·)
def decD (cs : List Int) : DD := match decode cs.length cs with
  | some vs => .tuple vs
  | none => .none
def F_values_of : D1 := fun ds P => match ds with
  | [.tuple es] => ∃ cs, es = iD cs ∧ cs.length ≤ 100000 ∧ cs.all isB = true ∧ P (decD cs)
  | _ => False
def F_prefix_range : D1 := fun ds P => match ds with
  | [.tuple es] => ∃ cs, es = iD cs ∧ cs.length ≤ 100000 ∧ P (.tuple [tD cs, tD (cs ++ [3])])
  | _ => False
def isIn (k lo hi : List Int) : Bool := !HT.lexLt k lo && HT.lexLt k hi
def F_is_in : D1 := fun ds P => match ds with
  | [.tuple es, .tuple [.tuple ls, .tuple hs]] => ∃ k lo hi, es = iD k ∧ ls = iD lo ∧ hs = iD hi ∧ P (.bool (isIn k lo hi))
  | _ => False
def mx (a b : List Int) : List Int := if HT.lexLt a b = true then b else a
def mn (a b : List Int) : List Int := if HT.lexLt b a = true then b else a
def F_meet : D1 := fun ds P => match ds with
  | [.tuple [.tuple as, .tuple bs], .tuple [.tuple cs, .tuple es]] => ∃ a b c e, as = iD a ∧ bs = iD b ∧ cs = iD c ∧ es = iD e ∧ P (.bool (HT.lexLt (mx a c) (mn b e)))
  | _ => False
def kind : DD → Int
  | .str _ => 2
  | _ => 1
def ordV (v : DD) : DD := .tuple [.int (kind v), v]
def F_row_order : D1 := fun ds P => match ds with
  | [.tuple vs] => (vs.length ≤ 1000 ∧ vs.all okV = true) ∧ P (.tuple (vs.map ordV))
  | _ => False
def F__law_characters : D1 := fun ds P => ds = [] ∧ P (.str CH)
def F__law_bytes : D1 := F_key_of
def F__law_read : D1 := F_values_of
/-- the order of values, of rows of values: less, equal, greater -/
def cmpV (v u : DD) : Int := if kind v = kind u then (if v.eqv u = true then 0 else if ZO.ord false v u = some true then -1 else 1) else if kind v < kind u then -1 else 1
def cmpR : List DD → List DD → Int
  | [], [] => 0
  | [], _ :: _ => -1
  | _ :: _, [] => 1
  | v :: vs, u :: us => if cmpV v u = 0 then cmpR vs us else cmpV v u
def F__law_order : D1 := fun ds P => match ds with
  | [.tuple vs, .tuple us] => (vs.length ≤ 1000 ∧ us.length ≤ 1000 ∧ vs.all okV = true ∧ us.all okV = true) ∧ P (.int (cmpR vs us))
  | _ => False
def F__law_agrees : D1 := fun ds P => match ds with
  | [.tuple l, .tuple r, .int o] => ∃ p q, (PyData.tuple l).depth ≤ 3 ∧ (PyData.tuple r).depth ≤ 3 ∧ ZO.ord false (.tuple l) (.tuple r) = some p ∧ ZO.ord true (.tuple l) (.tuple r) = some q ∧ p = decide (o < 0) ∧ PyData.eqv (.tuple l) (.tuple r) = decide (o = 0) ∧ q = decide (0 < o) ∧ P (.bool true)
  | _ => False
/-- data that a law compares place by place -/
def okS : Nat → DD → Bool
  | _, .none => true
  | _, .bool _ => true
  | _, .int _ => true
  | _, .str _ => true
  | n + 1, .tuple ds => decide (ds.length ≤ 100000) && ds.all (okS n)
  | n + 1, .list ds => decide (ds.length ≤ 100000) && ds.all (okS n)
  | _, _ => false
def F__law_same : D1 := fun ds P => match ds with
  | [d, e] => d = e ∧ okS 4 e = true ∧ P (.bool true)
  | _ => False
def keysOk (l : List (List Int)) : Prop := l.length ≤ 1000 ∧ ∀ k ∈ l, k.length ≤ 10000
def F__law_ranges : D1 := fun ds P => match ds with
  | [.list ks, .list ss] => ∃ k l m, ks = (k :: l).map tD ∧ ss = m.map tD ∧ keysOk (k :: l) ∧ keysOk m ∧ P (.bool true)
  | _ => False
def F__law_next : D1 := fun ds P => match ds with
  | [.int n] => (0 < n ∧ n < 2 ^ 64) ∧ ∀ r, 0 ≤ r → r < n → P (.int r)
  | _ => False
def F__law_value : D1 := fun ds P => ds = [] ∧ ∀ v, okV v = true → P v
end Z

set_option Elab.async false
set_option linter.all false
set_option maxRecDepth 100000
set_option maxHeartbeats 1000000
/-! how a meaning is reckoned -/
namespace Z
open PySem PySem.Spec PyProof.Rows L2
theorem mv {Q : DD → Prop} {a b : DD} (h : Q a) (e : a = b) : Q b := e ▸ h
theorem e_lt (a b : Int) (P : DD → Prop) : gB ltD (.int a) (.int b) P = P (.bool (decide (a < b))) := rfl
theorem e_gt (a b : Int) (P : DD → Prop) : gB gtD (.int a) (.int b) P = P (.bool (decide (b < a))) := rfl
theorem e_eq (a b : Int) (P : DD → Prop) : gB eqD (.int a) (.int b) P = P (.bool (a == b)) := rfl
theorem e_ne (a b : Int) (P : DD → Prop) : gB neD (.int a) (.int b) P = P (.bool (!(a == b))) := rfl
theorem e_le (a b : Int) (P : DD → Prop) : gLe (.int a) (.int b) P = P (.bool (decide (a ≤ b))) := rfl
theorem e_ge (a b : Int) (P : DD → Prop) : gGe (.int a) (.int b) P = P (.bool (decide (b ≤ a))) := rfl
theorem e_add (a b : Int) (P : DD → Prop) : gAdd (.int a) (.int b) P = P (.int (a + b)) := rfl
theorem e_addL (a b : List DD) (P : DD → Prop) : gAdd (.list a) (.list b) P = (a.length + b.length ≤ 1000000 ∧ P (.list (a ++ b))) := rfl
theorem e_addT (a b : List DD) (P : DD → Prop) : gAdd (.tuple a) (.tuple b) P = (a.length + b.length ≤ 1000000 ∧ P (.tuple (a ++ b))) := rfl
theorem e_I0 (f : Int → Int → Int) (a b : Int) (P : DD → Prop) : gI0 f (.int a) (.int b) P = P (.int (f a b)) := rfl
theorem e_I (C : Int → Int → Prop) (f : Int → Int → Int) (a b : Int) (P : DD → Prop) : gI C f (.int a) (.int b) P = (C a b ∧ P (.int (f a b))) := rfl
theorem e_isN (P : DD → Prop) : gIsN .none .none P = P (.bool true) := rfl
theorem e_isI (i : Int) (P : DD → Prop) : gIsN (.int i) .none P = P (.bool false) := rfl
theorem e_isS (i : Str) (P : DD → Prop) : gIsN (.str i) .none P = P (.bool false) := rfl
theorem e_isB (i : Bool) (P : DD → Prop) : gIsN (.bool i) .none P = P (.bool false) := rfl
theorem e_isT (i : List DD) (P : DD → Prop) : gIsN (.tuple i) .none P = P (.bool false) := rfl
theorem e_isL (i : List DD) (P : DD → Prop) : gIsN (.list i) .none P = P (.bool false) := rfl
theorem e_ixL (ds : List DD) (i : Int) (P : DD → Prop) : gIx (.list ds) (.int i) P = match atI ds i with | some d => P d | none => False := rfl
theorem e_ixT (ds : List DD) (i : Int) (P : DD → Prop) : gIx (.tuple ds) (.int i) P = match atI ds i with | some d => P d | none => False := rfl
theorem e_ixS (z : Str) (i : Int) (P : DD → Prop) : gIx (.str z) (.int i) P = (z.length ≤ 1000000 ∧ match atI z.cps.toList i with | some c => P (.str ⟨#[c]⟩) | none => False) := rfl
theorem e_n0 (d : DD) (r : En) (P : DD → Prop) : dN 0 (.dat d :: r) P = P d := rfl
theorem e_nS (n : Nat) (e : Ent) (r : En) (P : DD → Prop) : dN (n + 1) (e :: r) P = dN n r P := rfl
theorem e_n1 (e : Ent) (r : En) (P : DD → Prop) : dN 1 (e :: r) P = dN 0 r P := rfl
theorem e_n2 (e : Ent) (r : En) (P : DD → Prop) : dN 2 (e :: r) P = dN 1 r P := rfl
theorem e_n3 (e : Ent) (r : En) (P : DD → Prop) : dN 3 (e :: r) P = dN 2 r P := rfl
theorem e_n4 (e : Ent) (r : En) (P : DD → Prop) : dN 4 (e :: r) P = dN 3 r P := rfl
theorem e_n5 (e : Ent) (r : En) (P : DD → Prop) : dN 5 (e :: r) P = dN 4 r P := rfl
theorem e_n6 (e : Ent) (r : En) (P : DD → Prop) : dN 6 (e :: r) P = dN 5 r P := rfl
theorem e_n7 (e : Ent) (r : En) (P : DD → Prop) : dN 7 (e :: r) P = dN 6 r P := rfl
theorem e_n8 (e : Ent) (r : En) (P : DD → Prop) : dN 8 (e :: r) P = dN 7 r P := rfl
theorem e_n9 (e : Ent) (r : En) (P : DD → Prop) : dN 9 (e :: r) P = dN 8 r P := rfl
theorem f_nil : full [] = [] := rfl
theorem f_dat (d : DD) (r : En) : full (.dat d :: r) = .dat d :: full r := rfl
theorem f_un (r : En) : full (.un :: r) = .un :: full r := rfl
theorem f_adr (a : Addr) (r : En) : full (.adr a :: r) = .adr a :: full r := rfl
theorem f_own (ds : List DD) (r : En) : full (.own ds :: r) = .dat (.list ds) :: full r := rfl
theorem nx_ends (P : DD → Prop) (ρ : En) : (endsD P).nx ρ = P .none := rfl
theorem rt_ends (P : DD → Prop) : (endsD P).rt = P := rfl
/-! comprehensions -/
theorem comp_map {ρ : En} {j : Nat} {td : DE} (f : DD → DD) : ∀ {items acc : List DD} {P : DD → Prop}, (∀ x ∈ items, ∀ Q : DD → Prop, Q (f x) → td (ρ.set j (.dat x)) Q) → acc.length + items.length ≤ 1000000 → P (.list (acc ++ items.map f)) → comp ρ j dYes td items acc P
  | [], acc, P, _, _, h => by
    show P (.list acc)
    rw [List.map_nil, List.append_nil] at h; exact h
  | x :: xs, acc, P, hd, hl, h => by
    show td (ρ.set j (.dat x)) fun d => acc.length < 1000000 ∧ comp ρ j dYes td xs (acc ++ [d]) P
    rw [List.length_cons] at hl
    refine hd x List.mem_cons_self _ ⟨by omega, comp_map f (fun y hy => hd y (List.mem_cons_of_mem _ hy)) (by rw [List.length_append, List.length_singleton]; omega) ?_⟩
    rw [List.append_assoc]; exact h
theorem comp_if {ρ : En} {j : Nat} {tt : DT} {td : DE} (p : DD → Bool) (f : DD → DD) : ∀ {items acc : List DD} {P : DD → Prop}, (∀ x ∈ items, ∀ Q : Bool → Prop, Q (p x) → tt (ρ.set j (.dat x)) Q) → (∀ x ∈ items, p x = true → ∀ Q : DD → Prop, Q (f x) → td (ρ.set j (.dat x)) Q) → acc.length + items.length ≤ 1000000 →
    P (.list (acc ++ (items.filter p).map f)) → comp ρ j tt td items acc P
  | [], acc, P, _, _, _, h => by
    show P (.list acc)
    rw [List.filter_nil, List.map_nil, List.append_nil] at h; exact h
  | x :: xs, acc, P, ht, hd, hl, h => by
    show tt (ρ.set j (.dat x)) fun b => if b = true then td (ρ.set j (.dat x)) fun d => acc.length < 1000000 ∧ comp ρ j tt td xs (acc ++ [d]) P else comp ρ j tt td xs acc P
    rw [List.length_cons] at hl
    refine ht x List.mem_cons_self _ ?_
    cases hp : p x with
    | true =>
      rw [if_pos rfl]
      rw [List.filter_cons, if_pos hp] at h
      refine hd x List.mem_cons_self hp _ ⟨by omega, comp_if p f (fun y hy => ht y (List.mem_cons_of_mem _ hy)) (fun y hy => hd y (List.mem_cons_of_mem _ hy)) (by rw [List.length_append, List.length_singleton]; omega) ?_⟩
      rw [List.append_assoc]; exact h
    | false =>
      rw [if_neg Bool.false_ne_true]
      rw [List.filter_cons, if_neg (by rw [hp]; exact Bool.false_ne_true)] at h
      exact comp_if p f (fun y hy => ht y (List.mem_cons_of_mem _ hy)) (fun y hy => hd y (List.mem_cons_of_mem _ hy)) (by omega) h
theorem comp_all {ρ : En} {j : Nat} {td : DE} (p : DD → Prop) : ∀ {items acc : List DD} {P : DD → Prop}, (∀ x ∈ items, ∀ Q : DD → Prop, (∀ d, p d → Q d) → td (ρ.set j (.dat x)) Q) → acc.length + items.length ≤ 1000000 →
    (∀ ds : List DD, ds.length = items.length → (∀ d ∈ ds, p d) → P (.list (acc ++ ds))) → comp ρ j dYes td items acc P
  | [], acc, P, _, _, h => by
    have z := h [] rfl (fun _ hd => by cases hd)
    rw [List.append_nil] at z; exact z
  | x :: xs, acc, P, hd, hl, h => by
    show td (ρ.set j (.dat x)) fun d => acc.length < 1000000 ∧ comp ρ j dYes td xs (acc ++ [d]) P
    rw [List.length_cons] at hl
    refine hd x List.mem_cons_self _ fun d pd => ⟨by omega, comp_all p (fun y hy => hd y (List.mem_cons_of_mem _ hy)) (by rw [List.length_append, List.length_singleton]; omega) fun ds h1 h2 => ?_⟩
    rw [List.append_assoc]
    refine h (d :: ds) (by rw [List.length_cons, List.length_cons, h1]) fun e he => ?_
    rcases List.mem_cons.mp he with rfl | he
    · exact pd
    · exact h2 e he
end Z

set_option Elab.async false
set_option linter.all false
set_option maxRecDepth 100000
set_option maxHeartbeats 4000000
namespace Z1
open PySem PySem.Spec PyProof.Rows L2 Z
def topS (i : Nat) : Stmt := PySem.Challenge.pw_sameanswer_k01_keys_and_ranges.main.body.getD i (.Pass ⟨0, 0, 0, 0⟩)
section
variable {P : Program} {wd : World} {K : PySem.W.Frag} {mg : Str → Option Value} {base : Heap}
abbrev s_key_of : Stmt := topS 11
abbrev N_key_of : List Str := ["values", "key", "value"]
theorem S_key_of : FnScope N_key_of ["values"] (defScope s_key_of) := ⟨rfl, rfl, rfl, by decide +kernel, rfl, by decide +kernel, by decide +kernel⟩
def m_key_of : DS :=
    (sSeq (sSetN 1 dNil)
    (sSeq (sFor (dIt (dN 0)) (tN 2) (sExt 1 (dIf (dT (dIsi .str (dN 2))) (dCall F_text_bytes (dCons (dN 2) dNil)) (dCall F_integer_bytes (dCons (dN 2) dNil)))))
    (sRet (dCall (g1 gTuple) (dCons (dN 1) dNil)))))
theorem b_key_of {f : Addr} (B : Blt mg) (q_text_bytes : Fnc P wd K mg base 1 "text_bytes" F_text_bytes) (q_integer_bytes : Fnc P wd K mg base 1 "integer_bytes" F_integer_bytes) (cdv : Value) (A : Around) (outer : List Env) (s : Shared) (H : Hp) (E : XK) (hr : Room 1 (A.deeper (envOfC "key_of" (defScope s_key_of) s.heap.objs.size f cdv))) :
  PDSs Wd.zero (cxOf CX0 P wd K mg base N_key_of "key_of" (defScope s_key_of) f cdv A outer s H E).nox (defBody s_key_of) (m_key_of) :=
    have S := S_key_of
    (sds_cons (sd_setN (i := 1) S.nd (pn_lst da_nil))
    (sds_cons (sd_for (di_tup (pd_n 0)) (dg_n (i := 2) S.nd) (sds_one (sd_ext (i := 1) (pv 1) (pd_if (pt_v (pd_isi .str B.isinstance B.str bt_str (pd_n 2))) (pd_f q_text_bytes hr (da_cons (pd_n 2) da_nil)) (pd_f q_integer_bytes hr (da_cons (pd_n 2) da_nil))))))
    (sds_one (sd_ret (pd_ct cd_tuple B.tuple bt_tuple (da_cons (pd_n 1) da_nil))))))
abbrev s_integer_bytes : Stmt := topS 12
abbrev N_integer_bytes : List Str := ["number", "shifted", "bits"]
theorem S_integer_bytes : FnScope N_integer_bytes ["number"] (defScope s_integer_bytes) := ⟨rfl, rfl, rfl, by decide +kernel, rfl, by decide +kernel, by decide +kernel⟩
def m_integer_bytes : DS :=
    (sSeq (sSet 1 (dOp gAdd (dN 0) (dC (.int 549755813888))))
    (sRet (dOp gAdd (dLst (dCons (dC (.int 1)) dNil)) (dLc (dIt (dTup (dCons (dC (.int 32)) (dCons (dC (.int 24)) (dCons (dC (.int 16)) (dCons (dC (.int 8)) (dCons (dC (.int 0)) dNil))))))) 2 dYes (dOp (gI0 Builtin.bitAnd) (dOp (gI (fun _ j => 0 ≤ j) fun i j => i / 2 ^ j.toNat) (dN 1) (dN 2)) (dC (.int 255)))))))
theorem b_integer_bytes {f : Addr} (B : Blt mg) (c_SHIFT : Cst mg "SHIFT" (.int 549755813888)) (c_INTEGER : Cst mg "INTEGER" (.int 1)) (cdv : Value) (A : Around) (outer : List Env) (s : Shared) (H : Hp) (E : XK) (hr : Room 0 (A.deeper (envOfC "integer_bytes" (defScope s_integer_bytes) s.heap.objs.size f cdv))) :
  PDSs Wd.zero (cxOf CX0 P wd K mg base N_integer_bytes "integer_bytes" (defScope s_integer_bytes) f cdv A outer s H E).nox (defBody s_integer_bytes) (m_integer_bytes) :=
    have S := S_integer_bytes
    (sds_cons (sd_set (i := 1) S.nd (pd_op od_add (pd_n 0) (pd_gI c_SHIFT)))
    (sds_one (sd_ret (pd_op od_add (pd_lst (da_cons (pd_gI c_INTEGER) da_nil)) (pd_lc (x := "bits") (j := 2) S.nd (blkOk_by (N := N_integer_bytes) (sc := defScope s_integer_bytes) (by decide +kernel)) (di_tup (pd_tup (da_cons pd_int (da_cons pd_int (da_cons pd_int (da_cons pd_int (da_cons pd_int da_nil))))))) (fun _ _ _ _ _ => pg_name (i := 2) S.nd rfl (Or.inl rfl)) (fun _ _ _ _ _ => dts_nil) (fun _ _ _ _ _ => (pd_op od_and (pd_op od_shr (pd_n 1) (pd_n 2)) pd_int)))))))
abbrev s_text_bytes : Stmt := topS 13
abbrev N_text_bytes : List Str := ["text", "character"]
theorem S_text_bytes : FnScope N_text_bytes ["text"] (defScope s_text_bytes) := ⟨rfl, rfl, rfl, by decide +kernel, rfl, by decide +kernel, by decide +kernel⟩
def m_text_bytes : DS :=
    (sRet (dOp gAdd (dOp gAdd (dLst (dCons (dC (.int 2)) dNil)) (dLc (dIs (dN 0)) 1 dYes (dCall (g1 gOrd) (dCons (dN 1) dNil)))) (dLst (dCons (dC (.int 0)) dNil))))
theorem b_text_bytes {f : Addr} (B : Blt mg) (c_TEXT : Cst mg "TEXT" (.int 2)) (cdv : Value) (A : Around) (outer : List Env) (s : Shared) (H : Hp) (E : XK) (hr : Room 0 (A.deeper (envOfC "text_bytes" (defScope s_text_bytes) s.heap.objs.size f cdv))) :
  PDSs Wd.zero (cxOf CX0 P wd K mg base N_text_bytes "text_bytes" (defScope s_text_bytes) f cdv A outer s H E).nox (defBody s_text_bytes) (m_text_bytes) :=
    have S := S_text_bytes
    (sds_one (sd_ret (pd_op od_add (pd_op od_add (pd_lst (da_cons (pd_gI c_TEXT) da_nil)) (pd_lc (x := "character") (j := 1) S.nd (blkOk_by (N := N_text_bytes) (sc := defScope s_text_bytes) (by decide +kernel)) (di_str (pd_n 0)) (fun _ _ _ _ _ => pg_name (i := 1) S.nd rfl (Or.inl rfl)) (fun _ _ _ _ _ => dts_nil) (fun _ _ _ _ _ => (pd_cb cd_ord B.ord bt_ord (da_cons (pd_n 1) da_nil))))) (pd_lst (da_cons pd_int da_nil)))))
abbrev s_values_of : Stmt := topS 14
abbrev N_values_of : List Str := ["key", "values", "at", "value"]
theorem S_values_of : FnScope N_values_of ["key"] (defScope s_values_of) := ⟨rfl, rfl, rfl, by decide +kernel, rfl, by decide +kernel, by decide +kernel⟩
def m_values_of : DS :=
    (sSeq (sSetN 1 dNil)
    (sSeq (sSet 2 (dC (.int 0)))
    (sSeq (sWh (dT (dOp (gB ltD) (dN 2) (dCall (g1 gLen) (dCons (dN 0) dNil)))) (sSeq (sAsg (dCall F_value_at (dCons (dN 0) (dCons (dN 2) dNil))) (tT [3, 2]))
    (sSeq (sIf (dT (dOp gIsN (dN 3) (dC .none))) (sRet (dC .none)) sNx)
    (sApp 1 (dN 3)))))
    (sRet (dCall (g1 gTuple) (dCons (dN 1) dNil))))))
theorem b_values_of {f : Addr} (B : Blt mg) (q_value_at : Fnc P wd K mg base 3 "value_at" F_value_at) (cdv : Value) (A : Around) (outer : List Env) (s : Shared) (H : Hp) (E : XK) (hr : Room 3 (A.deeper (envOfC "values_of" (defScope s_values_of) s.heap.objs.size f cdv))) :
  PDSs Wd.zero (cxOf CX0 P wd K mg base N_values_of "values_of" (defScope s_values_of) f cdv A outer s H E).nox (defBody s_values_of) (m_values_of) :=
    have S := S_values_of
    (sds_cons (sd_setN (i := 1) S.nd (pn_lst da_nil))
    (sds_cons (sd_set (i := 2) S.nd pd_int)
    (sds_cons (sd_wh (pt_cm (od_lt hr) (pd_n 2) (pd_cb cd_len B.len bt_len (da_cons (pd_n 0) da_nil))) (sds_cons (sd_asg (pd_f q_value_at hr (da_cons (pd_n 0) (da_cons (pd_n 2) da_nil))) (dg_t (is := [3, 2]) (dgs_n (i := 3) S.nd (dgs_n (i := 2) S.nd dgs_nil))))
    (sds_cons (sd_if (pt_cm od_isN (pd_n 3) pd_non) (sds_one (sd_ret pd_non)) sds_nil)
    (sds_one (sd_app (i := 1) (pv 1) (pd_n 3))))))
    (sds_one (sd_ret (pd_ct cd_tuple B.tuple bt_tuple (da_cons (pd_n 1) da_nil)))))))
abbrev s_value_at : Stmt := topS 15
abbrev N_value_at : List Str := ["key", "at", "end"]
theorem S_value_at : FnScope N_value_at ["key", "at"] (defScope s_value_at) := ⟨rfl, rfl, rfl, by decide +kernel, rfl, by decide +kernel, by decide +kernel⟩
def m_value_at : DS :=
    (sSeq (sIf (dT (dOp (gB eqD) (dOp gIx (dN 0) (dN 1)) (dC (.int 1)))) (sRet (dTup (dCons (dCall F_integer_of (dCons (dSl (dN 0) (dSo (dOp gAdd (dN 1) (dC (.int 1)))) (dSo (dOp gAdd (dN 1) (dC (.int 6))))) dNil)) (dCons (dOp gAdd (dN 1) (dC (.int 6))) dNil)))) sNx)
    (sSeq (sIf (dT (dOp (gB eqD) (dOp gIx (dN 0) (dN 1)) (dC (.int 2)))) (sSeq (sSet 2 (dOp gAdd (dN 1) (dC (.int 1))))
    (sSeq (sWh (dAnd (dT (dOp (gB ltD) (dN 2) (dCall (g1 gLen) (dCons (dN 0) dNil)))) (dT (dOp (gB neD) (dOp gIx (dN 0) (dN 2)) (dC (.int 0))))) (sAug 2 (dC (.int 1))))
    (sIf (dT (dOp (gB ltD) (dN 2) (dCall (g1 gLen) (dCons (dN 0) dNil)))) (sRet (dTup (dCons (dCall F_text_of (dCons (dSl (dN 0) (dSo (dOp gAdd (dN 1) (dC (.int 1)))) (dSo (dN 2))) dNil)) (dCons (dOp gAdd (dN 2) (dC (.int 1))) dNil)))) sNx))) sNx)
    (sRet (dTup (dCons (dC .none) (dCons (dN 1) dNil))))))
theorem b_value_at {f : Addr} (B : Blt mg) (c_INTEGER : Cst mg "INTEGER" (.int 1)) (q_integer_of : Fnc P wd K mg base 1 "integer_of" F_integer_of) (c_TEXT : Cst mg "TEXT" (.int 2)) (q_text_of : Fnc P wd K mg base 2 "text_of" F_text_of) (cdv : Value) (A : Around) (outer : List Env) (s : Shared) (H : Hp) (E : XK) (hr : Room 2 (A.deeper (envOfC "value_at" (defScope s_value_at) s.heap.objs.size f cdv))) :
  PDSs Wd.zero (cxOf CX0 P wd K mg base N_value_at "value_at" (defScope s_value_at) f cdv A outer s H E).nox (defBody s_value_at) (m_value_at) :=
    have S := S_value_at
    (sds_cons (sd_if (pt_cm (od_eq hr) (pd_ix (pd_n 0) (pd_n 1)) (pd_gI c_INTEGER)) (sds_one (sd_ret (pd_tup (da_cons (pd_f q_integer_of hr (da_cons (pd_sl (pd_n 0) (do_so (pd_op od_add (pd_n 1) pd_int)) (do_so (pd_op od_add (pd_n 1) pd_int))) da_nil)) (da_cons (pd_op od_add (pd_n 1) pd_int) da_nil))))) sds_nil)
    (sds_cons (sd_if (pt_cm (od_eq hr) (pd_ix (pd_n 0) (pd_n 1)) (pd_gI c_TEXT)) (sds_cons (sd_set (i := 2) S.nd (pd_op od_add (pd_n 1) pd_int))
    (sds_cons (sd_wh (PDW.t (pw_a (pt_cm (od_lt hr) (pd_n 2) (pd_cb cd_len B.len bt_len (da_cons (pd_n 0) da_nil))) (pw_a1 (pt_cm (od_ne hr) (pd_ix (pd_n 0) (pd_n 2)) pd_int)))) (sds_one (sd_aug (i := 2) S.nd pd_int)))
    (sds_one (sd_if (pt_cm (od_lt hr) (pd_n 2) (pd_cb cd_len B.len bt_len (da_cons (pd_n 0) da_nil))) (sds_one (sd_ret (pd_tup (da_cons (pd_f q_text_of hr (da_cons (pd_sl (pd_n 0) (do_so (pd_op od_add (pd_n 1) pd_int)) (do_so (pd_n 2))) da_nil)) (da_cons (pd_op od_add (pd_n 2) pd_int) da_nil))))) sds_nil)))) sds_nil)
    (sds_one (sd_ret (pd_tup (da_cons pd_non (da_cons (pd_n 1) da_nil)))))))
abbrev s_integer_of : Stmt := topS 16
abbrev N_integer_of : List Str := ["digits", "shifted", "digit", "number"]
theorem S_integer_of : FnScope N_integer_of ["digits"] (defScope s_integer_of) := ⟨rfl, rfl, rfl, by decide +kernel, rfl, by decide +kernel, by decide +kernel⟩
def m_integer_of : DS :=
    (sSeq (sIf (dOr (dT (dOp (gB ltD) (dCall (g1 gLen) (dCons (dN 0) dNil)) (dC (.int 5)))) (dOr (dT (dOp (gB ltD) (dCall (g1 (gM1 false)) (dCons (dN 0) dNil)) (dC (.int 0)))) (dT (dOp (gB gtD) (dCall (g1 (gM1 true)) (dCons (dN 0) dNil)) (dC (.int 255)))))) (sRet (dC .none)) sNx)
    (sSeq (sSet 1 (dC (.int 0)))
    (sSeq (sFor (dIt (dN 0)) (tN 2) (sSet 1 (dOp gAdd (dOp (gI CMul (· * ·)) (dN 1) (dC (.int 256))) (dN 2))))
    (sSeq (sSet 3 (dOp (gI0 (· - ·)) (dN 1) (dC (.int 549755813888))))
    (sRet (dIf (dT (dCh gLe gLe (dUn gNeg (dC (.int 1000000000))) (dN 3) (dC (.int 1000000000)))) (dN 3) (dC .none)))))))
theorem b_integer_of {f : Addr} (B : Blt mg) (c_SHIFT : Cst mg "SHIFT" (.int 549755813888)) (c_BOUND : Cst mg "BOUND" (.int 1000000000)) (cdv : Value) (A : Around) (outer : List Env) (s : Shared) (H : Hp) (E : XK) (hr : Room 0 (A.deeper (envOfC "integer_of" (defScope s_integer_of) s.heap.objs.size f cdv))) :
  PDSs Wd.zero (cxOf CX0 P wd K mg base N_integer_of "integer_of" (defScope s_integer_of) f cdv A outer s H E).nox (defBody s_integer_of) (m_integer_of) :=
    have S := S_integer_of
    (sds_cons (sd_if (PDW.t (pw_o (pt_cm (od_lt hr) (pd_cb cd_len B.len bt_len (da_cons (pd_n 0) da_nil)) pd_int) (pw_o (pt_cm (od_lt hr) (pd_cb (cd_min1 hr) B.min bt_min (da_cons (pd_n 0) da_nil)) pd_int) (pw_o1 (pt_cm (od_gt hr) (pd_cb (cd_max1 hr) B.max bt_max (da_cons (pd_n 0) da_nil)) pd_int))))) (sds_one (sd_ret pd_non)) sds_nil)
    (sds_cons (sd_set (i := 1) S.nd pd_int)
    (sds_cons (sd_for (di_tup (pd_n 0)) (dg_n (i := 2) S.nd) (sds_one (sd_set (i := 1) S.nd (pd_op od_add (pd_op od_mul (pd_n 1) pd_int) (pd_n 2)))))
    (sds_cons (sd_set (i := 3) S.nd (pd_op od_sub (pd_n 1) (pd_gI c_SHIFT)))
    (sds_one (sd_ret (pd_if (pt_ch (od_le hr) (od_le hr) (pd_neg (pd_gI c_BOUND)) (pd_n 3) (pd_gI c_BOUND)) (pd_n 3) pd_non)))))))
abbrev s_text_of : Stmt := topS 17
abbrev N_text_of : List Str := ["codes", "characters", "code"]
theorem S_text_of : FnScope N_text_of ["codes"] (defScope s_text_of) := ⟨rfl, rfl, rfl, by decide +kernel, rfl, by decide +kernel, by decide +kernel⟩
def m_text_of : DS :=
    (sSeq (sSet 1 (dLc (dIt (dN 0)) 2 dYes (dCall F_character_of (dCons (dN 2) dNil))))
    (sSeq (sIf (dOr (dT (dOp (gB gtD) (dCall (g1 gLen) (dCons (dN 1) dNil)) (dC (.int 6)))) (dT (dOp (gB inD) (dC .none) (dN 1)))) (sRet (dC .none)) sNx)
    (sRet (dM1 gJoin (dC (.str (Str.ofString ""))) (dN 1)))))
theorem b_text_of {f : Addr} (B : Blt mg) (q_character_of : Fnc P wd K mg base 1 "character_of" F_character_of) (c_LONGEST_TEXT : Cst mg "LONGEST_TEXT" (.int 6)) (cdv : Value) (A : Around) (outer : List Env) (s : Shared) (H : Hp) (E : XK) (hr : Room 1 (A.deeper (envOfC "text_of" (defScope s_text_of) s.heap.objs.size f cdv))) :
  PDSs Wd.zero (cxOf CX0 P wd K mg base N_text_of "text_of" (defScope s_text_of) f cdv A outer s H E).nox (defBody s_text_of) (m_text_of) :=
    have S := S_text_of
    (sds_cons (sd_lc (x := "code") (i := 1) (j := 2) S.nd rfl (blkOk_by (N := N_text_of) (sc := defScope s_text_of) (by decide +kernel)) (di_tup (pd_n 0)) (fun _ _ _ _ _ => pg_name (i := 2) S.nd rfl (Or.inl rfl)) (fun _ _ _ _ _ => dts_nil) (fun _ _ _ _ _ => (pd_f q_character_of hr (da_cons (pd_n 2) da_nil))) (sw_true rfl rfl rfl (by decide +kernel)))
    (sds_cons (sd_if (PDW.t (pw_o (pt_cm (od_gt hr) (pd_cb cd_len B.len bt_len (da_cons (pd_n 1) da_nil)) (pd_gI c_LONGEST_TEXT)) (pw_o1 (pt_cm od_in pd_non (pd_n 1))))) (sds_one (sd_ret pd_non)) sds_nil)
    (sds_one (sd_ret (pd_join pd_str (pd_n 1))))))
abbrev s_character_of : Stmt := topS 18
abbrev N_character_of : List Str := ["code", "left_out"]
theorem S_character_of : FnScope N_character_of ["code"] (defScope s_character_of) := ⟨rfl, rfl, rfl, by decide +kernel, rfl, by decide +kernel, by decide +kernel⟩
def m_character_of : DS :=
    (sSeq (sIf (dOr (dT (dOp (gB ltD) (dN 0) (dC (.int 32)))) (dOr (dT (dOp (gB gtD) (dN 0) (dC (.int 126)))) (dT (dOp (gB eqD) (dN 0) (dC (.int 37)))))) (sRet (dC .none)) sNx)
    (sSeq (sSet 1 (dIf (dT (dOp (gB gtD) (dN 0) (dC (.int 37)))) (dC (.int 1)) (dC (.int 0))))
    (sRet (dOp gIx (dC (.str CH)) (dOp (gI0 (· - ·)) (dOp (gI0 (· - ·)) (dN 0) (dC (.int 32))) (dN 1))))))
theorem b_character_of {f : Addr} (B : Blt mg) (c_SPACE_CODE : Cst mg "SPACE_CODE" (.int 32)) (c_TILDE_CODE : Cst mg "TILDE_CODE" (.int 126)) (c_PERCENT_CODE : Cst mg "PERCENT_CODE" (.int 37)) (c_CHARACTERS : Cst mg "CHARACTERS" (.str CH)) (cdv : Value) (A : Around) (outer : List Env) (s : Shared) (H : Hp) (E : XK) (hr : Room 0 (A.deeper (envOfC "character_of" (defScope s_character_of) s.heap.objs.size f cdv))) :
  PDSs Wd.zero (cxOf CX0 P wd K mg base N_character_of "character_of" (defScope s_character_of) f cdv A outer s H E).nox (defBody s_character_of) (m_character_of) :=
    have S := S_character_of
    (sds_cons (sd_if (PDW.t (pw_o (pt_cm (od_lt hr) (pd_n 0) (pd_gI c_SPACE_CODE)) (pw_o (pt_cm (od_gt hr) (pd_n 0) (pd_gI c_TILDE_CODE)) (pw_o1 (pt_cm (od_eq hr) (pd_n 0) (pd_gI c_PERCENT_CODE)))))) (sds_one (sd_ret pd_non)) sds_nil)
    (sds_cons (sd_set (i := 1) S.nd (pd_if (pt_cm (od_gt hr) (pd_n 0) (pd_gI c_PERCENT_CODE)) pd_int pd_int))
    (sds_one (sd_ret (pd_ix (pd_gS c_CHARACTERS) (pd_op od_sub (pd_op od_sub (pd_n 0) (pd_gI c_SPACE_CODE)) (pd_n 1)))))))
abbrev s_prefix_range : Stmt := topS 19
abbrev N_prefix_range : List Str := ["key"]
theorem S_prefix_range : FnScope N_prefix_range ["key"] (defScope s_prefix_range) := ⟨rfl, rfl, rfl, by decide +kernel, rfl, by decide +kernel, by decide +kernel⟩
def m_prefix_range : DS :=
    (sRet (dTup (dCons (dN 0) (dCons (dOp gAdd (dN 0) (dTup (dCons (dC (.int 3)) dNil))) dNil))))
theorem b_prefix_range {f : Addr} (B : Blt mg) (c_BEYOND : Cst mg "BEYOND" (.int 3)) (cdv : Value) (A : Around) (outer : List Env) (s : Shared) (H : Hp) (E : XK) (hr : Room 0 (A.deeper (envOfC "prefix_range" (defScope s_prefix_range) s.heap.objs.size f cdv))) :
  PDSs Wd.zero (cxOf CX0 P wd K mg base N_prefix_range "prefix_range" (defScope s_prefix_range) f cdv A outer s H E).nox (defBody s_prefix_range) (m_prefix_range) :=
    have S := S_prefix_range
    (sds_one (sd_ret (pd_tup (da_cons (pd_n 0) (da_cons (pd_op od_add (pd_n 0) (pd_tup (da_cons (pd_gI c_BEYOND) da_nil))) da_nil)))))
abbrev s_is_in : Stmt := topS 20
abbrev N_is_in : List Str := ["key", "span", "low", "high"]
theorem S_is_in : FnScope N_is_in ["key", "span"] (defScope s_is_in) := ⟨rfl, rfl, rfl, by decide +kernel, rfl, by decide +kernel, by decide +kernel⟩
def m_is_in : DS :=
    (sSeq (sAsg (dN 1) (tT [2, 3]))
    (sRet (dCh gLe (gB ltD) (dN 2) (dN 0) (dN 3))))
theorem b_is_in {f : Addr} (B : Blt mg) (cdv : Value) (A : Around) (outer : List Env) (s : Shared) (H : Hp) (E : XK) (hr : Room 0 (A.deeper (envOfC "is_in" (defScope s_is_in) s.heap.objs.size f cdv))) :
  PDSs Wd.zero (cxOf CX0 P wd K mg base N_is_in "is_in" (defScope s_is_in) f cdv A outer s H E).nox (defBody s_is_in) (m_is_in) :=
    have S := S_is_in
    (sds_cons (sd_asg (pd_n 1) (dg_t (is := [2, 3]) (dgs_n (i := 2) S.nd (dgs_n (i := 3) S.nd dgs_nil))))
    (sds_one (sd_ret (pd_ch (od_le hr) (od_lt hr) (pd_n 2) (pd_n 0) (pd_n 3)))))
abbrev s_meet : Stmt := topS 21
abbrev N_meet : List Str := ["first", "second", "low", "high"]
theorem S_meet : FnScope N_meet ["first", "second"] (defScope s_meet) := ⟨rfl, rfl, rfl, by decide +kernel, rfl, by decide +kernel, by decide +kernel⟩
def m_meet : DS :=
    (sSeq (sSet 2 (dCall (gM2 true) (dCons (dOp gIx (dN 0) (dC (.int 0))) (dCons (dOp gIx (dN 1) (dC (.int 0))) dNil))))
    (sSeq (sSet 3 (dCall (gM2 false) (dCons (dOp gIx (dN 0) (dC (.int 1))) (dCons (dOp gIx (dN 1) (dC (.int 1))) dNil))))
    (sRet (dOp (gB ltD) (dN 2) (dN 3)))))
theorem b_meet {f : Addr} (B : Blt mg) (cdv : Value) (A : Around) (outer : List Env) (s : Shared) (H : Hp) (E : XK) (hr : Room 0 (A.deeper (envOfC "meet" (defScope s_meet) s.heap.objs.size f cdv))) :
  PDSs Wd.zero (cxOf CX0 P wd K mg base N_meet "meet" (defScope s_meet) f cdv A outer s H E).nox (defBody s_meet) (m_meet) :=
    have S := S_meet
    (sds_cons (sd_set (i := 2) S.nd (pd_cb (cd_max2 hr) B.max bt_max (da_cons (pd_ix (pd_n 0) pd_int) (da_cons (pd_ix (pd_n 1) pd_int) da_nil))))
    (sds_cons (sd_set (i := 3) S.nd (pd_cb (cd_min2 hr) B.min bt_min (da_cons (pd_ix (pd_n 0) pd_int) (da_cons (pd_ix (pd_n 1) pd_int) da_nil))))
    (sds_one (sd_ret (pd_cmp (od_lt hr) (pd_n 2) (pd_n 3))))))
abbrev s_row_order : Stmt := topS 22
abbrev N_row_order : List Str := ["values", "value"]
theorem S_row_order : FnScope N_row_order ["values"] (defScope s_row_order) := ⟨rfl, rfl, rfl, by decide +kernel, rfl, by decide +kernel, by decide +kernel⟩
def m_row_order : DS :=
    (sRet (dCall (g1 gTuple) (dCons (dLc (dIt (dN 0)) 1 dYes (dTup (dCons (dIf (dT (dIsi .str (dN 1))) (dC (.int 2)) (dC (.int 1))) (dCons (dN 1) dNil)))) dNil)))
theorem b_row_order {f : Addr} (B : Blt mg) (c_TEXT : Cst mg "TEXT" (.int 2)) (c_INTEGER : Cst mg "INTEGER" (.int 1)) (cdv : Value) (A : Around) (outer : List Env) (s : Shared) (H : Hp) (E : XK) (hr : Room 0 (A.deeper (envOfC "row_order" (defScope s_row_order) s.heap.objs.size f cdv))) :
  PDSs Wd.zero (cxOf CX0 P wd K mg base N_row_order "row_order" (defScope s_row_order) f cdv A outer s H E).nox (defBody s_row_order) (m_row_order) :=
    have S := S_row_order
    (sds_one (sd_ret (pd_ct cd_tuple B.tuple bt_tuple (da_cons (pd_lc (x := "value") (j := 1) S.nd (blkOk_by (N := N_row_order) (sc := defScope s_row_order) (by decide +kernel)) (di_tup (pd_n 0)) (fun _ _ _ _ _ => pg_name (i := 1) S.nd rfl (Or.inl rfl)) (fun _ _ _ _ _ => dts_nil) (fun _ _ _ _ _ => (pd_tup (da_cons (pd_if (pt_v (pd_isi .str B.isinstance B.str bt_str (pd_n 1))) (pd_gI c_TEXT) (pd_gI c_INTEGER)) (da_cons (pd_n 1) da_nil))))) da_nil))))
abbrev s__law_same : Stmt := topS 25
abbrev N__law_same : List Str := ["actual", "expected", "k"]
theorem S__law_same : FnScope N__law_same ["actual", "expected"] (defScope s__law_same) := ⟨rfl, rfl, rfl, by decide +kernel, rfl, by decide +kernel, by decide +kernel⟩
def m__law_same (F : D1) : DS :=
    (sSeq (sIf (dT (dOp gIsN (dN 1) (dC .none))) (sRet (dOp gIsN (dN 0) (dC .none))) sNx)
    (sSeq (sIf (dT (dIsi .bool (dN 1))) (sRet (dAndV (dIsi .bool (dN 0)) (dOp (gB eqD) (dN 0) (dN 1)))) sNx)
    (sSeq (sIf (dT (dIsi .int (dN 1))) (sRet (dAndV (dIsi .int (dN 0)) (dAndV (dNotV (dIsi .bool (dN 0))) (dOp (gB eqD) (dN 0) (dN 1))))) sNx)
    (sSeq (sIf (dT (dIsi .str (dN 1))) (sRet (dAndV (dIsi .str (dN 0)) (dOp (gB eqD) (dN 0) (dN 1)))) sNx)
    (sSeq (sIf (dAnd (dT (dIsi .tuple (dN 1))) (dNot (dT (dIsi .tuple (dN 0))))) (sRet (dC (.bool false))) sNx)
    (sSeq (sIf (dAnd (dT (dIsi .list (dN 1))) (dNot (dT (dIsi .list (dN 0))))) (sRet (dC (.bool false))) sNx)
    (sSeq (sIf (dT (dOp (gB neD) (dCall (g1 gLen) (dCons (dN 0) dNil)) (dCall (g1 gLen) (dCons (dN 1) dNil)))) (sRet (dC (.bool false))) sNx)
    (sSeq (sFor (dIr (dCall (g1 gLen) (dCons (dN 1) dNil))) (tN 2) (sIf (dNot (dT (dCall F (dCons (dOp gIx (dN 0) (dN 2)) (dCons (dOp gIx (dN 1) (dN 2)) dNil))))) (sRet (dC (.bool false))) sNx))
    (sRet (dC (.bool true)))))))))))
theorem b__law_same {f : Addr} (B : Blt mg) {kf lv : Nat} {F : D1} (hle : kf ≤ lv) (q__law_same : Fnc P wd K mg base kf "_law_same" F) (cdv : Value) (A : Around) (outer : List Env) (s : Shared) (H : Hp) (E : XK) (hr : Room lv (A.deeper (envOfC "_law_same" (defScope s__law_same) s.heap.objs.size f cdv))) :
  PDSs Wd.zero (cxOf CX0 P wd K mg base N__law_same "_law_same" (defScope s__law_same) f cdv A outer s H E).nox (defBody s__law_same) (m__law_same F) :=
    have S := S__law_same
    (sds_cons (sd_if (pt_cm od_isN (pd_n 1) pd_non) (sds_one (sd_ret (pd_cmp od_isN (pd_n 0) pd_non))) sds_nil)
    (sds_cons (sd_if (pt_v (pd_isi .bool B.isinstance B.bool bt_bool (pd_n 1))) (sds_one (sd_ret (pd_and (pd_isi .bool B.isinstance B.bool bt_bool (pd_n 0)) (pd_one (pd_cmp (od_eq hr) (pd_n 0) (pd_n 1)))))) sds_nil)
    (sds_cons (sd_if (pt_v (pd_isi .int B.isinstance B.int bt_int (pd_n 1))) (sds_one (sd_ret (pd_and (pd_isi .int B.isinstance B.int bt_int (pd_n 0)) (pd_and (pd_not (pd_isi .bool B.isinstance B.bool bt_bool (pd_n 0))) (pd_one (pd_cmp (od_eq hr) (pd_n 0) (pd_n 1))))))) sds_nil)
    (sds_cons (sd_if (pt_v (pd_isi .str B.isinstance B.str bt_str (pd_n 1))) (sds_one (sd_ret (pd_and (pd_isi .str B.isinstance B.str bt_str (pd_n 0)) (pd_one (pd_cmp (od_eq hr) (pd_n 0) (pd_n 1)))))) sds_nil)
    (sds_cons (sd_if (PDW.t (pw_a (pt_v (pd_isi .tuple B.isinstance B.tuple bt_tuple (pd_n 1))) (pw_a1 (pt_no (pt_v (pd_isi .tuple B.isinstance B.tuple bt_tuple (pd_n 0))))))) (sds_one (sd_ret pd_bl)) sds_nil)
    (sds_cons (sd_if (PDW.t (pw_a (pt_v (pd_isi .list B.isinstance B.list bt_list (pd_n 1))) (pw_a1 (pt_no (pt_v (pd_isi .list B.isinstance B.list bt_list (pd_n 0))))))) (sds_one (sd_ret pd_bl)) sds_nil)
    (sds_cons (sd_if (pt_cm (od_ne hr) (pd_cb cd_len B.len bt_len (da_cons (pd_n 0) da_nil)) (pd_cb cd_len B.len bt_len (da_cons (pd_n 1) da_nil))) (sds_one (sd_ret pd_bl)) sds_nil)
    (sds_cons (sd_for (di_range B.range (pd_cb cd_len B.len bt_len (da_cons (pd_n 1) da_nil))) (dg_n (i := 2) S.nd) (sds_one (sd_if (pt_no (pt_v (pd_f (hj := hle) q__law_same hr (da_cons (pd_ix (pd_n 0) (pd_n 2)) (da_cons (pd_ix (pd_n 1) (pd_n 2)) da_nil))))) (sds_one (sd_ret pd_bl)) sds_nil)))
    (sds_one (sd_ret pd_bl))))))))))
abbrev s__law_value : Stmt := topS 26
abbrev N__law_value : List Str := ["state", "pick", "start", "step", "j"]
theorem S__law_value : FnScope N__law_value ["state"] (defScope s__law_value) := ⟨rfl, rfl, rfl, by decide +kernel, rfl, by decide +kernel, by decide +kernel⟩
def m__law_value (a : Addr) : DS :=
    (sSeq (sSet 1 (dSt a 0 F__law_next (dCons (dC (.int 12)) dNil)))
    (sSeq (sIf (dT (dOp (gB ltD) (dN 1) (dC (.int 5)))) (sRet (dOp gIx (dLst (dCons (dC (.int 0)) (dCons (dC (.int 1)) (dCons (dC (.int 2)) (dCons (dUn gNeg (dC (.int 1))) (dCons (dC (.int 7)) dNil)))))) (dN 1))) sNx)
    (sSeq (sIf (dT (dOp (gB eqD) (dN 1) (dC (.int 5)))) (sRet (dOp (gI CMul (· * ·)) (dOp (gI0 (· - ·)) (dC (.int 1)) (dOp (gI CMul (· * ·)) (dC (.int 2)) (dSt a 0 F__law_next (dCons (dC (.int 2)) dNil)))) (dOp (gI0 (· - ·)) (dOp (gI CPow fun i j => i ^ j.toNat) (dC (.int 10)) (dC (.int 9))) (dSt a 0 F__law_next (dCons (dC (.int 3)) dNil))))) sNx)
    (sSeq (sIf (dT (dOp (gB eqD) (dN 1) (dC (.int 6)))) (sRet (dOp (gI0 (· - ·)) (dSt a 0 F__law_next (dCons (dOp gAdd (dOp (gI CMul (· * ·)) (dC (.int 2)) (dOp (gI CPow fun i j => i ^ j.toNat) (dC (.int 10)) (dC (.int 9)))) (dC (.int 1))) dNil)) (dOp (gI CPow fun i j => i ^ j.toNat) (dC (.int 10)) (dC (.int 9))))) sNx)
    (sSeq (sIf (dT (dOp (gB ltD) (dN 1) (dC (.int 10)))) (sRet (dOp gIx (dLst (dCons (dC (.str (Str.ofString ""))) (dCons (dC (.str (Str.ofString "a"))) (dCons (dC (.str (Str.ofString "ab"))) (dCons (dC (.str (Str.ofString "z~ 9!#"))) dNil))))) (dOp gAdd (dOp (gI0 (· - ·)) (dN 1) (dC (.int 7))) (dOp (gI CMul (· * ·)) (dCall (g1 gInt) (dCons (dOp (gB eqD) (dSt a 0 F__law_next (dCons (dC (.int 9)) dNil)) (dC (.int 0))) dNil)) (dOp gAdd (dOp (gI0 (· - ·)) (dC (.int 9)) (dN 1)) (dC (.int 1))))))) sNx)
    (sSeq (sSet 2 (dSt a 0 F__law_next (dCons (dC (.int 94)) dNil)))
    (sSeq (sSet 3 (dSt a 0 F__law_next (dCons (dC (.int 94)) dNil)))
    (sRet (dM1 gJoin (dC (.str (Str.ofString ""))) (dLc (dIr (dSt a 0 F__law_next (dCons (dC (.int 7)) dNil))) 4 dYes (dOp gIx (fun _ P => F__law_characters [] P) (dOp (gI (fun _ j => 0 < j) (· % ·)) (dOp gAdd (dN 2) (dOp (gI CMul (· * ·)) (dN 3) (dN 4))) (dC (.int 94))))))))))))))
theorem b__law_value {f : Addr} (B : Blt mg) (q__law_next : Sfn P wd K mg base 1 "_law_next" F__law_next) (q__law_characters : Fnc P wd K mg base 1 "_law_characters" F__law_characters) (a l : Addr) (ns : List Int) (cdv : Value) (A : Around) (outer : List Env) (s : Shared) (H : Hp) (E : XK) (hr : Room 1 (A.deeper (envOfC "_law_value" (defScope s__law_value) s.heap.objs.size f cdv))) :
  PDSs (wst a l ns) (cxOf CX0 P wd K mg base N__law_value "_law_value" (defScope s__law_value) f cdv A outer s H E).nox (defBody s__law_value) (m__law_value a) :=
    have S := S__law_value
    (sds_cons (sd_set (i := 1) S.nd (pd_s q__law_next hr (pv 0) (da_cons pd_int da_nil)))
    (sds_cons (sd_if (pt_cm (od_lt hr) (pd_n 1) pd_int) (sds_one (sd_ret (pd_ix (pd_lst (da_cons pd_int (da_cons pd_int (da_cons pd_int (da_cons (pd_neg pd_int) (da_cons pd_int da_nil)))))) (pd_n 1)))) sds_nil)
    (sds_cons (sd_if (pt_cm (od_eq hr) (pd_n 1) pd_int) (sds_one (sd_ret (pd_op od_mul (pd_op od_sub pd_int (pd_op od_mul pd_int (pd_s q__law_next hr (pv 0) (da_cons pd_int da_nil)))) (pd_op od_sub (pd_op od_pow pd_int pd_int) (pd_s q__law_next hr (pv 0) (da_cons pd_int da_nil)))))) sds_nil)
    (sds_cons (sd_if (pt_cm (od_eq hr) (pd_n 1) pd_int) (sds_one (sd_ret (pd_op od_sub (pd_s q__law_next hr (pv 0) (da_cons (pd_op od_add (pd_op od_mul pd_int (pd_op od_pow pd_int pd_int)) pd_int) da_nil)) (pd_op od_pow pd_int pd_int)))) sds_nil)
    (sds_cons (sd_if (pt_cm (od_lt hr) (pd_n 1) pd_int) (sds_one (sd_ret (pd_ix (pd_lst (da_cons pd_str (da_cons pd_str (da_cons pd_str (da_cons pd_str da_nil))))) (pd_op od_add (pd_op od_sub (pd_n 1) pd_int) (pd_op od_mul (pd_ct cd_int B.int bt_int (da_cons (pd_cmp (od_eq hr) (pd_s q__law_next hr (pv 0) (da_cons pd_int da_nil)) pd_int) da_nil)) (pd_op od_add (pd_op od_sub pd_int (pd_n 1)) pd_int)))))) sds_nil)
    (sds_cons (sd_set (i := 2) S.nd (pd_s q__law_next hr (pv 0) (da_cons pd_int da_nil)))
    (sds_cons (sd_set (i := 3) S.nd (pd_s q__law_next hr (pv 0) (da_cons pd_int da_nil)))
    (sds_one (sd_ret (pd_join pd_str (pd_lc (x := "j") (j := 4) S.nd (blkOk_by (N := N__law_value) (sc := defScope s__law_value) (by decide +kernel)) (di_range B.range (pd_s q__law_next hr (pv 0) (da_cons pd_int da_nil))) (fun _ _ _ _ _ => pg_name (i := 4) S.nd rfl (Or.inl rfl)) (fun _ _ _ _ _ => dts_nil) (fun _ _ _ _ _ => (pd_ix (pd_f0 q__law_characters hr) (pd_op od_mod (pd_op od_add (pd_n 2) (pd_op od_mul (pd_n 3) (pd_n 4))) pd_int))))))))))))))
abbrev s__law_characters : Stmt := topS 27
abbrev N__law_characters : List Str := []
theorem S__law_characters : FnScope N__law_characters [] (defScope s__law_characters) := ⟨rfl, rfl, rfl, by decide +kernel, rfl, by decide +kernel, by decide +kernel⟩
def m__law_characters : DS :=
    (sRet (dC (.str (Str.ofString " !\"#$&'()*+,-./0123456789:;<=>?@ABCDEFGHIJKLMNOPQRSTUVWXYZ[\\]^_`abcdefghijklmnopqrstuvwxyz{|}~"))))
theorem b__law_characters {f : Addr} (B : Blt mg) (cdv : Value) (A : Around) (outer : List Env) (s : Shared) (H : Hp) (E : XK) (hr : Room 0 (A.deeper (envOfC "_law_characters" (defScope s__law_characters) s.heap.objs.size f cdv))) :
  PDSs Wd.zero (cxOf CX0 P wd K mg base N__law_characters "_law_characters" (defScope s__law_characters) f cdv A outer s H E).nox (defBody s__law_characters) (m__law_characters) :=
    have S := S__law_characters
    (sds_one (sd_ret pd_str))
abbrev s__law_bytes : Stmt := topS 28
abbrev N__law_bytes : List Str := ["values", "data", "value", "chars", "number", "five", "k", "each"]
theorem S__law_bytes : FnScope N__law_bytes ["values"] (defScope s__law_bytes) := ⟨rfl, rfl, rfl, by decide +kernel, rfl, by decide +kernel, by decide +kernel⟩
def m__law_bytes : DS :=
    (sSeq (sSet 1 (dLst dNil))
    (sSeq (sFor (dIt (dN 0)) (tN 2) (sIf (dT (dIsi .str (dN 2))) (sSeq (sSet 3 (fun _ P => F__law_characters [] P))
    (sSet 1 (dOp gAdd (dOp gAdd (dOp gAdd (dN 1) (dLst (dCons (dC (.int 2)) dNil))) (dLc (dIs (dN 2)) 7 dYes (dOp gAdd (dOp gAdd (dC (.int 32)) (dM1 gSix (dN 3) (dN 7))) (dCall (g1 gInt) (dCons (dOp (gB gtD) (dM1 gSix (dN 3) (dN 7)) (dC (.int 4))) dNil))))) (dLst (dCons (dC (.int 0)) dNil))))) (sSeq (sSet 4 (dOp gAdd (dN 2) (dC (.int 549755813888))))
    (sSeq (sSet 5 (dLst dNil))
    (sSeq (sFor (dIr (dC (.int 5))) (tN 6) (sSeq (sSet 5 (dOp gAdd (dLst (dCons (dOp (gI (fun _ j => 0 < j) (· % ·)) (dCall (g1 gInt) (dCons (dN 4) dNil)) (dC (.int 256))) dNil)) (dN 5)))
    (sSet 4 (dOp (gI CDivW (· / ·)) (dN 4) (dC (.int 256))))))
    (sSet 1 (dOp gAdd (dOp gAdd (dN 1) (dLst (dCons (dC (.int 1)) dNil))) (dN 5))))))))
    (sRet (dCall (g1 gTuple) (dCons (dN 1) dNil)))))
theorem b__law_bytes {f : Addr} (B : Blt mg) (q__law_characters : Fnc P wd K mg base 1 "_law_characters" F__law_characters) (cdv : Value) (A : Around) (outer : List Env) (s : Shared) (H : Hp) (E : XK) (hr : Room 1 (A.deeper (envOfC "_law_bytes" (defScope s__law_bytes) s.heap.objs.size f cdv))) :
  PDSs Wd.zero (cxOf CX0 P wd K mg base N__law_bytes "_law_bytes" (defScope s__law_bytes) f cdv A outer s H E).nox (defBody s__law_bytes) (m__law_bytes) :=
    have S := S__law_bytes
    (sds_cons (sd_set (i := 1) S.nd (pd_lst da_nil))
    (sds_cons (sd_for (di_tup (pd_n 0)) (dg_n (i := 2) S.nd) (sds_one (sd_if (pt_v (pd_isi .str B.isinstance B.str bt_str (pd_n 2))) (sds_cons (sd_set (i := 3) S.nd (pd_f0 q__law_characters hr))
    (sds_one (sd_set (i := 1) S.nd (pd_op od_add (pd_op od_add (pd_op od_add (pd_n 1) (pd_lst (da_cons pd_int da_nil))) (pd_lc (x := "each") (j := 7) S.nd (blkOk_by (N := N__law_bytes) (sc := defScope s__law_bytes) (by decide +kernel)) (di_str (pd_n 2)) (fun _ _ _ _ _ => pg_name (i := 7) S.nd rfl (Or.inl rfl)) (fun _ _ _ _ _ => dts_nil) (fun _ _ _ _ _ => (pd_op od_add (pd_op od_add pd_int (pd_six (pd_n 3) (pd_n 7))) (pd_ct cd_int B.int bt_int (da_cons (pd_cmp (od_gt hr) (pd_six (pd_n 3) (pd_n 7)) pd_int) da_nil)))))) (pd_lst (da_cons pd_int da_nil)))))) (sds_cons (sd_set (i := 4) S.nd (pd_op od_add (pd_n 2) pd_int))
    (sds_cons (sd_set (i := 5) S.nd (pd_lst da_nil))
    (sds_cons (sd_for (di_range B.range pd_int) (dg_n (i := 6) S.nd) (sds_cons (sd_set (i := 5) S.nd (pd_op od_add (pd_lst (da_cons (pd_op od_mod (pd_ct cd_int B.int bt_int (da_cons (pd_n 4) da_nil)) pd_int) da_nil)) (pd_n 5)))
    (sds_one (sd_set (i := 4) S.nd (pd_op od_div (pd_n 4) pd_int)))))
    (sds_one (sd_set (i := 1) S.nd (pd_op od_add (pd_op od_add (pd_n 1) (pd_lst (da_cons pd_int da_nil))) (pd_n 5))))))))))
    (sds_one (sd_ret (pd_ct cd_tuple B.tuple bt_tuple (da_cons (pd_n 1) da_nil))))))
abbrev s__law_read : Stmt := topS 29
abbrev N__law_read : List Str := ["key", "values", "at", "turn", "number", "byte", "codes", "code"]
theorem S__law_read : FnScope N__law_read ["key"] (defScope s__law_read) := ⟨rfl, rfl, rfl, by decide +kernel, rfl, by decide +kernel, by decide +kernel⟩
def m__law_read : DS :=
    (sSeq (sSetN 1 dNil)
    (sSeq (sSet 2 (dC (.int 0)))
    (sSeq (sFor (dIr (dCall (g1 gLen) (dCons (dN 0) dNil))) (tN 3) (sSeq (sIf (dT (dOp (gB eqD) (dN 2) (dCall (g1 gLen) (dCons (dN 0) dNil)))) (sRet (dCall (g1 gTuple) (dCons (dN 1) dNil))) sNx)
    (sIf (dAnd (dT (dOp (gB eqD) (dOp gIx (dN 0) (dN 2)) (dC (.int 1)))) (dT (dOp gLe (dOp gAdd (dN 2) (dC (.int 6))) (dCall (g1 gLen) (dCons (dN 0) dNil))))) (sSeq (sSet 4 (dC (.int 0)))
    (sSeq (sFor (dIt (dSl (dN 0) (dSo (dOp gAdd (dN 2) (dC (.int 1)))) (dSo (dOp gAdd (dN 2) (dC (.int 6)))))) (tN 5) (sSet 4 (dOp gAdd (dOp (gI CMul (· * ·)) (dN 4) (dC (.int 256))) (dN 5))))
    (sSeq (sSet 4 (dOp (gI0 (· - ·)) (dN 4) (dC (.int 549755813888))))
    (sSeq (sIf (dT (dOp (gB gtD) (dCall (g1 gAbs) (dCons (dN 4) dNil)) (dOp (gI CPow fun i j => i ^ j.toNat) (dC (.int 10)) (dC (.int 9))))) (sRet (dC .none)) sNx)
    (sSeq (sApp 1 (dN 4))
    (sSet 2 (dOp gAdd (dN 2) (dC (.int 6))))))))) (sIf (dAnd (dT (dOp (gB eqD) (dOp gIx (dN 0) (dN 2)) (dC (.int 2)))) (dT (dOp (gB inD) (dC (.int 0)) (dSl (dN 0) (dSo (dN 2)) dNo)))) (sSeq (sSet 6 (dSl (dN 0) (dSo (dOp gAdd (dN 2) (dC (.int 1)))) (dSo (dOp gAdd (dN 2) (dLix (dCall (g1 gList) (dCons (dSl (dN 0) (dSo (dN 2)) dNo) dNil)) (dC (.int 0)))))))
    (sSeq (sIf (dOr (dT (dOp (gB gtD) (dCall (g1 gLen) (dCons (dN 6) dNil)) (dC (.int 6)))) (dT (dOp (gB neD) (dLc (dIt (dN 6)) 7 (dOr (dT (dOp (gB ltD) (dN 7) (dC (.int 32)))) (dOr (dT (dOp (gB eqD) (dN 7) (dC (.int 37)))) (dT (dOp (gB gtD) (dN 7) (dC (.int 126)))))) (dN 7)) (dLst dNil)))) (sRet (dC .none)) sNx)
    (sSeq (sApp 1 (dM1 gJoin (dC (.str (Str.ofString ""))) (dLc (dIt (dN 6)) 7 dYes (dOp gIx (fun _ P => F__law_characters [] P) (dOp (gI0 (· - ·)) (dOp (gI0 (· - ·)) (dN 7) (dC (.int 32))) (dCall (g1 gInt) (dCons (dOp (gB gtD) (dN 7) (dC (.int 37))) dNil)))))))
    (sSet 2 (dOp gAdd (dOp gAdd (dN 2) (dCall (g1 gLen) (dCons (dN 6) dNil))) (dC (.int 2))))))) (sRet (dC .none))))))
    (sRet (dOp gIx (dLst (dCons (dC .none) (dCons (dCall (g1 gTuple) (dCons (dN 1) dNil)) dNil))) (dCall (g1 gInt) (dCons (dOp (gB eqD) (dN 2) (dCall (g1 gLen) (dCons (dN 0) dNil))) dNil)))))))
theorem b__law_read {f : Addr} (B : Blt mg) (q__law_characters : Fnc P wd K mg base 1 "_law_characters" F__law_characters) (cdv : Value) (A : Around) (outer : List Env) (s : Shared) (H : Hp) (E : XK) (hr : Room 1 (A.deeper (envOfC "_law_read" (defScope s__law_read) s.heap.objs.size f cdv))) :
  PDSs Wd.zero (cxOf CX0 P wd K mg base N__law_read "_law_read" (defScope s__law_read) f cdv A outer s H E).nox (defBody s__law_read) (m__law_read) :=
    have S := S__law_read
    (sds_cons (sd_setN (i := 1) S.nd (pn_lst da_nil))
    (sds_cons (sd_set (i := 2) S.nd pd_int)
    (sds_cons (sd_for (di_range B.range (pd_cb cd_len B.len bt_len (da_cons (pd_n 0) da_nil))) (dg_n (i := 3) S.nd) (sds_cons (sd_if (pt_cm (od_eq hr) (pd_n 2) (pd_cb cd_len B.len bt_len (da_cons (pd_n 0) da_nil))) (sds_one (sd_ret (pd_ct cd_tuple B.tuple bt_tuple (da_cons (pd_n 1) da_nil)))) sds_nil)
    (sds_one (sd_if (PDW.t (pw_a (pt_cm (od_eq hr) (pd_ix (pd_n 0) (pd_n 2)) pd_int) (pw_a1 (pt_cm (od_le hr) (pd_op od_add (pd_n 2) pd_int) (pd_cb cd_len B.len bt_len (da_cons (pd_n 0) da_nil)))))) (sds_cons (sd_set (i := 4) S.nd pd_int)
    (sds_cons (sd_for (di_tup (pd_sl (pd_n 0) (do_so (pd_op od_add (pd_n 2) pd_int)) (do_so (pd_op od_add (pd_n 2) pd_int)))) (dg_n (i := 5) S.nd) (sds_one (sd_set (i := 4) S.nd (pd_op od_add (pd_op od_mul (pd_n 4) pd_int) (pd_n 5)))))
    (sds_cons (sd_set (i := 4) S.nd (pd_op od_sub (pd_n 4) pd_int))
    (sds_cons (sd_if (pt_cm (od_gt hr) (pd_cb cd_abs B.abs bt_abs (da_cons (pd_n 4) da_nil)) (pd_op od_pow pd_int pd_int)) (sds_one (sd_ret pd_non)) sds_nil)
    (sds_cons (sd_app (i := 1) (pv 1) (pd_n 4))
    (sds_one (sd_set (i := 2) S.nd (pd_op od_add (pd_n 2) pd_int)))))))) (sds_one (sd_if (PDW.t (pw_a (pt_cm (od_eq hr) (pd_ix (pd_n 0) (pd_n 2)) pd_int) (pw_a1 (pt_cm od_in pd_int (pd_sl (pd_n 0) (do_so (pd_n 2)) do_no))))) (sds_cons (sd_set (i := 6) S.nd (pd_sl (pd_n 0) (do_so (pd_op od_add (pd_n 2) pd_int)) (do_so (pd_op od_add (pd_n 2) (pd_lix (pd_ct cd_list B.list bt_list (da_cons (pd_sl (pd_n 0) (do_so (pd_n 2)) do_no) da_nil)) pd_int)))))
    (sds_cons (sd_if (PDW.t (pw_o (pt_cm (od_gt hr) (pd_cb cd_len B.len bt_len (da_cons (pd_n 6) da_nil)) pd_int) (pw_o1 (pt_cm (od_ne hr) (pd_lc (x := "code") (j := 7) S.nd (blkOk_by (N := N__law_read) (sc := defScope s__law_read) (by decide +kernel)) (di_tup (pd_n 6)) (fun _ _ _ _ _ => pg_name (i := 7) S.nd rfl (Or.inl rfl)) (fun _ _ _ _ _ => dts_one (PDW.t (pw_o (pt_cm (od_lt hr) (pd_n 7) pd_int) (pw_o (pt_cm (od_eq hr) (pd_n 7) pd_int) (pw_o1 (pt_cm (od_gt hr) (pd_n 7) pd_int)))))) (fun _ _ _ _ _ => (pd_n 7))) (pd_lst da_nil))))) (sds_one (sd_ret pd_non)) sds_nil)
    (sds_cons (sd_app (i := 1) (pv 1) (pd_join pd_str (pd_lc (x := "code") (j := 7) S.nd (blkOk_by (N := N__law_read) (sc := defScope s__law_read) (by decide +kernel)) (di_tup (pd_n 6)) (fun _ _ _ _ _ => pg_name (i := 7) S.nd rfl (Or.inl rfl)) (fun _ _ _ _ _ => dts_nil) (fun _ _ _ _ _ => (pd_ix (pd_f0 q__law_characters hr) (pd_op od_sub (pd_op od_sub (pd_n 7) pd_int) (pd_ct cd_int B.int bt_int (da_cons (pd_cmp (od_gt hr) (pd_n 7) pd_int) da_nil))))))))
    (sds_one (sd_set (i := 2) S.nd (pd_op od_add (pd_op od_add (pd_n 2) (pd_cb cd_len B.len bt_len (da_cons (pd_n 6) da_nil))) pd_int)))))) (sds_one (sd_ret pd_non))))))))
    (sds_one (sd_ret (pd_ix (pd_lst (da_cons pd_non (da_cons (pd_ct cd_tuple B.tuple bt_tuple (da_cons (pd_n 1) da_nil)) da_nil))) (pd_ct cd_int B.int bt_int (da_cons (pd_cmp (od_eq hr) (pd_n 2) (pd_cb cd_len B.len bt_len (da_cons (pd_n 0) da_nil))) da_nil))))))))
abbrev s__law_order : Stmt := topS 30
abbrev N__law_order : List Str := ["first", "second", "k", "kinds"]
theorem S__law_order : FnScope N__law_order ["first", "second"] (defScope s__law_order) := ⟨rfl, rfl, rfl, by decide +kernel, rfl, by decide +kernel, by decide +kernel⟩
def m__law_order : DS :=
    (sSeq (sFor (dIr (dCall (gM2 false) (dCons (dCall (g1 gLen) (dCons (dN 0) dNil)) (dCons (dCall (g1 gLen) (dCons (dN 1) dNil)) dNil)))) (tN 2) (sSeq (sSet 3 (dLst (dCons (dIsi .str (dOp gIx (dN 0) (dN 2))) (dCons (dIsi .str (dOp gIx (dN 1) (dN 2))) dNil))))
    (sSeq (sIf (dT (dOp (gB neD) (dOp gIx (dN 3) (dC (.int 0))) (dOp gIx (dN 3) (dC (.int 1))))) (sRet (dOp (gI0 (· - ·)) (dC (.int 1)) (dOp (gI CMul (· * ·)) (dC (.int 2)) (dCall (g1 gInt) (dCons (dOp gIx (dN 3) (dC (.int 1))) dNil))))) sNx)
    (sIf (dT (dOp (gB neD) (dOp gIx (dN 0) (dN 2)) (dOp gIx (dN 1) (dN 2)))) (sRet (dOp (gI0 (· - ·)) (dC (.int 1)) (dOp (gI CMul (· * ·)) (dC (.int 2)) (dCall (g1 gInt) (dCons (dOp (gB ltD) (dOp gIx (dN 0) (dN 2)) (dOp gIx (dN 1) (dN 2))) dNil))))) sNx))))
    (sRet (dOp (gI0 (· - ·)) (dCall (g1 gInt) (dCons (dOp (gB gtD) (dCall (g1 gLen) (dCons (dN 0) dNil)) (dCall (g1 gLen) (dCons (dN 1) dNil))) dNil)) (dCall (g1 gInt) (dCons (dOp (gB ltD) (dCall (g1 gLen) (dCons (dN 0) dNil)) (dCall (g1 gLen) (dCons (dN 1) dNil))) dNil)))))
theorem b__law_order {f : Addr} (B : Blt mg) (cdv : Value) (A : Around) (outer : List Env) (s : Shared) (H : Hp) (E : XK) (hr : Room 0 (A.deeper (envOfC "_law_order" (defScope s__law_order) s.heap.objs.size f cdv))) :
  PDSs Wd.zero (cxOf CX0 P wd K mg base N__law_order "_law_order" (defScope s__law_order) f cdv A outer s H E).nox (defBody s__law_order) (m__law_order) :=
    have S := S__law_order
    (sds_cons (sd_for (di_range B.range (pd_cb (cd_min2 hr) B.min bt_min (da_cons (pd_cb cd_len B.len bt_len (da_cons (pd_n 0) da_nil)) (da_cons (pd_cb cd_len B.len bt_len (da_cons (pd_n 1) da_nil)) da_nil)))) (dg_n (i := 2) S.nd) (sds_cons (sd_set (i := 3) S.nd (pd_lst (da_cons (pd_isi .str B.isinstance B.str bt_str (pd_ix (pd_n 0) (pd_n 2))) (da_cons (pd_isi .str B.isinstance B.str bt_str (pd_ix (pd_n 1) (pd_n 2))) da_nil))))
    (sds_cons (sd_if (pt_cm (od_ne hr) (pd_ix (pd_n 3) pd_int) (pd_ix (pd_n 3) pd_int)) (sds_one (sd_ret (pd_op od_sub pd_int (pd_op od_mul pd_int (pd_ct cd_int B.int bt_int (da_cons (pd_ix (pd_n 3) pd_int) da_nil)))))) sds_nil)
    (sds_one (sd_if (pt_cm (od_ne hr) (pd_ix (pd_n 0) (pd_n 2)) (pd_ix (pd_n 1) (pd_n 2))) (sds_one (sd_ret (pd_op od_sub pd_int (pd_op od_mul pd_int (pd_ct cd_int B.int bt_int (da_cons (pd_cmp (od_lt hr) (pd_ix (pd_n 0) (pd_n 2)) (pd_ix (pd_n 1) (pd_n 2))) da_nil)))))) sds_nil)))))
    (sds_one (sd_ret (pd_op od_sub (pd_ct cd_int B.int bt_int (da_cons (pd_cmp (od_gt hr) (pd_cb cd_len B.len bt_len (da_cons (pd_n 0) da_nil)) (pd_cb cd_len B.len bt_len (da_cons (pd_n 1) da_nil))) da_nil)) (pd_ct cd_int B.int bt_int (da_cons (pd_cmp (od_lt hr) (pd_cb cd_len B.len bt_len (da_cons (pd_n 0) da_nil)) (pd_cb cd_len B.len bt_len (da_cons (pd_n 1) da_nil))) da_nil))))))
abbrev s__law_agrees : Stmt := topS 31
abbrev N__law_agrees : List Str := ["left", "right", "order"]
theorem S__law_agrees : FnScope N__law_agrees ["left", "right", "order"] (defScope s__law_agrees) := ⟨rfl, rfl, rfl, by decide +kernel, rfl, by decide +kernel, by decide +kernel⟩
def m__law_agrees : DS :=
    (sSeq (sIf (dOr (dNot (dT (dIsi .tuple (dN 0)))) (dNot (dT (dIsi .tuple (dN 1))))) (sRet (dC (.bool false))) sNx)
    (sRet (dOp (gB eqD) (dLst (dCons (dOp (gB ltD) (dN 0) (dN 1)) (dCons (dOp (gB eqD) (dN 0) (dN 1)) (dCons (dOp (gB gtD) (dN 0) (dN 1)) dNil)))) (dLst (dCons (dOp (gB ltD) (dN 2) (dC (.int 0))) (dCons (dOp (gB eqD) (dN 2) (dC (.int 0))) (dCons (dOp (gB gtD) (dN 2) (dC (.int 0))) dNil)))))))
theorem b__law_agrees {f : Addr} (B : Blt mg) (cdv : Value) (A : Around) (outer : List Env) (s : Shared) (H : Hp) (E : XK) (hr : Room 0 (A.deeper (envOfC "_law_agrees" (defScope s__law_agrees) s.heap.objs.size f cdv))) :
  PDSs Wd.zero (cxOf CX0 P wd K mg base N__law_agrees "_law_agrees" (defScope s__law_agrees) f cdv A outer s H E).nox (defBody s__law_agrees) (m__law_agrees) :=
    have S := S__law_agrees
    (sds_cons (sd_if (PDW.t (pw_o (pt_no (pt_v (pd_isi .tuple B.isinstance B.tuple bt_tuple (pd_n 0)))) (pw_o1 (pt_no (pt_v (pd_isi .tuple B.isinstance B.tuple bt_tuple (pd_n 1))))))) (sds_one (sd_ret pd_bl)) sds_nil)
    (sds_one (sd_ret (pd_cmp (od_eq hr) (pd_lst (da_cons (pd_cmp (od_lt hr) (pd_n 0) (pd_n 1)) (da_cons (pd_cmp (od_eq hr) (pd_n 0) (pd_n 1)) (da_cons (pd_cmp (od_gt hr) (pd_n 0) (pd_n 1)) da_nil)))) (pd_lst (da_cons (pd_cmp (od_lt hr) (pd_n 2) pd_int) (da_cons (pd_cmp (od_eq hr) (pd_n 2) pd_int) (da_cons (pd_cmp (od_gt hr) (pd_n 2) pd_int) da_nil))))))))
abbrev s__law_ranges : Stmt := topS 32
abbrev N__law_ranges : List Str := ["keys", "strange", "spans", "low", "first", "second", "high", "key"]
theorem S__law_ranges : FnScope N__law_ranges ["keys", "strange"] (defScope s__law_ranges) := ⟨rfl, rfl, rfl, by decide +kernel, rfl, by decide +kernel, by decide +kernel⟩
def m__law_ranges : DS :=
    (sSeq (sSet 2 (dLst (dCons (dTup (dCons (dTup dNil) (dCons (dTup (dCons (dC (.int 3)) dNil)) dNil))) (dCons (dTup (dCons (dOp gIx (dN 0) (dC (.int 0))) (dCons (dOp gIx (dN 0) (dC (.int 0))) dNil))) dNil))))
    (sSeq (sFor (dIl (dN 0)) (tN 3) (sSet 2 (dOp gAdd (dN 2) (dLst (dCons (dTup (dCons (dN 3) (dCons (dOp gAdd (dN 3) (dTup (dCons (dC (.int 3)) dNil))) dNil))) (dCons (dTup (dCons (dN 3) (dCons (dOp gAdd (dN 3) (dTup (dCons (dC (.int 0)) dNil))) dNil))) (dCons (dTup (dCons (dN 3) (dCons (dOp gIx (dN 0) (dC (.int 0))) dNil))) dNil)))))))
    (sSeq (sFor (dIl (dSl (dN 1) dNo (dSo (dC (.int 3))))) (tN 3) (sSet 2 (dOp gAdd (dN 2) (dLst (dCons (dTup (dCons (dN 3) (dCons (dTup (dCons (dC (.int 3)) dNil)) dNil))) (dCons (dTup (dCons (dTup dNil) (dCons (dN 3) dNil))) (dCons (dTup (dCons (dN 3) (dCons (dOp gAdd (dN 3) (dTup (dCons (dC (.int 0)) dNil))) dNil))) dNil)))))))
    (sSeq (sFor (dIl (dN 2)) (tN 4) (sSeq (sFor (dIl (dN 2)) (tN 5) (sSeq (sSet 3 (dCall (gM2 true) (dCons (dOp gIx (dN 4) (dC (.int 0))) (dCons (dOp gIx (dN 5) (dC (.int 0))) dNil))))
    (sSeq (sSet 6 (dCall (gM2 false) (dCons (dOp gIx (dN 4) (dC (.int 1))) (dCons (dOp gIx (dN 5) (dC (.int 1))) dNil))))
    (sIf (dNot (dT (dCall F__law_same (dCons (dCall F_meet (dCons (dN 4) (dCons (dN 5) dNil))) (dCons (dOp (gB ltD) (dN 3) (dN 6)) dNil))))) (sRet (dC (.bool false))) sNx))))
    (sFor (dIl (dOp gAdd (dN 0) (dN 1))) (tN 7) (sIf (dNot (dT (dCall F__law_same (dCons (dCall F_is_in (dCons (dN 7) (dCons (dN 4) dNil))) (dCons (dAndV (dOp gLe (dOp gIx (dN 4) (dC (.int 0))) (dN 7)) (dOp (gB ltD) (dN 7) (dOp gIx (dN 4) (dC (.int 1))))) dNil))))) (sRet (dC (.bool false))) sNx))))
    (sRet (dC (.bool true)))))))
theorem b__law_ranges {f : Addr} (B : Blt mg) (q__law_same : Fnc P wd K mg base 5 "_law_same" F__law_same) (q_meet : Fnc P wd K mg base 1 "meet" F_meet) (q_is_in : Fnc P wd K mg base 1 "is_in" F_is_in) (cdv : Value) (A : Around) (outer : List Env) (s : Shared) (H : Hp) (E : XK) (hr : Room 5 (A.deeper (envOfC "_law_ranges" (defScope s__law_ranges) s.heap.objs.size f cdv))) :
  PDSs Wd.zero (cxOf CX0 P wd K mg base N__law_ranges "_law_ranges" (defScope s__law_ranges) f cdv A outer s H E).nox (defBody s__law_ranges) (m__law_ranges) :=
    have S := S__law_ranges
    (sds_cons (sd_set (i := 2) S.nd (pd_lst (da_cons (pd_tup (da_cons (pd_tup da_nil) (da_cons (pd_tup (da_cons pd_int da_nil)) da_nil))) (da_cons (pd_tup (da_cons (pd_ix (pd_n 0) pd_int) (da_cons (pd_ix (pd_n 0) pd_int) da_nil))) da_nil))))
    (sds_cons (sd_for (di_list (pd_n 0)) (dg_n (i := 3) S.nd) (sds_one (sd_set (i := 2) S.nd (pd_op od_add (pd_n 2) (pd_lst (da_cons (pd_tup (da_cons (pd_n 3) (da_cons (pd_op od_add (pd_n 3) (pd_tup (da_cons pd_int da_nil))) da_nil))) (da_cons (pd_tup (da_cons (pd_n 3) (da_cons (pd_op od_add (pd_n 3) (pd_tup (da_cons pd_int da_nil))) da_nil))) (da_cons (pd_tup (da_cons (pd_n 3) (da_cons (pd_ix (pd_n 0) pd_int) da_nil))) da_nil))))))))
    (sds_cons (sd_for (di_list (pd_sl (pd_n 1) do_no (do_so pd_int))) (dg_n (i := 3) S.nd) (sds_one (sd_set (i := 2) S.nd (pd_op od_add (pd_n 2) (pd_lst (da_cons (pd_tup (da_cons (pd_n 3) (da_cons (pd_tup (da_cons pd_int da_nil)) da_nil))) (da_cons (pd_tup (da_cons (pd_tup da_nil) (da_cons (pd_n 3) da_nil))) (da_cons (pd_tup (da_cons (pd_n 3) (da_cons (pd_op od_add (pd_n 3) (pd_tup (da_cons pd_int da_nil))) da_nil))) da_nil))))))))
    (sds_cons (sd_for (di_list (pd_n 2)) (dg_n (i := 4) S.nd) (sds_cons (sd_for (di_list (pd_n 2)) (dg_n (i := 5) S.nd) (sds_cons (sd_set (i := 3) S.nd (pd_cb (cd_max2 hr) B.max bt_max (da_cons (pd_ix (pd_n 4) pd_int) (da_cons (pd_ix (pd_n 5) pd_int) da_nil))))
    (sds_cons (sd_set (i := 6) S.nd (pd_cb (cd_min2 hr) B.min bt_min (da_cons (pd_ix (pd_n 4) pd_int) (da_cons (pd_ix (pd_n 5) pd_int) da_nil))))
    (sds_one (sd_if (pt_no (pt_v (pd_f q__law_same hr (da_cons (pd_f q_meet hr (da_cons (pd_n 4) (da_cons (pd_n 5) da_nil))) (da_cons (pd_cmp (od_lt hr) (pd_n 3) (pd_n 6)) da_nil))))) (sds_one (sd_ret pd_bl)) sds_nil)))))
    (sds_one (sd_for (di_list (pd_op od_add (pd_n 0) (pd_n 1))) (dg_n (i := 7) S.nd) (sds_one (sd_if (pt_no (pt_v (pd_f q__law_same hr (da_cons (pd_f q_is_in hr (da_cons (pd_n 7) (da_cons (pd_n 4) da_nil))) (da_cons (pd_and (pd_cmp (od_le hr) (pd_ix (pd_n 4) pd_int) (pd_n 7)) (pd_one (pd_cmp (od_lt hr) (pd_n 7) (pd_ix (pd_n 4) pd_int)))) da_nil))))) (sds_one (sd_ret pd_bl)) sds_nil))))))
    (sds_one (sd_ret pd_bl))))))
abbrev s_law : Stmt := topS 33
abbrev N_law : List Str := ["script", "state", "rows", "keys", "k", "j", "order", "strange", "key", "at", "byte", "drawn", "other", "row"]
theorem S_law : FnScope N_law ["script"] (defScope s_law) := ⟨rfl, rfl, rfl, by decide +kernel, rfl, by decide +kernel, by decide +kernel⟩
def m_law (a : Addr) : DS :=
    (sSeq (sSetN 2 (dLcN (dIr (dOp gAdd (dC (.int 1)) (dSt a 1 F__law_next (dCons (dC (.int 6)) dNil)))) 4 dYes (dCall (g1 gTuple) (dCons (dLc (dIr (dSt a 1 F__law_next (dCons (dC (.int 8)) dNil))) 5 dYes (dSt a 1 F__law_value dNil)) dNil))))
    (sSeq (sIf (dT (dOp (gB gtD) (dCall (g1 gLen) (dCons (dN 2) dNil)) (dC (.int 1)))) (sPut1 2 (dC (.int 1)) (dOp gAdd (dSl (dOp gIx (dN 2) (dC (.int 0))) dNo (dSo (dC (.int 6)))) (dCall (g1 gTuple) (dCons (dLc (dIr (dSt a 1 F__law_next (dCons (dC (.int 2)) dNil))) 5 dYes (dSt a 1 F__law_value dNil)) dNil)))) sNx)
    (sFrz 2 (sSeq (sSet 3 (dLc (dIl (dN 2)) 13 dYes (dCall F__law_bytes (dCons (dN 13) dNil))))
    (sSeq (sFor (dIr (dCall (g1 gLen) (dCons (dN 2) dNil))) (tN 4) (sSeq (sIf (dOr (dNot (dT (dCall F__law_same (dCons (dCall F_key_of (dCons (dOp gIx (dN 2) (dN 4)) dNil)) (dCons (dOp gIx (dN 3) (dN 4)) dNil))))) (dNot (dT (dCall F__law_same (dCons (dCall F_values_of (dCons (dOp gIx (dN 3) (dN 4)) dNil)) (dCons (dOp gIx (dN 2) (dN 4)) dNil)))))) (sRet (dC (.bool false))) sNx)
    (sSeq (sIf (dNot (dT (dCall F__law_same (dCons (dCall F_prefix_range (dCons (dOp gIx (dN 3) (dN 4)) dNil)) (dCons (dTup (dCons (dOp gIx (dN 3) (dN 4)) (dCons (dOp gAdd (dOp gIx (dN 3) (dN 4)) (dTup (dCons (dC (.int 3)) dNil))) dNil))) dNil))))) (sRet (dC (.bool false))) sNx)
    (sFor (dIr (dCall (g1 gLen) (dCons (dN 2) dNil))) (tN 5) (sSeq (sSet 6 (dCall F__law_order (dCons (dOp gIx (dN 2) (dN 4)) (dCons (dOp gIx (dN 2) (dN 5)) dNil))))
    (sSeq (sIf (dOr (dNot (dT (dCall F__law_agrees (dCons (dCall F_key_of (dCons (dOp gIx (dN 2) (dN 4)) dNil)) (dCons (dCall F_key_of (dCons (dOp gIx (dN 2) (dN 5)) dNil)) (dCons (dN 6) dNil)))))) (dNot (dT (dCall F__law_agrees (dCons (dCall F_row_order (dCons (dOp gIx (dN 2) (dN 4)) dNil)) (dCons (dCall F_row_order (dCons (dOp gIx (dN 2) (dN 5)) dNil)) (dCons (dN 6) dNil))))))) (sRet (dC (.bool false))) sNx)
    (sIf (dT (dOp (gB neD) (dCall F_is_in (dCons (dOp gIx (dN 3) (dN 5)) (dCons (dCall F_prefix_range (dCons (dOp gIx (dN 3) (dN 4)) dNil)) dNil))) (dOp (gB eqD) (dSl (dOp gIx (dN 2) (dN 5)) dNo (dSo (dCall (g1 gLen) (dCons (dOp gIx (dN 2) (dN 4)) dNil)))) (dOp gIx (dN 2) (dN 4))))) (sRet (dC (.bool false))) sNx)))))))
    (sSeq (sSet 7 (dLst dNil))
    (sSeq (sFor (dIr (dC (.int 6))) (tN 4) (sSeq (sSet 8 (dCall (g1 gList) (dCons (dOp gIx (dN 3) (dSt a 1 F__law_next (dCons (dCall (g1 gLen) (dCons (dN 3) dNil)) dNil))) dNil)))
    (sSeq (sSet 9 (dSt a 1 F__law_next (dCons (dOp gAdd (dCall (g1 gLen) (dCons (dN 8) dNil)) (dC (.int 1))) dNil)))
    (sSeq (sSet 10 (dOp gIx (dLst (dCons (dSt a 1 F__law_next (dCons (dC (.int 256)) dNil)) (dCons (dSt a 1 F__law_next (dCons (dC (.int 4)) dNil)) dNil))) (dSt a 1 F__law_next (dCons (dC (.int 2)) dNil))))
    (sSeq (sSet 11 (dCall (g1 gTuple) (dCons (dLc (dIr (dSt a 1 F__law_next (dCons (dC (.int 9)) dNil))) 5 dYes (dOp gIx (dLst (dCons (dSt a 1 F__law_next (dCons (dC (.int 256)) dNil)) (dCons (dSt a 1 F__law_next (dCons (dC (.int 3)) dNil)) dNil))) (dSt a 1 F__law_next (dCons (dC (.int 2)) dNil)))) dNil)))
    (sSeq (sFor (dIl (dLst (dCons (dCall (g1 gTuple) (dCons (dOp gAdd (dOp gAdd (dSl (dN 8) dNo (dSo (dN 9))) (dLst (dCons (dN 10) dNil))) (dSl (dN 8) (dSo (dOp gAdd (dN 9) (dC (.int 1)))) dNo)) dNil)) (dCons (dCall (g1 gTuple) (dCons (dOp gAdd (dOp gAdd (dSl (dN 8) dNo (dSo (dN 9))) (dLst (dCons (dN 10) dNil))) (dSl (dN 8) (dSo (dN 9)) dNo)) dNil)) (dCons (dCall (g1 gTuple) (dCons (dSl (dN 8) dNo (dSo (dN 9))) dNil)) (dCons (dN 11) dNil)))))) (tN 12) (sIf (dNot (dT (dCall F__law_same (dCons (dCall F_values_of (dCons (dN 12) dNil)) (dCons (dCall F__law_read (dCons (dN 12) dNil)) dNil))))) (sRet (dC (.bool false))) sNx))
    (sSet 7 (dOp gAdd (dN 7) (dLst (dCons (dN 11) (dCons (dCall (g1 gTuple) (dCons (dOp gAdd (dOp gAdd (dSl (dN 8) dNo (dSo (dN 9))) (dLst (dCons (dN 10) dNil))) (dSl (dN 8) (dSo (dN 9)) dNo)) dNil)) dNil)))))))))))
    (sRet (dCall F__law_ranges (dCons (dN 3) (dCons (dSl (dN 7) dNo (dSo (dC (.int 6)))) dNil)))))))))))
theorem b_law {f : Addr} (B : Blt mg) (q__law_next : Sfn P wd K mg base 1 "_law_next" F__law_next) (q__law_value : Sfn P wd K mg base 2 "_law_value" F__law_value) (q__law_bytes : Fnc P wd K mg base 2 "_law_bytes" F__law_bytes) (q__law_same : Fnc P wd K mg base 5 "_law_same" F__law_same) (q_key_of : Fnc P wd K mg base 2 "key_of" F_key_of) (q_values_of : Fnc P wd K mg base 4 "values_of" F_values_of) (q_prefix_range : Fnc P wd K mg base 1 "prefix_range" F_prefix_range) (q__law_order : Fnc P wd K mg base 1 "_law_order" F__law_order) (q__law_agrees : Fnc P wd K mg base 1 "_law_agrees" F__law_agrees) (q_row_order : Fnc P wd K mg base 1 "row_order" F_row_order) (q_is_in : Fnc P wd K mg base 1 "is_in" F_is_in) (q__law_read : Fnc P wd K mg base 2 "_law_read" F__law_read) (q__law_ranges : Fnc P wd K mg base 6 "_law_ranges" F__law_ranges) (a l : Addr) (ns : List Int) (cdv : Value) (A : Around) (outer : List Env) (s : Shared) (H : Hp) (E : XK) (hr : Room 7 (A.deeper (envOfC "law" (defScope s_law) s.heap.objs.size f cdv))) :
  PDSs (wst a l ns) (cxOf CX0 P wd K mg base N_law "law" (defScope s_law) f cdv A outer s H E).nox ((defBody s_law).drop 1) (m_law a) :=
    have S := S_law
    (sds_cons (sd_lcN (x := "k") (i := 2) (j := 4) S.nd rfl (blkOk_by (N := N_law) (sc := defScope s_law) (by decide +kernel)) (di_range B.range (pd_op od_add pd_int (pd_s q__law_next hr (pv 1) (da_cons pd_int da_nil)))) (fun _ _ _ _ _ => pg_name (i := 4) S.nd rfl (Or.inl rfl)) (fun _ _ _ _ _ => dts_nil) (fun _ _ _ _ _ => (pd_ct cd_tuple B.tuple bt_tuple (da_cons (pd_lc (x := "j") (j := 5) S.nd (by refine blkOk_by (N := N_law) (sc := relS _ (defScope s_law)) ?_; decide +kernel) (di_range B.range (pd_s q__law_next hr (pv 1) (da_cons pd_int da_nil))) (fun _ _ _ _ _ => pg_name (i := 5) S.nd rfl (Or.inl rfl)) (fun _ _ _ _ _ => dts_nil) (fun _ _ _ _ _ => (pd_s q__law_value hr (pv 1) da_nil))) da_nil))) (sw_true rfl rfl rfl (by decide +kernel)))
    (sds_cons (sd_if (pt_cm (od_gt hr) (pd_cb cd_len B.len bt_len (da_cons (pd_n 2) da_nil)) pd_int) (sds_one (sd_put (i := 2) (pv 2) pd_int (pd_op od_add (pd_sl (pd_ix (pd_n 2) pd_int) do_no (do_so pd_int)) (pd_ct cd_tuple B.tuple bt_tuple (da_cons (pd_lc (x := "j") (j := 5) S.nd (blkOk_by (N := N_law) (sc := defScope s_law) (by decide +kernel)) (di_range B.range (pd_s q__law_next hr (pv 1) (da_cons pd_int da_nil))) (fun _ _ _ _ _ => pg_name (i := 5) S.nd rfl (Or.inl rfl)) (fun _ _ _ _ _ => dts_nil) (fun _ _ _ _ _ => (pd_s q__law_value hr (pv 1) da_nil))) da_nil))))) sds_nil)
    (sds_frz 2 (sds_cons (sd_lc (x := "row") (i := 3) (j := 13) S.nd rfl (blkOk_by (N := N_law) (sc := defScope s_law) (by decide +kernel)) (di_list (pd_n 2)) (fun _ _ _ _ _ => pg_name (i := 13) S.nd rfl (Or.inl rfl)) (fun _ _ _ _ _ => dts_nil) (fun _ _ _ _ _ => (pd_f q__law_bytes hr (da_cons (pd_n 13) da_nil))) (sw_true rfl rfl rfl (by decide +kernel)))
    (sds_cons (sd_for (di_range B.range (pd_cb cd_len B.len bt_len (da_cons (pd_n 2) da_nil))) (dg_n (i := 4) S.nd) (sds_cons (sd_if (PDW.t (pw_o (pt_no (pt_v (pd_f q__law_same hr (da_cons (pd_f q_key_of hr (da_cons (pd_ix (pd_n 2) (pd_n 4)) da_nil)) (da_cons (pd_ix (pd_n 3) (pd_n 4)) da_nil))))) (pw_o1 (pt_no (pt_v (pd_f q__law_same hr (da_cons (pd_f q_values_of hr (da_cons (pd_ix (pd_n 3) (pd_n 4)) da_nil)) (da_cons (pd_ix (pd_n 2) (pd_n 4)) da_nil)))))))) (sds_one (sd_ret pd_bl)) sds_nil)
    (sds_cons (sd_if (pt_no (pt_v (pd_f q__law_same hr (da_cons (pd_f q_prefix_range hr (da_cons (pd_ix (pd_n 3) (pd_n 4)) da_nil)) (da_cons (pd_tup (da_cons (pd_ix (pd_n 3) (pd_n 4)) (da_cons (pd_op od_add (pd_ix (pd_n 3) (pd_n 4)) (pd_tup (da_cons pd_int da_nil))) da_nil))) da_nil))))) (sds_one (sd_ret pd_bl)) sds_nil)
    (sds_one (sd_for (di_range B.range (pd_cb cd_len B.len bt_len (da_cons (pd_n 2) da_nil))) (dg_n (i := 5) S.nd) (sds_cons (sd_set (i := 6) S.nd (pd_f q__law_order hr (da_cons (pd_ix (pd_n 2) (pd_n 4)) (da_cons (pd_ix (pd_n 2) (pd_n 5)) da_nil))))
    (sds_cons (sd_if (PDW.t (pw_o (pt_no (pt_v (pd_f q__law_agrees hr (da_cons (pd_f q_key_of hr (da_cons (pd_ix (pd_n 2) (pd_n 4)) da_nil)) (da_cons (pd_f q_key_of hr (da_cons (pd_ix (pd_n 2) (pd_n 5)) da_nil)) (da_cons (pd_n 6) da_nil)))))) (pw_o1 (pt_no (pt_v (pd_f q__law_agrees hr (da_cons (pd_f q_row_order hr (da_cons (pd_ix (pd_n 2) (pd_n 4)) da_nil)) (da_cons (pd_f q_row_order hr (da_cons (pd_ix (pd_n 2) (pd_n 5)) da_nil)) (da_cons (pd_n 6) da_nil))))))))) (sds_one (sd_ret pd_bl)) sds_nil)
    (sds_one (sd_if (pt_cm (od_ne hr) (pd_f q_is_in hr (da_cons (pd_ix (pd_n 3) (pd_n 5)) (da_cons (pd_f q_prefix_range hr (da_cons (pd_ix (pd_n 3) (pd_n 4)) da_nil)) da_nil))) (pd_cmp (od_eq hr) (pd_sl (pd_ix (pd_n 2) (pd_n 5)) do_no (do_so (pd_cb cd_len B.len bt_len (da_cons (pd_ix (pd_n 2) (pd_n 4)) da_nil)))) (pd_ix (pd_n 2) (pd_n 4)))) (sds_one (sd_ret pd_bl)) sds_nil)))))))))
    (sds_cons (sd_set (i := 7) S.nd (pd_lst da_nil))
    (sds_cons (sd_for (di_range B.range pd_int) (dg_n (i := 4) S.nd) (sds_cons (sd_set (i := 8) S.nd (pd_ct cd_list B.list bt_list (da_cons (pd_ix (pd_n 3) (pd_s q__law_next hr (pv 1) (da_cons (pd_cb cd_len B.len bt_len (da_cons (pd_n 3) da_nil)) da_nil))) da_nil)))
    (sds_cons (sd_set (i := 9) S.nd (pd_s q__law_next hr (pv 1) (da_cons (pd_op od_add (pd_cb cd_len B.len bt_len (da_cons (pd_n 8) da_nil)) pd_int) da_nil)))
    (sds_cons (sd_set (i := 10) S.nd (pd_ix (pd_lst (da_cons (pd_s q__law_next hr (pv 1) (da_cons pd_int da_nil)) (da_cons (pd_s q__law_next hr (pv 1) (da_cons pd_int da_nil)) da_nil))) (pd_s q__law_next hr (pv 1) (da_cons pd_int da_nil))))
    (sds_cons (sd_set (i := 11) S.nd (pd_ct cd_tuple B.tuple bt_tuple (da_cons (pd_lc (x := "j") (j := 5) S.nd (blkOk_by (N := N_law) (sc := defScope s_law) (by decide +kernel)) (di_range B.range (pd_s q__law_next hr (pv 1) (da_cons pd_int da_nil))) (fun _ _ _ _ _ => pg_name (i := 5) S.nd rfl (Or.inl rfl)) (fun _ _ _ _ _ => dts_nil) (fun _ _ _ _ _ => (pd_ix (pd_lst (da_cons (pd_s q__law_next hr (pv 1) (da_cons pd_int da_nil)) (da_cons (pd_s q__law_next hr (pv 1) (da_cons pd_int da_nil)) da_nil))) (pd_s q__law_next hr (pv 1) (da_cons pd_int da_nil))))) da_nil)))
    (sds_cons (sd_for (di_list (pd_lst (da_cons (pd_ct cd_tuple B.tuple bt_tuple (da_cons (pd_op od_add (pd_op od_add (pd_sl (pd_n 8) do_no (do_so (pd_n 9))) (pd_lst (da_cons (pd_n 10) da_nil))) (pd_sl (pd_n 8) (do_so (pd_op od_add (pd_n 9) pd_int)) do_no)) da_nil)) (da_cons (pd_ct cd_tuple B.tuple bt_tuple (da_cons (pd_op od_add (pd_op od_add (pd_sl (pd_n 8) do_no (do_so (pd_n 9))) (pd_lst (da_cons (pd_n 10) da_nil))) (pd_sl (pd_n 8) (do_so (pd_n 9)) do_no)) da_nil)) (da_cons (pd_ct cd_tuple B.tuple bt_tuple (da_cons (pd_sl (pd_n 8) do_no (do_so (pd_n 9))) da_nil)) (da_cons (pd_n 11) da_nil)))))) (dg_n (i := 12) S.nd) (sds_one (sd_if (pt_no (pt_v (pd_f q__law_same hr (da_cons (pd_f q_values_of hr (da_cons (pd_n 12) da_nil)) (da_cons (pd_f q__law_read hr (da_cons (pd_n 12) da_nil)) da_nil))))) (sds_one (sd_ret pd_bl)) sds_nil)))
    (sds_one (sd_set (i := 7) S.nd (pd_op od_add (pd_n 7) (pd_lst (da_cons (pd_n 11) (da_cons (pd_ct cd_tuple B.tuple bt_tuple (da_cons (pd_op od_add (pd_op od_add (pd_sl (pd_n 8) do_no (do_so (pd_n 9))) (pd_lst (da_cons (pd_n 10) da_nil))) (pd_sl (pd_n 8) (do_so (pd_n 9)) do_no)) da_nil)) da_nil))))))))))))
    (sds_one (sd_ret (pd_f q__law_ranges hr (da_cons (pd_n 3) (da_cons (pd_sl (pd_n 7) do_no (do_so pd_int)) da_nil))))))))))))
end
end Z1

set_option Elab.async false
set_option linter.all false
set_option maxRecDepth 100000
set_option maxHeartbeats 1000000
namespace Z1
open PySem PySem.Spec PyProof.Rows L2 Z
local macro_rules | `(tactic| walk_at "zs") => `(tactic| simp only [sSeq, sIf, sSet, sRet, sNx, sAsg, tN, dOr, dAnd, dNot, dT, dOp, dC, asB, dIf, dCall, dCons, dNil, dTup, dLst, dLc, dIt, dIl, dIs, g1, e_lt, e_gt, e_eq, e_ne, e_le, e_ge, e_add, e_addL, e_addT, e_I0, e_I, e_isN, e_isI, e_isS, e_isB, e_isT, e_isL, e_ixL, e_ixT, e_ixS, e_n0, e_n1, e_n2, e_n3, e_n4, e_n5, e_n6, e_n7, f_nil, f_dat, f_un, f_own, f_adr, rt_ends, nx_ends, List.set_cons_zero, List.set_cons_succ, gLen, gOrd, gTuple, gList, gInt, gNeg, dUn])
theorem ch_at : ∀ n : Nat, n < 127 → okC n = true → atI CH.cps.toList ((n : Int) - 32 - (if 37 < (n : Int) then 1 else 0)) = some n := by decide +kernel
theorem h_integer_bytes : ∀ ds Q, F_integer_bytes ds Q → ds.length = 1 ∧ m_integer_bytes (endsD Q) (startD N_integer_bytes ds) := by
  intro ds Q h
  match ds, h with
  | [.int n], ⟨h1, h2⟩ =>
    refine ⟨rfl, ?_⟩
    show m_integer_bytes (endsD Q) [.dat (.int n), .un, .un]
    unfold m_integer_bytes
    walk_at "zs"
    refine comp_map (f := fun d => match d with | .int b => .int (Builtin.bitAnd ((n + 549755813888) / 2 ^ b.toNat) 255) | _ => .none) (fun x hx Q' hq => ?_) (by decide) ⟨by simp, ?_⟩
    · simp only [List.mem_cons, List.not_mem_nil, or_false] at hx
      rcases hx with rfl | rfl | rfl | rfl | rfl <;> (walk_at "zs"; exact ⟨by decide, hq⟩)
    · refine mv (Q := Q) h2 ?_
      simp only [iD, bytesV, be5, List.map_cons, List.map_nil, bitAnd_m8]
      have e0 : (n + 549755813888) / 2 ^ Int.toNat 0 = n + 549755813888 := by
        rw [show Int.toNat 0 = 0 from rfl, Int.pow_zero, Int.ediv_one]
      rw [e0]
      rfl
theorem chars_ok {z : Str} {x : DD} (hx : x ∈ chars z) : ∃ c ∈ z.cps.toList, x = .str ⟨#[c]⟩ := by
  unfold chars at hx
  obtain ⟨c, hc, e⟩ := List.mem_map.mp hx
  exact ⟨c, hc, e.symm⟩
theorem h_text_bytes : ∀ ds Q, F_text_bytes ds Q → ds.length = 1 ∧ m_text_bytes (endsD Q) (startD N_text_bytes ds) := by
  intro ds Q h
  match ds, h with
  | [.str z], ⟨h1, h2⟩ =>
    refine ⟨rfl, ?_⟩
    show m_text_bytes (endsD Q) [.dat (.str z), .un]
    unfold m_text_bytes
    have hl : (chars z).length ≤ 6 := by
      simp only [okV, Bool.and_eq_true, decide_eq_true_eq] at h1
      simp [chars, h1.1]
    walk_at "zs"
    refine comp_map (f := fun d => match d with | .str w => .int (w.cps.getD 0 0 : Nat) | _ => .none) (fun x hx Q' hq => ?_) (by simp; omega) ⟨?_, ?_, ?_⟩
    · obtain ⟨c, _, rfl⟩ := chars_ok hx
      walk_at "zs"
      exact ⟨rfl, hq⟩
    · simp; omega
    · simp; omega
    · refine mv (Q := Q) h2 ?_
      simp [iD, bytesV, chars, List.map_map, Function.comp_def]
theorem loop_key (all : List DD) (Q : DD → Prop) : ∀ (vs : List DD) (acc : List Int) (e : Ent), vs.all okV = true → acc.length + 8 * vs.length ≤ 10000 → Q (tD (acc ++ keyI vs)) →
    loop (tN 2) (sExt 1 (dIf (dT (dIsi .str (dN 2))) (dCall F_text_bytes (dCons (dN 2) dNil)) (dCall F_integer_bytes (dCons (dN 2) dNil))))
      ⟨fun ρ' => sRet (dCall (g1 gTuple) (dCons (dN 1) dNil)) (endsD Q) ρ', Q, fun _ => False, fun _ => False⟩ vs [.dat (.tuple all), .own (iD acc), e]
  | [], acc, e, _, _, h => by
    show sRet (dCall (g1 gTuple) (dCons (dN 1) dNil)) (endsD Q) [.dat (.tuple all), .own (iD acc), e]
    rw [keyI, List.flatMap_nil, List.append_nil] at h
    cases e <;> exact h
  | v :: vs, acc, e, hv, hl, h => by
    rw [List.all_cons, Bool.and_eq_true] at hv
    rw [List.length_cons] at hl
    have bl : (bytesV v).length ≤ 8 := by
      cases v with
      | int n => exact Nat.le_of_lt (by decide : 6 < 8)
      | str z =>
        have h1 := hv.1
        simp only [okV, Bool.and_eq_true, decide_eq_true_eq] at h1
        simp [bytesV, h1.1]
      | _ => exact Nat.zero_le _
    have ih := loop_key all Q vs (acc ++ bytesV v) (.dat v) hv.2 (by rw [List.length_append]; omega) (by rw [List.append_assoc]; exact h)
    have fin : ∀ es, es = iD (bytesV v) → ((iD acc).length + es.length ≤ 1000000 ∧ loop (tN 2) (sExt 1 (dIf (dT (dIsi .str (dN 2))) (dCall F_text_bytes (dCons (dN 2) dNil)) (dCall F_integer_bytes (dCons (dN 2) dNil))))
      ⟨fun ρ' => sRet (dCall (g1 gTuple) (dCons (dN 1) dNil)) (endsD Q) ρ', Q, fun _ => False, fun _ => False⟩ vs [.dat (.tuple all), .own (iD acc ++ es), .dat v]) := by
      rintro es rfl
      refine ⟨by simp only [iD, List.length_map]; omega, ?_⟩
      have e1 : iD acc ++ iD (bytesV v) = iD (acc ++ bytesV v) := by simp [iD]
      rw [e1]; exact ih
    cases v with
    | int n => exact ⟨hv.1, fin _ rfl⟩
    | str z => exact ⟨hv.1, fin _ rfl⟩
    | _ => simp [okV] at hv
theorem h_key_of : ∀ ds Q, F_key_of ds Q → ds.length = 1 ∧ m_key_of (endsD Q) (startD N_key_of ds) := by
  intro ds Q h
  match ds, h with
  | [.tuple vs], ⟨h1, h2⟩ =>
    refine ⟨rfl, ?_⟩
    show loop _ _ _ vs [.dat (.tuple vs), .own (iD []), .un]
    exact loop_key vs Q vs [] .un h1.2 (by rw [List.length_nil]; omega) h2
theorem h_character_of : ∀ ds Q, F_character_of ds Q → ds.length = 1 ∧ m_character_of (endsD Q) (startD N_character_of ds) := by
  intro ds Q h
  match ds, h with
  | [.int c], h =>
    refine ⟨rfl, ?_⟩
    show m_character_of (endsD Q) [.dat (.int c), .un]
    have hq : Q (chD c) := h
    unfold chD at hq
    unfold m_character_of
    walk_at "zs"
    by_cases h0 : 32 ≤ c ∧ c ≤ 126 ∧ c ≠ 37
    · rw [if_pos h0] at hq
      have a1 : decide (c < 32) = false := by simp; omega
      have a2 : decide (126 < c) = false := by simp; omega
      have a3 : (c == 37) = false := by simp; omega
      rw [a1, a2, a3]
      simp only [Bool.false_eq_true, if_false]
      have hc := ch_at c.toNat (by omega) (by simp only [okC, decide_eq_true_eq]; omega)
      have ec : ((c.toNat : Nat) : Int) = c := by omega
      rw [ec] at hc
      by_cases h7 : 37 < c
      · rw [if_pos h7] at hc
        have a4 : decide (37 < c) = true := by simp; omega
        rw [a4]
        simp only [if_true]
        refine ⟨by decide +kernel, ?_⟩
        rw [hc]; exact hq
      · rw [if_neg h7] at hc
        have a4 : decide (37 < c) = false := by simp; omega
        rw [a4]
        simp only [Bool.false_eq_true, if_false]
        refine ⟨by decide +kernel, ?_⟩
        rw [hc]; exact hq
    · rw [if_neg h0] at hq
      by_cases b1 : c < 32
      · rw [decide_eq_true b1]; simp only [if_true]; exact hq
      · rw [decide_eq_false b1]
        by_cases b2 : 126 < c
        · rw [decide_eq_true b2]; simp only [Bool.false_eq_true, if_false, if_true]; exact hq
        · rw [decide_eq_false b2]
          have b3 : c = 37 := by omega
          subst b3
          simp only [Bool.false_eq_true, if_false, beq_self_eq_true, if_true]; exact hq
theorem h_prefix_range : ∀ ds Q, F_prefix_range ds Q → ds.length = 1 ∧ m_prefix_range (endsD Q) (startD N_prefix_range ds) := by
  intro ds Q h
  match ds, h with
  | [.tuple es], ⟨cs, he, h1, h2⟩ =>
    subst he
    refine ⟨rfl, ?_⟩
    show (iD cs).length + 1 ≤ 1000000 ∧ Q _
    refine ⟨by simp only [iD, List.length_map]; omega, mv (Q := Q) h2 ?_⟩
    simp [tD, iD]
theorem h_row_order : ∀ ds Q, F_row_order ds Q → ds.length = 1 ∧ m_row_order (endsD Q) (startD N_row_order ds) := by
  intro ds Q h
  match ds, h with
  | [.tuple vs], ⟨h1, h2⟩ =>
    refine ⟨rfl, ?_⟩
    show m_row_order (endsD Q) [.dat (.tuple vs), .un]
    unfold m_row_order
    walk_at "zs"
    refine comp_map (f := ordV) (fun x hx Q' hq => ?_) (by simp; omega) h2
    have := List.all_eq_true.mp h1.2 x hx
    cases x with
    | int n => exact hq
    | str z => exact hq
    | _ => simp [okV] at this
theorem h_is_in : ∀ ds Q, F_is_in ds Q → ds.length = 2 ∧ m_is_in (endsD Q) (startD N_is_in ds) := by
  intro ds Q h
  match ds, h with
  | [.tuple es, .tuple [.tuple ls, .tuple hs]], ⟨k, lo, hi, e1, e2, e3, h2⟩ =>
    subst e1 e2 e3
    refine ⟨rfl, ?_⟩
    show dCh gLe (gB ltD) (dN 2) (dN 0) (dN 3) [.dat (tD k), .dat (.tuple [tD lo, tD hi]), .dat (tD lo), .dat (tD hi)] Q
    unfold dCh
    walk_at "zs"
    have a1 : ∀ P, gLe (tD lo) (tD k) P = P (.bool (!HT.lexLt k lo)) := fun P => by
      simp only [tD, iD, gLe, intsD_map]
    have a2 : ∀ P, gB ltD (tD k) (tD hi) P = P (.bool (HT.lexLt k hi)) := fun P => by
      have e : ltD (tD k) (tD hi) = some (HT.lexLt k hi) := by
        unfold ltD tD iD
        rw [if_pos (by rw [PyData.depth, depth_ints]; decide), ord_ints]; rfl
      simp only [gB, e]
    rw [a1]
    simp only [asB]
    unfold isIn at h2
    cases c : HT.lexLt k lo with
    | true => rw [c] at h2; exact h2
    | false => rw [c] at h2; simp only [Bool.not_false, if_true]; rw [a2]; exact h2
theorem m2_at (b : Bool) (x y : List Int) (P : DD → Prop) : gM2 b [tD x, tD y] P = P (tD (if (bif b then HT.lexLt x y else HT.lexLt y x) = true then y else x)) := by
  simp only [gM2, tD, iD, intsD_map]
  split <;> rfl
theorem h_meet : ∀ ds Q, F_meet ds Q → ds.length = 2 ∧ m_meet (endsD Q) (startD N_meet ds) := by
  intro ds Q h
  match ds, h with
  | [.tuple [.tuple as, .tuple bs], .tuple [.tuple cs, .tuple es]], ⟨a, b, c, e, e1, e2, e3, e4, h2⟩ =>
    subst e1 e2 e3 e4
    refine ⟨rfl, ?_⟩
    show gM2 true [tD a, tD c] fun x => gM2 false [tD b, tD e] fun y => gB ltD x y Q
    rw [m2_at, m2_at]
    have a2 : ∀ k hi P, gB ltD (tD k) (tD hi) P = P (.bool (HT.lexLt k hi)) := fun k hi P => by
      have e : ltD (tD k) (tD hi) = some (HT.lexLt k hi) := by
        unfold ltD tD iD
        rw [if_pos (by rw [PyData.depth, depth_ints]; decide), ord_ints]; rfl
      simp only [gB, e]
    rw [a2]
    exact h2
/-! texts and ints of bytes -/
theorem eqv_none : ∀ d : DD, PyData.eqv d .none = match d with | .none => true | _ => false := by
  intro d; cases d <;> rfl
theorem chD_flat (c : Int) : flatD (chD c) = true := by unfold chD; split <;> rfl
theorem any_none : ∀ cs : List Int, ((cs.map chD).any fun z => PyData.eqv z .none) = !(cs.all fun c => decide (32 ≤ c ∧ c ≤ 126 ∧ c ≠ 37))
  | [] => rfl
  | c :: cs => by
    rw [List.map_cons, List.any_cons, List.all_cons, any_none cs, eqv_none]
    unfold chD
    by_cases h : 32 ≤ c ∧ c ≤ 126 ∧ c ≠ 37
    · rw [if_pos h, decide_eq_true h]; simp
    · rw [if_neg h, decide_eq_false h]; simp
theorem strs_of : ∀ cs : List Int, (cs.all fun c => decide (32 ≤ c ∧ c ≤ 126 ∧ c ≠ 37)) = true → strsD (cs.map chD) = some (cs.map fun c => (⟨#[c.toNat]⟩ : Str))
  | [], _ => rfl
  | c :: cs, h => by
    rw [List.all_cons, Bool.and_eq_true, decide_eq_true_eq] at h
    rw [List.map_cons, chD, if_pos h.1, strsD, strs_of cs h.2]
    rfl
theorem app_l (x y : Str) : (x ++ y).cps.toList = x.cps.toList ++ y.cps.toList := by
  show (x.cps ++ y.cps).toList = _
  simp
theorem join_l : ∀ cs : List Nat, (Str.join ⟨#[]⟩ (cs.map fun c => (⟨#[c]⟩ : Str))).cps.toList = cs
  | [] => rfl
  | [c] => rfl
  | c :: d :: r => by
    show ((⟨#[c]⟩ : Str) ++ ⟨#[]⟩ ++ Str.join ⟨#[]⟩ ((d :: r).map fun c => (⟨#[c]⟩ : Str))).cps.toList = _
    rw [app_l, app_l, join_l (d :: r)]
    rfl
theorem str_ext {x y : Str} (h : x.cps.toList = y.cps.toList) : x = y := by
  cases x; cases y
  simp only at h
  congr
  exact Array.toList_inj.mp h
theorem join_ch (cs : List Nat) : Txt.join ⟨#[]⟩ (cs.map fun c => (⟨#[c]⟩ : Str)) = ⟨cs.toArray⟩ := by
  rw [TL.join_eq]
  exact str_ext (by rw [join_l])
theorem sum_one (cs : List Int) : ((cs.map fun c => (⟨#[c.toNat]⟩ : Str)).map (·.length)).sum = cs.length := by
  induction cs with
  | nil => rfl
  | cons c cs ih =>
    rw [List.map_cons, List.map_cons, List.sum_cons, ih, List.length_cons]
    show 1 + cs.length = _
    omega
theorem iD_in {cs : List Int} {x : DD} (h : x ∈ iD cs) : ∃ c ∈ cs, x = .int c := by
  unfold iD at h
  obtain ⟨c, hc, e⟩ := List.mem_map.mp h
  exact ⟨c, hc, e.symm⟩
def chOf : DD → DD
  | .int c => chD c
  | _ => .none
theorem chOf_map (cs : List Int) : (iD cs).map chOf = cs.map chD := by simp [iD, chOf, Function.comp_def]
theorem h_text_of : ∀ ds Q, F_text_of ds Q → ds.length = 1 ∧ m_text_of (endsD Q) (startD N_text_of ds) := by
  intro ds Q h
  match ds, h with
  | [.tuple es], ⟨cs, he, h1, h2⟩ =>
    subst he
    refine ⟨rfl, ?_⟩
    show m_text_of (endsD Q) [.dat (.tuple (iD cs)), .un, .un]
    unfold m_text_of
    walk_at "zs"
    refine comp_map (f := chOf) (fun x hx Q' hq => ?_) (by simp only [iD, List.length_nil, List.length_map]; omega) ?_
    · obtain ⟨c, _, rfl⟩ := iD_in hx
      exact hq
    · rw [chOf_map, List.nil_append]
      walk_at "zs"
      have e1 : inD PyData.none (.list (cs.map chD)) = some (!(cs.all fun c => decide (32 ≤ c ∧ c ≤ 126 ∧ c ≠ 37))) := by
        unfold inD
        simp only [seqOf]
        rw [if_pos ⟨rfl, by simp only [List.all_map, List.all_eq_true, Function.comp_def]; intro c _; exact chD_flat c⟩, any_none]
      have e2 : ∀ P, gB inD PyData.none (.list (cs.map chD)) P = P (.bool (!(cs.all fun c => decide (32 ≤ c ∧ c ≤ 126 ∧ c ≠ 37)))) := fun P => by
        simp only [gB, e1]
      rw [e2]
      unfold textD at h2
      rw [List.length_map]
      by_cases l6 : cs.length ≤ 6
      · have a1 : decide (6 < (cs.length : Int)) = false := by simp; omega
        rw [a1]
        simp only [Bool.false_eq_true, if_false]
        cases hc : cs.all fun c => decide (32 ≤ c ∧ c ≤ 126 ∧ c ≠ 37) with
        | false =>
          rw [hc, if_neg (by simp)] at h2
          exact h2
        | true =>
          rw [hc, if_pos ⟨l6, rfl⟩] at h2
          simp only [Bool.not_true, Bool.false_eq_true, if_false]
          show gJoin (.str (Str.ofString "")) (.list (cs.map chD)) Q
          simp only [gJoin]
          rw [strs_of cs hc]
          show _ ∧ _
          refine ⟨by rw [sum_one, List.length_map]; show cs.length + cs.length * 0 ≤ _; omega, ?_⟩
          have e3 : Txt.join (Str.ofString "") (cs.map fun c => (⟨#[c.toNat]⟩ : Str)) = ⟨(cs.map Int.toNat).toArray⟩ := by
            have := join_ch (cs.map Int.toNat)
            rw [List.map_map] at this
            exact this
          rw [e3]
          exact h2
      · rw [if_neg (fun z => l6 z.1)] at h2
        have a1 : decide (6 < (cs.length : Int)) = true := by simp; omega
        rw [a1]
        simp only [if_true]
        exact h2
theorem fold_val : ∀ (cs : List Int) (ρ0 : Ent) (a : Int) (e2 e3 : Ent) (k : En → Prop) (Q : DD → Prop), (∀ e, k [ρ0, .dat (.int (cs.foldl (fun a d => a * 256 + d) a)), e, e3]) → (∀ c ∈ cs, 0 ≤ c ∧ c ≤ 255) → (0 ≤ a ∧ a * 256 ^ cs.length + 256 ^ cs.length < 256 ^ 7) →
    loop (tN 2) (sSet 1 (dOp gAdd (dOp (gI CMul (· * ·)) (dN 1) (dC (.int 256))) (dN 2))) ⟨k, Q, fun _ => False, fun _ => False⟩ (iD cs) [ρ0, .dat (.int a), e2, e3]
  | [], ρ0, a, e2, e3, k, Q, h, _, _ => h e2
  | c :: cs, ρ0, a, e2, e3, k, Q, h, hb, ha => by
    have hc := hb c List.mem_cons_self
    have ih := fold_val cs ρ0 (a * 256 + c) (.dat (.int c)) e3 k Q h (fun d hd => hb d (List.mem_cons_of_mem _ hd)) (by
      have e : (256 : Int) ^ (c :: cs).length = 256 ^ cs.length * 256 := by rw [List.length_cons, Int.pow_succ]
      rw [e] at ha
      have p : (0 : Int) < 256 ^ cs.length := Int.pow_pos (by decide)
      refine ⟨by omega, ?_⟩
      have m1 : c * 256 ^ cs.length ≤ 255 * 256 ^ cs.length := Int.mul_le_mul_of_nonneg_right hc.2 (Int.le_of_lt p)
      have e2 : (a * 256 + c) * 256 ^ cs.length = a * (256 ^ cs.length * 256) + c * 256 ^ cs.length := by
        rw [Int.add_mul, Int.mul_assoc, Int.mul_comm 256]
      rw [e2]
      omega)
    exact ⟨.inr ⟨by decide, by decide⟩, ih⟩
theorem best_min : ∀ (ns : List Int) (n : Int), (∀ c ∈ n :: ns, 0 ≤ c ∧ c ≤ 255) → 0 ≤ bestI false n ns ∧ bestI false n ns ≤ 255
  | [], n, h => h n List.mem_cons_self
  | m :: ns, n, h => by
    show 0 ≤ bestI false (if m < n then m else n) ns ∧ bestI false (if m < n then m else n) ns ≤ 255
    refine best_min ns _ fun c hc => ?_
    rcases List.mem_cons.mp hc with rfl | hc
    · split
      · exact h m (by simp)
      · exact h n (by simp)
    · exact h c (by simp [hc])
theorem best_max : ∀ (ns : List Int) (n : Int), (∀ c ∈ n :: ns, 0 ≤ c ∧ c ≤ 255) → 0 ≤ bestI true n ns ∧ bestI true n ns ≤ 255
  | [], n, h => h n List.mem_cons_self
  | m :: ns, n, h => by
    show 0 ≤ bestI true (if n < m then m else n) ns ∧ bestI true (if n < m then m else n) ns ≤ 255
    refine best_max ns _ fun c hc => ?_
    rcases List.mem_cons.mp hc with rfl | hc
    · split
      · exact h m (by simp)
      · exact h n (by simp)
    · exact h c (by simp [hc])
theorem e_ch (a b c : Int) (P : DD → Prop) : gLe (.int a) (.int b) (asB fun t => if t = true then gLe (.int b) (.int c) P else P (.bool false)) = P (.bool (decide (a ≤ b) && decide (b ≤ c))) := by
  rw [e_le]
  simp only [asB]
  cases decide (a ≤ b) with
  | true => rw [if_pos rfl, e_le]; rfl
  | false => rw [if_neg Bool.false_ne_true]; rfl
theorem h_integer_of : ∀ ds Q, F_integer_of ds Q → ds.length = 1 ∧ m_integer_of (endsD Q) (startD N_integer_of ds) := by
  intro ds Q h
  match ds, h with
  | [.tuple es], ⟨cs, he, h1, hb, h2⟩ =>
    subst he
    refine ⟨rfl, ?_⟩
    have hb' : ∀ c ∈ cs, 0 ≤ c ∧ c ≤ 255 := fun c hc => by simpa [isB] using List.all_eq_true.mp hb c hc
    show m_integer_of (endsD Q) [.dat (.tuple (iD cs)), .un, .un, .un]
    unfold m_integer_of
    walk_at "zs"
    have hl : (iD cs).length = cs.length := by simp [iD]
    rw [hl]
    unfold intB at h2
    by_cases l5 : cs.length < 5
    · rw [if_pos l5] at h2
      have a1 : decide ((cs.length : Int) < 5) = true := by simp; omega
      rw [a1]
      simp only [if_true]
      exact h2
    · rw [if_neg l5] at h2
      have a1 : decide ((cs.length : Int) < 5) = false := by simp; omega
      rw [a1]
      simp only [Bool.false_eq_true, if_false]
      cases cs with
      | nil => exact absurd (by decide) l5
      | cons n ns =>
        have m1 : ∀ b P, gM1 b (.tuple (iD (n :: ns))) P = P (.int (bestI b n ns)) := fun b P => by
          simp only [gM1, seqOf, iD, intsD_map]
        rw [m1]
        walk_at "zs"
        have b1 := best_min ns n hb'
        have a2 : decide (bestI false n ns < 0) = false := by simp; omega
        rw [a2]
        simp only [Bool.false_eq_true, if_false]
        rw [m1]
        walk_at "zs"
        have b2 := best_max ns n hb'
        have a3 : decide (255 < bestI true n ns) = false := by simp; omega
        rw [a3]
        simp only [Bool.false_eq_true, if_false]
        unfold sFor
        walk_at "zs"
        refine fold_val (n :: ns) _ 0 _ _ _ _ (fun e => ?_) hb' ⟨Int.le_refl 0, ?_⟩
        · show gLe (.int (-1000000000)) (.int (val5 (n :: ns) - 549755813888)) (asB fun t => if t = true then gLe (.int (val5 (n :: ns) - 549755813888)) (.int 1000000000) (asB fun c => if c = true then Q (.int (val5 (n :: ns) - 549755813888)) else Q .none) else (asB fun c => if c = true then Q (.int (val5 (n :: ns) - 549755813888)) else Q .none) (.bool false))
          rw [e_ch]
          show if (decide (-1000000000 ≤ val5 (n :: ns) - 549755813888) && decide (val5 (n :: ns) - 549755813888 ≤ 1000000000)) = true then _ else _
          by_cases hz : -1000000000 ≤ val5 (n :: ns) - 549755813888 ∧ val5 (n :: ns) - 549755813888 ≤ 1000000000
          · rw [if_pos hz] at h2
            rw [if_pos (by simpa using hz)]; exact h2
          · rw [if_neg hz] at h2
            rw [if_neg (by simpa using hz)]; exact h2
        · have h5 : (n :: ns).length = 5 := by omega
          rw [h5]; decide
/-! one value, all values -/
theorem sIx_at (n i : Nat) : HT.sIx n 0 (some ((i : Nat) : Int)) = min i n := HT.sIx_nat n 0 i
theorem cut_at (cs : List Int) (a b : Nat) (h : a ≤ cs.length) : cutZ (iD cs) (some (a : Int)) (some (b : Int)) = iD ((cs.drop a).take (b - a)) := by
  unfold cutZ iD
  rw [HT.sIx_nat, HT.sIx_nat, List.length_map, Nat.min_eq_left h, ← List.map_drop, ← List.map_take]
  congr 1
  by_cases hb : b ≤ cs.length
  · rw [Nat.min_eq_left hb]
  · rw [Nat.min_eq_right (by omega)]
    rw [List.take_of_length_le (by rw [List.length_drop]; omega), List.take_of_length_le (by rw [List.length_drop]; omega)]
theorem at_iD {cs : List Int} {j : Nat} (h : j < cs.length) : atI (iD cs) ((j : Nat) : Int) = some (.int cs[j]) := atI_nat (by simp [iD, h])
abbrev scanT : DT := dAnd (dT (dOp (gB ltD) (dN 2) (dCall (g1 gLen) (dCons (dN 0) dNil)))) (dT (dOp (gB neD) (dOp gIx (dN 0) (dN 2)) (dC (.int 0))))
theorem len_iD (cs : List Int) : (iD cs).length = cs.length := by simp [iD]
theorem scan (cs : List Int) (j : Int) (E : DEn) : ∀ (n e : Nat), e ≤ cs.length → cs.length - e < n →
    (∀ e' : Nat, e ≤ e' → e' ≤ cs.length → (∀ m, e ≤ m → m < e' → cs[m]? ≠ some 0) → (e' < cs.length → cs[e']? = some 0) → E.nx [.dat (.tuple (iD cs)), .dat (.int j), .dat (.int (e' : Nat))]) →
    turns scanT (sAug 2 (dC (.int 1))) E n [.dat (.tuple (iD cs)), .dat (.int j), .dat (.int (e : Nat))]
  | 0, e, _, h, _ => absurd h (Nat.not_lt_zero _)
  | n + 1, e, he, hn, k => by
    unfold turns
    show dAnd _ _ [.dat (.tuple (iD cs)), .dat (.int j), .dat (.int (e : Nat))] _
    walk_at "zs"
    rw [len_iD]
    by_cases hlt : e < cs.length
    · rw [decide_eq_true (by omega : (e : Int) < (cs.length : Int))]
      simp only [if_true]
      rw [at_iD hlt]
      show gB neD (.int cs[e]) (.int 0) _
      rw [e_ne]
      by_cases hz : cs[e] = 0
      · have : (!(cs[e] == 0)) = false := by simp [hz]
        rw [this]
        show E.nx _
        refine k e (Nat.le_refl _) he (fun m h1 h2 => absurd h2 (by omega)) fun _ => ?_
        rw [List.getElem?_eq_getElem hlt, hz]
      · have : (!(cs[e] == 0)) = true := by simp [hz]
        rw [this]
        have ih := scan cs j E n (e + 1) hlt (by omega) (fun e' h1 h2 h3 h4 => k e' (by omega) h2 (fun m m1 m2 => by
          rcases Nat.eq_or_lt_of_le m1 with z | z
          · subst z
            rw [List.getElem?_eq_getElem hlt]
            exact fun q => hz (Option.some.inj q)
          · exact h3 m z m2) h4)
        exact ih
    · rw [decide_eq_false (by omega : ¬ (e : Int) < (cs.length : Int))]
      show E.nx _
      exact k e (Nat.le_refl _) he (fun m h1 h2 => absurd h2 (by omega)) fun h => absurd h hlt
theorem isB_all {cs : List Int} (h : cs.all isB = true) (n : Nat) : (cs.take n).all isB = true := List.all_eq_true.mpr fun x hx => List.all_eq_true.mp h x (List.mem_of_mem_take hx)
theorem isB_drop {cs : List Int} (h : cs.all isB = true) (n : Nat) : (cs.drop n).all isB = true := List.all_eq_true.mpr fun x hx => List.all_eq_true.mp h x (List.mem_of_mem_drop hx)
theorem h_value_at : ∀ ds Q, F_value_at ds Q → ds.length = 2 ∧ m_value_at (endsD Q) (startD N_value_at ds) := by
  intro ds Q h
  match ds, h with
  | [.tuple es, .int i], ⟨cs, j, he, hi, h1, hb, hj, h2⟩ =>
    subst he hi
    refine ⟨rfl, ?_⟩
    show m_value_at (endsD Q) [.dat (.tuple (iD cs)), .dat (.int (j : Nat)), .un]
    have hd : cs.drop j = cs[j] :: cs.drop (j + 1) := List.drop_eq_getElem_cons hj
    have c1 : ((j : Nat) : Int) + 1 = ((j + 1 : Nat) : Int) := by omega
    have c6 : ((j : Nat) : Int) + 6 = ((j + 6 : Nat) : Int) := by omega
    have hd2 : (cs.drop (j + 1)).length ≤ 100000 := by rw [List.length_drop]; omega
    unfold m_value_at
    walk_at "zs"
    rw [at_iD hj]
    show gB eqD (.int cs[j]) (.int 1) _
    rw [e_eq]
    by_cases o1 : cs[j] = 1
    · rw [o1] at hd ⊢
      rw [hd] at h2
      show F_integer_of [.tuple (cutZ (iD cs) (some ((j : Int) + 1)) (some ((j : Int) + 6)))] fun x => Q (.tuple [x, .int ((j : Int) + 6)])
      rw [c1, c6, cut_at cs (j + 1) (j + 6) hj, show j + 6 - (j + 1) = 5 by omega]
      refine ⟨_, rfl, by rw [List.length_take]; omega, isB_all (isB_drop hb _) 5, ?_⟩
      exact h2
    · have z1 : (cs[j] == 1) = false := by simpa using o1
      rw [z1]
      simp only [asB, Bool.false_eq_true, if_false]
      show gB eqD (.int cs[j]) (.int 2) _
      rw [e_eq]
      by_cases o2 : cs[j] = 2
      · rw [o2] at hd ⊢
        rw [hd] at h2
        simp only [beq_self_eq_true, if_true]
        unfold sWh
        refine ⟨cs.length + 1, ?_⟩
        show turns scanT (sAug 2 (dC (.int 1))) _ _ [.dat (.tuple (iD cs)), .dat (.int (j : Nat)), .dat (.int ((j : Int) + 1))]
        rw [c1]
        refine scan cs (j : Nat) _ (cs.length + 1) (j + 1) hj (by omega) fun e' e1 e2 e3 e4 => ?_
        walk_at "zs"
        rw [len_iD]
        by_cases hlt : e' < cs.length
        · rw [decide_eq_true (by omega : (e' : Int) < (cs.length : Int))]
          simp only [if_true]
          have hf : (cs.drop (j + 1)).findIdx? (· == 0) = some (e' - (j + 1)) := by
            rw [List.findIdx?_eq_some_iff_getElem]
            refine ⟨by rw [List.length_drop]; omega, ?_, fun m hm => ?_⟩
            · rw [List.getElem_drop]
              have := e4 hlt
              rw [List.getElem?_eq_getElem hlt] at this
              have q := Option.some.inj this
              have ei : j + 1 + (e' - (j + 1)) = e' := by omega
              simp only [ei, q]; rfl
            · rw [List.getElem_drop]
              have := e3 (j + 1 + m) (by omega) (by omega)
              rw [List.getElem?_eq_getElem (by omega)] at this
              simpa using this
          show F_text_of [.tuple (cutZ (iD cs) (some ((j : Int) + 1)) (some ((e' : Nat) : Int)))] fun x => Q (.tuple [x, .int ((e' : Int) + 1)])
          rw [c1, cut_at cs (j + 1) e' hj]
          refine ⟨_, rfl, by rw [List.length_take]; omega, ?_⟩
          have q : first (2 :: cs.drop (j + 1)) = (textD ((cs.drop (j + 1)).take (e' - (j + 1))), e' - (j + 1) + 2) := by
            simp only [first, hf]
          rw [q] at h2
          have ee : ((j + (e' - (j + 1) + 2) : Nat) : Int) = (e' : Int) + 1 := by omega
          simp only [ee] at h2
          exact h2
        · rw [decide_eq_false (by omega : ¬ (e' : Int) < (cs.length : Int))]
          simp only [Bool.false_eq_true, if_false]
          have hf : (cs.drop (j + 1)).findIdx? (· == 0) = none := by
            rw [List.findIdx?_eq_none_iff]
            intro x hx
            obtain ⟨m, hm, rfl⟩ := List.getElem_of_mem hx
            rw [List.length_drop] at hm
            rw [List.getElem_drop]
            have := e3 (j + 1 + m) (by omega) (by omega)
            rw [List.getElem?_eq_getElem (by omega)] at this
            simpa using this
          have q : first (2 :: cs.drop (j + 1)) = (.none, 0) := by
            simp only [first, hf]
          rw [q] at h2
          exact h2
      · have z2 : (cs[j] == 2) = false := by simpa using o2
        rw [z2]
        have q : first (cs.drop j) = (.none, 0) := by
          rw [hd]
          unfold first
          split
          · rename_i h'; exact absurd (List.cons.inj h').1 o1
          · rename_i h'; exact absurd (List.cons.inj h').1 o2
          · rfl
        rw [q] at h2
        exact h2
/-- a value that is read is none or a value without parts -/
theorem first_cases (r : List Int) : (first r).1 = .none ∨ ((first r).1 ≠ .none ∧ gIsN (first r).1 .none = fun P => P (.bool false)) := by
  cases h : (first r).1 with
  | none => exact .inl rfl
  | int i => exact .inr ⟨by simp, rfl⟩
  | str i => exact .inr ⟨by simp, rfl⟩
  | bool i => exact .inr ⟨by simp, rfl⟩
  | list i => exact .inr ⟨by simp, rfl⟩
  | tuple i => exact .inr ⟨by simp, rfl⟩
  | dict i => exact .inr ⟨by simp, rfl⟩
theorem intB_dict (l : List Int) (x : List (DD × DD)) : intB l ≠ .dict x := by
  unfold intB; split
  · simp
  · split <;> simp
theorem textD_dict (l : List Int) (x : List (DD × DD)) : textD l ≠ .dict x := by
  unfold textD; split <;> simp
theorem first_pos {r : List Int} (h : (first r).1 ≠ .none) : 0 < (first r).2 := by
  unfold first at h ⊢
  split at h
  · exact Nat.zero_lt_succ _
  · rename_i t
    split at h
    · exact Nat.zero_lt_succ _
    · exact absurd rfl h
  · exact absurd rfl h
theorem decode_none (n : Nat) (r : List Int) (h : r ≠ []) (hz : (first r).1 = .none) : decode (n + 1) r = none := by
  cases r with
  | nil => exact absurd rfl h
  | cons x t =>
    rw [decode]
    cases hf : first (x :: t) with
    | mk v k =>
      rw [hf] at hz
      simp only at hz
      subst hz
      rfl
theorem decode_some (n : Nat) (r : List Int) (h : r ≠ []) (hz : (first r).1 ≠ .none) : decode (n + 1) r = (decode n (r.drop (first r).2)).map ((first r).1 :: ·) := by
  cases r with
  | nil => exact absurd rfl h
  | cons x t =>
    rw [decode]
    cases hf : first (x :: t) with
    | mk v k =>
      rw [hf] at hz
      simp only at hz
      cases v <;> first | rfl | exact absurd rfl hz
abbrev valB : DS := sSeq (sAsg (dCall F_value_at (dCons (dN 0) (dCons (dN 2) dNil))) (tT [3, 2])) (sSeq (sIf (dT (dOp gIsN (dN 3) (dC .none))) (sRet (dC .none)) sNx) (sApp 1 (dN 3)))
theorem val_loop (cs : List Int) (hb : cs.all isB = true) (h1 : cs.length ≤ 100000) (Q : DD → Prop) : ∀ (n j : Nat) (acc : List DD) (e : Ent), acc.length ≤ j → (cs.drop j).length ≤ n →
    (match decode n (cs.drop j) with | some vs => Q (.tuple (acc ++ vs)) | none => Q .none) →
    turns (dT (dOp (gB ltD) (dN 2) (dCall (g1 gLen) (dCons (dN 0) dNil)))) valB ⟨fun ρ' => sRet (dCall (g1 gTuple) (dCons (dN 1) dNil)) (endsD Q) ρ', Q, fun _ => False, fun _ => False⟩ (n + 1)
      [.dat (.tuple (iD cs)), .own acc, .dat (.int (j : Nat)), e] := by
  intro n
  induction n with
  | zero =>
    intro j acc e ha hn hq
    have hj : cs.length ≤ j := by rw [List.length_drop] at hn; omega
    rw [List.drop_of_length_le hj] at hq
    have hq : Q (.tuple (acc ++ [])) := hq
    rw [List.append_nil] at hq
    unfold turns
    show dT _ (full [.dat (.tuple (iD cs)), .own acc, .dat (.int (j : Nat)), e]) _
    walk_at "zs"
    rw [len_iD, decide_eq_false (by omega : ¬ (j : Int) < (cs.length : Int))]
    simp only [Bool.false_eq_true, if_false]
    exact hq
  | succ n ih =>
    intro j acc e ha hn hq
    unfold turns
    show dT _ (full [.dat (.tuple (iD cs)), .own acc, .dat (.int (j : Nat)), e]) _
    walk_at "zs"
    rw [len_iD]
    by_cases hlt : j < cs.length
    · rw [decide_eq_true (by omega : (j : Int) < (cs.length : Int))]
      simp only [if_true]
      refine ⟨cs, j, rfl, rfl, h1, hb, hlt, ?_⟩
      have hd : cs.drop j = cs[j] :: cs.drop (j + 1) := List.drop_eq_getElem_cons hlt
      simp only [tT, tNs]
      walk_at "zs"
      rcases first_cases (cs.drop j) with hz | ⟨hz, hi⟩
      · rw [decode_none n (cs.drop j) (by rw [hd]; exact List.cons_ne_nil _ _) hz] at hq
        rw [hz]
        exact hq
      · rw [hi]
        have hk := first_pos hz
        rw [decode_some n (cs.drop j) (by rw [hd]; exact List.cons_ne_nil _ _) hz, List.drop_drop] at hq
        refine ⟨by omega, ?_⟩
        refine ih (j + (first (cs.drop j)).2) (acc ++ [(first (cs.drop j)).1]) _ (by rw [List.length_append, List.length_singleton]; omega) (by rw [List.length_drop] at hn ⊢; omega) ?_
        cases hdec : decode n (cs.drop (j + (first (cs.drop j)).2)) with
        | none => rw [hdec] at hq; exact hq
        | some vs =>
          rw [hdec] at hq
          show Q (.tuple (acc ++ [(first (cs.drop j)).1] ++ vs))
          rw [List.append_assoc]
          exact hq
    · rw [decide_eq_false (by omega : ¬ (j : Int) < (cs.length : Int))]
      simp only [Bool.false_eq_true, if_false]
      rw [List.drop_of_length_le (by omega)] at hq
      have hq : Q (.tuple (acc ++ [])) := by cases n <;> exact hq
      rw [List.append_nil] at hq
      exact hq
theorem h_values_of : ∀ ds Q, F_values_of ds Q → ds.length = 1 ∧ m_values_of (endsD Q) (startD N_values_of ds) := by
  intro ds Q h
  match ds, h with
  | [.tuple es], ⟨cs, he, h1, hb, h2⟩ =>
    subst he
    refine ⟨rfl, ?_⟩
    show sWh _ _ _ [.dat (.tuple (iD cs)), .own [], .dat (.int ((0 : Nat) : Int)), .un]
    refine ⟨cs.length + 1, val_loop cs hb h1 Q cs.length 0 [] .un (Nat.le_refl _) (by rw [List.drop_zero]; exact Nat.le_refl _) ?_⟩
    rw [List.drop_zero]
    unfold decD at h2
    split <;> rename_i hx <;> rw [hx] at h2 <;> exact h2
end Z1

set_option Elab.async false
set_option linter.all false
set_option maxRecDepth 100000
set_option maxHeartbeats 1000000
namespace Z1
open PySem PySem.Spec PyProof.Rows L2 Z
local macro_rules | `(tactic| walk_at "zs") => `(tactic| simp only [sSeq, sIf, sSet, sRet, sNx, sAsg, tN, dOr, dAnd, dNot, dT, dOp, dC, asB, dIf, dCall, dCons, dNil, dTup, dLst, dLc, dIt, dIl, dIs, g1, e_lt, e_gt, e_eq, e_ne, e_le, e_ge, e_add, e_addL, e_addT, e_I0, e_I, e_isN, e_isI, e_isS, e_isB, e_isT, e_isL, e_ixL, e_ixT, e_ixS, e_n0, e_n1, e_n2, e_n3, e_n4, e_n5, e_n6, e_n7, f_nil, f_dat, f_un, f_own, f_adr, rt_ends, nx_ends, List.set_cons_zero, List.set_cons_succ, gLen, gOrd, gTuple, gList, gInt, gNeg, dUn])
local macro_rules | `(tactic| walk_at "zk") => `(tactic| (show _ ∧ _; refine ⟨by first | decide | (simp; done) | omega, ?_⟩))
theorem h__law_characters : ∀ ds Q, F__law_characters ds Q → ds.length = 0 ∧ m__law_characters (endsD Q) (startD N__law_characters ds) := by
  rintro ds Q ⟨rfl, h⟩
  exact ⟨rfl, h⟩
def ixOk (n : Nat) : Bool := match Builtin.Str.occurrences CH ⟨#[n]⟩ 0 CH.length 1 with
  | i :: _ => decide (32 + (i : Int) + (if 4 < i then 1 else 0) = (n : Int))
  | [] => false
theorem ix_at : ∀ n : Nat, n < 127 → okC n = true → ixOk n = true := by decide +kernel
theorem ix_get {n : Nat} (h : okC n = true) : ∃ (i : Nat) (r : List Nat), Builtin.Str.occurrences CH ⟨#[n]⟩ 0 CH.length 1 = i :: r ∧ 32 + (i : Int) + (if 4 < i then 1 else 0) = (n : Int) := by
  have h1 := h
  simp only [okC, decide_eq_true_eq] at h1
  have := ix_at n (by omega) h
  unfold ixOk at this
  split at this
  · rename_i i r e
    exact ⟨i, r, e, of_decide_eq_true this⟩
  · cases this
theorem upto_drop (n : Int) (i : Nat) (h : i < n.toNat) : (upto n).drop i = .int (i : Nat) :: (upto n).drop (i + 1) := by
  have hl : (upto n).length = n.toNat := by simp [upto]
  rw [List.drop_eq_getElem_cons (by rw [hl]; exact h)]
  simp [upto]
theorem upto_end (n : Int) (i : Nat) (h : n.toNat ≤ i) : (upto n).drop i = [] := List.drop_of_length_le (by simp only [upto, List.length_map, List.length_range]; exact h)
abbrev lbB : DS := sIf (dT (dIsi .str (dN 2))) (sSeq (sSet 3 (fun _ P => F__law_characters [] P))
    (sSet 1 (dOp gAdd (dOp gAdd (dOp gAdd (dN 1) (dLst (dCons (dC (.int 2)) dNil))) (dLc (dIs (dN 2)) 7 dYes (dOp gAdd (dOp gAdd (dC (.int 32)) (dM1 gSix (dN 3) (dN 7))) (dCall (g1 gInt) (dCons (dOp (gB gtD) (dM1 gSix (dN 3) (dN 7)) (dC (.int 4))) dNil))))) (dLst (dCons (dC (.int 0)) dNil))))) (sSeq (sSet 4 (dOp gAdd (dN 2) (dC (.int 549755813888))))
    (sSeq (sSet 5 (dLst dNil))
    (sSeq (sFor (dIr (dC (.int 5))) (tN 6) (sSeq (sSet 5 (dOp gAdd (dLst (dCons (dOp (gI (fun _ j => 0 < j) (· % ·)) (dCall (g1 gInt) (dCons (dN 4) dNil)) (dC (.int 256))) dNil)) (dN 5)))
    (sSet 4 (dOp (gI CDivW (· / ·)) (dN 4) (dC (.int 256))))))
    (sSet 1 (dOp gAdd (dOp gAdd (dN 1) (dLst (dCons (dC (.int 1)) dNil))) (dN 5))))))
theorem bl_of {v : DD} (hv : okV v = true) : (bytesV v).length ≤ 8 := by
  cases v with
  | int n => exact Nat.le_of_lt (by decide : 6 < 8)
  | str z =>
    simp only [okV, Bool.and_eq_true, decide_eq_true_eq] at hv
    simp [bytesV, hv.1]
  | _ => exact Nat.zero_le _
theorem ch_elt {z : Str} (hz : okV (.str z) = true) (a b c e f g : Ent) : ∀ x ∈ chars z, ∀ Q' : DD → Prop, Q' (match x with | .str w => .int (w.cps.getD 0 0 : Nat) | _ => .none) →
    dOp gAdd (dOp gAdd (dC (.int 32)) (dM1 gSix (dN 3) (dN 7))) (dCall (g1 gInt) (dCons (dOp (gB gtD) (dM1 gSix (dN 3) (dN 7)) (dC (.int 4))) dNil)) [a, b, c, .dat (.str CH), e, f, g, .dat x] Q' := by
  intro x hx Q' hq
  obtain ⟨n, hn, rfl⟩ := chars_ok hx
  simp only [okV, Bool.and_eq_true, decide_eq_true_eq, List.all_eq_true] at hz
  obtain ⟨i, r, e1, e2⟩ := ix_get (hz.2 n hn)
  have s6 : ∀ P, gSix (.str CH) (.str ⟨#[n]⟩) P = P (.int (i : Nat)) := fun P => by
    simp only [gSix, e1]
  have hq : Q' (.int ((n : Nat) : Int)) := hq
  walk_at "zs"
  simp only [dM1]
  walk_at "zs"
  rw [s6]
  walk_at "zs"
  rw [s6]
  walk_at "zs"
  have e3 : 32 + (i : Int) + (if decide (4 < (i : Int)) = true then 1 else 0) = (n : Int) := by
    rw [← e2]
    by_cases h4 : 4 < i
    · rw [if_pos h4, if_pos (decide_eq_true (by omega))]
    · rw [if_neg h4, if_neg (by simp; omega)]
  rw [e3]
  exact hq
abbrev fiveB : DS := sSeq (sSet 5 (dOp gAdd (dLst (dCons (dOp (gI (fun _ j => 0 < j) (· % ·)) (dCall (g1 gInt) (dCons (dN 4) dNil)) (dC (.int 256))) dNil)) (dN 5))) (sSet 4 (dOp (gI CDivW (· / ·)) (dN 4) (dC (.int 256))))
theorem cdw (m : Int) : CDivW m 256 := ⟨by decide, by decide⟩
def dig : Nat → Int → List Int
  | 0, _ => []
  | n + 1, m => dig n (m / 256) ++ [m % 256]
theorem dig5 (m : Int) : dig 5 m = be5 m := by
  simp only [dig, be5, List.nil_append, List.cons_append]
  have a1 : m / 256 / 256 / 256 / 256 = m / 2 ^ 32 := by omega
  have a2 : m / 256 / 256 / 256 = m / 2 ^ 24 := by omega
  have a3 : m / 256 / 256 = m / 2 ^ 16 := by omega
  have a4 : m / 256 = m / 2 ^ 8 := by omega
  rw [a1, a2, a3, a4]
theorem five_loop (a b c d e7 : Ent) (k : En → Prop) (R : DD → Prop) : ∀ (items : List DD) (m : Int) (fs : List Int) (e6 : Ent), items.length + fs.length ≤ 10 →
    (∀ m' e6', k [a, b, c, d, .dat (.int m'), .dat (.list (iD (dig items.length m ++ fs))), e6', e7]) →
    loop (tN 6) fiveB ⟨k, R, fun _ => False, fun _ => False⟩ items [a, b, c, d, .dat (.int m), .dat (.list (iD fs)), e6, e7]
  | [], m, fs, e6, _, h => h m e6
  | x :: xs, m, fs, e6, hl, h => by
    rw [List.length_cons] at hl
    have ih := five_loop a b c d e7 k R xs (m / 256) (m % 256 :: fs) (.dat x) (by rw [List.length_cons]; omega) (fun m' e6' => by
      have := h m' e6'
      rw [List.length_cons, dig, List.append_assoc] at this
      exact this)
    refine ⟨show (0 : Int) < 256 by decide, ?_, cdw m, ih⟩
    show 1 + (iD fs).length ≤ 1000000
    rw [len_iD]; omega
theorem loop_lb (all : List DD) (Q : DD → Prop) : ∀ (vs : List DD) (acc : List Int) (e2 e3 e4 e5 e6 e7 : Ent), vs.all okV = true → acc.length + 8 * vs.length ≤ 10000 → Q (tD (acc ++ keyI vs)) →
    loop (tN 2) lbB ⟨fun ρ' => sRet (dCall (g1 gTuple) (dCons (dN 1) dNil)) (endsD Q) ρ', Q, fun _ => False, fun _ => False⟩ vs [.dat (.tuple all), .dat (.list (iD acc)), e2, e3, e4, e5, e6, e7]
  | [], acc, e2, e3, e4, e5, e6, e7, _, _, h => by
    rw [keyI, List.flatMap_nil, List.append_nil] at h
    exact h
  | v :: vs, acc, e2, e3, e4, e5, e6, e7, hv, hl, h => by
    rw [List.all_cons, Bool.and_eq_true] at hv
    rw [List.length_cons] at hl
    have bl := bl_of hv.1
    have ih := fun e3 e4 e5 e6 e7 => loop_lb all Q vs (acc ++ bytesV v) (.dat v) e3 e4 e5 e6 e7 hv.2 (by rw [List.length_append]; omega) (by rw [List.append_assoc]; exact h)
    have e1 : iD (acc ++ bytesV v) = iD acc ++ iD (bytesV v) := by simp [iD]
    rw [e1] at ih
    have la : (iD acc).length = acc.length := len_iD acc
    cases v with
    | int n =>
      have e8 : iD (bytesV (.int n)) = [.int 1] ++ iD (be5 (n + 549755813888)) := rfl
      rw [e8, ← List.append_assoc] at ih
      show (-1000000 ≤ (5 : Int) ∧ (5 : Int) ≤ 1000000) ∧ loop (tN 6) fiveB _ (upto 5) [.dat (.tuple all), .dat (.list (iD acc)), .dat (.int n), e3, .dat (.int (n + 549755813888)), .dat (.list (iD [])), e6, e7]
      refine ⟨by decide, five_loop _ _ _ _ _ _ _ (upto 5) _ [] e6 (by decide) fun m' e6' => ?_⟩
      have el : (upto 5).length = 5 := by decide
      rw [el, List.append_nil, dig5]
      have lb : (iD (be5 (n + 549755813888))).length = 5 := rfl
      refine ⟨by rw [la]; show _ + 1 ≤ _; omega, by rw [List.length_append, la, lb]; show _ + 1 + 5 ≤ _; omega, ih _ _ _ _ _⟩
    | str z =>
      have e8 : iD (bytesV (.str z)) = [.int 2] ++ ((chars z).map fun x => match x with | .str w => PyData.int (w.cps.getD 0 0 : Nat) | _ => .none) ++ [.int 0] := by
        simp [iD, bytesV, chars, List.map_map, Function.comp_def]
      rw [e8, ← List.append_assoc, ← List.append_assoc] at ih
      have hc : (chars z).length ≤ 6 := by
        have h1 := hv.1
        simp only [okV, Bool.and_eq_true, decide_eq_true_eq] at h1
        simp [chars, h1.1]
      refine ⟨rfl, ?_⟩
      show _ ∧ _
      refine ⟨by rw [la]; simp; omega, ?_⟩
      refine comp_map (f := fun x => match x with | .str w => PyData.int (w.cps.getD 0 0 : Nat) | _ => .none) (ch_elt hv.1 _ _ _ _ _ _) (by simp; omega) ?_
      show _ ∧ _
      refine ⟨by simp only [List.length_append, la, List.length_map, List.length_nil, List.length_singleton]; omega, ?_⟩
      show _ ∧ _
      refine ⟨by simp only [List.length_append, la, List.length_map, List.length_nil, List.length_singleton]; omega, ?_⟩
      exact ih _ _ _ _ _
    | _ => simp [okV] at hv
theorem h__law_bytes : ∀ ds Q, F__law_bytes ds Q → ds.length = 1 ∧ m__law_bytes (endsD Q) (startD N__law_bytes ds) := by
  intro ds Q h
  match ds, h with
  | [.tuple vs], ⟨h1, h2⟩ =>
    refine ⟨rfl, ?_⟩
    exact loop_lb vs Q vs [] .un .un .un .un .un .un h1.2 (by rw [List.length_nil]; omega) h2
end Z1

set_option Elab.async false
set_option linter.all false
set_option maxRecDepth 100000
set_option maxHeartbeats 1000000
namespace Z1
open PySem PySem.Spec PyProof.Rows L2 Z
local macro_rules | `(tactic| walk_at "zs") => `(tactic| simp only [sSeq, sIf, sSet, sRet, sNx, sAsg, tN, dOr, dAnd, dNot, dT, dOp, dC, asB, dIf, dCall, dCons, dNil, dTup, dLst, dLc, dIt, dIl, dIs, g1, e_lt, e_gt, e_eq, e_ne, e_le, e_ge, e_add, e_addL, e_addT, e_I0, e_I, e_isN, e_isI, e_isS, e_isB, e_isT, e_isL, e_ixL, e_ixT, e_ixS, e_n0, e_n1, e_n2, e_n3, e_n4, e_n5, e_n6, e_n7, f_nil, f_dat, f_un, f_own, f_adr, rt_ends, nx_ends, List.set_cons_zero, List.set_cons_succ, gLen, gOrd, gTuple, gList, gInt, gNeg, dUn])
abbrev rdA : DS := (sSeq (sSet 4 (dC (.int 0)))
    (sSeq (sFor (dIt (dSl (dN 0) (dSo (dOp gAdd (dN 2) (dC (.int 1)))) (dSo (dOp gAdd (dN 2) (dC (.int 6)))))) (tN 5) (sSet 4 (dOp gAdd (dOp (gI CMul (· * ·)) (dN 4) (dC (.int 256))) (dN 5))))
    (sSeq (sSet 4 (dOp (gI0 (· - ·)) (dN 4) (dC (.int 549755813888))))
    (sSeq (sIf (dT (dOp (gB gtD) (dCall (g1 gAbs) (dCons (dN 4) dNil)) (dOp (gI CPow fun i j => i ^ j.toNat) (dC (.int 10)) (dC (.int 9))))) (sRet (dC .none)) sNx)
    (sSeq (sApp 1 (dN 4))
    (sSet 2 (dOp gAdd (dN 2) (dC (.int 6)))))))))
abbrev badT : DT := (dOr (dT (dOp (gB ltD) (dN 7) (dC (.int 32)))) (dOr (dT (dOp (gB eqD) (dN 7) (dC (.int 37)))) (dT (dOp (gB gtD) (dN 7) (dC (.int 126))))))
abbrev rdB : DS := (sSeq (sSet 6 (dSl (dN 0) (dSo (dOp gAdd (dN 2) (dC (.int 1)))) (dSo (dOp gAdd (dN 2) (dLix (dCall (g1 gList) (dCons (dSl (dN 0) (dSo (dN 2)) dNo) dNil)) (dC (.int 0)))))))
    (sSeq (sIf (dOr (dT (dOp (gB gtD) (dCall (g1 gLen) (dCons (dN 6) dNil)) (dC (.int 6)))) (dT (dOp (gB neD) (dLc (dIt (dN 6)) 7 badT (dN 7)) (dLst dNil)))) (sRet (dC .none)) sNx)
    (sSeq (sApp 1 (dM1 gJoin (dC (.str (Str.ofString ""))) (dLc (dIt (dN 6)) 7 dYes (dOp gIx (fun _ P => F__law_characters [] P) (dOp (gI0 (· - ·)) (dOp (gI0 (· - ·)) (dN 7) (dC (.int 32))) (dCall (g1 gInt) (dCons (dOp (gB gtD) (dN 7) (dC (.int 37))) dNil)))))))
    (sSet 2 (dOp gAdd (dOp gAdd (dN 2) (dCall (g1 gLen) (dCons (dN 6) dNil))) (dC (.int 2)))))))
abbrev rdT1 : DT := (dAnd (dT (dOp (gB eqD) (dOp gIx (dN 0) (dN 2)) (dC (.int 1)))) (dT (dOp gLe (dOp gAdd (dN 2) (dC (.int 6))) (dCall (g1 gLen) (dCons (dN 0) dNil)))))
abbrev rdT2 : DT := (dAnd (dT (dOp (gB eqD) (dOp gIx (dN 0) (dN 2)) (dC (.int 2)))) (dT (dOp (gB inD) (dC (.int 0)) (dSl (dN 0) (dSo (dN 2)) dNo))))
abbrev rdAll : DS := (sSeq (sIf (dT (dOp (gB eqD) (dN 2) (dCall (g1 gLen) (dCons (dN 0) dNil)))) (sRet (dCall (g1 gTuple) (dCons (dN 1) dNil))) sNx) (sIf rdT1 rdA (sIf rdT2 rdB (sRet (dC .none)))))
theorem full_dat (d : DD) : (Ent.dat d).full = .dat d := rfl
theorem f_any (e : Ent) (r : En) : full (e :: r) = e.full :: full r := rfl
theorem fold2 (a b c d e6 e7 : Ent) (E : DEn) : ∀ (cs : List Int) (m : Int) (e5 : Ent), (∀ e, E.nx [a, b, c, d, .dat (.int (cs.foldl (fun a d => a * 256 + d) m)), e, e6, e7]) →
    loop (tN 5) (sSet 4 (dOp gAdd (dOp (gI CMul (· * ·)) (dN 4) (dC (.int 256))) (dN 5))) E (iD cs) [a, b, c, d, .dat (.int m), e5, e6, e7]
  | [], m, e5, h => h e5
  | x :: xs, m, e5, h => ⟨.inr ⟨by decide, by decide⟩, fold2 a b c d e6 e7 E xs (m * 256 + x) (.dat (.int x)) h⟩
theorem cut_from (cs : List Int) (j : Nat) (h : j ≤ cs.length) : cutZ (iD cs) (some (j : Int)) none = iD (cs.drop j) := by
  unfold cutZ iD
  rw [HT.sIx_nat, HT.sIx_none, List.length_map, Nat.min_eq_left h, ← List.map_drop, ← List.map_take, List.take_of_length_le (by rw [List.length_drop]; exact Nat.le_refl _)]
theorem eqv_z (c : Int) : PyData.eqv (.int c) (.int 0) = (c == 0) := rfl
theorem any_z : ∀ l : List Int, ((iD l).any fun z => PyData.eqv z (.int 0)) = l.any (· == 0)
  | [] => rfl
  | c :: l => by
    show (PyData.eqv (.int c) (.int 0) || _) = _
    rw [List.any_cons, eqv_z]
    congr 1
    exact any_z l
theorem all_flat : ∀ l : List Int, (iD l).all flatD = true
  | [] => rfl
  | c :: l => by show (true && _) = true; rw [Bool.true_and]; exact all_flat l
theorem in_z (l : List Int) : inD (.int 0) (.tuple (iD l)) = some (l.any (· == 0)) := by
  unfold inD
  simp only [seqOf]
  rw [if_pos ⟨rfl, all_flat l⟩, any_z]
theorem idx_z (l : List Int) : (iD l).findIdx? (fun z => PyData.eqv z (.int 0)) = l.findIdx? (· == 0) := by
  unfold iD
  rw [List.findIdx?_map]
  rfl
def badB : DD → Bool
  | .int c => !decide (32 ≤ c ∧ c ≤ 126 ∧ c ≠ 37)
  | _ => false
theorem filt : ∀ cs : List Int, ((iD cs).filter badB).isEmpty = (cs.all fun c => decide (32 ≤ c ∧ c ≤ 126 ∧ c ≠ 37))
  | [] => rfl
  | c :: cs => by
    show (List.filter badB (.int c :: iD cs)).isEmpty = _
    rw [List.filter_cons, List.all_cons]
    cases h : decide (32 ≤ c ∧ c ≤ 126 ∧ c ≠ 37) with
    | true =>
      have : badB (.int c) = false := by simp only [badB, h]; rfl
      rw [this, if_neg Bool.false_ne_true, Bool.true_and]; exact filt cs
    | false =>
      have : badB (.int c) = true := by simp only [badB, h]; rfl
      rw [this, if_pos rfl]; rfl
theorem ne_nil (l : List DD) (P : DD → Prop) : gB neD (.list l) (.list []) P = P (.bool (!l.isEmpty)) := by
  have e : neD (.list l) (.list []) = some (!l.isEmpty) := by
    unfold neD
    rw [if_pos (Nat.le_trans (Nat.min_le_right _ _) (by decide))]
    cases l <;> simp [PyData.eqv, PyData.eqvAll]
  simp only [gB, e]
theorem read_loop (cs : List Int) (hb : cs.all isB = true) (h1 : cs.length ≤ 100000) (E : DEn) (hE : ∀ acc e3 e4 e5 e6 e7, E.rt (.tuple acc) → E.nx [.dat (.tuple (iD cs)), .own acc, .dat (.int (cs.length : Nat)), e3, e4, e5, e6, e7]) : ∀ (items : List DD) (j : Nat) (acc : List DD) (e3 e4 e5 e6 e7 : Ent), acc.length ≤ j → j ≤ cs.length → cs.length - j ≤ items.length →
    (match decode items.length (cs.drop j) with | some vs => E.rt (.tuple (acc ++ vs)) | none => E.rt .none) →
    loop (tN 3) rdAll E items [.dat (.tuple (iD cs)), .own acc, .dat (.int (j : Nat)), e3, e4, e5, e6, e7]
  | [], j, acc, e3, e4, e5, e6, e7, ha, hj, hl, hq => by
    have ej : j = cs.length := by rw [List.length_nil] at hl; omega
    subst ej
    rw [List.drop_length] at hq
    have hq : E.rt (.tuple (acc ++ [])) := hq
    rw [List.append_nil] at hq
    exact hE _ _ _ _ _ _ hq
  | x :: xs, j, acc, e3, e4, e5, e6, e7, ha, hj, hl, hq => by
    rw [List.length_cons] at hl hq
    unfold loop
    show rdAll _ [.dat (.tuple (iD cs)), .own acc, .dat (.int (j : Nat)), .dat x, e4, e5, e6, e7]
    walk_at "zs"
    rw [len_iD]
    by_cases hlt : j < cs.length
    · have z0 : ((j : Int) == (cs.length : Int)) = false := by simp; omega
      rw [z0]
      simp only [Bool.false_eq_true, if_false]
      have hd : cs.drop j = cs[j] :: cs.drop (j + 1) := List.drop_eq_getElem_cons hlt
      have hne : cs.drop j ≠ [] := by rw [hd]; exact List.cons_ne_nil _ _
      have c1 : ((j : Nat) : Int) + 1 = ((j + 1 : Nat) : Int) := by omega
      have c6 : ((j : Nat) : Int) + 6 = ((j + 6 : Nat) : Int) := by omega
      have tl : (cs.drop (j + 1)).length = cs.length - (j + 1) := List.length_drop ..
      rw [at_iD hlt]
      simp only [e_eq]
      by_cases o1 : cs[j] = 1
      · rw [o1] at hd ⊢
        simp only [beq_self_eq_true, if_true]
        have f1 : first (cs.drop j) = (intB ((cs.drop (j + 1)).take 5), 6) := by rw [hd]; rfl
        by_cases o6 : j + 6 ≤ cs.length
        · rw [decide_eq_true (by omega : (j : Int) + 6 ≤ (cs.length : Int))]
          simp only [if_true]
          unfold sFor
          show loop _ _ _ (cutZ (iD cs) (some ((j : Int) + 1)) (some ((j : Int) + 6))) [.dat (.tuple (iD cs)), .own acc, .dat (.int (j : Nat)), .dat x, .dat (.int 0), e5, e6, e7]
          rw [c1, c6, cut_at cs (j + 1) (j + 6) hlt, show j + 6 - (j + 1) = 5 by omega]
          refine fold2 _ _ _ _ _ _ _ _ 0 e5 fun e => ?_
          have h5 : ((cs.drop (j + 1)).take 5).length = 5 := by rw [List.length_take, tl]; omega
          have hv : first (cs.drop j) = (if -1000000000 ≤ val5 ((cs.drop (j + 1)).take 5) - 549755813888 ∧ val5 ((cs.drop (j + 1)).take 5) - 549755813888 ≤ 1000000000 then .int (val5 ((cs.drop (j + 1)).take 5) - 549755813888) else .none, 6) := by
            rw [f1, intB, if_neg (by omega)]
          have ev : List.foldl (fun a d => a * 256 + d) 0 ((cs.drop (j + 1)).take 5) = val5 ((cs.drop (j + 1)).take 5) := rfl
          rw [ev]
          show CPow 10 9 ∧ (if decide ((10 : Int) ^ (9 : Int).toNat < (if (val5 ((cs.drop (j + 1)).take 5) - 549755813888) < 0 then -(val5 ((cs.drop (j + 1)).take 5) - 549755813888) else (val5 ((cs.drop (j + 1)).take 5) - 549755813888))) = true then E.rt .none else (acc.length < 1000000 ∧ loop (tN 3) rdAll E xs [.dat (.tuple (iD cs)), .own (acc ++ [.int (val5 ((cs.drop (j + 1)).take 5) - 549755813888)]), .dat (.int ((j : Int) + 6)), .dat x, .dat (.int (val5 ((cs.drop (j + 1)).take 5) - 549755813888)), e, e6, e7]))
          refine ⟨⟨by decide, by decide, by decide⟩, ?_⟩
          generalize val5 ((cs.drop (j + 1)).take 5) - 549755813888 = v at hv ⊢
          have p9 : (10 : Int) ^ (9 : Int).toNat = 1000000000 := by decide
          rw [p9]
          by_cases hr : -1000000000 ≤ v ∧ v ≤ 1000000000
          · rw [if_pos hr] at hv
            rw [if_neg (by simp; split <;> omega)]
            rw [decode_some _ _ hne (by rw [hv]; simp), hv, List.drop_drop] at hq
            refine ⟨by omega, ?_⟩
            show loop _ _ _ xs [.dat (.tuple (iD cs)), .own (acc ++ [.int v]), .dat (.int ((j : Int) + 6)), .dat x, .dat (.int v), e, e6, e7]
            rw [c6]
            refine read_loop cs hb h1 E hE xs (j + 6) (acc ++ [.int v]) _ _ _ _ _ (by rw [List.length_append, List.length_singleton]; omega) o6 (by omega) ?_
            cases hdec : decode xs.length (cs.drop (j + 6)) with
            | none => rw [hdec] at hq; exact hq
            | some vs => rw [hdec] at hq; show E.rt (.tuple (acc ++ [.int v] ++ vs)); rw [List.append_assoc]; exact hq
          · rw [if_neg hr] at hv
            rw [if_pos (by simp; split <;> omega)]
            rw [decode_none _ _ hne (by rw [hv])] at hq
            exact hq
        · rw [decide_eq_false (by omega : ¬ (j : Int) + 6 ≤ (cs.length : Int))]
          try simp only [Bool.false_eq_true, if_false]
          have z2 : ((1 : Int) == 2) = false := rfl
          rw [z2]
          try simp only [Bool.false_eq_true, if_false]
          rw [decode_none _ _ hne (by rw [f1, intB, if_pos (by rw [List.length_take, tl]; omega)])] at hq
          exact hq
      · have z1 : (cs[j] == 1) = false := by simpa using o1
        rw [z1]
        try simp only [Bool.false_eq_true, if_false]
        by_cases o2 : cs[j] = 2
        · rw [o2] at hd ⊢
          simp only [beq_self_eq_true, if_true]
          show gB inD (.int 0) (.tuple (cutZ (iD cs) (some (j : Int)) none)) _
          rw [cut_from cs j hj]
          have e0 : ∀ P, gB inD (.int 0) (.tuple (iD (cs.drop j))) P = P (.bool ((cs.drop j).any (· == 0))) := fun P => by
            simp only [gB, in_z]
          rw [e0]
          have an : (cs.drop j).any (· == 0) = ((cs.drop (j + 1)).findIdx? (· == 0)).isSome := by
            rw [hd, List.any_cons, List.findIdx?_isSome]; rfl
          rw [an]
          cases hf : (cs.drop (j + 1)).findIdx? (· == 0) with
          | none =>
            have f2 : first (cs.drop j) = (.none, 0) := by rw [hd]; simp only [first, hf]
            rw [decode_none _ _ hne (by rw [f2])] at hq
            exact hq
          | some m =>
            have f2 : first (cs.drop j) = (textD ((cs.drop (j + 1)).take m), m + 2) := by rw [hd]; simp only [first, hf]
            have hm : m < (cs.drop (j + 1)).length := (List.findIdx?_eq_some_iff_getElem.mp hf).1
            have li : (iD (cs.drop j)).findIdx? (fun z => PyData.eqv z (.int 0)) = some (m + 1) := by
              rw [idx_z, hd, List.findIdx?_cons, hf]; rfl
            have hlx : ∀ K : DD → Prop, K (.int ((m + 1 : Nat) : Int)) → dLix (dCall (g1 gList) (dCons (dSl (dN 0) (dSo (dN 2)) dNo) dNil)) (dC (.int 0)) [.dat (.tuple (iD cs)), .own acc, .dat (.int (j : Nat)), .dat x, e4, e5, e6, e7] K := fun K hK => by
              show gLix (.list (cutZ (iD cs) (some (j : Int)) none)) (.int 0) K
              rw [cut_from cs j hj]
              simp only [gLix]
              refine ⟨rfl, all_flat _, ?_⟩
              rw [li]
              exact hK
            simp only [Option.isSome_some, asB, if_true, dSl, dSo, dNo]
            walk_at "zs"
            refine hlx _ ?_
            walk_at "zs"
            simp only [f_any]
            walk_at "zs"
            have cm : ((j : Nat) : Int) + ((m + 1 : Nat) : Int) = ((j + (m + 1) : Nat) : Int) := by omega
            rw [c1, cm, cut_at cs (j + 1) (j + (m + 1)) hlt, show j + (m + 1) - (j + 1) = m by omega]
            have lm : ((cs.drop (j + 1)).take m).length = m := by rw [List.length_take]; omega
            generalize hco : (cs.drop (j + 1)).take m = co at f2 lm ⊢
            simp only [full_dat, e_n0]
            rw [len_iD, lm]
            unfold textD at f2
            rw [lm] at f2
            by_cases l6 : m ≤ 6
            · rw [decide_eq_false (by omega : ¬ 6 < ((m : Nat) : Int))]
              simp only [Bool.false_eq_true, if_false]
              refine comp_if (p := badB) (f := id) (fun y hy Q' hq' => ?_) (fun y hy _ Q' hq' => hq') (by rw [len_iD, lm]; simp; omega) ?_
              · obtain ⟨c, _, rfl⟩ := iD_in hy
                walk_at "zs"
                simp only [badB] at hq'
                by_cases b1 : c < 32
                · rw [decide_eq_true b1]
                  rw [decide_eq_false (by omega)] at hq'
                  exact hq'
                · rw [decide_eq_false b1]
                  by_cases b2 : c = 37
                  · subst b2; exact hq'
                  · have b2' : (c == 37) = false := by simpa using b2
                    rw [b2']
                    by_cases b3 : 126 < c
                    · rw [decide_eq_true b3]
                      rw [decide_eq_false (by omega)] at hq'
                      exact hq'
                    · rw [decide_eq_false b3]
                      rw [decide_eq_true (by omega)] at hq'
                      exact hq'
              · rw [List.map_id, List.nil_append, ne_nil, filt]
                cases hc : co.all fun c => decide (32 ≤ c ∧ c ≤ 126 ∧ c ≠ 37) with
                | false =>
                  rw [hc, if_neg (by simp)] at f2
                  rw [decode_none _ _ hne (by rw [f2])] at hq
                  exact hq
                | true =>
                  rw [hc, if_pos ⟨l6, rfl⟩] at f2
                  rw [decode_some _ _ hne (by rw [f2]; simp), f2, List.drop_drop] at hq
                  simp only [asB, Bool.not_true, Bool.false_eq_true, if_false]
                  show comp _ _ _ _ (iD co) [] _
                  refine comp_map (f := chOf) (fun y hy Q' hq' => ?_) (by rw [len_iD, lm]; simp; omega) ?_
                  · obtain ⟨c, hcm, rfl⟩ := iD_in hy
                    have okc := of_decide_eq_true (List.all_eq_true.mp hc c hcm)
                    refine ⟨rfl, ?_⟩
                    show gIx (.str CH) (.int (c - 32 - (if decide (37 < c) = true then 1 else 0))) Q'
                    have hcc := ch_at c.toNat (by omega) (by simp only [okC, decide_eq_true_eq]; omega)
                    have ec : ((c.toNat : Nat) : Int) = c := by omega
                    rw [ec] at hcc
                    have e5 : (if decide (37 < c) = true then (1 : Int) else 0) = (if 37 < c then 1 else 0) := by simp
                    rw [e5, e_ixS]
                    refine ⟨by decide +kernel, ?_⟩
                    rw [hcc]
                    show Q' (.str ⟨#[c.toNat]⟩)
                    have : chOf (.int c) = .str ⟨#[c.toNat]⟩ := by simp only [chOf, chD]; rw [if_pos okc]
                    rw [this] at hq'
                    exact hq'
                  · rw [chOf_map, List.nil_append]
                    show gJoin (.str (Str.ofString "")) (.list (co.map chD)) _
                    simp only [gJoin]
                    rw [strs_of co hc]
                    show _ ∧ _ ∧ _
                    have e3 : Txt.join (Str.ofString "") (co.map fun c => (⟨#[c.toNat]⟩ : Str)) = ⟨(co.map Int.toNat).toArray⟩ := by
                      have := join_ch (co.map Int.toNat)
                      rw [List.map_map] at this
                      exact this
                    rw [e3]
                    refine ⟨by rw [sum_one, List.length_map, lm]; show m + m * 0 ≤ _; omega, by omega, ?_⟩
                    show loop _ _ _ xs [.dat (.tuple (iD cs)), .own (acc ++ [.str ⟨(co.map Int.toNat).toArray⟩]), .dat (.int ((j : Int) + ((iD co).length : Nat) + 2)), .dat x, e4, e5, .dat (.tuple (iD co)), e7]
                    rw [len_iD, lm, show ((j : Nat) : Int) + ((m : Nat) : Int) + 2 = ((j + (m + 2) : Nat) : Int) by omega]
                    refine read_loop cs hb h1 E hE xs (j + (m + 2)) _ _ _ _ _ _ (by rw [List.length_append, List.length_singleton]; omega) (by omega) (by omega) ?_
                    cases hdec : decode xs.length (cs.drop (j + (m + 2))) with
                    | none => rw [hdec] at hq; exact hq
                    | some vs => rw [hdec] at hq; show E.rt (.tuple (acc ++ [_] ++ vs)); rw [List.append_assoc]; exact hq
            · rw [if_neg (fun z => l6 z.1)] at f2
              rw [decide_eq_true (by omega : 6 < ((m : Nat) : Int))]
              rw [decode_none _ _ hne (by rw [f2])] at hq
              exact hq
        · have z2 : (cs[j] == 2) = false := by simpa using o2
          rw [z2]
          have q : first (cs.drop j) = (.none, 0) := by
            rw [hd]
            unfold first
            split
            · rename_i h'; exact absurd (List.cons.inj h').1 o1
            · rename_i h'; exact absurd (List.cons.inj h').1 o2
            · rfl
          rw [decode_none _ _ hne (by rw [q])] at hq
          exact hq
    · have ej : j = cs.length := by omega
      subst ej
      have z0 : ((cs.length : Int) == (cs.length : Int)) = true := by simp
      rw [z0]
      rw [List.drop_length] at hq
      have hq : E.rt (.tuple (acc ++ [])) := hq
      rw [List.append_nil] at hq
      exact hq
theorem h__law_read : ∀ ds Q, F__law_read ds Q → ds.length = 1 ∧ m__law_read (endsD Q) (startD N__law_read ds) := by
  intro ds Q h
  match ds, h with
  | [.tuple es], ⟨cs, he, h1, hb, h2⟩ =>
    subst he
    refine ⟨rfl, ?_⟩
    show (-1000000 ≤ (((iD cs).length : Nat) : Int) ∧ (((iD cs).length : Nat) : Int) ≤ 1000000) ∧ loop (tN 3) rdAll _ (upto (((iD cs).length : Nat) : Int)) [.dat (.tuple (iD cs)), .own [], .dat (.int ((0 : Nat) : Int)), .un, .un, .un, .un, .un]
    rw [len_iD]
    have ul : (upto ((cs.length : Nat) : Int)).length = cs.length := by simp [upto]
    refine ⟨by omega, read_loop cs hb h1 _ (fun acc e3 e4 e5 e6 e7 hr => ?_) _ 0 [] _ _ _ _ _ (Nat.le_refl _) (Nat.zero_le _) (by rw [ul]; omega) ?_⟩
    · have hr : Q (.tuple acc) := hr
      show gB eqD (.int (cs.length : Nat)) (.int (((iD cs).length : Nat) : Int)) fun d => gInt d fun i => gIx (.list [.none, .tuple acc]) i Q
      rw [len_iD, e_eq]
      have z0 : ((cs.length : Int) == (cs.length : Int)) = true := by simp
      rw [z0]
      exact hr
    · rw [ul, List.drop_zero]
      unfold decD at h2
      show match decode cs.length cs with | some vs => Q (.tuple ([] ++ vs)) | none => Q .none
      split <;> rename_i hx <;> rw [hx] at h2 <;> exact h2
end Z1

set_option Elab.async false
set_option linter.all false
set_option maxRecDepth 100000
set_option maxHeartbeats 1000000
namespace Z1
open PySem PySem.Spec PyProof.Rows L2 Z
local macro_rules | `(tactic| walk_at "zs") => `(tactic| simp only [sSeq, sIf, sSet, sRet, sNx, sAsg, tN, dOr, dAnd, dNot, dT, dOp, dC, asB, dIf, dCall, dCons, dNil, dTup, dLst, dLc, dIt, dIl, dIs, g1, e_lt, e_gt, e_eq, e_ne, e_le, e_ge, e_add, e_addL, e_addT, e_I0, e_I, e_isN, e_isI, e_isS, e_isB, e_isT, e_isL, e_ixL, e_ixT, e_ixS, e_n0, e_n1, e_n2, e_n3, e_n4, e_n5, e_n6, e_n7, f_nil, f_dat, f_un, f_own, f_adr, rt_ends, nx_ends, List.set_cons_zero, List.set_cons_succ, gLen, gOrd, gTuple, gList, gInt, gNeg, dUn])
theorem at_L {ds : List DD} {j : Nat} (h : j < ds.length) : atI ds ((j : Nat) : Int) = some ds[j] := atI_nat (by simp [h])
abbrev orB : DS := (sSeq (sSet 3 (dLst (dCons (dIsi .str (dOp gIx (dN 0) (dN 2))) (dCons (dIsi .str (dOp gIx (dN 1) (dN 2))) dNil))))
    (sSeq (sIf (dT (dOp (gB neD) (dOp gIx (dN 3) (dC (.int 0))) (dOp gIx (dN 3) (dC (.int 1))))) (sRet (dOp (gI0 (· - ·)) (dC (.int 1)) (dOp (gI CMul (· * ·)) (dC (.int 2)) (dCall (g1 gInt) (dCons (dOp gIx (dN 3) (dC (.int 1))) dNil))))) sNx)
    (sIf (dT (dOp (gB neD) (dOp gIx (dN 0) (dN 2)) (dOp gIx (dN 1) (dN 2)))) (sRet (dOp (gI0 (· - ·)) (dC (.int 1)) (dOp (gI CMul (· * ·)) (dC (.int 2)) (dCall (g1 gInt) (dCons (dOp (gB ltD) (dOp gIx (dN 0) (dN 2)) (dOp gIx (dN 1) (dN 2))) dNil))))) sNx)))
theorem cm2 (x : Int) (h : 0 ≤ x ∧ x ≤ 2 ^ 40) : CMul 2 x := .inl ⟨by decide, by decide⟩
theorem or_turn (a b : List DD) (E : DEn) (i : Nat) (ha : i < a.length) (hb : i < b.length) (e3 : Ent) (oa : okV a[i] = true) (ob : okV b[i] = true)
    (h : if cmpV a[i] b[i] = 0 then ∀ e3, E.nx [.dat (.tuple a), .dat (.tuple b), .dat (.int (i : Nat)), e3] else E.rt (.int (cmpV a[i] b[i]))) :
    orB E [.dat (.tuple a), .dat (.tuple b), .dat (.int (i : Nat)), e3] := by
  show gIx (.tuple a) (.int (i : Nat)) fun v => gIx (.tuple b) (.int (i : Nat)) fun u => _
  rw [e_ixT, at_L ha]
  show gIx (.tuple b) (.int (i : Nat)) fun u => _
  rw [e_ixT, at_L hb]
  have ra : ∀ P, gIx (.tuple a) (.int (i : Nat)) P = P a[i] := fun P => by rw [e_ixT, at_L ha]
  have rb : ∀ P, gIx (.tuple b) (.int (i : Nat)) P = P b[i] := fun P => by rw [e_ixT, at_L hb]
  generalize a[i] = v at *
  generalize b[i] = u at *
  cases v with
  | int n =>
    cases u with
    | int m =>
      show gIx (.tuple a) (.int (i : Nat)) fun v => gIx (.tuple b) (.int (i : Nat)) fun u => _
      rw [ra, rb]
      show if (!(n == m)) = true then (gIx (.tuple a) (.int (i : Nat)) fun v => gIx (.tuple b) (.int (i : Nat)) fun u => _) else _
      rw [ra, rb]
      have hc : cmpV (.int n) (.int m) = if (n == m) = true then 0 else if decide (n < m) = true then -1 else 1 := by
        simp only [cmpV, kind, if_true, PyData.eqv, ZO.ord, cond_false]
        simp
      rw [hc] at h
      by_cases e : n = m
      · subst e
        simp only [beq_self_eq_true, if_true] at h
        rw [show (!(n == n)) = false by simp]
        exact h _
      · have e' : (n == m) = false := by simpa using e
        rw [e'] at h ⊢
        by_cases l : n < m
        · rw [decide_eq_true l] at h
          show _ ∧ E.rt (.int (1 - 2 * (if decide (n < m) = true then 1 else 0)))
          rw [decide_eq_true l]
          exact ⟨.inl ⟨by decide, by decide⟩, by simpa using h⟩
        · rw [decide_eq_false l] at h
          show _ ∧ E.rt (.int (1 - 2 * (if decide (n < m) = true then 1 else 0)))
          rw [decide_eq_false l]
          exact ⟨.inl ⟨by decide, by decide⟩, by simpa using h⟩
    | str m =>
      exact ⟨.inl ⟨by decide, by decide⟩, h⟩
    | _ => simp [okV] at ob
  | str n =>
    cases u with
    | int m => exact ⟨.inl ⟨by decide, by decide⟩, h⟩
    | str m =>
      show gIx (.tuple a) (.int (i : Nat)) fun v => gIx (.tuple b) (.int (i : Nat)) fun u => _
      rw [ra, rb]
      show if (!(n == m)) = true then (gIx (.tuple a) (.int (i : Nat)) fun v => gIx (.tuple b) (.int (i : Nat)) fun u => _) else _
      rw [ra, rb]
      have hc : cmpV (.str n) (.str m) = if (n == m) = true then 0 else if decide (n.cps.toList < m.cps.toList) = true then -1 else 1 := by
        simp only [cmpV, kind, if_true, PyData.eqv, ZO.ord, cond_false]
        simp
      rw [hc] at h
      by_cases e : n = m
      · subst e
        simp only [beq_self_eq_true, if_true] at h
        rw [show (!(n == n)) = false by simp]
        exact h _
      · have e' : (n == m) = false := by simpa using e
        rw [e'] at h ⊢
        by_cases l : n.cps.toList < m.cps.toList
        · rw [decide_eq_true l] at h
          show _ ∧ E.rt (.int (1 - 2 * (if decide (n.cps.toList < m.cps.toList) = true then 1 else 0)))
          rw [decide_eq_true l]
          exact ⟨.inl ⟨by decide, by decide⟩, by simpa using h⟩
        · rw [decide_eq_false l] at h
          show _ ∧ E.rt (.int (1 - 2 * (if decide (n.cps.toList < m.cps.toList) = true then 1 else 0)))
          rw [decide_eq_false l]
          exact ⟨.inl ⟨by decide, by decide⟩, by simpa using h⟩
    | _ => simp [okV] at ob
  | _ => simp [okV] at oa
theorem cmpR_end (a b : List DD) (n : Nat) (hn : n = min a.length b.length) : cmpR (a.drop n) (b.drop n) = (if decide ((b.length : Int) < (a.length : Int)) = true then 1 else 0) - (if decide ((a.length : Int) < (b.length : Int)) = true then 1 else 0) := by
  rcases Nat.lt_trichotomy a.length b.length with h | h | h
  · have e1 : a.drop n = [] := List.drop_of_length_le (by omega)
    have e2 : ∃ x r, b.drop n = x :: r := by
      cases hb : b.drop n with
      | nil => have := congrArg List.length hb; rw [List.length_drop, List.length_nil] at this; omega
      | cons x r => exact ⟨x, r, rfl⟩
    obtain ⟨x, r, e2⟩ := e2
    rw [e1, e2, decide_eq_false (by omega), decide_eq_true (by omega)]; rfl
  · have e1 : a.drop n = [] := List.drop_of_length_le (by omega)
    have e2 : b.drop n = [] := List.drop_of_length_le (by omega)
    rw [e1, e2, decide_eq_false (by omega), decide_eq_false (by omega)]; rfl
  · have e1 : b.drop n = [] := List.drop_of_length_le (by omega)
    have e2 : ∃ x r, a.drop n = x :: r := by
      cases hb : a.drop n with
      | nil => have := congrArg List.length hb; rw [List.length_drop, List.length_nil] at this; omega
      | cons x r => exact ⟨x, r, rfl⟩
    obtain ⟨x, r, e2⟩ := e2
    rw [e1, e2, decide_eq_true (by omega), decide_eq_false (by omega)]; rfl
theorem or_loop (a b : List DD) (oa : a.all okV = true) (ob : b.all okV = true) (E : DEn) (n : Nat) (hn : n = min a.length b.length) (hE : ∀ e2 e3, E.rt (.int (cmpR (a.drop n) (b.drop n))) → E.nx [.dat (.tuple a), .dat (.tuple b), e2, e3]) : ∀ (r i : Nat) (e2 e3 : Ent), n - i = r → i ≤ n → E.rt (.int (cmpR (a.drop i) (b.drop i))) →
    loop (tN 2) orB E ((upto ((n : Nat) : Int)).drop i) [.dat (.tuple a), .dat (.tuple b), e2, e3] := by
  intro r
  induction r with
  | zero =>
    intro i e2 e3 hr hi h
    have ei : i = n := by omega
    subst ei
    rw [upto_end _ _ (by omega)]
    exact hE _ _ h
  | succ r ih =>
    intro i e2 e3 hr hi h
    rw [upto_drop _ _ (by omega)]
    have ha : i < a.length := by omega
    have hb : i < b.length := by omega
    rw [List.drop_eq_getElem_cons ha, List.drop_eq_getElem_cons hb, cmpR] at h
    show orB _ [.dat (.tuple a), .dat (.tuple b), .dat (.int (i : Nat)), e3]
    refine or_turn a b _ i ha hb e3 (List.all_eq_true.mp oa _ (List.getElem_mem ha)) (List.all_eq_true.mp ob _ (List.getElem_mem hb)) ?_
    by_cases z : cmpV a[i] b[i] = 0
    · rw [if_pos z] at h ⊢
      exact fun e3' => ih (i + 1) _ e3' (by omega) (by omega) h
    · rw [if_neg z] at h ⊢
      exact h
theorem h__law_order : ∀ ds Q, F__law_order ds Q → ds.length = 2 ∧ m__law_order (endsD Q) (startD N__law_order ds) := by
  intro ds Q h
  match ds, h with
  | [.tuple a, .tuple b], ⟨⟨h1, h2, h3, h4⟩, h5⟩ =>
    refine ⟨rfl, ?_⟩
    have en : (if (b.length : Int) < (a.length : Int) then (b.length : Int) else (a.length : Int)) = ((min a.length b.length : Nat) : Int) := by split <;> omega
    show (-1000000 ≤ (if (b.length : Int) < (a.length : Int) then (b.length : Int) else (a.length : Int)) ∧ (if (b.length : Int) < (a.length : Int) then (b.length : Int) else (a.length : Int)) ≤ 1000000) ∧
      loop (tN 2) orB _ (upto (if (b.length : Int) < (a.length : Int) then (b.length : Int) else (a.length : Int))) [.dat (.tuple a), .dat (.tuple b), .un, .un]
    rw [en]
    refine ⟨by omega, ?_⟩
    have := or_loop a b h3 h4 ⟨fun ρ' => sRet (dOp (gI0 (· - ·)) (dCall (g1 gInt) (dCons (dOp (gB gtD) (dCall (g1 gLen) (dCons (dN 0) dNil)) (dCall (g1 gLen) (dCons (dN 1) dNil))) dNil)) (dCall (g1 gInt) (dCons (dOp (gB ltD) (dCall (g1 gLen) (dCons (dN 0) dNil)) (dCall (g1 gLen) (dCons (dN 1) dNil))) dNil))) (endsD Q) ρ', Q, fun _ => False, fun _ => False⟩ (min a.length b.length) rfl (fun e2 e3 hr => by
        rw [cmpR_end a b _ rfl] at hr
        exact hr) (min a.length b.length) 0 .un .un (Nat.sub_zero _) (Nat.zero_le _) h5
    exact this
theorem h__law_agrees : ∀ ds Q, F__law_agrees ds Q → ds.length = 3 ∧ m__law_agrees (endsD Q) (startD N__law_agrees ds) := by
  intro ds Q h
  match ds, h with
  | [.tuple l, .tuple r, .int o], ⟨p, q, d1, d2, o1, o2, ep, ee, eq, hq⟩ =>
    refine ⟨rfl, ?_⟩
    have a1 : ∀ P, gB ltD (.tuple l) (.tuple r) P = P (.bool p) := fun P => by
      have e : ltD (.tuple l) (.tuple r) = some p := by unfold ltD; rw [if_pos (by omega)]; exact o1
      simp only [gB, e]
    have a2 : ∀ P, gB gtD (.tuple l) (.tuple r) P = P (.bool q) := fun P => by
      have e : gtD (.tuple l) (.tuple r) = some q := by unfold gtD; rw [if_pos (by omega)]; exact o2
      simp only [gB, e]
    have a3 : ∀ P, gB eqD (.tuple l) (.tuple r) P = P (.bool (decide (o = 0))) := fun P => by
      have e : eqD (.tuple l) (.tuple r) = some (decide (o = 0)) := by unfold eqD; rw [if_pos (Nat.le_trans (Nat.min_le_left _ _) (by omega)), ee]
      simp only [gB, e]
    show gB ltD (.tuple l) (.tuple r) fun x => gB eqD (.tuple l) (.tuple r) fun y => gB gtD (.tuple l) (.tuple r) fun z => gB eqD (.list [x, y, z]) (.list [.bool (decide (o < 0)), .bool (o == 0), .bool (decide (0 < o))]) Q
    rw [a1, a3, a2]
    have e0 : (o == 0) = decide (o = 0) := by
      by_cases h : o = 0
      · subst h; rfl
      · rw [decide_eq_false h]; simpa using h
    rw [ep, eq, e0]
    have e : eqD (.list [.bool (decide (o < 0)), .bool (decide (o = 0)), .bool (decide (0 < o))]) (.list [.bool (decide (o < 0)), .bool (decide (o = 0)), .bool (decide (0 < o))]) = some true := by
      unfold eqD
      rw [if_pos (by simp [PyData.depth, PyData.depthAll])]
      simp [PyData.eqv, PyData.eqvAll]
    simp only [gB, e]
    exact hq
end Z1

set_option Elab.async false
set_option linter.all false
set_option maxRecDepth 100000
set_option maxHeartbeats 1000000
namespace Z
open PySem PySem.Spec PyProof.Rows L2
/-! ### the law's comparison, place by place -/
def FS (n : Nat) : D1 := fun ds P => match ds with
  | [d, e] => d = e ∧ okS n e = true ∧ P (.bool true)
  | _ => False
def FSm : Nat → D1
  | 0 => fun _ _ => False
  | n + 1 => FS n
end Z
namespace Z1
open PySem PySem.Spec PyProof.Rows L2 Z
theorem eqD_self (d : DD) (h : d.depth ≤ 60) (hp : d.plain = true) (P : DD → Prop) : gB eqD d d P = P (.bool true) := by
  have e : eqD d d = some true := by
    unfold eqD
    rw [if_pos (by rw [Nat.min_self]; exact h), SeqAt.eqv_refl_plain d hp]
  simp only [gB, e]
theorem same_loop (n : Nat) (ds : List DD) (dd ee : DD) (hd : ∀ (i : Nat) (h : i < ds.length) P, gIx dd (.int (i : Nat)) P = P ds[i]) (he : ∀ (i : Nat) (h : i < ds.length) P, gIx ee (.int (i : Nat)) P = P ds[i]) (hk : ds.all (okS n) = true) (E : DEn) (hE : ∀ e2, E.nx [.dat dd, .dat ee, e2]) : ∀ (r i : Nat) (e2 : Ent), ds.length - i = r → i ≤ ds.length →
    loop (tN 2) (sIf (dNot (dT (dCall (FS n) (dCons (dOp gIx (dN 0) (dN 2)) (dCons (dOp gIx (dN 1) (dN 2)) dNil))))) (sRet (dC (.bool false))) sNx) E ((upto ((ds.length : Nat) : Int)).drop i) [.dat dd, .dat ee, e2] := by
  intro r
  induction r with
  | zero =>
    intro i e2 hr hi
    rw [upto_end _ _ (by omega)]
    exact hE _
  | succ r ih =>
    intro i e2 hr hi
    rw [upto_drop _ _ (by omega)]
    have hlt : i < ds.length := by omega
    show gIx dd (.int (i : Nat)) fun x => gIx ee (.int (i : Nat)) fun y => _
    rw [hd i hlt]
    show gIx ee (.int (i : Nat)) fun y => _
    rw [he i hlt]
    exact ⟨rfl, List.all_eq_true.mp hk _ (List.getElem_mem hlt), ih (i + 1) _ (by omega) (by omega)⟩
theorem h__law_same (n : Nat) : ∀ ds Q, FS n ds Q → ds.length = 2 ∧ m__law_same (FSm n) (endsD Q) (startD N__law_same ds) := by
  intro ds Q h
  match ds, h with
  | [d, e], ⟨he, hk, hq⟩ =>
    subst he
    refine ⟨rfl, ?_⟩
    show m__law_same (FSm n) (endsD Q) [.dat d, .dat d, .un]
    cases d with
    | none => exact hq
    | bool b =>
      show gB eqD (.bool b) (.bool b) Q
      rw [eqD_self _ (Nat.zero_le _) rfl]; exact hq
    | int b =>
      show gB eqD (.int b) (.int b) Q
      rw [eqD_self _ (Nat.zero_le _) rfl]; exact hq
    | str b =>
      show gB eqD (.str b) (.str b) Q
      rw [eqD_self _ (Nat.zero_le _) rfl]; exact hq
    | tuple es =>
      cases n with
      | zero => simp [okS] at hk
      | succ n =>
        rw [okS, Bool.and_eq_true, decide_eq_true_eq] at hk
        show if (!(((es.length : Nat) : Int) == ((es.length : Nat) : Int))) = true then _ else _
        rw [show (!(((es.length : Nat) : Int) == ((es.length : Nat) : Int))) = false by simp]
        show (-1000000 ≤ ((es.length : Nat) : Int) ∧ ((es.length : Nat) : Int) ≤ 1000000) ∧ loop _ _ _ (upto ((es.length : Nat) : Int)) [.dat (.tuple es), .dat (.tuple es), .un]
        refine ⟨by omega, ?_⟩
        exact same_loop n es _ _ (fun i h P => by rw [e_ixT, at_L h]) (fun i h P => by rw [e_ixT, at_L h]) hk.2 _ (fun e2 => hq) es.length 0 .un (Nat.sub_zero _) (Nat.zero_le _)
    | list es =>
      cases n with
      | zero => simp [okS] at hk
      | succ n =>
        rw [okS, Bool.and_eq_true, decide_eq_true_eq] at hk
        show if (!(((es.length : Nat) : Int) == ((es.length : Nat) : Int))) = true then _ else _
        rw [show (!(((es.length : Nat) : Int) == ((es.length : Nat) : Int))) = false by simp]
        show (-1000000 ≤ ((es.length : Nat) : Int) ∧ ((es.length : Nat) : Int) ≤ 1000000) ∧ loop _ _ _ (upto ((es.length : Nat) : Int)) [.dat (.list es), .dat (.list es), .un]
        refine ⟨by omega, ?_⟩
        exact same_loop n es _ _ (fun i h P => by rw [e_ixL, at_L h]) (fun i h P => by rw [e_ixL, at_L h]) hk.2 _ (fun e2 => hq) es.length 0 .un (Nat.sub_zero _) (Nat.zero_le _)
    | dict x => cases n <;> simp [okS] at hk
section
variable {P : Program} {wd : World} {K : PySem.W.Frag} {mg : Str → Option Value} {base : Heap}
theorem same_rec (D : Dfn K mg "_law_same" s__law_same ["actual", "expected"]) (B : Blt mg) : ∀ n : Nat, Fnc P wd K mg base n "_law_same" (FSm n)
  | 0 => by
    obtain ⟨f, fd, Fn, h2, h3⟩ := D
    refine ⟨f, fd, _, ⟨fun vs H Q E h => ?_, fun A outer s H args us vs Q E _ _ _ _ h => ?_⟩, h2, Fn.kp, h3⟩
    · obtain ⟨_, _, _, _, _, h, _⟩ := h; exact h.elim
    · obtain ⟨_, _, _, _, _, h, _⟩ := h; exact h.elim
  | n + 1 => fnc_mk D S__law_same (fun f cdv A outer s H E hr => b__law_same B (Nat.le_refl n) (same_rec D B n) cdv A outer s H E hr) (h__law_same n)
end
end Z1

set_option Elab.async false
set_option linter.all false
set_option maxRecDepth 100000
set_option maxHeartbeats 4000000
namespace Z
open PySem PySem.Spec PyProof.Rows L2
/-! ### the draw -/
def tGetL (K : PySem.W.Frag) : V → V → Hp → VK → Prop := fun o i H Q => ∃ p xs k v, o = .ref p ∧ i = .int k ∧ SqL K H p xs ∧ 0 ≤ k ∧ k < 2 ^ 62 ∧ xs[k.toNat]? = some v ∧ Q v H
theorem get_listZ {X : Cx} : PGet X (tGetL X.K) := by
  intro pins s σ H o i ov iv Q I ro ri h
  obtain ⟨p, xs, k, v, rfl, rfl, hs, h0, h1, hv, q⟩ := h
  cases ro
  obtain ⟨t, rfl⟩ := ri
  obtain ⟨its, r, ⟨ob, n, e, c, _, d⟩, _⟩ := I.list hs
  obtain ⟨u, hu, ru⟩ := r.get hv
  exact wpAny_getItem_list ⟨ob, e, c, n, d⟩ h0 (by omega) (by simpa using hu) ⟨v, H, I, ru, q⟩
def cells (l : Addr) (i v s : Int) : List V := [.ref l, .int i, .int v, .int s]
theorem next_stp {a l : Addr} {ns : List Int} {G H : Hp} (k : Okw (wst a l ns) G H) {i : Nat} {v s : Int} (h1 : i ≤ ns.length) (h2 : 0 ≤ v) (h3 : 0 ≤ s) (h4 : s < 2147483647) : Stp (wst a l ns) G H G (upd H a (.lst (cells l i v s))) := by
  obtain ⟨w1, w2, _⟩ := k.wd
  have ga : G a = none := k.out a rfl
  refine ⟨fun b o e => ?_, Sub.rfl, fun b o n e => ?_, fun b e => ?_, fun _ _ e => e, ⟨?_, w2, i, v, s, upd_same, h1, h2, h3, h4⟩⟩
  · rw [upd_ne (ne_of_none e ga)]; exact k.sub b o e
  · rw [upd_ne (show b ≠ a from n)]; exact e
  · by_cases z : b = a
    · subst z; rw [upd_same]; exact fun z => nomatch z
    · rw [upd_ne z]; exact e
  · rw [upd_ne w2]; exact w1
end Z
namespace Z1
open PySem PySem.Spec PyProof.Rows L2 Z
abbrev s__law_next : Stmt := topS 24
abbrev N__law_next : List Str := ["state", "limit", "cell", "value"]
theorem S__law_next : FnScope N__law_next ["state", "limit"] (defScope s__law_next) := ⟨rfl, rfl, rfl, by decide +kernel, rfl, by decide +kernel, by decide +kernel⟩
theorem at0 {l : Addr} {i v s : Int} : atI (cells l i v s) 0 = some (.ref l) := rfl
theorem at1 {l : Addr} {i v s : Int} : atI (cells l i v s) 1 = some (.int i) := rfl
theorem at2 {l : Addr} {i v s : Int} : atI (cells l i v s) 2 = some (.int v) := rfl
theorem at3 {l : Addr} {i v s : Int} : atI (cells l i v s) 3 = some (.int s) := rfl
section
variable {P : Program} {wd : World} {K : PySem.W.Frag} {mg : Str → Option Value} {base : Heap}
theorem next_ok (D : Dfn K mg "_law_next" s__law_next ["state", "limit"]) (B : Blt mg) : Sfn P wd K mg base 1 "_law_next" F__law_next := by
  obtain ⟨f, fd, Fn, h2, h3⟩ := D
  refine ⟨f, fd, _, ?_, h2, Fn.kp, h3⟩
  refine Fn.ok S__law_next (fun vs H Q E h => ?_) (fun cdv A outer s H vs Q E hr h => ?_)
  · obtain ⟨a, l, ns, G, us, ds, P', rfl, hs, r, hf, _⟩ := h
    match ds, r, hf with
    | [.int n], .cons _ .nil, _ => rfl
  obtain ⟨a, l, ns, G, us, ds, P', rfl, k, r, hf, q⟩ := h
  have S := S__law_next
  obtain ⟨n, rfl, rfl⟩ : ∃ n : Int, us = [.int n] ∧ ds = [.int n] := by
    match ds, r, hf with
    | [.int n], .cons (.int _) .nil, _ => exact ⟨n, rfl, rfl⟩
  obtain ⟨⟨n0, n64⟩, hP⟩ := hf
  refine ⟨_, pss_cons (ps_if (PW.pt (pw_and (pt_cmpR op_eq (pe_ix ix_list (pv 0) pe_int (fun _ _ => rfl)) pe_int (nomark _))
        (pw_and1 (pt_cmpR op_lt (pe_ix ix_list (pv 0) pe_int (fun _ _ => rfl)) (pe_callB call_len_seq (by rfl) B.len bt_len (pa_cons (pe_ix ix_list (pv 0) pe_int (fun _ _ => rfl)) pa_nil)) (nomark _)))))
      (pss_cons (ps_set (i := 2) S.nd rfl (.inl rfl) (pe_ix ix_list (pe_ix ix_list (pv 0) pe_int (fun _ _ => rfl)) (pe_ix ix_list (pv 0) pe_int (fun _ _ => rfl)) (fun _ _ => rfl)))
      (pss_cons (ps_augS (pv 0) pe_int get_listZ pe_int ip_add set_list (by intros; rfl))
      (pss_one (ps_if (pt_cmpR op_ge (pv 2) (pe_op op_pow pe_int pe_int) (nomark _))
        (pss_one (ps_asg (pv 2) (pg_sub (pv 0) pe_int set_list)))
        (pss_one (ps_asg (pe_op op_mod (pe_callTy call_int1 (by rfl) B.int bt_int (pa_cons (pe_op op_add (pe_op op_add (pe_op op_mul (pe_ix ix_list (pv 0) pe_int (fun _ _ => rfl)) pe_int) (pe_op op_mod (pe_callTy call_int1 (by rfl) B.int bt_int (pa_cons (pv 2) pa_nil)) pe_int)) pe_int) pa_nil)) pe_int) (pg_sub (pv 0) pe_int set_list)))))))
      pss_nil)
    (pss_cons (ps_if (pt_cmpR op_gt (pe_ix ix_list (pv 0) pe_int (fun _ _ => rfl)) pe_int (nomark _))
      (pss_cons (ps_set (i := 3) S.nd rfl (.inl rfl) (pe_op op_mod (pe_callTy call_int1 (by rfl) B.int bt_int (pa_cons (pe_ix ix_list (pv 0) pe_int (fun _ _ => rfl)) pa_nil)) (pv 1)))
      (pss_cons (ps_asg (pe_op op_fdivW (pe_ix ix_list (pv 0) pe_int (fun _ _ => rfl)) (pv 1)) (pg_sub (pv 0) pe_int set_list))
      (pss_one (ps_ret (pv 3)))))
      pss_nil)
    (pss_cons (ps_asg (pe_op op_mod (pe_callTy call_int1 (by rfl) B.int bt_int (pa_cons (pe_op op_add (pe_op op_mul (pe_ix ix_list (pv 0) pe_int (fun _ _ => rfl)) pe_int) pe_int) pa_nil)) pe_int) (pg_sub (pv 0) pe_int set_list))
    (pss_one (ps_ret (pe_op op_mod (pe_callTy call_int1 (by rfl) B.int bt_int (pa_cons (pe_op op_fdivW (pe_ix ix_list (pv 0) pe_int (fun _ _ => rfl)) pe_int) pa_nil)) (pv 1)))))), ?_⟩
  -- what comes behind the first if
  have rest : ∀ (i : Nat) (v s : Int) (e2 e3 : Option V) (D : Ends), (∀ x H', D.rt x H' ↔ Q x H') → i ≤ ns.length → 0 ≤ v → 0 ≤ s → s < 2147483647 →
      (tSeq (tIfS (tTest (tOp (rI0 fun i j => .bl (decide (j < i))) (tOp (rIxL K) (tVar 0) (tC (.int 2))) (tC (.int 0))))
        (tSeq (tAsg (tOp (rI (fun _ j => 0 < j) fun i j => .int (i % j)) (tCB (fun xs H Q => (∃ i, xs = [.int i] ∧ Q (.int i) H) ∨ ∃ k, xs = [.bl k] ∧ Q (.int (if k then 1 else 0)) H) (tCons (tOp (rIxL K) (tVar 0) (tC (.int 2))) L2.tNil)) (tVar 1)) (gName 3))
        (tSeq (tAsg (tOp (rI CDivW fun i j => .int (i / j)) (tOp (rIxL K) (tVar 0) (tC (.int 2))) (tVar 1)) (gSub (tVar 0) (tC (.int 2)) rSetL)) (tRet (tVar 3)))) tNext)
      (tSeq (tAsg (tOp (rI (fun _ j => 0 < j) fun i j => .int (i % j)) (tCB (fun xs H Q => (∃ i, xs = [.int i] ∧ Q (.int i) H) ∨ ∃ k, xs = [.bl k] ∧ Q (.int (if k then 1 else 0)) H) (tCons (tOp (rI0 fun i j => .int (i + j)) (tOp (rI CMul fun i j => .int (i * j)) (tOp (rIxL K) (tVar 0) (tC (.int 3))) (tC (.int 69621))) (tC (.int 12345))) L2.tNil)) (tC (.int 2147483647))) (gSub (tVar 0) (tC (.int 3)) rSetL))
      (tRet (tOp (rI (fun _ j => 0 < j) fun i j => .int (i % j)) (tCB (fun xs H Q => (∃ i, xs = [.int i] ∧ Q (.int i) H) ∨ ∃ k, xs = [.bl k] ∧ Q (.int (if k then 1 else 0)) H) (tCons (tOp (rI CDivW fun i j => .int (i / j)) (tOp (rIxL K) (tVar 0) (tC (.int 3))) (tC (.int 7))) L2.tNil)) (tVar 1))))) D [some (.ref a), some (.int n), e2, e3] (upd H a (.lst (cells l i v s))) := by
    intro i v s e2 e3 D hD hi hv hs0 hs1
    have hst : ∀ {i v s : Int}, SqL K (upd H a (.lst (cells l i v s))) a (cells l i v s) := .inl (.inl upd_same)
    have up : ∀ {i v s i' v' s' : Int}, upd (upd H a (.lst (cells l i v s))) a (.lst (cells l i' v' s')) = upd H a (.lst (cells l i' v' s')) := upd_upd
    refine ⟨_, rfl, a, _, _, _, rfl, rfl, hst, at2, _, _, rfl, rfl, _, rfl, ?_⟩
    refine ite2 (fun c => ?_) (fun c => ?_)
    · have c' : 0 < v := of_decide_eq_true c
      refine ⟨_, rfl, a, _, _, _, rfl, rfl, hst, at2, .inl ⟨_, rfl, _, rfl, _, _, rfl, rfl, n0, ?_⟩⟩
      refine ⟨_, rfl, a, _, _, _, rfl, rfl, hst, at2, _, rfl, _, _, rfl, rfl, ⟨n0, ?_⟩, ?_⟩
      · exact (wide_div (i := v) (j := n) (b := 64) n0 (by omega) (by decide) (by decide)).2
      · refine ⟨_, rfl, a, _, _, 2, rfl, rfl, upd_same, rfl, ?_⟩
        refine ⟨_, rfl, (hD _ _).mpr ?_⟩
        have e : (cells l i v s).set 2 (.int (v / n)) = cells l i (v / n) s := rfl
        rw [e, up]
        exact q _ _ _ _ (next_stp k hi (Int.ediv_nonneg hv (Int.le_of_lt n0)) hs0 hs1) (.int _) (hP _ (Int.emod_nonneg _ (by omega)) (Int.emod_lt_of_pos _ n0))
    · refine ⟨_, rfl, a, _, _, _, rfl, rfl, hst, at3, s, 69621, rfl, rfl, .inr ⟨by decide, by decide⟩, _, _, rfl, rfl, .inl ⟨_, rfl, _, _, rfl, rfl, (show (0 : Int) < 2147483647 by decide), ?_⟩⟩
      refine ⟨_, rfl, a, _, _, 3, rfl, rfl, upd_same, rfl, ?_⟩
      have e : ∀ z : Int, (cells l i v s).set 3 (.int z) = cells l i v z := fun _ => rfl
      rw [e, up]
      refine ⟨_, rfl, a, _, _, _, rfl, rfl, hst, at3, _, _, rfl, rfl, ⟨by decide, by decide⟩, .inl ⟨_, rfl, _, rfl, _, _, rfl, rfl, n0, (hD _ _).mpr ?_⟩⟩
      exact q _ _ _ _ (next_stp k hi hv (Int.emod_nonneg _ (by decide)) (Int.emod_lt_of_pos _ (by decide))) (.int _) (hP _ (Int.emod_nonneg _ (by omega)) (Int.emod_lt_of_pos _ n0))
  obtain ⟨w1, w2, i, v, s', w3, w4, w5, w6, w7⟩ := k.wd
  have hH : H = upd H a (.lst (cells l i v s')) := by
    funext b
    by_cases z : b = a
    · subst z; rw [upd_same]; exact w3
    · rw [upd_ne z]
  have hL : SqL K H a (cells l i v s') := .inl (.inl w3)
  have hl : SqL K H l (ns.map V.int) := .inl (.inl w1)
  refine ⟨_, rfl, a, _, _, _, rfl, rfl, hL, at2, rfl, _, rfl, ?_⟩
  refine ite2 (fun c => ?_) (fun c => ?_)
  · refine ⟨_, rfl, a, _, _, _, rfl, rfl, hL, at1, _, rfl, a, _, _, _, rfl, rfl, hL, at0, l, _, rfl, .inl hl, _, _, rfl, rfl, _, rfl, ?_⟩
    refine ite2 (fun c2 => ?_) (fun c2 => ?_)
    · have ci : (i : Int) < (((ns.map V.int).length : Nat) : Int) := of_decide_eq_true c2
      have hi : i < ns.length := by rw [List.length_map] at ci; omega
      refine ⟨_, rfl, a, _, _, _, rfl, rfl, hL, at0, _, rfl, a, _, _, _, rfl, rfl, hL, at1, l, _, _, .int ns[i], rfl, rfl, hl, atI_nat (by simp [hi]), ?_⟩
      refine ⟨_, rfl, a, _, 1, _, rfl, rfl, hL, by decide, by decide, rfl, _, _, rfl, rfl, a, _, 1, 1, rfl, rfl, w3, rfl, ?_⟩
      have e : (cells l i v s').set 1 (.int ((i : Int) + 1)) = cells l ((i + 1 : Nat) : Int) v s' := rfl
      have e' : ([.ref l, .int i, .int v, .int s'] : List V).set 1 (.int ((i : Int) + 1)) = cells l ((i + 1 : Nat) : Int) v s' := rfl
      rw [e']
      have up : ∀ {i v s i' v' s' : Int}, upd (upd H a (.lst (cells l i v s))) a (.lst (cells l i' v' s')) = upd H a (.lst (cells l i' v' s')) := upd_upd
      refine ⟨_, rfl, _, _, rfl, rfl, ⟨by decide, by decide, by decide⟩, _, _, rfl, rfl, _, rfl, ?_⟩
      refine ite2 (fun c3 => ?_) (fun c3 => ?_)
      · have g3 : (10 : Int) ^ (18 : Int).toNat ≤ ns[i] := of_decide_eq_true c3
        have p18 : (0 : Int) ≤ (10 : Int) ^ (18 : Int).toNat := by decide
        refine ⟨_, rfl, _, rfl, a, _, _, 2, rfl, rfl, upd_same, rfl, ?_⟩
        have e2 : (cells l ((i + 1 : Nat) : Int) v s').set 2 (.int ns[i]) = cells l ((i + 1 : Nat) : Int) ns[i] s' := rfl
        rw [e2, up]
        exact rest (i + 1) ns[i] s' _ _ _ (fun _ _ => Iff.rfl) hi (by omega) w6 w7
      · refine ⟨_, rfl, a, _, _, _, rfl, rfl, .inl (.inl upd_same), at3, s', 48271, rfl, rfl, .inr ⟨by decide, by decide⟩, _, rfl, .inl ⟨_, rfl, _, _, rfl, rfl, (show (0 : Int) < 2147483647 by decide), _, _, rfl, rfl, _, _, rfl, rfl, .inl ⟨_, rfl, _, _, rfl, rfl, (show (0 : Int) < 2147483647 by decide), ?_⟩⟩⟩
        refine ⟨_, rfl, a, _, _, 3, rfl, rfl, upd_same, rfl, ?_⟩
        have e2 : ∀ z : Int, (cells l ((i + 1 : Nat) : Int) v s').set 3 (.int z) = cells l ((i + 1 : Nat) : Int) v z := fun _ => rfl
        rw [e2, up]
        exact rest (i + 1) v _ _ _ _ (fun _ _ => Iff.rfl) hi w5 (Int.emod_nonneg _ (by decide)) (Int.emod_lt_of_pos _ (by decide))
    · rw [hH]
      exact rest i v s' _ _ _ (fun _ _ => Iff.rfl) w4 w5 w6 w7
  · rw [hH]
    exact rest i v s' _ _ _ (fun _ _ => Iff.rfl) w4 w5 w6 w7
end
end Z1

set_option Elab.async false
set_option linter.all false
set_option maxRecDepth 100000
set_option maxHeartbeats 1000000
namespace Z1
open PySem PySem.Spec PyProof.Rows L2 Z
theorem iD_app (a b : List Int) : iD (a ++ b) = iD a ++ iD b := List.map_append ..
theorem tD_app1 (a : List Int) (n : Int) : PyData.tuple (iD a ++ [.int n]) = tD (a ++ [n]) := by
  unfold tD; rw [iD_app]; rfl
theorem lt_at (k hi : List Int) (P : DD → Prop) : gB ltD (tD k) (tD hi) P = P (.bool (HT.lexLt k hi)) := by
  have e : ltD (tD k) (tD hi) = some (HT.lexLt k hi) := by
    unfold ltD tD iD
    rw [if_pos (by rw [PyData.depth, depth_ints]; decide), ord_ints]; rfl
  simp only [gB, e]
theorem le_at (lo k : List Int) (P : DD → Prop) : gLe (tD lo) (tD k) P = P (.bool (!HT.lexLt k lo)) := by
  simp only [tD, iD, gLe, intsD_map]
def spD (p : List Int × List Int) : DD := .tuple [tD p.1, tD p.2]
abbrev rg1 : DS := sSet 2 (dOp gAdd (dN 2) (dLst (dCons (dTup (dCons (dN 3) (dCons (dOp gAdd (dN 3) (dTup (dCons (dC (.int 3)) dNil))) dNil))) (dCons (dTup (dCons (dN 3) (dCons (dOp gAdd (dN 3) (dTup (dCons (dC (.int 0)) dNil))) dNil))) (dCons (dTup (dCons (dN 3) (dCons (dOp gIx (dN 0) (dC (.int 0))) dNil))) dNil)))))
abbrev rg2 : DS := sSet 2 (dOp gAdd (dN 2) (dLst (dCons (dTup (dCons (dN 3) (dCons (dTup (dCons (dC (.int 3)) dNil)) dNil))) (dCons (dTup (dCons (dTup dNil) (dCons (dN 3) dNil))) (dCons (dTup (dCons (dN 3) (dCons (dOp gAdd (dN 3) (dTup (dCons (dC (.int 0)) dNil))) dNil))) dNil)))))
theorem map3 (ps : List (List Int × List Int)) (a b c : List Int × List Int) : ps.map spD ++ [spD a, spD b, spD c] = (ps ++ [a, b, c]).map spD := by rw [List.map_append]; rfl
theorem at_z (k : List Int) (l : List (List Int)) : atI ((k :: l).map tD) 0 = some (tD k) := atI_nat (j := 0) (v := tD k) (by rw [List.map_cons]; rfl)
theorem ix_z (k : List Int) (l : List (List Int)) (P : DD → Prop) : gIx (.list ((k :: l).map tD)) (.int 0) P = P (tD k) := by rw [e_ixL, at_z]
theorem rg1_loop (k0 : List Int) (l : List (List Int)) (e1 e4 e5 e6 e7 : Ent) (k : En → Prop) (R : DD → Prop) : ∀ (ls : List (List Int)) (ps : List (List Int × List Int)) (e3 : Ent), ps.length + 3 * ls.length ≤ 10000 → (∀ x ∈ ls, x.length ≤ 10000) →
    (∀ (qs : List (List Int × List Int)) (e3' : Ent), qs.length ≤ ps.length + 3 * ls.length → k [.dat (.list ((k0 :: l).map tD)), e1, .dat (.list (qs.map spD)), e3', e4, e5, e6, e7]) →
    loop (tN 3) rg1 ⟨k, R, fun _ => False, fun _ => False⟩ (ls.map tD) [.dat (.list ((k0 :: l).map tD)), e1, .dat (.list (ps.map spD)), e3, e4, e5, e6, e7]
  | [], ps, e3, _, _, h => h ps e3 (Nat.le_add_right _ _)
  | x :: xs, ps, e3, hl, hx, h => by
    rw [List.length_cons] at hl h
    have bx := hx x List.mem_cons_self
    have bl : (iD x).length + 1 ≤ 1000000 := by rw [len_iD]; omega
    refine ⟨bl, bl, ?_⟩
    show gIx (.list ((k0 :: l).map tD)) (.int 0) fun y => gAdd (.list (ps.map spD)) (.list [.tuple [tD x, .tuple (iD x ++ [.int 3])], .tuple [tD x, .tuple (iD x ++ [.int 0])], .tuple [tD x, y]]) fun d => loop (tN 3) rg1 ⟨k, R, fun _ => False, fun _ => False⟩ (xs.map tD) [.dat (.list ((k0 :: l).map tD)), e1, .dat d, .dat (tD x), e4, e5, e6, e7]
    rw [ix_z]
    refine ⟨?_, ?_⟩
    · rw [List.length_map]; show ps.length + 3 ≤ _; omega
    · show loop _ _ _ (xs.map tD) [.dat (.list ((k0 :: l).map tD)), e1, .dat (.list (ps.map spD ++ [.tuple [tD x, .tuple (iD x ++ [.int 3])], .tuple [tD x, .tuple (iD x ++ [.int 0])], .tuple [tD x, tD k0]])), .dat (tD x), e4, e5, e6, e7]
      rw [tD_app1, tD_app1]
      have e : ps.map spD ++ [.tuple [tD x, tD (x ++ [3])], .tuple [tD x, tD (x ++ [0])], .tuple [tD x, tD k0]] = (ps ++ [(x, x ++ [3]), (x, x ++ [0]), (x, k0)]).map spD := map3 ps (x, x ++ [3]) (x, x ++ [0]) (x, k0)
      rw [e]
      refine rg1_loop k0 l e1 e4 e5 e6 e7 k R xs _ _ (by rw [List.length_append]; show _ + 3 + _ ≤ _; omega) (fun y hy => hx y (List.mem_cons_of_mem _ hy)) fun qs e3' hq => h qs e3' ?_
      rw [List.length_append] at hq
      have hq : qs.length ≤ ps.length + 3 + 3 * xs.length := hq
      omega
theorem rg2_loop (e0 e1 e4 e5 e6 e7 : Ent) (k : En → Prop) (R : DD → Prop) : ∀ (ls : List (List Int)) (ps : List (List Int × List Int)) (e3 : Ent), ps.length + 3 * ls.length ≤ 20000 → (∀ x ∈ ls, x.length ≤ 10000) →
    (∀ (qs : List (List Int × List Int)) (e3' : Ent), qs.length ≤ ps.length + 3 * ls.length → k [e0, e1, .dat (.list (qs.map spD)), e3', e4, e5, e6, e7]) →
    loop (tN 3) rg2 ⟨k, R, fun _ => False, fun _ => False⟩ (ls.map tD) [e0, e1, .dat (.list (ps.map spD)), e3, e4, e5, e6, e7]
  | [], ps, e3, _, _, h => h ps e3 (Nat.le_add_right _ _)
  | x :: xs, ps, e3, hl, hx, h => by
    rw [List.length_cons] at hl h
    have bx := hx x List.mem_cons_self
    have bl : (iD x).length + 1 ≤ 1000000 := by rw [len_iD]; omega
    refine ⟨bl, ?_, ?_⟩
    · rw [List.length_map]; show ps.length + 3 ≤ _; omega
    · show loop _ _ _ (xs.map tD) [e0, e1, .dat (.list (ps.map spD ++ [.tuple [tD x, tD [3]], .tuple [tD [], tD x], .tuple [tD x, .tuple (iD x ++ [.int 0])]])), .dat (tD x), e4, e5, e6, e7]
      rw [tD_app1]
      have e : ps.map spD ++ [.tuple [tD x, tD [3]], .tuple [tD [], tD x], .tuple [tD x, tD (x ++ [0])]] = (ps ++ [(x, [3]), ([], x), (x, x ++ [0])]).map spD := map3 ps (x, [3]) ([], x) (x, x ++ [0])
      rw [e]
      refine rg2_loop e0 e1 e4 e5 e6 e7 k R xs _ _ (by rw [List.length_append]; show _ + 3 + _ ≤ _; omega) (fun y hy => hx y (List.mem_cons_of_mem _ hy)) fun qs e3' hq => h qs e3' ?_
      rw [List.length_append] at hq
      have hq : qs.length ≤ ps.length + 3 + 3 * xs.length := hq
      omega
abbrev rg5 : DS := sSeq (sSet 3 (dCall (gM2 true) (dCons (dOp gIx (dN 4) (dC (.int 0))) (dCons (dOp gIx (dN 5) (dC (.int 0))) dNil))))
    (sSeq (sSet 6 (dCall (gM2 false) (dCons (dOp gIx (dN 4) (dC (.int 1))) (dCons (dOp gIx (dN 5) (dC (.int 1))) dNil))))
    (sIf (dNot (dT (dCall F__law_same (dCons (dCall F_meet (dCons (dN 4) (dCons (dN 5) dNil))) (dCons (dOp (gB ltD) (dN 3) (dN 6)) dNil))))) (sRet (dC (.bool false))) sNx))
abbrev rg7 : DS := sIf (dNot (dT (dCall F__law_same (dCons (dCall F_is_in (dCons (dN 7) (dCons (dN 4) dNil))) (dCons (dAndV (dOp gLe (dOp gIx (dN 4) (dC (.int 0))) (dN 7)) (dOp (gB ltD) (dN 7) (dOp gIx (dN 4) (dC (.int 1))))) dNil))))) (sRet (dC (.bool false))) sNx
theorem mx_at (x y : List Int) (P : DD → Prop) : gM2 true [tD x, tD y] P = P (tD (mx x y)) := by rw [m2_at]; rfl
theorem mn_at (x y : List Int) (P : DD → Prop) : gM2 false [tD x, tD y] P = P (tD (mn x y)) := by rw [m2_at]; rfl
theorem rg5_loop (e0 e1 e2 : Ent) (p : List Int × List Int) (e7 : Ent) (E : DEn) (hE : ∀ e3 e5 e6, E.nx [e0, e1, e2, e3, .dat (spD p), e5, e6, e7]) : ∀ (ps : List (List Int × List Int)) (e3 e5 e6 : Ent),
    loop (tN 5) rg5 E (ps.map spD) [e0, e1, e2, e3, .dat (spD p), e5, e6, e7]
  | [], e3, e5, e6 => hE e3 e5 e6
  | q :: qs, e3, e5, e6 => by
    have ih := rg5_loop e0 e1 e2 p e7 E hE qs
    show gM2 true [tD p.1, tD q.1] fun x => gM2 false [tD p.2, tD q.2] fun y => F_meet [spD p, spD q] fun z => gB ltD x y fun u => F__law_same [z, u] (asB fun c => if (!c) = true then E.rt (.bool false) else loop (tN 5) rg5 E (qs.map spD) [e0, e1, e2, .dat x, .dat (spD p), .dat (spD q), .dat y, e7])
    rw [mx_at]
    show gM2 false [tD p.2, tD q.2] fun y => F_meet [spD p, spD q] fun z => gB ltD (tD (mx p.1 q.1)) y fun u => F__law_same [z, u] (asB fun c => if (!c) = true then E.rt (.bool false) else loop (tN 5) rg5 E (qs.map spD) [e0, e1, e2, .dat (tD (mx p.1 q.1)), .dat (spD p), .dat (spD q), .dat y, e7])
    rw [mn_at]
    refine ⟨p.1, p.2, q.1, q.2, rfl, rfl, rfl, rfl, ?_⟩
    show gB ltD (tD (mx p.1 q.1)) (tD (mn p.2 q.2)) (fun u => F__law_same [.bool (HT.lexLt (mx p.1 q.1) (mn p.2 q.2)), u] _)
    rw [lt_at]
    exact ⟨rfl, rfl, ih _ _ _⟩
theorem rg7_loop (e0 e1 e2 e3 : Ent) (p : List Int × List Int) (e5 e6 : Ent) (E : DEn) (hE : ∀ e7, E.nx [e0, e1, e2, e3, .dat (spD p), e5, e6, e7]) : ∀ (ks : List (List Int)) (e7 : Ent),
    loop (tN 7) rg7 E (ks.map tD) [e0, e1, e2, e3, .dat (spD p), e5, e6, e7]
  | [], e7 => hE e7
  | k :: ks, e7 => by
    have ih := rg7_loop e0 e1 e2 e3 p e5 e6 E hE ks
    refine ⟨k, p.1, p.2, rfl, rfl, rfl, ?_⟩
    show gLe (tD p.1) (tD k) (asB fun c => if c = true then gB ltD (tD k) (tD p.2) fun u => F__law_same [.bool (isIn k p.1 p.2), u] (asB fun c => if (!c) = true then E.rt (.bool false) else loop (tN 7) rg7 E (ks.map tD) [e0, e1, e2, e3, .dat (spD p), e5, e6, .dat (tD k)]) else F__law_same [.bool (isIn k p.1 p.2), .bool false] (asB fun c => if (!c) = true then E.rt (.bool false) else loop (tN 7) rg7 E (ks.map tD) [e0, e1, e2, e3, .dat (spD p), e5, e6, .dat (tD k)]))
    rw [le_at]
    unfold isIn
    cases c : HT.lexLt k p.1 with
    | true => exact ⟨rfl, rfl, ih _⟩
    | false =>
      show gB ltD (tD k) (tD p.2) fun u => F__law_same [.bool (true && HT.lexLt k p.2), u] _
      rw [lt_at]
      exact ⟨by rw [Bool.true_and], rfl, ih _⟩
theorem rg4_loop (ks ss : List (List Int)) (hks : ks.length + ss.length ≤ 1000000) (qs : List (List Int × List Int)) (E : DEn) (hE : ∀ e3 e4 e5 e6 e7, E.nx [.dat (.list (ks.map tD)), .dat (.list (ss.map tD)), .dat (.list (qs.map spD)), e3, e4, e5, e6, e7]) : ∀ (ps : List (List Int × List Int)) (e3 e4 e5 e6 e7 : Ent),
    loop (tN 4) (sSeq (sFor (dIl (dN 2)) (tN 5) rg5) (sFor (dIl (dOp gAdd (dN 0) (dN 1))) (tN 7) rg7)) E (ps.map spD) [.dat (.list (ks.map tD)), .dat (.list (ss.map tD)), .dat (.list (qs.map spD)), e3, e4, e5, e6, e7]
  | [], e3, e4, e5, e6, e7 => hE e3 e4 e5 e6 e7
  | p :: ps, e3, e4, e5, e6, e7 => by
    refine rg5_loop _ _ _ p _ _ (fun e3' e5' e6' => ?_) qs e3 e5 e6
    refine ⟨by rw [List.length_map, List.length_map]; exact hks, ?_⟩
    show loop (tN 7) rg7 _ (ks.map tD ++ ss.map tD) _
    rw [← List.map_append]
    exact rg7_loop _ _ _ _ p _ _ _ (fun e7' => rg4_loop ks ss hks qs E hE ps _ _ _ _ _) _ _
theorem cut3 (ss : List (List Int)) : cutZ (ss.map tD) none (some 3) = (ss.take 3).map tD := by
  unfold cutZ
  rw [HT.sIx_none, show (some (3 : Int)) = some ((3 : Nat) : Int) from rfl, HT.sIx_nat, List.drop_zero, Nat.sub_zero, ← List.map_take, List.length_map]
  congr 1
  rcases Nat.le_total 3 ss.length with h | h
  · rw [Nat.min_eq_left h]
  · rw [Nat.min_eq_right h, List.take_length, List.take_of_length_le h]
theorem h__law_ranges : ∀ ds Q, F__law_ranges ds Q → ds.length = 2 ∧ m__law_ranges (endsD Q) (startD N__law_ranges ds) := by
  intro ds Q h
  match ds, h with
  | [.list ks, .list ss], ⟨k, l, m, h1, h2, h3, h4, h5⟩ =>
    subst h1 h2
    refine ⟨rfl, ?_⟩
    show gIx (.list ((k :: l).map tD)) (.int 0) fun x => gIx (.list ((k :: l).map tD)) (.int 0) fun y => loop (tN 3) rg1 _ ((k :: l).map tD) [.dat (.list ((k :: l).map tD)), .dat (.list (m.map tD)), .dat (.list [.tuple [.tuple [], .tuple [.int 3]], .tuple [x, y]]), .un, .un, .un, .un, .un]
    rw [ix_z]
    rw [ix_z]
    refine rg1_loop k l _ _ _ _ _ _ _ (k :: l) [([], [3]), (k, k)] _ (by have := h3.1; show 2 + _ ≤ _; omega) h3.2 fun qs e3 hq => ?_
    have hq : qs.length ≤ 2 + 3 * (k :: l).length := hq
    show loop (tN 3) rg2 _ (cutZ (m.map tD) none (some 3)) _
    rw [cut3]
    have h31 := h3.1
    have h41 := h4.1
    refine rg2_loop _ _ _ _ _ _ _ _ (m.take 3) qs _ (by rw [List.length_take]; omega) (fun x hx => h4.2 x (List.mem_of_mem_take hx)) fun rs e3' hr => ?_
    exact rg4_loop (k :: l) m (by omega) rs _ (fun _ _ _ _ _ => h5) rs _ _ _ _ _
/-! one drawn value -/
theorem ch_all : ∀ n : Nat, n < 94 → (match CH.cps.toList[n]? with | some c => okC c | none => false) = true := by decide +kernel
theorem ch_get {n : Nat} (h : n < 94) : ∃ c, CH.cps.toList[n]? = some c ∧ okC c = true := by
  have := ch_all n h
  split at this
  · rename_i c e; exact ⟨c, e, this⟩
  · cases this
theorem ch_len : CH.length ≤ 1000000 := by decide +kernel
theorem strs_nat : ∀ cs : List Nat, strsD (cs.map fun c => PyData.str ⟨#[c]⟩) = some (cs.map fun c => (⟨#[c]⟩ : Str))
  | [] => rfl
  | c :: cs => by rw [List.map_cons, strsD, strs_nat cs]; rfl
theorem sum_nat (cs : List Nat) : ((cs.map fun c => (⟨#[c]⟩ : Str)).map (·.length)).sum = cs.length := by
  induction cs with
  | nil => rfl
  | cons c cs ih =>
    rw [List.map_cons, List.map_cons, List.sum_cons, ih, List.length_cons]
    show 1 + cs.length = _
    omega
theorem chars_of : ∀ ds : List DD, (∀ d ∈ ds, ∃ c : Nat, okC c = true ∧ d = .str ⟨#[c]⟩) → ∃ cs : List Nat, ds = cs.map (fun c => PyData.str ⟨#[c]⟩) ∧ cs.all okC = true
  | [], _ => ⟨[], rfl, rfl⟩
  | d :: ds, h => by
    obtain ⟨c, h1, rfl⟩ := h d List.mem_cons_self
    obtain ⟨cs, rfl, h2⟩ := chars_of ds fun e he => h e (List.mem_cons_of_mem _ he)
    exact ⟨c :: cs, rfl, by rw [List.all_cons, h1, h2]; rfl⟩
theorem join_at (ds : List DD) (hl : ds.length ≤ 6) (h : ∀ d ∈ ds, ∃ c : Nat, okC c = true ∧ d = .str ⟨#[c]⟩) (P : DD → Prop) (hP : ∀ v, okV v = true → P v) : gJoin (.str (Str.ofString "")) (.list ds) P := by
  obtain ⟨cs, rfl, hc⟩ := chars_of ds h
  rw [List.length_map] at hl
  simp only [gJoin]
  rw [strs_nat]
  show _ ∧ _
  refine ⟨by rw [sum_nat, List.length_map]; show cs.length + cs.length * 0 ≤ _; omega, ?_⟩
  rw [show Txt.join (Str.ofString "") (cs.map fun c => (⟨#[c]⟩ : Str)) = ⟨cs.toArray⟩ from join_ch cs]
  refine hP _ ?_
  show (decide (cs.toArray.size ≤ 6) && cs.toArray.toList.all okC) = true
  rw [Bool.and_eq_true]
  exact ⟨decide_eq_true (by simpa using hl), by simpa using hc⟩
theorem upto_len (n : Int) : (upto n).length = n.toNat := by simp [upto]
theorem upto_mem {n : Int} {x : DD} (h : x ∈ upto n) : ∃ i : Nat, (i : Int) < n ∧ x = .int (i : Nat) := by
  unfold upto at h
  obtain ⟨i, hi, rfl⟩ := List.mem_map.mp h
  exact ⟨i, by have := List.mem_range.mp hi; omega, rfl⟩
theorem h__law_value : ∀ a ds Q, F__law_value ds Q → ds.length + 1 = 1 ∧ m__law_value a (endsD Q) (startS a N__law_value ds) := by
  rintro a ds Q ⟨rfl, h⟩
  refine ⟨rfl, ?_⟩
  refine ⟨rfl, ⟨by decide, by decide⟩, fun p p0 p1 => ?_⟩
  have c5 : p < 5 ∨ p = 5 ∨ p = 6 ∨ (7 ≤ p ∧ p < 10) ∨ 10 ≤ p := by omega
  rcases c5 with c | rfl | rfl | ⟨c1, c2⟩ | c
  · have : p = 0 ∨ p = 1 ∨ p = 2 ∨ p = 3 ∨ p = 4 := by omega
    rcases this with rfl | rfl | rfl | rfl | rfl
    · exact h (.int 0) rfl
    · exact h (.int 1) rfl
    · exact h (.int 2) rfl
    · exact h (.int (-1)) rfl
    · exact h (.int 7) rfl
  · refine ⟨rfl, ⟨by decide, by decide⟩, fun r r0 r1 => ⟨cm2 _ ⟨by omega, by omega⟩, ⟨by decide, by decide, by decide⟩, rfl, ⟨by decide, by decide⟩, fun t t0 t1 => ?_⟩⟩
    have hr : r = 0 ∨ r = 1 := by omega
    have ht : t = 0 ∨ t = 1 ∨ t = 2 := by omega
    rcases hr with rfl | rfl <;> rcases ht with rfl | rfl | rfl <;> exact ⟨by first | exact .inl ⟨by decide, by decide⟩ | exact .inr ⟨by decide, by decide⟩, h _ (by decide +kernel)⟩
  · refine ⟨rfl, ⟨by decide, by decide, by decide⟩, .inl ⟨by decide, by decide⟩, ⟨by decide, by decide⟩, fun r r0 r1 => ⟨⟨by decide, by decide, by decide⟩, ?_⟩⟩
    have e : (2 : Int) * 10 ^ (9 : Int).toNat + 1 = 2000000001 := by decide
    have r1 : r < 2 * 10 ^ (9 : Int).toNat + 1 := r1
    rw [e] at r1
    refine h (.int (r - 10 ^ (9 : Int).toNat)) ?_
    have e9 : (10 : Int) ^ (9 : Int).toNat = 1000000000 := by decide
    rw [e9]
    simp only [okV, decide_eq_true_eq]
    omega
  · have hp : p = 7 ∨ p = 8 ∨ p = 9 := by omega
    rcases hp with rfl | rfl | rfl
    all_goals
      refine ⟨rfl, ⟨by decide, by decide⟩, fun r r0 r1 => ?_⟩
      have hr : r = 0 ∨ r = 1 ∨ r = 2 ∨ r = 3 ∨ r = 4 ∨ r = 5 ∨ r = 6 ∨ r = 7 ∨ r = 8 := by omega
      rcases hr with rfl | rfl | rfl | rfl | rfl | rfl | rfl | rfl | rfl <;> exact ⟨by first | exact .inl ⟨by decide, by decide⟩ | exact .inr ⟨by decide, by decide⟩, h _ (by decide +kernel)⟩
  · have z1 : decide (p < 5) = false := decide_eq_false (by omega)
    have z2 : (p == 5) = false := by simp; omega
    have z3 : (p == 6) = false := by simp; omega
    have z4 : decide (p < 10) = false := decide_eq_false (by omega)
    show if decide (p < 5) = true then _ else if (p == 5) = true then _ else if (p == 6) = true then _ else if decide (p < 10) = true then _ else _
    rw [z1, z2, z3, z4]
    refine ⟨rfl, ⟨by decide, by decide⟩, fun s s0 s1 => ⟨rfl, ⟨by decide, by decide⟩, fun t t0 t1 => ⟨rfl, ⟨by decide, by decide⟩, fun n n0 n1 => ?_⟩⟩⟩
    refine ⟨⟨by omega, by omega⟩, comp_all (fun d => ∃ c : Nat, okC c = true ∧ d = .str ⟨#[c]⟩) (fun x hx Q' hQ => ?_) (by rw [upto_len]; show 0 + _ ≤ _; omega) fun ds h1 h2 => join_at _ (by rw [List.nil_append, h1, upto_len]; omega) (by rw [List.nil_append]; exact h2) _ h⟩
    obtain ⟨i, hi, rfl⟩ := upto_mem hx
    have m0 : 0 ≤ (s + t * (i : Int)) % 94 := Int.emod_nonneg _ (by decide)
    have m1 : (s + t * (i : Int)) % 94 < 94 := Int.emod_lt_of_pos _ (by decide)
    obtain ⟨c, g1', g2⟩ := ch_get (n := ((s + t * (i : Int)) % 94).toNat) (by omega)
    refine ⟨rfl, .inl ⟨by omega, by omega⟩, show (0 : Int) < 94 by decide, ch_len, ?_⟩
    have e : atI CH.cps.toList ((s + t * (i : Int)) % 94) = some c := by
      have := atI_nat g1'
      rwa [Int.toNat_of_nonneg m0] at this
    rw [e]
    exact hQ _ ⟨c, g2, rfl⟩
end Z1

set_option Elab.async false
set_option linter.all false
set_option maxRecDepth 100000
set_option maxHeartbeats 1000000
namespace Z1
open PySem PySem.Spec PyProof.Rows L2 Z
/-! five digits -/
theorem val_be (m : Int) (h0 : 0 ≤ m) (h1 : m < 2 ^ 40) : val5 (be5 m) = m := by
  simp only [val5, be5, List.foldl_cons, List.foldl_nil]
  omega
theorem be_lt (m n : Int) (m0 : 0 ≤ m) (m1 : m < 2 ^ 40) (n0 : 0 ≤ n) (n1 : n < 2 ^ 40) (r s : List Int) : HT.lexLt (be5 m ++ r) (be5 n ++ s) = if m = n then HT.lexLt r s else decide (m < n) := by
  by_cases e : m = n
  · subst e
    simp only [be5, List.cons_append, List.nil_append, HT.lexLt_cons, if_true]
  · rw [if_neg e]
    simp only [be5, List.cons_append, List.nil_append, HT.lexLt_cons]
    split
    · split
      · split
        · split
          · split
            · exact absurd (by omega : m = n) e
            · rw [decide_eq_decide]; omega
          · rw [decide_eq_decide]; omega
        · rw [decide_eq_decide]; omega
      · rw [decide_eq_decide]; omega
    · rw [decide_eq_decide]; omega
/-! texts -/
theorem tx_lt : ∀ (l l' : List Nat) (r s : List Int), (∀ c ∈ l, 1 ≤ c) → (∀ c ∈ l', 1 ≤ c) → HT.lexLt ((l.map fun (c : Nat) => (c : Int)) ++ [0] ++ r) ((l'.map fun (c : Nat) => (c : Int)) ++ [0] ++ s) = if l = l' then HT.lexLt r s else decide (l < l')
  | [], [], r, s, _, _ => by simp [HT.lexLt_cons]
  | [], d :: l', r, s, _, h' => by
    have := h' d List.mem_cons_self
    simp only [List.map_nil, List.map_cons, List.nil_append, List.cons_append, HT.lexLt_cons]
    rw [if_neg (by omega), if_neg (by simp), decide_eq_decide]
    exact ⟨fun _ => List.nil_lt_cons .., fun _ => by omega⟩
  | c :: l, [], r, s, h, _ => by
    have := h c List.mem_cons_self
    simp only [List.map_nil, List.map_cons, List.nil_append, List.cons_append, HT.lexLt_cons]
    rw [if_neg (by omega), if_neg (by simp), decide_eq_decide]
    exact ⟨fun z => by omega, fun z => absurd z (List.not_lt_nil _)⟩
  | c :: l, d :: l', r, s, h, h' => by
    have ih := tx_lt l l' r s (fun x hx => h x (List.mem_cons_of_mem _ hx)) (fun x hx => h' x (List.mem_cons_of_mem _ hx))
    simp only [List.map_cons, List.cons_append, HT.lexLt_cons] at ih ⊢
    rw [ih]
    by_cases e : c = d
    · subst e
      rw [if_pos rfl]
      by_cases e2 : l = l'
      · subst e2; rw [if_pos rfl, if_pos rfl]
      · rw [if_neg e2, if_neg (by simpa using e2), decide_eq_decide, List.cons_lt_cons_iff]
        exact ⟨fun z => .inr ⟨rfl, z⟩, fun z => z.elim (fun y => absurd y (Nat.lt_irrefl _)) (·.2)⟩
    · rw [if_neg (by omega), if_neg (by simp [e]), decide_eq_decide, List.cons_lt_cons_iff]
      exact ⟨fun z => .inl (by omega), fun z => z.elim (fun y => by omega) (fun y => absurd y.1 e)⟩
theorem ls_tri : ∀ (l l' : List Nat), l ≠ l' → (l' < l ↔ ¬ l < l')
  | [], [], h => absurd rfl h
  | [], d :: l', _ => ⟨fun z => absurd z (List.not_lt_nil _), fun z => absurd (List.nil_lt_cons ..) z⟩
  | c :: l, [], _ => ⟨fun _ => List.not_lt_nil _, fun _ => List.nil_lt_cons ..⟩
  | c :: l, d :: l', h => by
    rw [List.cons_lt_cons_iff, List.cons_lt_cons_iff]
    by_cases e : c = d
    · subst e
      have ih := ls_tri l l' (fun z => h (by rw [z]))
      constructor
      · rintro (z | ⟨_, z⟩)
        · omega
        · rintro (y | ⟨_, y⟩)
          · omega
          · exact ih.mp z y
      · intro z
        exact .inr ⟨rfl, ih.mpr fun y => z (.inr ⟨rfl, y⟩)⟩
    · constructor
      · rintro (z | ⟨y, z⟩)
        · rintro (y | ⟨y, _⟩) <;> omega
        · omega
      · intro z
        refine .inl ?_
        have : ¬ c < d := fun y => z (.inl y)
        omega
/-! the order of two values -/
theorem okV_str {z : Str} (h : okV (.str z) = true) : ∀ c ∈ z.cps.toList, 1 ≤ c := by
  simp only [okV, Bool.and_eq_true, List.all_eq_true] at h
  intro c hc
  have := h.2 c hc
  simp only [okC, decide_eq_true_eq] at this
  omega
theorem okV_int {n : Int} (h : okV (.int n) = true) : -1000000000 ≤ n ∧ n ≤ 1000000000 := by simpa [okV] using h
theorem cmp_int (n m : Int) : cmpV (.int n) (.int m) = if n = m then 0 else if n < m then -1 else 1 := by
  simp only [cmpV, kind, if_true, PyData.eqv, ZO.ord, cond_false]
  by_cases e : n = m <;> simp [e]
theorem str_cps {n m : Str} : n = m ↔ n.cps.toList = m.cps.toList := ⟨fun e => by rw [e], str_ext⟩
theorem cmp_str (n m : Str) : cmpV (.str n) (.str m) = if n.cps.toList = m.cps.toList then 0 else if n.cps.toList < m.cps.toList then -1 else 1 := by
  have hc : cmpV (.str n) (.str m) = if (n == m) = true then 0 else if decide (n.cps.toList < m.cps.toList) = true then -1 else 1 := by
    simp only [cmpV, kind, if_true, PyData.eqv, ZO.ord, cond_false]
    simp
  rw [hc]
  by_cases e : n = m
  · subst e
    rw [if_pos (show (n == n) = true by simp), if_pos rfl]
  · have e' : (n == m) = false := by simpa using e
    rw [e', if_neg Bool.false_ne_true, if_neg (fun z => e (str_ext z))]
    by_cases l : n.cps.toList < m.cps.toList
    · rw [if_pos (decide_eq_true l), if_pos l]
    · rw [if_neg (by simpa using l), if_neg l]
theorem cmp_is (v u : DD) (hv : okV v = true) (hu : okV u = true) : cmpV v u = 0 ↔ v = u := by
  cases v with
  | int n =>
    cases u with
    | int m =>
      rw [cmp_int]
      constructor
      · intro h; split at h
        · rename_i e; rw [e]
        · split at h <;> cases h
      · rintro ⟨⟩; rw [if_pos rfl]
    | str m => exact ⟨(fun h => by cases h), (fun h => by cases h)⟩
    | _ => simp [okV] at hu
  | str n =>
    cases u with
    | int m => exact ⟨(fun h => by cases h), (fun h => by cases h)⟩
    | str m =>
      rw [cmp_str]
      constructor
      · intro h; split at h
        · rename_i e; rw [str_ext e]
        · split at h <;> cases h
      · rintro ⟨⟩; rw [if_pos rfl]
    | _ => simp [okV] at hu
  | _ => simp [okV] at hv
theorem bytes_lt (v u : DD) (hv : okV v = true) (hu : okV u = true) (r s : List Int) : HT.lexLt (bytesV v ++ r) (bytesV u ++ s) = if cmpV v u = 0 then HT.lexLt r s else decide (cmpV v u < 0) := by
  cases v with
  | int n =>
    cases u with
    | int m =>
      have a := okV_int hv
      have b := okV_int hu
      simp only [bytesV, List.cons_append, HT.lexLt_cons, if_true]
      rw [be_lt _ _ (by omega) (by omega) (by omega) (by omega), cmp_int]
      by_cases e : n = m
      · subst e; rw [if_pos rfl, if_pos rfl, if_pos rfl]
      · rw [if_neg (by omega), if_neg e]
        by_cases l : n < m
        · rw [if_pos l, decide_eq_true (by omega)]; rfl
        · rw [if_neg l, decide_eq_false (by omega)]; rfl
    | str m => rfl
    | _ => simp [okV] at hu
  | str n =>
    cases u with
    | int m => rfl
    | str m =>
      simp only [bytesV, List.cons_append, HT.lexLt_cons, if_true]
      rw [tx_lt _ _ _ _ (okV_str hv) (okV_str hu), cmp_str]
      by_cases e : n.cps.toList = m.cps.toList
      · rw [if_pos e, if_pos e, if_pos rfl]
      · rw [if_neg e, if_neg e]
        by_cases l : n.cps.toList < m.cps.toList
        · rw [if_pos l, decide_eq_true l]; rfl
        · rw [if_neg l, decide_eq_false l]; rfl
    | _ => simp [okV] at hu
  | _ => simp [okV] at hv
theorem cmp_flip (v u : DD) (hv : okV v = true) (hu : okV u = true) : cmpV u v = -cmpV v u := by
  cases v with
  | int n =>
    cases u with
    | int m =>
      rw [cmp_int, cmp_int]
      by_cases e : n = m
      · subst e; rw [if_pos rfl]; rfl
      · rw [if_neg e, if_neg (fun z => e z.symm)]
        by_cases l : n < m
        · rw [if_pos l, if_neg (by omega)]; rfl
        · rw [if_neg l, if_pos (by omega)]
    | str m => rfl
    | _ => simp [okV] at hu
  | str n =>
    cases u with
    | int m => rfl
    | str m =>
      rw [cmp_str, cmp_str]
      by_cases e : n.cps.toList = m.cps.toList
      · rw [if_pos e, if_pos e.symm]; rfl
      · rw [if_neg e, if_neg (fun z => e z.symm)]
        have t := ls_tri _ _ e
        by_cases l : n.cps.toList < m.cps.toList
        · rw [if_pos l, if_neg (fun z => t.mp z l)]; rfl
        · rw [if_neg l, if_pos (t.mpr l)]
    | _ => simp [okV] at hu
  | _ => simp [okV] at hv
theorem bytes_ne {v : DD} (hv : okV v = true) : ∃ x r, bytesV v = x :: r ∧ x < 3 := by
  cases v with
  | int n => exact ⟨1, _, rfl, by decide⟩
  | str n => exact ⟨2, _, rfl, by decide⟩
  | _ => simp [okV] at hv
theorem key_cons (v : DD) (vs : List DD) : keyI (v :: vs) = bytesV v ++ keyI vs := List.flatMap_cons ..
/-! the order of rows -/
theorem key_lt : ∀ (vs us : List DD), vs.all okV = true → us.all okV = true → HT.lexLt (keyI vs) (keyI us) = decide (cmpR vs us < 0)
  | [], [], _, _ => rfl
  | [], u :: us, _, h => by
    rw [List.all_cons, Bool.and_eq_true] at h
    obtain ⟨x, r, e, _⟩ := bytes_ne h.1
    rw [key_cons, e]; rfl
  | v :: vs, [], h, _ => by
    rw [List.all_cons, Bool.and_eq_true] at h
    obtain ⟨x, r, e, _⟩ := bytes_ne h.1
    rw [key_cons, e]; rfl
  | v :: vs, u :: us, h, h' => by
    rw [List.all_cons, Bool.and_eq_true] at h h'
    rw [key_cons, key_cons, bytes_lt v u h.1 h'.1, key_lt vs us h.2 h'.2, cmpR]
    split <;> rfl
theorem cmpR_flip : ∀ (vs us : List DD), vs.all okV = true → us.all okV = true → cmpR us vs = -cmpR vs us
  | [], [], _, _ => rfl
  | [], u :: us, _, h => rfl
  | v :: vs, [], h, _ => rfl
  | v :: vs, u :: us, h, h' => by
    rw [List.all_cons, Bool.and_eq_true] at h h'
    rw [cmpR, cmpR, cmp_flip v u h.1 h'.1, cmpR_flip vs us h.2 h'.2]
    by_cases e : cmpV v u = 0
    · rw [if_pos e, if_pos (by omega)]
    · rw [if_neg e, if_neg (by omega)]
theorem cmpR_is : ∀ (vs us : List DD), vs.all okV = true → us.all okV = true → (cmpR vs us = 0 ↔ vs = us)
  | [], [], _, _ => ⟨fun _ => rfl, fun _ => rfl⟩
  | [], u :: us, _, h => ⟨(fun h => by cases h), (fun h => by cases h)⟩
  | v :: vs, [], h, _ => ⟨(fun h => by cases h), (fun h => by cases h)⟩
  | v :: vs, u :: us, h, h' => by
    rw [List.all_cons, Bool.and_eq_true] at h h'
    have a := cmp_is v u h.1 h'.1
    have b := cmpR_is vs us h.2 h'.2
    rw [cmpR]
    by_cases e : cmpV v u = 0
    · rw [if_pos e, b]
      exact ⟨fun z => by rw [a.mp e, z], fun z => (List.cons.inj z).2⟩
    · rw [if_neg e]
      exact ⟨fun z => absurd z e, fun z => absurd (a.mpr (List.cons.inj z).1) e⟩
/-! a key read back -/
theorem first_int {n : Int} (h : okV (.int n) = true) (r : List Int) : first (bytesV (.int n) ++ r) = (.int n, 6) := by
  have a := okV_int h
  have e : first (bytesV (.int n) ++ r) = (intB ((be5 (n + 549755813888) ++ r).take 5), 6) := rfl
  have e2 : (be5 (n + 549755813888) ++ r).take 5 = be5 (n + 549755813888) := rfl
  rw [e, e2]
  unfold intB
  have l5 : (be5 (n + 549755813888)).length = 5 := rfl
  rw [if_neg (by omega), val_be _ (by omega) (by omega)]
  have e3 : n + 549755813888 - 549755813888 = n := by omega
  rw [e3, if_pos a]
theorem first_str {z : Str} (h : okV (.str z) = true) (r : List Int) : first (bytesV (.str z) ++ r) = (.str z, z.cps.toList.length + 2) := by
  have h1 := okV_str h
  have e : bytesV (.str z) ++ r = 2 :: ((z.cps.toList.map fun (c : Nat) => (c : Int)) ++ 0 :: r) := by
    simp only [bytesV, List.cons_append, List.append_assoc, List.nil_append]
  rw [e]
  have f : ((z.cps.toList.map fun (c : Nat) => (c : Int)) ++ 0 :: r).findIdx? (· == 0) = some z.cps.toList.length := by
    rw [List.findIdx?_append]
    have n : (z.cps.toList.map fun (c : Nat) => (c : Int)).findIdx? (· == 0) = none := by
      rw [List.findIdx?_eq_none_iff]
      intro x hx
      obtain ⟨c, hc, rfl⟩ := List.mem_map.mp hx
      have := h1 c hc
      simp; omega
    rw [n, List.findIdx?_cons]
    simp
  simp only [first, f]
  have t : ((z.cps.toList.map fun (c : Nat) => (c : Int)) ++ 0 :: r).take z.cps.toList.length = z.cps.toList.map fun (c : Nat) => (c : Int) := by
    rw [List.take_append_of_le_length (by rw [List.length_map]; exact Nat.le_refl _), List.take_of_length_le (by rw [List.length_map]; exact Nat.le_refl _)]
  rw [t]
  simp only [okV, Bool.and_eq_true, decide_eq_true_eq, List.all_eq_true] at h
  unfold textD
  rw [if_pos ⟨by rw [List.length_map]; simpa using h.1, by
    rw [List.all_eq_true]
    intro x hx
    obtain ⟨c, hc, rfl⟩ := List.mem_map.mp hx
    have := h.2 c hc
    simp only [okC, decide_eq_true_eq] at this
    exact decide_eq_true (by omega)⟩]
  congr 1
  congr 1
  apply str_ext
  simp [List.map_map, Function.comp_def]
theorem first_at {v : DD} (hv : okV v = true) (r : List Int) : (first (bytesV v ++ r)).1 = v ∧ (bytesV v ++ r).drop (first (bytesV v ++ r)).2 = r := by
  cases v with
  | int n => rw [first_int hv]; exact ⟨rfl, rfl⟩
  | str z =>
    rw [first_str hv]
    refine ⟨rfl, ?_⟩
    have e : bytesV (.str z) ++ r = (2 :: ((z.cps.toList.map fun (c : Nat) => (c : Int)) ++ [0])) ++ r := rfl
    rw [e]
    exact List.drop_left' (by simp)
  | _ => simp [okV] at hv
theorem okV_none {v : DD} (h : okV v = true) : v ≠ .none := by rintro rfl; cases h
theorem decode_key : ∀ (vs : List DD) (n : Nat), vs.all okV = true → vs.length ≤ n → decode n (keyI vs) = some vs
  | [], n, _, _ => by cases n <;> rfl
  | v :: vs, 0, _, h => absurd h (Nat.not_succ_le_zero _)
  | v :: vs, n + 1, h, hn => by
    rw [List.all_cons, Bool.and_eq_true] at h
    obtain ⟨x, r, e, _⟩ := bytes_ne h.1
    obtain ⟨f1, f2⟩ := first_at h.1 (keyI vs)
    rw [key_cons, decode_some n _ (by rw [e]; exact List.cons_ne_nil _ _) (by rw [f1]; exact okV_none h.1), f1, f2, decode_key vs n h.2 (by rw [List.length_cons] at hn; omega)]
    rfl
theorem key_len : ∀ (vs : List DD), vs.all okV = true → vs.length ≤ (keyI vs).length ∧ (keyI vs).length ≤ 8 * vs.length
  | [], _ => ⟨Nat.le_refl _, Nat.le_refl _⟩
  | v :: vs, h => by
    rw [List.all_cons, Bool.and_eq_true] at h
    obtain ⟨x, r, e, _⟩ := bytes_ne h.1
    have b := bl_of h.1
    have ih := key_len vs h.2
    have p : 1 ≤ (bytesV v).length := by rw [e, List.length_cons]; omega
    rw [key_cons, List.length_append, List.length_cons]
    omega
theorem dec_key (vs : List DD) (h : vs.all okV = true) : decD (keyI vs) = .tuple vs := by
  unfold decD
  rw [decode_key vs _ h (key_len vs h).1]
theorem bytes_B {v : DD} (hv : okV v = true) : (bytesV v).all isB = true := by
  cases v with
  | int n =>
    simp only [bytesV, be5, List.all_cons, List.all_nil, isB, Bool.and_true, Bool.and_eq_true, decide_eq_true_eq]
    omega
  | str z =>
    simp only [okV, Bool.and_eq_true, decide_eq_true_eq, List.all_eq_true] at hv
    rw [List.all_eq_true]
    intro x hx
    have hx : x = 2 ∨ (∃ c ∈ z.cps.toList, x = ((c : Nat) : Int)) ∨ x = 0 := by
      simp only [bytesV, List.mem_cons, List.mem_append, List.mem_map, List.cons_append, List.not_mem_nil, or_false] at hx
      rcases hx with h | ⟨c, h1, h2⟩ | h
      · exact .inl h
      · exact .inr (.inl ⟨c, h1, h2.symm⟩)
      · exact .inr (.inr h)
    rcases hx with rfl | ⟨c, hc, rfl⟩ | rfl
    · rfl
    · have := hv.2 c hc
      simp only [okC, decide_eq_true_eq] at this
      exact decide_eq_true (by omega)
    · rfl
  | _ => rfl
theorem key_B : ∀ (vs : List DD), vs.all okV = true → (keyI vs).all isB = true
  | [], _ => rfl
  | v :: vs, h => by
    rw [List.all_cons, Bool.and_eq_true] at h
    rw [key_cons, List.all_append, bytes_B h.1, key_B vs h.2]; rfl
/-! the rows whose keys are in the range of a prefix -/
theorem in_pre : ∀ (a b : List DD), a.all okV = true → b.all okV = true → isIn (keyI b) (keyI a) (keyI a ++ [3]) = decide (cmpR (b.take a.length) a = 0)
  | [], [], _, _ => rfl
  | [], u :: us, _, h => by
    rw [List.all_cons, Bool.and_eq_true] at h
    obtain ⟨x, r, e, l3⟩ := bytes_ne h.1
    rw [key_cons, e]
    show (true && HT.lexLt (x :: (r ++ keyI us)) [3]) = true
    rw [HT.lexLt_cons, if_neg (by omega), decide_eq_true l3]; rfl
  | v :: vs, [], h, _ => by
    rw [List.all_cons, Bool.and_eq_true] at h
    obtain ⟨x, r, e, _⟩ := bytes_ne h.1
    rw [key_cons, e]
    rfl
  | v :: vs, u :: us, h, h' => by
    rw [List.all_cons, Bool.and_eq_true] at h h'
    have ih := in_pre vs us h.2 h'.2
    unfold isIn at ih ⊢
    rw [key_cons, key_cons, List.append_assoc, bytes_lt u v h'.1 h.1, bytes_lt u v h'.1 h.1]
    show _ = decide ((if cmpV u v = 0 then cmpR (us.take vs.length) vs else cmpV u v) = 0)
    by_cases e : cmpV u v = 0
    · rw [if_pos e, if_pos e, ih, if_pos e]
    · rw [if_neg e, if_neg e, if_neg e, decide_eq_false e]
      cases decide (cmpV u v < 0) <;> rfl
/-! what == and < say of such data -/
theorem eqv_tD : ∀ (a b : List Int), PyData.eqvAll (iD a) (iD b) = decide (a = b)
  | [], [] => rfl
  | [], _ :: _ => rfl
  | _ :: _, [] => rfl
  | x :: a, y :: b => by
    show (PyData.eqv (.int x) (.int y) && PyData.eqvAll (iD a) (iD b)) = _
    rw [eqv_tD a b]
    by_cases e : x = y
    · subst e
      simp [PyData.eqv]
    · have : PyData.eqv (.int x) (.int y) = false := by simpa [PyData.eqv] using e
      rw [this]; simp [e]
theorem eqv_V {v u : DD} (hv : okV v = true) (hu : okV u = true) : PyData.eqv v u = decide (cmpV v u = 0) := by
  cases v with
  | int n =>
    cases u with
    | int m =>
      rw [cmp_int]
      by_cases e : n = m
      · subst e; simp [PyData.eqv]
      · rw [if_neg e]
        have : PyData.eqv (.int n) (.int m) = false := by simpa [PyData.eqv] using e
        rw [this]
        split <;> rfl
    | str m => rfl
    | _ => simp [okV] at hu
  | str n =>
    cases u with
    | int m => rfl
    | str m =>
      rw [cmp_str]
      show (n == m) = _
      by_cases e : n = m
      · subst e; rw [if_pos rfl]; simp
      · rw [if_neg (fun z => e (str_ext z))]
        have e' : (n == m) = false := by simpa using e
        rw [e']
        split <;> rfl
    | _ => simp [okV] at hu
  | _ => simp [okV] at hv
theorem eqv_row : ∀ (a b : List DD), a.all okV = true → b.all okV = true → PyData.eqvAll a b = decide (cmpR a b = 0)
  | [], [], _, _ => rfl
  | [], _ :: _, _, _ => rfl
  | _ :: _, [], _, _ => rfl
  | x :: a, y :: b, h, h' => by
    rw [List.all_cons, Bool.and_eq_true] at h h'
    rw [PyData.eqvAll, eqv_V h.1 h'.1, eqv_row a b h.2 h'.2, cmpR]
    by_cases e : cmpV x y = 0
    · rw [if_pos e, decide_eq_true e, Bool.true_and]
    · rw [if_neg e, decide_eq_false e, Bool.false_and]
theorem dep_row : ∀ (a : List DD), a.all okV = true → PyData.depthAll a = 0
  | [], _ => rfl
  | v :: a, h => by
    rw [List.all_cons, Bool.and_eq_true] at h
    rw [PyData.depthAll, dep_row a h.2]
    cases v with
    | int n => rfl
    | str n => rfl
    | _ => simp [okV] at h
theorem kind_cases {v : DD} (hv : okV v = true) : kind v = 1 ∨ kind v = 2 := by
  cases v with
  | int n => exact .inl rfl
  | str n => exact .inr rfl
  | _ => simp [okV] at hv
theorem eqv_ordV {v u : DD} (hv : okV v = true) (hu : okV u = true) : PyData.eqv (ordV v) (ordV u) = decide (cmpV v u = 0) := by
  show (PyData.eqv (.int (kind v)) (.int (kind u)) && (PyData.eqv v u && true)) = _
  rw [eqv_V hv hu, Bool.and_true]
  by_cases e : cmpV v u = 0
  · have z := (cmp_is v u hv hu).mp e
    subst z
    simp [PyData.eqv, e]
  · rw [decide_eq_false e, Bool.and_false]
theorem ord_ordV (f : Bool) {v u : DD} (hv : okV v = true) (hu : okV u = true) (ne : v ≠ u) : ZO.ord f (ordV v) (ordV u) = some (bif f then decide (0 < cmpV v u) else decide (cmpV v u < 0)) := by
  have hc : cmpV v u ≠ 0 := fun z => ne ((cmp_is v u hv hu).mp z)
  have e0 : ZO.ord f (ordV v) (ordV u) = bif PyData.eqv (.int (kind v)) (.int (kind u)) then (bif PyData.eqv v u then ZO.ordL f [] [] else ZO.ord f v u) else ZO.ord f (.int (kind v)) (.int (kind u)) := by
    simp only [ordV, ZO.ord, ZO.ordL]
  rw [e0, eqv_V hv hu, decide_eq_false hc]
  cases v with
  | int n =>
    cases u with
    | int m =>
      have hn : n ≠ m := fun z => ne (by rw [z])
      rw [cmp_int, if_neg hn]
      show some (bif f then decide (m < n) else decide (n < m)) = _
      by_cases l : n < m
      · rw [if_pos l, decide_eq_true l, decide_eq_false (by omega)]; rfl
      · rw [if_neg l, decide_eq_false l, decide_eq_true (by omega)]; rfl
    | str m => cases f <;> rfl
    | _ => simp [okV] at hu
  | str n =>
    cases u with
    | int m => cases f <;> rfl
    | str m =>
      have hn : n.cps.toList ≠ m.cps.toList := fun z => ne (by rw [str_ext z])
      have t := ls_tri _ _ hn
      rw [cmp_str, if_neg hn]
      show some (bif f then decide (m.cps.toList < n.cps.toList) else decide (n.cps.toList < m.cps.toList)) = _
      by_cases l : n.cps.toList < m.cps.toList
      · rw [if_pos l, decide_eq_true l, decide_eq_false (fun z => t.mp z l)]; rfl
      · rw [if_neg l, decide_eq_false l, decide_eq_true (t.mpr l)]; rfl
    | _ => simp [okV] at hu
  | _ => simp [okV] at hv
theorem ord_rows (f : Bool) : ∀ (a b : List DD), a.all okV = true → b.all okV = true → ZO.ordL f (a.map ordV) (b.map ordV) = some (bif f then decide (0 < cmpR a b) else decide (cmpR a b < 0))
  | [], [], _, _ => by cases f <;> rfl
  | [], _ :: _, _, _ => by cases f <;> rfl
  | _ :: _, [], _, _ => by cases f <;> rfl
  | v :: a, u :: b, h, h' => by
    rw [List.all_cons, Bool.and_eq_true] at h h'
    rw [List.map_cons, List.map_cons, ZO.ordL, eqv_ordV h.1 h'.1, cmpR]
    have c := cmp_is v u h.1 h'.1
    by_cases e : cmpV v u = 0
    · rw [decide_eq_true e, if_pos e]
      exact ord_rows f a b h.2 h'.2
    · rw [decide_eq_false e, if_neg e]
      exact ord_ordV f h.1 h'.1 (fun z => e (c.mpr z))
theorem eqv_ords : ∀ (a b : List DD), a.all okV = true → b.all okV = true → PyData.eqvAll (a.map ordV) (b.map ordV) = decide (cmpR a b = 0)
  | [], [], _, _ => rfl
  | [], _ :: _, _, _ => rfl
  | _ :: _, [], _, _ => rfl
  | x :: a, y :: b, h, h' => by
    rw [List.all_cons, Bool.and_eq_true] at h h'
    rw [List.map_cons, List.map_cons, PyData.eqvAll, eqv_ordV h.1 h'.1, eqv_ords a b h.2 h'.2, cmpR]
    by_cases e : cmpV x y = 0
    · rw [if_pos e, decide_eq_true e, Bool.true_and]
    · rw [if_neg e, decide_eq_false e, Bool.false_and]
theorem dep_ords : ∀ (a : List DD), a.all okV = true → PyData.depthAll (a.map ordV) ≤ 1
  | [], _ => Nat.zero_le _
  | v :: a, h => by
    rw [List.all_cons, Bool.and_eq_true] at h
    rw [List.map_cons, PyData.depthAll]
    refine Nat.max_le.mpr ⟨?_, dep_ords a h.2⟩
    cases v with
    | int n => exact Nat.le_refl _
    | str n => exact Nat.le_refl _
    | _ => simp [okV] at h
theorem agrees_keys (a b : List DD) (ha : a.all okV = true) (hb : b.all okV = true) (P : DD → Prop) (h : P (.bool true)) : F__law_agrees [tD (keyI a), tD (keyI b), .int (cmpR a b)] P := by
  refine ⟨_, _, ?_, ?_, ord_ints false _ _, ord_ints true _ _, ?_, ?_, ?_, h⟩
  · rw [PyData.depth, iD, depth_ints]; decide
  · rw [PyData.depth, iD, depth_ints]; decide
  · exact key_lt a b ha hb
  · show PyData.eqvAll (iD (keyI a)) (iD (keyI b)) = _
    rw [eqv_tD, decide_eq_decide, cmpR_is a b ha hb]
    refine ⟨fun e => ?_, fun e => by rw [e]⟩
    have d := dec_key a ha
    rw [e, dec_key b hb] at d
    injection d with d
    exact d.symm
  · show HT.lexLt (keyI b) (keyI a) = _
    rw [key_lt b a hb ha, cmpR_flip a b ha hb, decide_eq_decide]
    omega
theorem agrees_rows (a b : List DD) (ha : a.all okV = true) (hb : b.all okV = true) (P : DD → Prop) (h : P (.bool true)) : F__law_agrees [.tuple (a.map ordV), .tuple (b.map ordV), .int (cmpR a b)] P := by
  refine ⟨decide (cmpR a b < 0), decide (0 < cmpR a b), ?_, ?_, ?_, ?_, rfl, ?_, rfl, h⟩
  · rw [PyData.depth]; have := dep_ords a ha; omega
  · rw [PyData.depth]; have := dep_ords b hb; omega
  · rw [ZO.ord]; exact ord_rows false a b ha hb
  · rw [ZO.ord]; exact ord_rows true a b ha hb
  · show PyData.eqvAll _ _ = _
    exact eqv_ords a b ha hb
end Z1

set_option Elab.async false
set_option linter.all false
set_option maxRecDepth 100000
set_option maxHeartbeats 1000000
namespace Z1
open PySem PySem.Spec PyProof.Rows L2 Z
abbrev lwR (a : Addr) : DS := (sFrz 2 (sSeq (sSet 3 (dLc (dIl (dN 2)) 13 dYes (dCall F__law_bytes (dCons (dN 13) dNil))))
    (sSeq (sFor (dIr (dCall (g1 gLen) (dCons (dN 2) dNil))) (tN 4) (sSeq (sIf (dOr (dNot (dT (dCall F__law_same (dCons (dCall F_key_of (dCons (dOp gIx (dN 2) (dN 4)) dNil)) (dCons (dOp gIx (dN 3) (dN 4)) dNil))))) (dNot (dT (dCall F__law_same (dCons (dCall F_values_of (dCons (dOp gIx (dN 3) (dN 4)) dNil)) (dCons (dOp gIx (dN 2) (dN 4)) dNil)))))) (sRet (dC (.bool false))) sNx)
    (sSeq (sIf (dNot (dT (dCall F__law_same (dCons (dCall F_prefix_range (dCons (dOp gIx (dN 3) (dN 4)) dNil)) (dCons (dTup (dCons (dOp gIx (dN 3) (dN 4)) (dCons (dOp gAdd (dOp gIx (dN 3) (dN 4)) (dTup (dCons (dC (.int 3)) dNil))) dNil))) dNil))))) (sRet (dC (.bool false))) sNx)
    (sFor (dIr (dCall (g1 gLen) (dCons (dN 2) dNil))) (tN 5) (sSeq (sSet 6 (dCall F__law_order (dCons (dOp gIx (dN 2) (dN 4)) (dCons (dOp gIx (dN 2) (dN 5)) dNil))))
    (sSeq (sIf (dOr (dNot (dT (dCall F__law_agrees (dCons (dCall F_key_of (dCons (dOp gIx (dN 2) (dN 4)) dNil)) (dCons (dCall F_key_of (dCons (dOp gIx (dN 2) (dN 5)) dNil)) (dCons (dN 6) dNil)))))) (dNot (dT (dCall F__law_agrees (dCons (dCall F_row_order (dCons (dOp gIx (dN 2) (dN 4)) dNil)) (dCons (dCall F_row_order (dCons (dOp gIx (dN 2) (dN 5)) dNil)) (dCons (dN 6) dNil))))))) (sRet (dC (.bool false))) sNx)
    (sIf (dT (dOp (gB neD) (dCall F_is_in (dCons (dOp gIx (dN 3) (dN 5)) (dCons (dCall F_prefix_range (dCons (dOp gIx (dN 3) (dN 4)) dNil)) dNil))) (dOp (gB eqD) (dSl (dOp gIx (dN 2) (dN 5)) dNo (dSo (dCall (g1 gLen) (dCons (dOp gIx (dN 2) (dN 4)) dNil)))) (dOp gIx (dN 2) (dN 4))))) (sRet (dC (.bool false))) sNx)))))))
    (sSeq (sSet 7 (dLst dNil))
    (sSeq (sFor (dIr (dC (.int 6))) (tN 4) (sSeq (sSet 8 (dCall (g1 gList) (dCons (dOp gIx (dN 3) (dSt a 1 F__law_next (dCons (dCall (g1 gLen) (dCons (dN 3) dNil)) dNil))) dNil)))
    (sSeq (sSet 9 (dSt a 1 F__law_next (dCons (dOp gAdd (dCall (g1 gLen) (dCons (dN 8) dNil)) (dC (.int 1))) dNil)))
    (sSeq (sSet 10 (dOp gIx (dLst (dCons (dSt a 1 F__law_next (dCons (dC (.int 256)) dNil)) (dCons (dSt a 1 F__law_next (dCons (dC (.int 4)) dNil)) dNil))) (dSt a 1 F__law_next (dCons (dC (.int 2)) dNil))))
    (sSeq (sSet 11 (dCall (g1 gTuple) (dCons (dLc (dIr (dSt a 1 F__law_next (dCons (dC (.int 9)) dNil))) 5 dYes (dOp gIx (dLst (dCons (dSt a 1 F__law_next (dCons (dC (.int 256)) dNil)) (dCons (dSt a 1 F__law_next (dCons (dC (.int 3)) dNil)) dNil))) (dSt a 1 F__law_next (dCons (dC (.int 2)) dNil)))) dNil)))
    (sSeq (sFor (dIl (dLst (dCons (dCall (g1 gTuple) (dCons (dOp gAdd (dOp gAdd (dSl (dN 8) dNo (dSo (dN 9))) (dLst (dCons (dN 10) dNil))) (dSl (dN 8) (dSo (dOp gAdd (dN 9) (dC (.int 1)))) dNo)) dNil)) (dCons (dCall (g1 gTuple) (dCons (dOp gAdd (dOp gAdd (dSl (dN 8) dNo (dSo (dN 9))) (dLst (dCons (dN 10) dNil))) (dSl (dN 8) (dSo (dN 9)) dNo)) dNil)) (dCons (dCall (g1 gTuple) (dCons (dSl (dN 8) dNo (dSo (dN 9))) dNil)) (dCons (dN 11) dNil)))))) (tN 12) (sIf (dNot (dT (dCall F__law_same (dCons (dCall F_values_of (dCons (dN 12) dNil)) (dCons (dCall F__law_read (dCons (dN 12) dNil)) dNil))))) (sRet (dC (.bool false))) sNx))
    (sSet 7 (dOp gAdd (dN 7) (dLst (dCons (dN 11) (dCons (dCall (g1 gTuple) (dCons (dOp gAdd (dOp gAdd (dSl (dN 8) dNo (dSo (dN 9))) (dLst (dCons (dN 10) dNil))) (dSl (dN 8) (dSo (dN 9)) dNo)) dNil)) dNil)))))))))))
    (sRet (dCall F__law_ranges (dCons (dN 3) (dCons (dSl (dN 7) dNo (dSo (dC (.int 6)))) dNil)))))))))
abbrev lwK : DS := (sSeq (sIf (dOr (dNot (dT (dCall F__law_same (dCons (dCall F_key_of (dCons (dOp gIx (dN 2) (dN 4)) dNil)) (dCons (dOp gIx (dN 3) (dN 4)) dNil))))) (dNot (dT (dCall F__law_same (dCons (dCall F_values_of (dCons (dOp gIx (dN 3) (dN 4)) dNil)) (dCons (dOp gIx (dN 2) (dN 4)) dNil)))))) (sRet (dC (.bool false))) sNx)
    (sSeq (sIf (dNot (dT (dCall F__law_same (dCons (dCall F_prefix_range (dCons (dOp gIx (dN 3) (dN 4)) dNil)) (dCons (dTup (dCons (dOp gIx (dN 3) (dN 4)) (dCons (dOp gAdd (dOp gIx (dN 3) (dN 4)) (dTup (dCons (dC (.int 3)) dNil))) dNil))) dNil))))) (sRet (dC (.bool false))) sNx)
    (sFor (dIr (dCall (g1 gLen) (dCons (dN 2) dNil))) (tN 5) (sSeq (sSet 6 (dCall F__law_order (dCons (dOp gIx (dN 2) (dN 4)) (dCons (dOp gIx (dN 2) (dN 5)) dNil))))
    (sSeq (sIf (dOr (dNot (dT (dCall F__law_agrees (dCons (dCall F_key_of (dCons (dOp gIx (dN 2) (dN 4)) dNil)) (dCons (dCall F_key_of (dCons (dOp gIx (dN 2) (dN 5)) dNil)) (dCons (dN 6) dNil)))))) (dNot (dT (dCall F__law_agrees (dCons (dCall F_row_order (dCons (dOp gIx (dN 2) (dN 4)) dNil)) (dCons (dCall F_row_order (dCons (dOp gIx (dN 2) (dN 5)) dNil)) (dCons (dN 6) dNil))))))) (sRet (dC (.bool false))) sNx)
    (sIf (dT (dOp (gB neD) (dCall F_is_in (dCons (dOp gIx (dN 3) (dN 5)) (dCons (dCall F_prefix_range (dCons (dOp gIx (dN 3) (dN 4)) dNil)) dNil))) (dOp (gB eqD) (dSl (dOp gIx (dN 2) (dN 5)) dNo (dSo (dCall (g1 gLen) (dCons (dOp gIx (dN 2) (dN 4)) dNil)))) (dOp gIx (dN 2) (dN 4))))) (sRet (dC (.bool false))) sNx))))))
abbrev lwJ : DS := (sSeq (sSet 6 (dCall F__law_order (dCons (dOp gIx (dN 2) (dN 4)) (dCons (dOp gIx (dN 2) (dN 5)) dNil))))
    (sSeq (sIf (dOr (dNot (dT (dCall F__law_agrees (dCons (dCall F_key_of (dCons (dOp gIx (dN 2) (dN 4)) dNil)) (dCons (dCall F_key_of (dCons (dOp gIx (dN 2) (dN 5)) dNil)) (dCons (dN 6) dNil)))))) (dNot (dT (dCall F__law_agrees (dCons (dCall F_row_order (dCons (dOp gIx (dN 2) (dN 4)) dNil)) (dCons (dCall F_row_order (dCons (dOp gIx (dN 2) (dN 5)) dNil)) (dCons (dN 6) dNil))))))) (sRet (dC (.bool false))) sNx)
    (sIf (dT (dOp (gB neD) (dCall F_is_in (dCons (dOp gIx (dN 3) (dN 5)) (dCons (dCall F_prefix_range (dCons (dOp gIx (dN 3) (dN 4)) dNil)) dNil))) (dOp (gB eqD) (dSl (dOp gIx (dN 2) (dN 5)) dNo (dSo (dCall (g1 gLen) (dCons (dOp gIx (dN 2) (dN 4)) dNil)))) (dOp gIx (dN 2) (dN 4))))) (sRet (dC (.bool false))) sNx)))
abbrev lwS (a : Addr) : DS := (sSeq (sSet 8 (dCall (g1 gList) (dCons (dOp gIx (dN 3) (dSt a 1 F__law_next (dCons (dCall (g1 gLen) (dCons (dN 3) dNil)) dNil))) dNil)))
    (sSeq (sSet 9 (dSt a 1 F__law_next (dCons (dOp gAdd (dCall (g1 gLen) (dCons (dN 8) dNil)) (dC (.int 1))) dNil)))
    (sSeq (sSet 10 (dOp gIx (dLst (dCons (dSt a 1 F__law_next (dCons (dC (.int 256)) dNil)) (dCons (dSt a 1 F__law_next (dCons (dC (.int 4)) dNil)) dNil))) (dSt a 1 F__law_next (dCons (dC (.int 2)) dNil))))
    (sSeq (sSet 11 (dCall (g1 gTuple) (dCons (dLc (dIr (dSt a 1 F__law_next (dCons (dC (.int 9)) dNil))) 5 dYes (dOp gIx (dLst (dCons (dSt a 1 F__law_next (dCons (dC (.int 256)) dNil)) (dCons (dSt a 1 F__law_next (dCons (dC (.int 3)) dNil)) dNil))) (dSt a 1 F__law_next (dCons (dC (.int 2)) dNil)))) dNil)))
    (sSeq (sFor (dIl (dLst (dCons (dCall (g1 gTuple) (dCons (dOp gAdd (dOp gAdd (dSl (dN 8) dNo (dSo (dN 9))) (dLst (dCons (dN 10) dNil))) (dSl (dN 8) (dSo (dOp gAdd (dN 9) (dC (.int 1)))) dNo)) dNil)) (dCons (dCall (g1 gTuple) (dCons (dOp gAdd (dOp gAdd (dSl (dN 8) dNo (dSo (dN 9))) (dLst (dCons (dN 10) dNil))) (dSl (dN 8) (dSo (dN 9)) dNo)) dNil)) (dCons (dCall (g1 gTuple) (dCons (dSl (dN 8) dNo (dSo (dN 9))) dNil)) (dCons (dN 11) dNil)))))) (tN 12) (sIf (dNot (dT (dCall F__law_same (dCons (dCall F_values_of (dCons (dN 12) dNil)) (dCons (dCall F__law_read (dCons (dN 12) dNil)) dNil))))) (sRet (dC (.bool false))) sNx))
    (sSet 7 (dOp gAdd (dN 7) (dLst (dCons (dN 11) (dCons (dCall (g1 gTuple) (dCons (dOp gAdd (dOp gAdd (dSl (dN 8) dNo (dSo (dN 9))) (dLst (dCons (dN 10) dNil))) (dSl (dN 8) (dSo (dN 9)) dNo)) dNil)) dNil))))))))))
abbrev lwO : DS := (sIf (dNot (dT (dCall F__law_same (dCons (dCall F_values_of (dCons (dN 12) dNil)) (dCons (dCall F__law_read (dCons (dN 12) dNil)) dNil))))) (sRet (dC (.bool false))) sNx)
theorem loop_inv {gd : DG} {sb : DS} {E : DEn} (p : DD → Prop) (I : Nat → En → Prop) (hE : ∀ ρ, I 0 ρ → E.nx ρ) (step : ∀ x r ρ k, p x → I (r + 1) ρ → (∀ ρ', I r ρ' → k ρ') → gd x ρ fun ρ1 => sb ⟨k, E.rt, E.nx, k⟩ ρ1) : ∀ (items : List DD) (ρ : En), (∀ x ∈ items, p x) → I items.length ρ → loop gd sb E items ρ
  | [], ρ, _, h => hE ρ h
  | x :: xs, ρ, hp, h => step x xs.length ρ _ (hp x List.mem_cons_self) h fun ρ' h' => loop_inv p I hE step xs ρ' (fun y hy => hp y (List.mem_cons_of_mem _ hy)) h'
abbrev rwD (vss : List (List DD)) : DD := .list (vss.map PyData.tuple)
abbrev kyD (vss : List (List DD)) : DD := .list (vss.map fun vs => tD (keyI vs))
structure RowsOk (vss : List (List DD)) : Prop where
  ne : 0 < vss.length
  le : vss.length ≤ 6
  ok : ∀ vs ∈ vss, vs.length ≤ 8 ∧ vs.all okV = true
theorem ix_r {vss : List (List DD)} {i : Nat} (h : i < vss.length) {P : DD → Prop} (hp : P (.tuple vss[i])) : gIx (rwD vss) (.int (i : Nat)) P := by
  rw [e_ixL, atI_nat (v := .tuple vss[i]) (by simp [h])]; exact hp
theorem ix_k {vss : List (List DD)} {i : Nat} (h : i < vss.length) {P : DD → Prop} (hp : P (tD (keyI vss[i]))) : gIx (kyD vss) (.int (i : Nat)) P := by
  rw [e_ixL, atI_nat (v := tD (keyI vss[i])) (by simp [h])]; exact hp
theorem okS_ints (n : Nat) : ∀ l : List Int, (iD l).all (okS n) = true
  | [] => rfl
  | c :: l => by
    show (okS n (.int c) && (iD l).all (okS n)) = true
    rw [okS_ints n l]
    cases n <;> rfl
theorem okS_tD {l : List Int} (h : l.length ≤ 100000) (n : Nat) : okS (n + 1) (tD l) = true := by
  show (decide ((iD l).length ≤ 100000) && (iD l).all (okS n)) = true
  rw [okS_ints, len_iD, decide_eq_true h]; rfl
theorem okS_flat {v : DD} (h : okV v = true) (n : Nat) : okS n v = true := by
  cases v with
  | int i => cases n <;> rfl
  | str i => cases n <;> rfl
  | _ => simp [okV] at h
theorem okS_row {vs : List DD} (h : vs.all okV = true) (hl : vs.length ≤ 100000) (n : Nat) : okS (n + 1) (.tuple vs) = true := by
  show (decide (vs.length ≤ 100000) && vs.all (okS n)) = true
  rw [decide_eq_true hl, Bool.true_and, List.all_eq_true]
  exact fun x hx => okS_flat (List.all_eq_true.mp h x hx) n
theorem okS_first (r : List Int) (n : Nat) : okS n (first r).1 = true := by
  have i : ∀ l, okS n (intB l) = true := fun l => by
    unfold intB
    split
    · cases n <;> rfl
    · split <;> cases n <;> rfl
  have t : ∀ l, okS n (textD l) = true := fun l => by
    unfold textD
    split <;> cases n <;> rfl
  unfold first
  split
  · exact i _
  · split
    · exact t _
    · cases n <;> rfl
  · cases n <;> rfl
theorem okS_decode (k : Nat) : ∀ (n : Nat) (r : List Int) (vs : List DD), decode n r = some vs → vs.length ≤ n ∧ vs.all (okS k) = true
  | n, [], vs, h => by
    have : vs = [] := by cases n <;> (injection h with h; exact h.symm)
    subst this
    exact ⟨Nat.zero_le _, rfl⟩
  | 0, _ :: _, vs, h => by cases h
  | n + 1, x :: t, vs, h => by
    by_cases hz : (first (x :: t)).1 = .none
    · rw [decode_none n _ (List.cons_ne_nil _ _) hz] at h; cases h
    · rw [decode_some n _ (List.cons_ne_nil _ _) hz] at h
      cases hd : decode n ((x :: t).drop (first (x :: t)).2) with
      | none => rw [hd] at h; cases h
      | some us =>
        rw [hd] at h
        injection h with h
        subst h
        obtain ⟨a, b⟩ := okS_decode k n _ us hd
        refine ⟨by rw [List.length_cons]; omega, ?_⟩
        rw [List.all_cons, okS_first, b]; rfl
theorem okS_dec (cs : List Int) (h : cs.length ≤ 100000) (n : Nat) : okS (n + 1) (decD cs) = true := by
  unfold decD
  cases hd : decode cs.length cs with
  | none => rfl
  | some vs =>
    obtain ⟨a, b⟩ := okS_decode n _ _ _ hd
    show (decide (vs.length ≤ 100000) && vs.all (okS n)) = true
    rw [b, decide_eq_true (by omega)]; rfl
theorem ne_same {x y : Bool} (h : x = y) {P : DD → Prop} (hp : P (.bool false)) : gB neD (.bool x) (.bool y) P := by
  subst h
  show match neD (.bool x) (.bool x) with | some k => P (.bool k) | none => False
  have e : neD (.bool x) (.bool x) = some false := by cases x <;> rfl
  rw [e]; exact hp
theorem cut_to (us : List DD) (n : Nat) : cutZ us none (some (n : Int)) = us.take n := by
  unfold cutZ
  rw [HT.sIx_none, HT.sIx_nat, List.drop_zero, Nat.sub_zero]
  rcases Nat.le_total n us.length with h | h
  · rw [Nat.min_eq_left h]
  · rw [Nat.min_eq_right h, List.take_length, List.take_of_length_le h]
theorem eq_cut {us vs : List DD} (hu : us.all okV = true) (hv : vs.all okV = true) {P : DD → Prop} (hp : P (.bool (decide (cmpR (us.take vs.length) vs = 0)))) : gB eqD (.tuple (cutZ us none (some (vs.length : Int)))) (.tuple vs) P := by
  rw [cut_to]
  have ht : (us.take vs.length).all okV = true := List.all_eq_true.mpr fun x hx => List.all_eq_true.mp hu x (List.mem_of_mem_take hx)
  have e : eqD (.tuple (us.take vs.length)) (.tuple vs) = some (decide (cmpR (us.take vs.length) vs = 0)) := by
    unfold eqD
    rw [if_pos (by rw [PyData.depth, PyData.depth, dep_row _ ht, dep_row _ hv]; decide)]
    congr 1
    exact eqv_row _ _ ht hv
  simp only [gB, e]
  exact hp
theorem cut_some {cs : List Int} (hb : cs.all isB = true) (lo hi : Option Int) : ∃ es, cutZ (iD cs) lo hi = iD es ∧ es.length ≤ cs.length ∧ es.all isB = true := by
  refine ⟨(cs.drop (HT.sIx (iD cs).length 0 lo)).take (HT.sIx (iD cs).length (iD cs).length hi - HT.sIx (iD cs).length 0 lo), ?_, ?_, isB_all (isB_drop hb _) _⟩
  · unfold cutZ iD
    rw [← List.map_drop, ← List.map_take]
  · rw [List.length_take, List.length_drop]; omega
theorem byte_of (x y : Int) (hx : isB x = true) (hy : isB y = true) (s : Int) (s0 : 0 ≤ s) (s1 : s < 2) {P : DD → Prop} (hp : ∀ b, isB b = true → P (.int b)) : gIx (.list [.int x, .int y]) (.int s) P := by
  have : s = 0 ∨ s = 1 := by omega
  rcases this with rfl | rfl
  · exact hp x hx
  · exact hp y hy
theorem bytes_of : ∀ ds : List DD, (∀ d ∈ ds, ∃ b, isB b = true ∧ d = .int b) → ∃ bs, ds = iD bs ∧ bs.all isB = true
  | [], _ => ⟨[], rfl, rfl⟩
  | d :: ds, h => by
    obtain ⟨b, h1, rfl⟩ := h d List.mem_cons_self
    obtain ⟨bs, rfl, h2⟩ := bytes_of ds fun e he => h e (List.mem_cons_of_mem _ he)
    exact ⟨b :: bs, rfl, by rw [List.all_cons, h1, h2]; rfl⟩
theorem rows_of : ∀ ds : List DD, (∀ d ∈ ds, ∃ vs, d = .tuple vs ∧ vs.length ≤ 7 ∧ vs.all okV = true) → ∃ vss : List (List DD), ds = vss.map PyData.tuple ∧ ∀ vs ∈ vss, vs.length ≤ 7 ∧ vs.all okV = true
  | [], _ => ⟨[], rfl, fun _ h => by cases h⟩
  | d :: ds, h => by
    obtain ⟨vs, rfl, h1⟩ := h d List.mem_cons_self
    obtain ⟨vss, rfl, h2⟩ := rows_of ds fun e he => h e (List.mem_cons_of_mem _ he)
    refine ⟨vs :: vss, rfl, fun us hu => ?_⟩
    rcases List.mem_cons.mp hu with rfl | hu
    · exact h1
    · exact h2 us hu
theorem isB_of {b : Int} (h0 : 0 ≤ b) (h1 : b < 256) : isB b = true := decide_eq_true (by omega)
theorem put_i {n : Nat} {k : Nat → Prop} (h : 1 < n) (hk : k 1) : (match ixN n 1 with | some j => k j | none => False) := by
  have e : ixN n 1 = some 1 := by
    unfold ixN
    rw [if_pos (by decide), if_pos (by omega)]; rfl
  rw [e]; exact hk
theorem nol_row : ∀ {vs : List DD}, vs.all okV = true → nolAll vs = true
  | [], _ => rfl
  | v :: vs, h => by
    rw [List.all_cons, Bool.and_eq_true] at h
    rw [nolAll, nol_row h.2, Bool.and_true]
    cases v with
    | int i => rfl
    | str i => rfl
    | _ => simp [okV] at h
theorem gt_i {a b : Int} {P : DD → Prop} (h : P (.bool (decide (b < a)))) : gB gtD (.int a) (.int b) P := h
section
theorem lwJ_ok {vss : List (List DD)} (R : RowsOk vss) {i j : Nat} (hi : i < vss.length) (hj : j < vss.length) (k : En → Prop) (r : DD → Prop) (b c : En → Prop) (e0 e1 e7 e8 e9 e10 e11 e12 e13 e6 : Ent)
    (h : ∀ e6, k [e0, e1, .dat (rwD vss), .dat (kyD vss), .dat (.int (i : Nat)), .dat (.int (j : Nat)), e6, e7, e8, e9, e10, e11, e12, e13]) :
    lwJ ⟨k, r, b, c⟩ [e0, e1, .dat (rwD vss), .dat (kyD vss), .dat (.int (i : Nat)), .dat (.int (j : Nat)), e6, e7, e8, e9, e10, e11, e12, e13] := by
  obtain ⟨li, oi⟩ := R.ok _ (List.getElem_mem hi)
  obtain ⟨lj, oj⟩ := R.ok _ (List.getElem_mem hj)
  have ki := (key_len _ oi).2
  have kj := (key_len _ oj).2
  refine ix_r hi ?_
  refine ix_r hj ?_
  refine ⟨⟨by omega, by omega, oi, oj⟩, ?_⟩
  refine ix_r hi ?_
  refine ⟨⟨by omega, oi⟩, ?_⟩
  refine ix_r hj ?_
  refine ⟨⟨by omega, oj⟩, ?_⟩
  refine agrees_keys _ _ oi oj _ ?_
  refine ix_r hi ?_
  refine ⟨⟨by omega, oi⟩, ?_⟩
  refine ix_r hj ?_
  refine ⟨⟨by omega, oj⟩, ?_⟩
  refine agrees_rows _ _ oi oj _ ?_
  refine ix_k hj ?_
  refine ix_k hi ?_
  refine ⟨_, rfl, by omega, ?_⟩
  refine ⟨_, _, _, rfl, rfl, rfl, ?_⟩
  refine ix_r hj ?_
  refine ix_r hi ?_
  refine ix_r hi ?_
  refine eq_cut oj oi ?_
  refine ne_same (in_pre _ _ oi oj) ?_
  exact h _
theorem lwK_ok {vss : List (List DD)} (R : RowsOk vss) {i : Nat} (hi : i < vss.length) (k : En → Prop) (r : DD → Prop) (b c : En → Prop) (e0 e1 e7 e8 e9 e10 e11 e12 e13 e5 e6 : Ent)
    (h : ∀ e5 e6, k [e0, e1, .dat (rwD vss), .dat (kyD vss), .dat (.int (i : Nat)), e5, e6, e7, e8, e9, e10, e11, e12, e13]) :
    lwK ⟨k, r, b, c⟩ [e0, e1, .dat (rwD vss), .dat (kyD vss), .dat (.int (i : Nat)), e5, e6, e7, e8, e9, e10, e11, e12, e13] := by
  obtain ⟨li, oi⟩ := R.ok _ (List.getElem_mem hi)
  have ki := (key_len _ oi).2
  refine ix_r hi ?_
  refine ⟨⟨by omega, oi⟩, ?_⟩
  refine ix_k hi ?_
  refine ⟨rfl, okS_tD (by omega) 3, ?_⟩
  refine ix_k hi ?_
  refine ⟨_, rfl, by omega, key_B _ oi, ?_⟩
  refine ix_r hi ?_
  refine ⟨dec_key _ oi, okS_row oi (by omega) 3, ?_⟩
  refine ix_k hi ?_
  refine ⟨_, rfl, by omega, ?_⟩
  refine ix_k hi ?_
  refine ix_k hi ?_
  refine ⟨by rw [len_iD]; show _ + 1 ≤ _; omega, ?_⟩
  have ok2 : okS 4 (.tuple [tD (keyI vss[i]), tD (keyI vss[i] ++ [3])]) = true := by
    have a1 := okS_tD (l := keyI vss[i]) (by omega) 2
    have a2 := okS_tD (l := keyI vss[i] ++ [3]) (by rw [List.length_append]; show _ + 1 ≤ _; omega) 2
    show (decide (2 ≤ 100000) && (okS 3 (tD (keyI vss[i])) && (okS 3 (tD (keyI vss[i] ++ [3])) && true))) = true
    rw [a1, a2]; rfl
  refine ⟨by rw [tD_app1], by rw [tD_app1]; exact ok2, ?_⟩
  have hl : (vss.map PyData.tuple).length = vss.length := List.length_map ..
  have le := R.le
  refine ⟨by rw [hl]; omega, ?_⟩
  refine loop_inv (fun x => ∃ j : Nat, j < vss.length ∧ x = .int (j : Nat)) (fun _ ρ => ∃ e5 e6, ρ = [e0, e1, .dat (rwD vss), .dat (kyD vss), .dat (.int (i : Nat)), e5, e6, e7, e8, e9, e10, e11, e12, e13]) ?_ ?_ _ _ (fun x hx => ?_) ⟨_, _, rfl⟩
  · rintro ρ ⟨e5, e6, rfl⟩
    exact h _ _
  · rintro x r' ρ k' ⟨j, hj, rfl⟩ ⟨e5, e6, rfl⟩ hk
    exact lwJ_ok R hi hj k' _ _ _ _ _ _ _ _ _ _ _ _ _ fun e6 => hk _ ⟨_, _, rfl⟩
  · obtain ⟨j, hj, rfl⟩ := upto_mem hx
    rw [hl] at hj
    exact ⟨j, by omega, rfl⟩
theorem lwO_ok (k : En → Prop) (r : DD → Prop) (b c : En → Prop) (e0 e1 e2 e3 e4 e5 e6 e7 e8 e9 e10 e11 e13 : Ent) (cs : List Int) (hl : cs.length ≤ 1000) (hb : cs.all isB = true)
    (h : k [e0, e1, e2, e3, e4, e5, e6, e7, e8, e9, e10, e11, .dat (tD cs), e13]) : lwO ⟨k, r, b, c⟩ [e0, e1, e2, e3, e4, e5, e6, e7, e8, e9, e10, e11, .dat (tD cs), e13] :=
  ⟨cs, rfl, by omega, hb, ⟨cs, rfl, by omega, hb, ⟨rfl, okS_dec cs (by omega) 3, h⟩⟩⟩
theorem byteA_ok (a : Addr) (n : Int) (hn : n = 3 ∨ n = 4) (ρ : En) (hρ : ρ[1]? = some (.adr a)) (P : DD → Prop) (hp : ∀ b, isB b = true → P (.int b)) :
    dOp gIx (dLst (dCons (dSt a 1 F__law_next (dCons (dC (.int 256)) dNil)) (dCons (dSt a 1 F__law_next (dCons (dC (.int n)) dNil)) dNil))) (dSt a 1 F__law_next (dCons (dC (.int 2)) dNil)) ρ P := by
  refine ⟨hρ, ⟨by decide, by decide⟩, fun x x0 x1 => ⟨hρ, ⟨by omega, by omega⟩, fun y y0 y1 => ⟨hρ, ⟨by decide, by decide⟩, fun s s0 s1 => ?_⟩⟩⟩
  exact byte_of x y (isB_of x0 x1) (isB_of y0 (by omega)) s s0 s1 hp
theorem lwS_ok {vss : List (List DD)} (R : RowsOk vss) (a : Addr) (ss : List (List Int)) (hs : ss.length ≤ 900) (k : En → Prop) (r : DD → Prop) (b c : En → Prop) (e0 e2 e4 e5 e6 e8 e9 e10 e11 e12 e13 : Ent)
    (h : ∀ u v e8 e9 e10 e11 e12, u.length ≤ 1000 → v.length ≤ 1000 → k [e0, .adr a, e2, .dat (kyD vss), e4, e5, e6, .dat (.list ((ss ++ [u, v]).map tD)), e8, e9, e10, e11, e12, e13]) :
    lwS a ⟨k, r, b, c⟩ [e0, .adr a, e2, .dat (kyD vss), e4, e5, e6, .dat (.list (ss.map tD)), e8, e9, e10, e11, e12, e13] := by
  have hl : (vss.map fun vs => tD (keyI vs)).length = vss.length := List.length_map ..
  have le := R.le
  have ne := R.ne
  refine ⟨rfl, ⟨by rw [hl]; omega, by rw [hl]; omega⟩, fun q q0 q1 => ?_⟩
  rw [hl] at q1
  obtain ⟨i, rfl⟩ : ∃ i : Nat, q = (i : Nat) := ⟨q.toNat, by omega⟩
  have hi : i < vss.length := by omega
  obtain ⟨li, oi⟩ := R.ok _ (List.getElem_mem hi)
  have ki := (key_len _ oi).2
  have kb := key_B _ oi
  refine ix_k hi ?_
  generalize keyI vss[i] = cs at ki kb ⊢
  have hc : (iD cs).length = cs.length := len_iD cs
  refine ⟨rfl, ⟨by rw [hc]; omega, by rw [hc]; omega⟩, fun at' a0 a1 => ?_⟩
  refine byteA_ok a 4 (.inr rfl) _ rfl _ fun y hy => ?_
  refine ⟨rfl, ⟨by decide, by decide⟩, fun n n0 n1 => ⟨⟨by omega, by omega⟩, ?_⟩⟩
  refine comp_all (fun d => ∃ b, isB b = true ∧ d = .int b) (fun x hx Q' hQ => byteA_ok a 3 (.inl rfl) _ rfl _ fun z hz => hQ _ ⟨z, hz, rfl⟩) (by rw [upto_len]; show 0 + _ ≤ _; omega) fun ds h1 h2 => ?_
  obtain ⟨bs, rfl, hbs⟩ := bytes_of ds h2
  rw [len_iD, upto_len] at h1
  obtain ⟨p1, w1, l1, b1⟩ := cut_some kb none (some at')
  obtain ⟨p2, w2, l2, b2⟩ := cut_some kb (some (at' + 1)) none
  obtain ⟨p3, w3, l3, b3⟩ := cut_some kb (some at') none
  have lp1 := len_iD p1
  have lp2 := len_iD p2
  have lp3 := len_iD p3
  have t1 : cutZ (iD cs) none (some at') ++ [.int y] ++ cutZ (iD cs) (some (at' + 1)) none = iD (p1 ++ [y] ++ p2) := by rw [w1, w2, iD_app, iD_app]; rfl
  have t2 : cutZ (iD cs) none (some at') ++ [.int y] ++ cutZ (iD cs) (some at') none = iD (p1 ++ [y] ++ p3) := by rw [w1, w3, iD_app, iD_app]; rfl
  have c1 : (cutZ (iD cs) none (some at')).length + 1 ≤ 1000000 := by rw [w1]; omega
  have c2 : (cutZ (iD cs) none (some at') ++ [PyData.int y]).length + (cutZ (iD cs) (some (at' + 1)) none).length ≤ 1000000 := by rw [w1, w2, List.length_append]; show _ + 1 + _ ≤ _; omega
  have c3 : (cutZ (iD cs) none (some at') ++ [PyData.int y]).length + (cutZ (iD cs) (some at') none).length ≤ 1000000 := by rw [w1, w3, List.length_append]; show _ + 1 + _ ≤ _; omega
  refine ⟨c1, c2, c1, c3, ?_⟩
  have by1 : isB y = true := hy
  have g1' : (p1 ++ [y] ++ p2).length ≤ 1000 := by rw [List.length_append, List.length_append]; show _ + 1 + _ ≤ _; omega
  have g2' : (p1 ++ [y] ++ p3).length ≤ 1000 := by rw [List.length_append, List.length_append]; show _ + 1 + _ ≤ _; omega
  have v1 : (p1 ++ [y] ++ p2).all isB = true := by rw [List.all_append, List.all_append, b1, b2, List.all_cons, hy]; rfl
  have v2 : (p1 ++ [y] ++ p3).all isB = true := by rw [List.all_append, List.all_append, b1, b3, List.all_cons, hy]; rfl
  refine loop_inv (fun x => ∃ es : List Int, x = tD es ∧ es.length ≤ 1000 ∧ es.all isB = true) (fun _ ρ => ∃ e12, ρ = [e0, .adr a, e2, .dat (kyD vss), e4, e5, e6, .dat (.list (ss.map tD)), .dat (.list (iD cs)), .dat (.int at'), .dat (.int y), .dat (tD bs), e12, e13]) ?_ ?_ _ _ (fun x hx => ?_) ⟨_, rfl⟩
  · rintro ρ ⟨e12, rfl⟩
    refine ⟨c1, c3, ?_⟩
    refine ⟨by rw [List.length_map]; show _ + 2 ≤ _; omega, ?_⟩
    have e : ss.map tD ++ [tD bs, .tuple (cutZ (iD cs) none (some at') ++ [.int y] ++ cutZ (iD cs) (some at') none)] = (ss ++ [bs, p1 ++ [y] ++ p3]).map tD := by
      rw [t2, List.map_append]; rfl
    have hk := h bs (p1 ++ [y] ++ p3) (.dat (.list (iD cs))) (.dat (.int at')) (.dat (.int y)) (.dat (tD bs)) e12 (by omega) g2'
    rw [← e] at hk
    exact hk
  · rintro x r' ρ k' ⟨es, rfl, u1, u2⟩ ⟨e12, rfl⟩ hk
    exact lwO_ok k' _ _ _ _ _ _ _ _ _ _ _ _ _ _ _ _ es u1 u2 (hk _ ⟨_, rfl⟩)
  · have hx : x = .tuple (cutZ (iD cs) none (some at') ++ [.int y] ++ cutZ (iD cs) (some (at' + 1)) none) ∨ x = .tuple (cutZ (iD cs) none (some at') ++ [.int y] ++ cutZ (iD cs) (some at') none) ∨ x = .tuple (cutZ (iD cs) none (some at')) ∨ x = .tuple (iD bs) := by
      simpa using hx
    rcases hx with rfl | rfl | rfl | rfl
    · exact ⟨_, by rw [t1]; rfl, g1', v1⟩
    · exact ⟨_, by rw [t2]; rfl, g2', v2⟩
    · exact ⟨p1, by rw [w1]; rfl, by omega, b1⟩
    · exact ⟨bs, rfl, by omega, hbs⟩
theorem lwR_ok {vss : List (List DD)} (R : RowsOk vss) (a : Addr) (Q : DD → Prop) (hQ : Q (.bool true)) (e0 : Ent) :
    lwR a (endsD Q) [e0, .adr a, .own (vss.map PyData.tuple), .un, .un, .un, .un, .un, .un, .un, .un, .un, .un, .un] := by
  have hl : (vss.map PyData.tuple).length = vss.length := List.length_map ..
  have le := R.le
  have ne := R.ne
  refine comp_map (f := fun d => match d with | .tuple vs => tD (keyI vs) | _ => .none) (fun x hx Q' hq => ?_) (by rw [hl]; show 0 + _ ≤ _; omega) ?_
  · obtain ⟨vs, hv, rfl⟩ := List.mem_map.mp hx
    obtain ⟨l1, o1⟩ := R.ok vs hv
    exact ⟨⟨by omega, o1⟩, hq⟩
  rw [List.nil_append, List.map_map]
  show sSeq _ _ (endsD Q) [e0, .adr a, .dat (rwD vss), .dat (kyD vss), .un, .un, .un, .un, .un, .un, .un, .un, .un, .un]
  refine ⟨by rw [hl]; omega, ?_⟩
  refine loop_inv (fun x => ∃ j : Nat, j < vss.length ∧ x = .int (j : Nat)) (fun _ ρ => ∃ e4 e5 e6, ρ = [e0, .adr a, .dat (rwD vss), .dat (kyD vss), e4, e5, e6, .un, .un, .un, .un, .un, .un, .un]) ?_ ?_ _ _ (fun x hx => ?_) ⟨_, _, _, rfl⟩
  · rintro ρ ⟨e4, e5, e6, rfl⟩
    refine ⟨by decide, ?_⟩
    refine loop_inv (fun x => True) (fun n ρ => ∃ ss e4 e8 e9 e10 e11 e12, ss.length + 2 * n ≤ 12 ∧ (∀ s ∈ ss, s.length ≤ 1000) ∧ ρ = [e0, .adr a, .dat (rwD vss), .dat (kyD vss), e4, e5, e6, .dat (.list (ss.map tD)), e8, e9, e10, e11, e12, .un]) ?_ ?_ _ _ (fun x hx => trivial) ⟨[], _, _, _, _, _, _, by decide, fun _ h => (by cases h), rfl⟩
    · rintro ρ ⟨ss, e4, e8, e9, e10, e11, e12, hn, hs, rfl⟩
      have hc : cutZ (ss.map tD) none (some 6) = (ss.take 6).map tD := by
        have := cut_to (ss.map tD) 6
        rw [← List.map_take] at this
        exact this
      show F__law_ranges [kyD vss, .list (cutZ (ss.map tD) none (some 6))] Q
      rw [hc]
      obtain ⟨v0, vr, rfl⟩ : ∃ v0 vr, vss = v0 :: vr := by
        cases vss with
        | nil => exact absurd ne (Nat.lt_irrefl _)
        | cons x y => exact ⟨x, y, rfl⟩
      refine ⟨keyI v0, vr.map keyI, ss.take 6, by simp, rfl, ⟨by simp at le ⊢; omega, fun x hx => ?_⟩, ⟨by rw [List.length_take]; omega, fun x hx => by have := hs x (List.mem_of_mem_take hx); omega⟩, hQ⟩
      have : ∃ vs ∈ v0 :: vr, x = keyI vs := by
        rcases List.mem_cons.mp hx with rfl | hx
        · exact ⟨v0, List.mem_cons_self, rfl⟩
        · obtain ⟨vs, hv, rfl⟩ := List.mem_map.mp hx
          exact ⟨vs, List.mem_cons_of_mem _ hv, rfl⟩
      obtain ⟨vs, hv, rfl⟩ := this
      obtain ⟨z1, z2⟩ := R.ok vs hv
      have := (key_len vs z2).2
      omega
    · rintro x n ρ k' _ ⟨ss, e4, e8, e9, e10, e11, e12, hn, hs, rfl⟩ hk
      refine lwS_ok R a ss (by omega) k' _ _ _ _ _ _ _ _ _ _ _ _ _ _ fun u v e8 e9 e10 e11 e12 hu hv => hk _ ⟨ss ++ [u, v], _, _, _, _, _, _, ?_, fun s hs' => ?_, rfl⟩
      · rw [List.length_append]; show _ + 2 + _ ≤ _; omega
      · rcases List.mem_append.mp hs' with z | z
        · exact hs s z
        · simp only [List.mem_cons, List.not_mem_nil, or_false] at z
          rcases z with rfl | rfl
          · exact hu
          · exact hv
  · rintro x r' ρ k' ⟨j, hj, rfl⟩ ⟨e4, e5, e6, rfl⟩ hk
    exact lwK_ok R hj k' _ _ _ _ _ _ _ _ _ _ _ _ _ _ fun e5 e6 => hk _ ⟨_, _, _, rfl⟩
  · obtain ⟨j, hj, rfl⟩ := upto_mem hx
    rw [hl] at hj
    exact ⟨j, by omega, rfl⟩
theorem vals_ok (a : Addr) (n : Int) (h0 : 0 < n) (hn : n ≤ 8) (ρ : En) (hρ : ρ[1]? = some (.adr a)) (hj : ∀ d, (ρ.set 5 (.dat d))[1]? = some (.adr a)) (P : DD → Prop) (hp : ∀ vs : List DD, vs.length < n.toNat → vs.all okV = true → P (.tuple vs)) :
    dCall (g1 gTuple) (dCons (dLc (dIr (dSt a 1 F__law_next (dCons (dC (.int n)) dNil))) 5 dYes (dSt a 1 F__law_value dNil)) dNil) ρ P := by
  refine ⟨hρ, ⟨h0, by omega⟩, fun m m0 m1 => ⟨⟨by omega, by omega⟩, ?_⟩⟩
  refine comp_all (fun d => okV d = true) (fun x hx Q' hQ => ⟨hj x, rfl, hQ⟩) (by rw [upto_len]; show 0 + _ ≤ _; omega) fun ds h1 h2 => ?_
  rw [upto_len] at h1
  exact hp ds (by omega) (List.all_eq_true.mpr h2)
def startL (a : Addr) : En := [.un, .adr a, .un, .un, .un, .un, .un, .un, .un, .un, .un, .un, .un, .un]
theorem h_law (a : Addr) (Q : DD → Prop) (hQ : Q (.bool true)) : m_law a (endsD Q) (startL a) := by
  refine ⟨rfl, ⟨by decide, by decide⟩, fun r r0 r1 => ⟨⟨by omega, by omega⟩, ?_⟩⟩
  refine comp_all (fun d => ∃ vs, d = .tuple vs ∧ vs.length ≤ 7 ∧ vs.all okV = true) (fun x hx Q' hQ' => vals_ok a 8 (by decide) (by decide) _ rfl (fun _ => rfl) _ fun vs h1 h2 => hQ' _ ⟨vs, rfl, by have : vs.length < 8 := h1; omega, h2⟩) (by rw [upto_len]; show 0 + _ ≤ _; omega) fun ds h1 h2 => ?_
  rw [upto_len] at h1
  obtain ⟨vss, rfl, hv⟩ := rows_of ds h2
  have hl : (vss.map PyData.tuple).length = vss.length := List.length_map ..
  rw [hl] at h1
  have R : RowsOk vss := ⟨by omega, by omega, fun vs h => by have := hv vs h; exact ⟨by omega, this.2⟩⟩
  show sSeq (sIf (dT (dOp (gB gtD) (dCall (g1 gLen) (dCons (dN 2) dNil)) (dC (.int 1)))) (sPut1 2 (dC (.int 1)) (dOp gAdd (dSl (dOp gIx (dN 2) (dC (.int 0))) dNo (dSo (dC (.int 6)))) (dCall (g1 gTuple) (dCons (dLc (dIr (dSt a 1 F__law_next (dCons (dC (.int 2)) dNil))) 5 dYes (dSt a 1 F__law_value dNil)) dNil)))) sNx) (lwR a) (endsD Q) [.un, .adr a, .own (vss.map PyData.tuple), .un, .un, .un, .un, .un, .un, .un, .un, .un, .un, .un]
  show if decide ((1 : Int) < ((vss.map PyData.tuple).length : Nat)) = true then _ else _
  by_cases c : (1 : Int) < ((vss.map PyData.tuple).length : Nat)
  · rw [if_pos (decide_eq_true c)]
    rw [hl] at c
    have h0 : 0 < vss.length := by omega
    refine ix_r (i := 0) h0 ?_
    obtain ⟨l0, o0⟩ := hv _ (List.getElem_mem h0)
    refine vals_ok a 2 (by decide) (by decide) _ rfl (fun _ => rfl) _ fun vs z1 z2 => ?_
    have z1 : vs.length < 2 := z1
    have ec : cutZ vss[0] none (some 6) = vss[0].take 6 := cut_to vss[0] 6
    have o6 : (vss[0].take 6 ++ vs).all okV = true := by
      rw [List.all_append, z2, Bool.and_true]
      exact List.all_eq_true.mpr fun x hx => List.all_eq_true.mp o0 x (List.mem_of_mem_take hx)
    have l6 : (vss[0].take 6 ++ vs).length ≤ 8 := by rw [List.length_append, List.length_take]; omega
    refine ⟨by rw [ec, List.length_take]; omega, ?_⟩
    rw [ec]
    refine ⟨nol_row o6, ?_⟩
    refine put_i (by rw [hl]; omega) ?_
    show lwR a (endsD Q) [.un, .adr a, .own ((vss.map PyData.tuple).set 1 (.tuple (vss[0].take 6 ++ vs))), .un, .un, .un, .un, .un, .un, .un, .un, .un, .un, .un]
    have es : (vss.map PyData.tuple).set 1 (.tuple (vss[0].take 6 ++ vs)) = (vss.set 1 (vss[0].take 6 ++ vs)).map PyData.tuple := by rw [List.map_set]
    rw [es]
    refine lwR_ok ⟨by rw [List.length_set]; exact R.ne, by rw [List.length_set]; exact R.le, fun us hu => ?_⟩ a Q hQ _
    rcases List.mem_or_eq_of_mem_set hu with z | rfl
    · exact R.ok us z
    · exact ⟨l6, o6⟩
  · rw [if_neg (by simpa using c)]
    exact lwR_ok R a Q hQ _
end
end Z1

set_option Elab.async false
set_option linter.all false
set_option maxRecDepth 100000
set_option maxHeartbeats 0
namespace Z
open PySem PySem.Spec PyProof.Rows L2
/-- a def without defaults, as the head tells it -/
theorem fun_ofD {K : PySem.W.Frag} {x q : Str} {st : Stmt} {f : Addr} {fd : FuncData} {ks : List (Str × V)} (F : FunD K x q (defArgs st) (defBody st) (defScope st) [] ks f fd) : Fun K x q st f fd := by
  obtain ⟨⟨v1, v2, v3, v4, v5, v6, v7, v8, v9, v10, e1, e2, e3, e4, _⟩, kp⟩ := F
  have e5 : v3 = .none := e4.elim (fun z => z.2) (fun z => absurd rfl z.1)
  subst e5
  exact ⟨⟨v1, v2, v4, v5, v6, v7, v8, v9, v10, e1, e2, e3⟩, kp⟩
def spLaw (K : PySem.W.Frag) : Sp := fun vs H Q _ => ∃ (a : Addr) (ns : List Int), vs = [.ref a] ∧ SqL K H a (ns.map V.int) ∧ ∀ H', Q (.bl true) H'
end Z
namespace Z1
open PySem PySem.Spec PyProof.Rows L2 Z
theorem startL_dat {K : PySem.W.Frag} {G : Hp} {σ : L2.St} {q : Addr} {i : Nat} {d : DD} (h : (startL q)[i]? = some (.dat d)) : ∃ v, σ[i]? = some (some v) ∧ Rp K G v d := by
  have z : Ent.dat d ∈ startL q := List.mem_of_getElem? h
  unfold startL at z
  simp at z
theorem startL_own {q : Addr} {i : Nat} {ds : List DD} (h : (startL q)[i]? = some (.own ds)) : False := by
  have z : Ent.own ds ∈ startL q := List.mem_of_getElem? h
  unfold startL at z
  simp at z
theorem startL_adr {q b : Addr} {i : Nat} (h : (startL q)[i]? = some (.adr b)) : i = 1 ∧ b = q := by
  match i, h with
  | 0, h => cases h
  | 1, h => exact ⟨rfl, by injection (Option.some.inj h) with e; exact e.symm⟩
  | n + 2, h =>
    have z : Ent.adr b ∈ (startL q).drop 2 := List.mem_of_getElem? (i := n) (by rw [List.getElem?_drop]; rw [Nat.add_comm]; exact h)
    unfold startL at z
    simp at z
def d_key_of : He.DefD := ⟨("key_of", none), "key_of", "key_of", defArgs (topS 11), defBody (topS 11), defScope (topS 11), [], []⟩
def d_integer_bytes : He.DefD := ⟨("integer_bytes", none), "integer_bytes", "integer_bytes", defArgs (topS 12), defBody (topS 12), defScope (topS 12), [], []⟩
def d_text_bytes : He.DefD := ⟨("text_bytes", none), "text_bytes", "text_bytes", defArgs (topS 13), defBody (topS 13), defScope (topS 13), [], []⟩
def d_values_of : He.DefD := ⟨("values_of", none), "values_of", "values_of", defArgs (topS 14), defBody (topS 14), defScope (topS 14), [], []⟩
def d_value_at : He.DefD := ⟨("value_at", none), "value_at", "value_at", defArgs (topS 15), defBody (topS 15), defScope (topS 15), [], []⟩
def d_integer_of : He.DefD := ⟨("integer_of", none), "integer_of", "integer_of", defArgs (topS 16), defBody (topS 16), defScope (topS 16), [], []⟩
def d_text_of : He.DefD := ⟨("text_of", none), "text_of", "text_of", defArgs (topS 17), defBody (topS 17), defScope (topS 17), [], []⟩
def d_character_of : He.DefD := ⟨("character_of", none), "character_of", "character_of", defArgs (topS 18), defBody (topS 18), defScope (topS 18), [], []⟩
def d_prefix_range : He.DefD := ⟨("prefix_range", none), "prefix_range", "prefix_range", defArgs (topS 19), defBody (topS 19), defScope (topS 19), [], []⟩
def d_is_in : He.DefD := ⟨("is_in", none), "is_in", "is_in", defArgs (topS 20), defBody (topS 20), defScope (topS 20), [], []⟩
def d_meet : He.DefD := ⟨("meet", none), "meet", "meet", defArgs (topS 21), defBody (topS 21), defScope (topS 21), [], []⟩
def d_row_order : He.DefD := ⟨("row_order", none), "row_order", "row_order", defArgs (topS 22), defBody (topS 22), defScope (topS 22), [], []⟩
def d__law_next : He.DefD := ⟨("_law_next", none), "_law_next", "_law_next", defArgs (topS 24), defBody (topS 24), defScope (topS 24), [], []⟩
def d__law_same : He.DefD := ⟨("_law_same", none), "_law_same", "_law_same", defArgs (topS 25), defBody (topS 25), defScope (topS 25), [], []⟩
def d__law_value : He.DefD := ⟨("_law_value", none), "_law_value", "_law_value", defArgs (topS 26), defBody (topS 26), defScope (topS 26), [], []⟩
def d__law_characters : He.DefD := ⟨("_law_characters", none), "_law_characters", "_law_characters", defArgs (topS 27), defBody (topS 27), defScope (topS 27), [], []⟩
def d__law_bytes : He.DefD := ⟨("_law_bytes", none), "_law_bytes", "_law_bytes", defArgs (topS 28), defBody (topS 28), defScope (topS 28), [], []⟩
def d__law_read : He.DefD := ⟨("_law_read", none), "_law_read", "_law_read", defArgs (topS 29), defBody (topS 29), defScope (topS 29), [], []⟩
def d__law_order : He.DefD := ⟨("_law_order", none), "_law_order", "_law_order", defArgs (topS 30), defBody (topS 30), defScope (topS 30), [], []⟩
def d__law_agrees : He.DefD := ⟨("_law_agrees", none), "_law_agrees", "_law_agrees", defArgs (topS 31), defBody (topS 31), defScope (topS 31), [], []⟩
def d__law_ranges : He.DefD := ⟨("_law_ranges", none), "_law_ranges", "_law_ranges", defArgs (topS 32), defBody (topS 32), defScope (topS 32), [], []⟩
def d_law : He.DefD := ⟨("law", none), "law", "law", defArgs (topS 33), defBody (topS 33), defScope (topS 33), [], []⟩
def fnL : List He.DefD := [d_key_of, d_integer_bytes, d_text_bytes, d_values_of, d_value_at, d_integer_of, d_text_of, d_character_of, d_prefix_range, d_is_in, d_meet, d_row_order, d__law_next, d__law_same, d__law_value, d__law_characters, d__law_bytes, d__law_read, d__law_order, d__law_agrees, d__law_ranges, d_law]
def faL : List He.Fa := [.glo "key_of", .glo "integer_bytes", .glo "text_bytes", .glo "values_of", .glo "value_at", .glo "integer_of", .glo "text_of", .glo "character_of", .glo "prefix_range", .glo "is_in", .glo "meet", .glo "row_order", .glo "_law_next", .glo "_law_same", .glo "_law_value", .glo "_law_characters", .glo "_law_bytes", .glo "_law_read", .glo "_law_order", .glo "_law_agrees", .glo "_law_ranges", .glo "law", .free "len", .free "abs", .free "ord", .free "max", .free "min", .free "int", .free "str", .free "bool", .free "tuple", .free "list", .free "isinstance", .free "range", .int "BOUND" 1000000000, .int "LONGEST_TEXT" 6, .int "INTEGER" 1, .int "TEXT" 2, .int "BEYOND" 3, .int "SHIFT" 549755813888, .str "CHARACTERS" CH, .int "SPACE_CODE" 32, .int "PERCENT_CODE" 37, .int "TILDE_CODE" 126]
section
variable {K : PySem.W.Frag} {h : Heap} {mg : Str → Option Value}
theorem bltL (X : K.In h) (G : h.Ns mainGlobals mg) (c : He.SaysD faL fnL K) : Blt mg :=
  ⟨He.free_ok X G (c.fact 22 rfl), He.free_ok X G (c.fact 23 rfl), He.free_ok X G (c.fact 24 rfl), He.free_ok X G (c.fact 25 rfl), He.free_ok X G (c.fact 26 rfl), He.free_ok X G (c.fact 27 rfl), He.free_ok X G (c.fact 28 rfl), He.free_ok X G (c.fact 29 rfl), He.free_ok X G (c.fact 30 rfl), He.free_ok X G (c.fact 31 rfl), He.free_ok X G (c.fact 32 rfl), He.free_ok X G (c.fact 33 rfl)⟩
theorem D_key_of (X : K.In h) (G : h.Ns mainGlobals mg) (c : He.SaysD faL fnL K) : Dfn K mg "key_of" (topS 11) ["values"] := by
  obtain ⟨fd, F⟩ := c.def_ 0 (d := d_key_of) rfl
  have F2 : Fun K "key_of" "key_of" (topS 11) _ fd := fun_ofD (ks := []) F
  exact ⟨_, fd, F2, He.glo_ok X G (c.fact 0 (f := .glo "key_of") rfl), F2.binds (fun _ _ _ _ _ _ us hl => match us, hl with | [_], _ => rfl)⟩
theorem D_integer_bytes (X : K.In h) (G : h.Ns mainGlobals mg) (c : He.SaysD faL fnL K) : Dfn K mg "integer_bytes" (topS 12) ["number"] := by
  obtain ⟨fd, F⟩ := c.def_ 1 (d := d_integer_bytes) rfl
  have F2 : Fun K "integer_bytes" "integer_bytes" (topS 12) _ fd := fun_ofD (ks := []) F
  exact ⟨_, fd, F2, He.glo_ok X G (c.fact 1 (f := .glo "integer_bytes") rfl), F2.binds (fun _ _ _ _ _ _ us hl => match us, hl with | [_], _ => rfl)⟩
theorem D_text_bytes (X : K.In h) (G : h.Ns mainGlobals mg) (c : He.SaysD faL fnL K) : Dfn K mg "text_bytes" (topS 13) ["text"] := by
  obtain ⟨fd, F⟩ := c.def_ 2 (d := d_text_bytes) rfl
  have F2 : Fun K "text_bytes" "text_bytes" (topS 13) _ fd := fun_ofD (ks := []) F
  exact ⟨_, fd, F2, He.glo_ok X G (c.fact 2 (f := .glo "text_bytes") rfl), F2.binds (fun _ _ _ _ _ _ us hl => match us, hl with | [_], _ => rfl)⟩
theorem D_values_of (X : K.In h) (G : h.Ns mainGlobals mg) (c : He.SaysD faL fnL K) : Dfn K mg "values_of" (topS 14) ["key"] := by
  obtain ⟨fd, F⟩ := c.def_ 3 (d := d_values_of) rfl
  have F2 : Fun K "values_of" "values_of" (topS 14) _ fd := fun_ofD (ks := []) F
  exact ⟨_, fd, F2, He.glo_ok X G (c.fact 3 (f := .glo "values_of") rfl), F2.binds (fun _ _ _ _ _ _ us hl => match us, hl with | [_], _ => rfl)⟩
theorem D_value_at (X : K.In h) (G : h.Ns mainGlobals mg) (c : He.SaysD faL fnL K) : Dfn K mg "value_at" (topS 15) ["key", "at"] := by
  obtain ⟨fd, F⟩ := c.def_ 4 (d := d_value_at) rfl
  have F2 : Fun K "value_at" "value_at" (topS 15) _ fd := fun_ofD (ks := []) F
  exact ⟨_, fd, F2, He.glo_ok X G (c.fact 4 (f := .glo "value_at") rfl), F2.binds (fun _ _ _ _ _ _ us hl => match us, hl with | [_, _], _ => rfl)⟩
theorem D_integer_of (X : K.In h) (G : h.Ns mainGlobals mg) (c : He.SaysD faL fnL K) : Dfn K mg "integer_of" (topS 16) ["digits"] := by
  obtain ⟨fd, F⟩ := c.def_ 5 (d := d_integer_of) rfl
  have F2 : Fun K "integer_of" "integer_of" (topS 16) _ fd := fun_ofD (ks := []) F
  exact ⟨_, fd, F2, He.glo_ok X G (c.fact 5 (f := .glo "integer_of") rfl), F2.binds (fun _ _ _ _ _ _ us hl => match us, hl with | [_], _ => rfl)⟩
theorem D_text_of (X : K.In h) (G : h.Ns mainGlobals mg) (c : He.SaysD faL fnL K) : Dfn K mg "text_of" (topS 17) ["codes"] := by
  obtain ⟨fd, F⟩ := c.def_ 6 (d := d_text_of) rfl
  have F2 : Fun K "text_of" "text_of" (topS 17) _ fd := fun_ofD (ks := []) F
  exact ⟨_, fd, F2, He.glo_ok X G (c.fact 6 (f := .glo "text_of") rfl), F2.binds (fun _ _ _ _ _ _ us hl => match us, hl with | [_], _ => rfl)⟩
theorem D_character_of (X : K.In h) (G : h.Ns mainGlobals mg) (c : He.SaysD faL fnL K) : Dfn K mg "character_of" (topS 18) ["code"] := by
  obtain ⟨fd, F⟩ := c.def_ 7 (d := d_character_of) rfl
  have F2 : Fun K "character_of" "character_of" (topS 18) _ fd := fun_ofD (ks := []) F
  exact ⟨_, fd, F2, He.glo_ok X G (c.fact 7 (f := .glo "character_of") rfl), F2.binds (fun _ _ _ _ _ _ us hl => match us, hl with | [_], _ => rfl)⟩
theorem D_prefix_range (X : K.In h) (G : h.Ns mainGlobals mg) (c : He.SaysD faL fnL K) : Dfn K mg "prefix_range" (topS 19) ["key"] := by
  obtain ⟨fd, F⟩ := c.def_ 8 (d := d_prefix_range) rfl
  have F2 : Fun K "prefix_range" "prefix_range" (topS 19) _ fd := fun_ofD (ks := []) F
  exact ⟨_, fd, F2, He.glo_ok X G (c.fact 8 (f := .glo "prefix_range") rfl), F2.binds (fun _ _ _ _ _ _ us hl => match us, hl with | [_], _ => rfl)⟩
theorem D_is_in (X : K.In h) (G : h.Ns mainGlobals mg) (c : He.SaysD faL fnL K) : Dfn K mg "is_in" (topS 20) ["key", "span"] := by
  obtain ⟨fd, F⟩ := c.def_ 9 (d := d_is_in) rfl
  have F2 : Fun K "is_in" "is_in" (topS 20) _ fd := fun_ofD (ks := []) F
  exact ⟨_, fd, F2, He.glo_ok X G (c.fact 9 (f := .glo "is_in") rfl), F2.binds (fun _ _ _ _ _ _ us hl => match us, hl with | [_, _], _ => rfl)⟩
theorem D_meet (X : K.In h) (G : h.Ns mainGlobals mg) (c : He.SaysD faL fnL K) : Dfn K mg "meet" (topS 21) ["first", "second"] := by
  obtain ⟨fd, F⟩ := c.def_ 10 (d := d_meet) rfl
  have F2 : Fun K "meet" "meet" (topS 21) _ fd := fun_ofD (ks := []) F
  exact ⟨_, fd, F2, He.glo_ok X G (c.fact 10 (f := .glo "meet") rfl), F2.binds (fun _ _ _ _ _ _ us hl => match us, hl with | [_, _], _ => rfl)⟩
theorem D_row_order (X : K.In h) (G : h.Ns mainGlobals mg) (c : He.SaysD faL fnL K) : Dfn K mg "row_order" (topS 22) ["values"] := by
  obtain ⟨fd, F⟩ := c.def_ 11 (d := d_row_order) rfl
  have F2 : Fun K "row_order" "row_order" (topS 22) _ fd := fun_ofD (ks := []) F
  exact ⟨_, fd, F2, He.glo_ok X G (c.fact 11 (f := .glo "row_order") rfl), F2.binds (fun _ _ _ _ _ _ us hl => match us, hl with | [_], _ => rfl)⟩
theorem D__law_next (X : K.In h) (G : h.Ns mainGlobals mg) (c : He.SaysD faL fnL K) : Dfn K mg "_law_next" (topS 24) ["state", "limit"] := by
  obtain ⟨fd, F⟩ := c.def_ 12 (d := d__law_next) rfl
  have F2 : Fun K "_law_next" "_law_next" (topS 24) _ fd := fun_ofD (ks := []) F
  exact ⟨_, fd, F2, He.glo_ok X G (c.fact 12 (f := .glo "_law_next") rfl), F2.binds (fun _ _ _ _ _ _ us hl => match us, hl with | [_, _], _ => rfl)⟩
theorem D__law_same (X : K.In h) (G : h.Ns mainGlobals mg) (c : He.SaysD faL fnL K) : Dfn K mg "_law_same" (topS 25) ["actual", "expected"] := by
  obtain ⟨fd, F⟩ := c.def_ 13 (d := d__law_same) rfl
  have F2 : Fun K "_law_same" "_law_same" (topS 25) _ fd := fun_ofD (ks := []) F
  exact ⟨_, fd, F2, He.glo_ok X G (c.fact 13 (f := .glo "_law_same") rfl), F2.binds (fun _ _ _ _ _ _ us hl => match us, hl with | [_, _], _ => rfl)⟩
theorem D__law_value (X : K.In h) (G : h.Ns mainGlobals mg) (c : He.SaysD faL fnL K) : Dfn K mg "_law_value" (topS 26) ["state"] := by
  obtain ⟨fd, F⟩ := c.def_ 14 (d := d__law_value) rfl
  have F2 : Fun K "_law_value" "_law_value" (topS 26) _ fd := fun_ofD (ks := []) F
  exact ⟨_, fd, F2, He.glo_ok X G (c.fact 14 (f := .glo "_law_value") rfl), F2.binds (fun _ _ _ _ _ _ us hl => match us, hl with | [_], _ => rfl)⟩
theorem D__law_characters (X : K.In h) (G : h.Ns mainGlobals mg) (c : He.SaysD faL fnL K) : Dfn K mg "_law_characters" (topS 27) [] := by
  obtain ⟨fd, F⟩ := c.def_ 15 (d := d__law_characters) rfl
  have F2 : Fun K "_law_characters" "_law_characters" (topS 27) _ fd := fun_ofD (ks := []) F
  exact ⟨_, fd, F2, He.glo_ok X G (c.fact 15 (f := .glo "_law_characters") rfl), F2.binds (fun _ _ _ _ _ _ us hl => match us, hl with | [], _ => rfl)⟩
theorem D__law_bytes (X : K.In h) (G : h.Ns mainGlobals mg) (c : He.SaysD faL fnL K) : Dfn K mg "_law_bytes" (topS 28) ["values"] := by
  obtain ⟨fd, F⟩ := c.def_ 16 (d := d__law_bytes) rfl
  have F2 : Fun K "_law_bytes" "_law_bytes" (topS 28) _ fd := fun_ofD (ks := []) F
  exact ⟨_, fd, F2, He.glo_ok X G (c.fact 16 (f := .glo "_law_bytes") rfl), F2.binds (fun _ _ _ _ _ _ us hl => match us, hl with | [_], _ => rfl)⟩
theorem D__law_read (X : K.In h) (G : h.Ns mainGlobals mg) (c : He.SaysD faL fnL K) : Dfn K mg "_law_read" (topS 29) ["key"] := by
  obtain ⟨fd, F⟩ := c.def_ 17 (d := d__law_read) rfl
  have F2 : Fun K "_law_read" "_law_read" (topS 29) _ fd := fun_ofD (ks := []) F
  exact ⟨_, fd, F2, He.glo_ok X G (c.fact 17 (f := .glo "_law_read") rfl), F2.binds (fun _ _ _ _ _ _ us hl => match us, hl with | [_], _ => rfl)⟩
theorem D__law_order (X : K.In h) (G : h.Ns mainGlobals mg) (c : He.SaysD faL fnL K) : Dfn K mg "_law_order" (topS 30) ["first", "second"] := by
  obtain ⟨fd, F⟩ := c.def_ 18 (d := d__law_order) rfl
  have F2 : Fun K "_law_order" "_law_order" (topS 30) _ fd := fun_ofD (ks := []) F
  exact ⟨_, fd, F2, He.glo_ok X G (c.fact 18 (f := .glo "_law_order") rfl), F2.binds (fun _ _ _ _ _ _ us hl => match us, hl with | [_, _], _ => rfl)⟩
theorem D__law_agrees (X : K.In h) (G : h.Ns mainGlobals mg) (c : He.SaysD faL fnL K) : Dfn K mg "_law_agrees" (topS 31) ["left", "right", "order"] := by
  obtain ⟨fd, F⟩ := c.def_ 19 (d := d__law_agrees) rfl
  have F2 : Fun K "_law_agrees" "_law_agrees" (topS 31) _ fd := fun_ofD (ks := []) F
  exact ⟨_, fd, F2, He.glo_ok X G (c.fact 19 (f := .glo "_law_agrees") rfl), F2.binds (fun _ _ _ _ _ _ us hl => match us, hl with | [_, _, _], _ => rfl)⟩
theorem D__law_ranges (X : K.In h) (G : h.Ns mainGlobals mg) (c : He.SaysD faL fnL K) : Dfn K mg "_law_ranges" (topS 32) ["keys", "strange"] := by
  obtain ⟨fd, F⟩ := c.def_ 20 (d := d__law_ranges) rfl
  have F2 : Fun K "_law_ranges" "_law_ranges" (topS 32) _ fd := fun_ofD (ks := []) F
  exact ⟨_, fd, F2, He.glo_ok X G (c.fact 20 (f := .glo "_law_ranges") rfl), F2.binds (fun _ _ _ _ _ _ us hl => match us, hl with | [_, _], _ => rfl)⟩
theorem D_law (X : K.In h) (G : h.Ns mainGlobals mg) (c : He.SaysD faL fnL K) : Dfn K mg "law" (topS 33) ["script"] := by
  obtain ⟨fd, F⟩ := c.def_ 21 (d := d_law) rfl
  have F2 : Fun K "law" "law" (topS 33) _ fd := fun_ofD (ks := []) F
  exact ⟨_, fd, F2, He.glo_ok X G (c.fact 21 (f := .glo "law") rfl), F2.binds (fun _ _ _ _ _ _ us hl => match us, hl with | [_], _ => rfl)⟩
theorem c_BOUND (X : K.In h) (G : h.Ns mainGlobals mg) (c : He.SaysD faL fnL K) : Cst mg "BOUND" (.int 1000000000) := by
  obtain ⟨t, e⟩ := He.int_ok X G (c.fact 34 (f := .int "BOUND" 1000000000) rfl)
  exact .int e
theorem c_LONGEST_TEXT (X : K.In h) (G : h.Ns mainGlobals mg) (c : He.SaysD faL fnL K) : Cst mg "LONGEST_TEXT" (.int 6) := by
  obtain ⟨t, e⟩ := He.int_ok X G (c.fact 35 (f := .int "LONGEST_TEXT" 6) rfl)
  exact .int e
theorem c_INTEGER (X : K.In h) (G : h.Ns mainGlobals mg) (c : He.SaysD faL fnL K) : Cst mg "INTEGER" (.int 1) := by
  obtain ⟨t, e⟩ := He.int_ok X G (c.fact 36 (f := .int "INTEGER" 1) rfl)
  exact .int e
theorem c_TEXT (X : K.In h) (G : h.Ns mainGlobals mg) (c : He.SaysD faL fnL K) : Cst mg "TEXT" (.int 2) := by
  obtain ⟨t, e⟩ := He.int_ok X G (c.fact 37 (f := .int "TEXT" 2) rfl)
  exact .int e
theorem c_BEYOND (X : K.In h) (G : h.Ns mainGlobals mg) (c : He.SaysD faL fnL K) : Cst mg "BEYOND" (.int 3) := by
  obtain ⟨t, e⟩ := He.int_ok X G (c.fact 38 (f := .int "BEYOND" 3) rfl)
  exact .int e
theorem c_SHIFT (X : K.In h) (G : h.Ns mainGlobals mg) (c : He.SaysD faL fnL K) : Cst mg "SHIFT" (.int 549755813888) := by
  obtain ⟨t, e⟩ := He.int_ok X G (c.fact 39 (f := .int "SHIFT" 549755813888) rfl)
  exact .int e
theorem c_CHARACTERS (X : K.In h) (G : h.Ns mainGlobals mg) (c : He.SaysD faL fnL K) : Cst mg "CHARACTERS" (.str CH) := by
  obtain ⟨t, e⟩ := He.str_ok X G (c.fact 40 (f := .str "CHARACTERS" CH) rfl)
  exact .str e
theorem c_SPACE_CODE (X : K.In h) (G : h.Ns mainGlobals mg) (c : He.SaysD faL fnL K) : Cst mg "SPACE_CODE" (.int 32) := by
  obtain ⟨t, e⟩ := He.int_ok X G (c.fact 41 (f := .int "SPACE_CODE" 32) rfl)
  exact .int e
theorem c_PERCENT_CODE (X : K.In h) (G : h.Ns mainGlobals mg) (c : He.SaysD faL fnL K) : Cst mg "PERCENT_CODE" (.int 37) := by
  obtain ⟨t, e⟩ := He.int_ok X G (c.fact 42 (f := .int "PERCENT_CODE" 37) rfl)
  exact .int e
theorem c_TILDE_CODE (X : K.In h) (G : h.Ns mainGlobals mg) (c : He.SaysD faL fnL K) : Cst mg "TILDE_CODE" (.int 126) := by
  obtain ⟨t, e⟩ := He.int_ok X G (c.fact 43 (f := .int "TILDE_CODE" 126) rfl)
  exact .int e
end
section
variable {P : Program} {wd : World} {K : PySem.W.Frag} {base h : Heap} {mg : Str → Option Value}
theorem Q__law_agrees (X : K.In h) (G : h.Ns mainGlobals mg) (c : He.SaysD faL fnL K) : Fnc P wd K mg base 1 "_law_agrees" F__law_agrees :=
  have B := bltL X G c
  fnc_mk (D__law_agrees X G c) S__law_agrees (fun f cdv A outer s H E hr => b__law_agrees B  cdv A outer s H E hr) h__law_agrees
theorem Q__law_characters (X : K.In h) (G : h.Ns mainGlobals mg) (c : He.SaysD faL fnL K) : Fnc P wd K mg base 1 "_law_characters" F__law_characters :=
  have B := bltL X G c
  fnc_mk (D__law_characters X G c) S__law_characters (fun f cdv A outer s H E hr => b__law_characters B  cdv A outer s H E hr) h__law_characters
theorem Q__law_next (X : K.In h) (G : h.Ns mainGlobals mg) (c : He.SaysD faL fnL K) : Sfn P wd K mg base 1 "_law_next" F__law_next :=
  have B := bltL X G c
  next_ok (D__law_next X G c) B
theorem Q__law_order (X : K.In h) (G : h.Ns mainGlobals mg) (c : He.SaysD faL fnL K) : Fnc P wd K mg base 1 "_law_order" F__law_order :=
  have B := bltL X G c
  fnc_mk (D__law_order X G c) S__law_order (fun f cdv A outer s H E hr => b__law_order B  cdv A outer s H E hr) h__law_order
theorem Q_character_of (X : K.In h) (G : h.Ns mainGlobals mg) (c : He.SaysD faL fnL K) : Fnc P wd K mg base 1 "character_of" F_character_of :=
  have B := bltL X G c
  fnc_mk (D_character_of X G c) S_character_of (fun f cdv A outer s H E hr => b_character_of B (c_SPACE_CODE X G c) (c_TILDE_CODE X G c) (c_PERCENT_CODE X G c) (c_CHARACTERS X G c) cdv A outer s H E hr) h_character_of
theorem Q_integer_bytes (X : K.In h) (G : h.Ns mainGlobals mg) (c : He.SaysD faL fnL K) : Fnc P wd K mg base 1 "integer_bytes" F_integer_bytes :=
  have B := bltL X G c
  fnc_mk (D_integer_bytes X G c) S_integer_bytes (fun f cdv A outer s H E hr => b_integer_bytes B (c_SHIFT X G c) (c_INTEGER X G c) cdv A outer s H E hr) h_integer_bytes
theorem Q_integer_of (X : K.In h) (G : h.Ns mainGlobals mg) (c : He.SaysD faL fnL K) : Fnc P wd K mg base 1 "integer_of" F_integer_of :=
  have B := bltL X G c
  fnc_mk (D_integer_of X G c) S_integer_of (fun f cdv A outer s H E hr => b_integer_of B (c_SHIFT X G c) (c_BOUND X G c) cdv A outer s H E hr) h_integer_of
theorem Q_is_in (X : K.In h) (G : h.Ns mainGlobals mg) (c : He.SaysD faL fnL K) : Fnc P wd K mg base 1 "is_in" F_is_in :=
  have B := bltL X G c
  fnc_mk (D_is_in X G c) S_is_in (fun f cdv A outer s H E hr => b_is_in B  cdv A outer s H E hr) h_is_in
theorem Q_meet (X : K.In h) (G : h.Ns mainGlobals mg) (c : He.SaysD faL fnL K) : Fnc P wd K mg base 1 "meet" F_meet :=
  have B := bltL X G c
  fnc_mk (D_meet X G c) S_meet (fun f cdv A outer s H E hr => b_meet B  cdv A outer s H E hr) h_meet
theorem Q_prefix_range (X : K.In h) (G : h.Ns mainGlobals mg) (c : He.SaysD faL fnL K) : Fnc P wd K mg base 1 "prefix_range" F_prefix_range :=
  have B := bltL X G c
  fnc_mk (D_prefix_range X G c) S_prefix_range (fun f cdv A outer s H E hr => b_prefix_range B (c_BEYOND X G c) cdv A outer s H E hr) h_prefix_range
theorem Q_row_order (X : K.In h) (G : h.Ns mainGlobals mg) (c : He.SaysD faL fnL K) : Fnc P wd K mg base 1 "row_order" F_row_order :=
  have B := bltL X G c
  fnc_mk (D_row_order X G c) S_row_order (fun f cdv A outer s H E hr => b_row_order B (c_TEXT X G c) (c_INTEGER X G c) cdv A outer s H E hr) h_row_order
theorem Q_text_bytes (X : K.In h) (G : h.Ns mainGlobals mg) (c : He.SaysD faL fnL K) : Fnc P wd K mg base 1 "text_bytes" F_text_bytes :=
  have B := bltL X G c
  fnc_mk (D_text_bytes X G c) S_text_bytes (fun f cdv A outer s H E hr => b_text_bytes B (c_TEXT X G c) cdv A outer s H E hr) h_text_bytes
theorem Q__law_bytes (X : K.In h) (G : h.Ns mainGlobals mg) (c : He.SaysD faL fnL K) : Fnc P wd K mg base 2 "_law_bytes" F__law_bytes :=
  have B := bltL X G c
  fnc_mk (D__law_bytes X G c) S__law_bytes (fun f cdv A outer s H E hr => b__law_bytes B (Q__law_characters X G c) cdv A outer s H E hr) h__law_bytes
theorem Q__law_read (X : K.In h) (G : h.Ns mainGlobals mg) (c : He.SaysD faL fnL K) : Fnc P wd K mg base 2 "_law_read" F__law_read :=
  have B := bltL X G c
  fnc_mk (D__law_read X G c) S__law_read (fun f cdv A outer s H E hr => b__law_read B (Q__law_characters X G c) cdv A outer s H E hr) h__law_read
theorem Q__law_value (X : K.In h) (G : h.Ns mainGlobals mg) (c : He.SaysD faL fnL K) : Sfn P wd K mg base 2 "_law_value" F__law_value :=
  have B := bltL X G c
  sfn_mk (D__law_value X G c) S__law_value (by decide) (fun f a l ns cdv A outer s H E hr => b__law_value B (Q__law_next X G c) (Q__law_characters X G c) a l ns cdv A outer s H E hr) h__law_value
theorem Q_key_of (X : K.In h) (G : h.Ns mainGlobals mg) (c : He.SaysD faL fnL K) : Fnc P wd K mg base 2 "key_of" F_key_of :=
  have B := bltL X G c
  fnc_mk (D_key_of X G c) S_key_of (fun f cdv A outer s H E hr => b_key_of B (Q_text_bytes X G c) (Q_integer_bytes X G c) cdv A outer s H E hr) h_key_of
theorem Q_text_of (X : K.In h) (G : h.Ns mainGlobals mg) (c : He.SaysD faL fnL K) : Fnc P wd K mg base 2 "text_of" F_text_of :=
  have B := bltL X G c
  fnc_mk (D_text_of X G c) S_text_of (fun f cdv A outer s H E hr => b_text_of B (Q_character_of X G c) (c_LONGEST_TEXT X G c) cdv A outer s H E hr) h_text_of
theorem Q_value_at (X : K.In h) (G : h.Ns mainGlobals mg) (c : He.SaysD faL fnL K) : Fnc P wd K mg base 3 "value_at" F_value_at :=
  have B := bltL X G c
  fnc_mk (D_value_at X G c) S_value_at (fun f cdv A outer s H E hr => b_value_at B (c_INTEGER X G c) (Q_integer_of X G c) (c_TEXT X G c) (Q_text_of X G c) cdv A outer s H E hr) h_value_at
theorem Q_values_of (X : K.In h) (G : h.Ns mainGlobals mg) (c : He.SaysD faL fnL K) : Fnc P wd K mg base 4 "values_of" F_values_of :=
  have B := bltL X G c
  fnc_mk (D_values_of X G c) S_values_of (fun f cdv A outer s H E hr => b_values_of B (Q_value_at X G c) cdv A outer s H E hr) h_values_of
theorem Q__law_same (X : K.In h) (G : h.Ns mainGlobals mg) (c : He.SaysD faL fnL K) : Fnc P wd K mg base 5 "_law_same" F__law_same :=
  have B := bltL X G c
  same_rec (D__law_same X G c) B 5
theorem Q__law_ranges (X : K.In h) (G : h.Ns mainGlobals mg) (c : He.SaysD faL fnL K) : Fnc P wd K mg base 6 "_law_ranges" F__law_ranges :=
  have B := bltL X G c
  fnc_mk (D__law_ranges X G c) S__law_ranges (fun f cdv A outer s H E hr => b__law_ranges B (Q__law_same X G c) (Q_meet X G c) (Q_is_in X G c) cdv A outer s H E hr) h__law_ranges
theorem law_fn {f : Addr} {fd : FuncData} (Fn : Fun K "law" "law" s_law f fd) (X : K.In h) (G : h.Ns mainGlobals mg) (c : He.SaysD faL fnL K) : FnOk P wd K mg base CX0 8 f fd ["script"] (spLaw K) := by
  have B := bltL X G c
  refine Fn.ok S_law (fun vs H Q E h => ?_) (fun cdv A outer s H vs Q E hr h => ?_)
  · obtain ⟨a, ns, rfl, _⟩ := h
    rfl
  obtain ⟨a, ns, rfl, hs, hq⟩ := h
  refine ⟨_, pss_cons (ps_set (i := 1) S_law.nd rfl (.inr rfl) (pe_lst (pa_cons (pe_callTy call_list_of (by rfl) B.list bt_list (pa_cons (pv 0) pa_nil)) (pa_cons pe_int (pa_cons pe_int (pa_cons pe_int pa_nil)))))) pss_any, ?_⟩
  refine ⟨_, rfl, a, _, rfl, .inl hs, fun l hl => ⟨by show 4 ≤ sizeLine; decide, fun q hp => ?_⟩⟩
  obtain ⟨ts, t1, t2⟩ := b_law B (Q__law_next X G c) (Q__law_value X G c) (Q__law_bytes X G c) (Q__law_same X G c) (Q_key_of X G c) (Q_values_of X G c) (Q_prefix_range X G c) (Q__law_order X G c) (Q__law_agrees X G c) (Q_row_order X G c) (Q_is_in X G c) (Q__law_read X G c) (Q__law_ranges X G c) q l ns cdv A outer s H E hr
  refine ⟨ts, t1, ?_⟩
  have hlq : l ≠ q := fun e => by
    subst e
    rw [upd_same] at hp
    cases hp
  have wd0 : (wst q l ns).W (upd (upd H l (.lst (ns.map V.int))) q (.lst [.ref l, .int 0, .int 0, .int 1])) := by
    refine ⟨?_, hlq, 0, 0, 1, upd_same, Nat.zero_le _, by decide, by decide, by decide⟩
    rw [upd_ne hlq]; exact upd_same
  have k0 : Okw (wst q l ns) (fun _ => none) (upd (upd H l (.lst (ns.map V.int))) q (.lst [.ref l, .int 0, .int 0, .int 1])) := by
    refine ⟨fun _ _ e => (nomatch e), wd0, fun _ _ => rfl, fun x hx => ?_⟩
    rcases hx with rfl | rfl
    · rw [upd_same]; exact fun z => nomatch z
    · rw [upd_ne hlq, upd_same]; exact fun z => nomatch z
  refine t2 (fun _ => none) _ (fun _ => none) _ (startL q) _ _ (endsD fun d => d = .bool true) k0 ⟨fun _ => none, k0.stp, Sub.rfl, ⟨rfl, fun i d h => ?_, fun i b h => ?_⟩, fun i es h => ?_, fun i j es fs b h => ?_⟩ (h_law q _ rfl) ⟨fun σ ρ H' s' h' => (by cases h'), fun v d G' H' s' r' h' => ?_, fun _ _ _ _ h' => h'.elim, fun _ _ _ _ h' => h'.elim⟩
  · exact startL_dat h
  · obtain ⟨rfl, rfl⟩ := startL_adr h
    rfl
  · exact (startL_own h).elim
  · exact (startL_own h).elim
  · subst h'
    cases r' with
    | bl b => exact hq _
end

theorem facts {P : Program} {w : World} {K : PySem.W.Frag} {h : Heap} {mg : Str → Option Value} {f : Addr} (X : K.In h) (G : h.Ns mainGlobals mg) (hfa : mg ("law" : Str) = some (.ref f)) (c : He.SaysD faL fnL K) :
    ∃ fd : FuncData, (∀ (s : Shared) (v : Value), BindsTo s fd ⟨[v], []⟩ [("script", v)]) ∧ ∀ base : Heap, FnOk P w K mg base CX0 8 f fd ["script"] (spLaw K) := by
  obtain ⟨fd, F⟩ := c.def_ 21 (d := d_law) rfl
  have Fn : Fun K "law" "law" (topS 33) _ fd := fun_ofD (ks := []) F
  have e := hfa.symm.trans (He.glo_ok X G (c.fact 21 (f := .glo "law") rfl))
  have ef := Value.ref.inj (Option.some.inj e)
  subst ef
  have b := FunD.bindsA (ps := ["script"]) F fun _ _ _ _ _ _ us hl => match us, hl with | [_], _ => rfl
  exact ⟨fd, fun s v => b s [v] rfl, fun base => law_fn Fn X G c⟩
abbrev R : PySem.W.OpenRow := PySem.W.OpenLaw.row PySem.Challenge.rw_sameanswer_k01_keys_and_ranges
abbrev hk : PySem.W.Hook := He.hookD 4 faL fnL
def ob (s : PySem.W.SharedT) : He.AlD := He.obsDG 4 faL fnL (HandSHeadRun.getT s)
theorem ob_eq (s : PySem.W.SharedT) : ob s = hk.obs s.abs := He.obsDG_eq (HandSHeadRun.getT_eq s)
def nmL : List PySem.Str := ["BOUND", "LONGEST_TEXT", "INTEGER", "TEXT", "BEYOND", "SHIFT", "CHARACTERS", "SPACE_CODE", "PERCENT_CODE", "TILDE_CODE", "key_of", "integer_bytes", "text_bytes", "values_of", "value_at", "integer_of", "text_of", "character_of", "prefix_range", "is_in", "meet", "row_order", "_law_next", "_law_same", "_law_value", "_law_characters", "_law_bytes", "_law_read", "_law_order", "_law_agrees", "_law_ranges"]
theorem run (w : World) : HandSHeadRun.RunEq R (PySem.W.view R.prog [33]) hk ob 2000 nmL w := by
  intro os
  kernel_rfl
end Z1
open PySem PySem.W PySem.Calls PyProof.Rows
set_option maxRecDepth 100000 in
set_option maxHeartbeats 0 in
theorem PySem.Challenge.cw_sameanswer_k01_keys_and_ranges_holds : PySem.Challenge.rw_sameanswer_k01_keys_and_ranges.Holds := by
  w_on; o_law
  refine HandSHeadRun.head_any (r := OpenLaw.row PySem.Challenge.rw_sameanswer_k01_keys_and_ranges) (q := view (OpenLaw.row PySem.Challenge.rw_sameanswer_k01_keys_and_ranges).prog [33]) (H := Z1.hk) (ob := Z1.ob) (M := 2000) (loose := Z1.nmL) (d := HandSHeadRun.topDef (OpenLaw.row PySem.Challenge.rw_sameanswer_k01_keys_and_ranges).prog 33) (kwd := []) Z1.ob_eq
    (by kernel_rfl) (fun s => by kernel_rfl) Z1.run (by kernel_rfl) (by kernel_rfl) (by kernel_rfl) (by rfl) (by first | assumption | decide +kernel) (by decide +kernel) ⟨rfl, rfl, rfl, rfl, rfl, by decide +kernel⟩ ?hw ?hc
  case hw => w_witness2
  case hc =>
    refine L2.walk_ofE (l := PySem.Challenge.rw_sameanswer_k01_keys_and_ranges) (n := 63) (k := 8) (x := "script") (CX := L2.CX0) rfl (by decide) (by kernel_rfl) ⟨rfl, by decide, by decide⟩ ?F (fun _ _ _ _ z => z)
    intro w mg fa h Y G hmg0
    obtain ⟨K, KX, c⟩ := Y
    have hmg : mg ("law" : PySem.Str) = some (.ref fa) := by
      have e : (HandSHeadRun.topDef (OpenLaw.row PySem.Challenge.rw_sameanswer_k01_keys_and_ranges).prog 33).name = ("law" : PySem.Str) := by kernel_rfl
      rw [← e]
      exact hmg0
    obtain ⟨fd, hb, hF⟩ := Z1.facts (P := (PySem.Challenge.rw_sameanswer_k01_keys_and_ranges).prog) (w := w) KX G hmg c
    exact ⟨K, fd, Z.spLaw K, KX, hb, fun H a ns hl _ hS => ⟨a, ns, rfl, hS, fun _ => rfl⟩, fun base _ _ => hF base⟩

