import PyProof.Rows.All
import Wide.All
import OpenK.AllK
import Wide.FinOn
import HandS.ForMost
import HandS.IsInst
import HandS.TupAny
import HandS.WideMore
import HandS.Deep
import HandS.Replace
import HandS.TupLe
import HandS.Walk
import HandS.Exc
import HandS.TryOnly
import HandS.ExcOwn
import HandS.WordsExc
import HandS.ExcIs
import HandS.HeadHook1
import KE.DataCmp
import KE.DataEq
import KE.DatumOrd
import KE.DataMinMax
import KE.GoesEnum
import KE.KStateDown
import HandS.Defaults
import HandS.Head0
import HandS.Head1
import HandS.Head2
import HandS.HeadEnd
import HandS.HeadHook2
import PySem.Challenge.RW_sameanswer_k40_pages_of_any_bytes
set_option Elab.async false
set_option linter.all false
set_option maxRecDepth 100000
set_option maxHeartbeats 4000000
/-! Z: a def's meaning over plain data (PyData): what each construct asks and gives, without the heap. -/
namespace Z
open PySem PySem.Spec PyProof.Rows L2

abbrev DD := PyData
def Sub (G H : Hp) : Prop := ∀ a o, G a = some o → H a = some o
theorem Sub.rfl {G : Hp} : Sub G G := fun _ _ h => h
theorem Sub.trans {G H I : Hp} (a : Sub G H) (b : Sub H I) : Sub G I := fun x o h => b x o (a x o h)
theorem Sub.rd {G H : Hp} (s : Sub G H) {a : Addr} {u : HO} (h : Rd G a u) : Rd H a u := by
  rcases h with h | ⟨o, h⟩
  · exact Or.inl (s a _ h)
  · exact Or.inr ⟨o, s a _ h⟩
theorem Sub.sqT {K : PySem.W.Frag} {G H : Hp} (s : Sub G H) {a : Addr} {xs : List V} (h : SqT K G a xs) : SqT K H a xs := by
  rcases h with h | h
  · exact Or.inl (s.rd h)
  · exact Or.inr h
theorem Sub.sqL {K : PySem.W.Frag} {G H : Hp} (s : Sub G H) {a : Addr} {xs : List V} (h : SqL K G a xs) : SqL K H a xs := by
  rcases h with h | h
  · exact Or.inl (s.rd h)
  · exact Or.inr h
theorem Sub.new {H : Hp} {p : Addr} {o : HO} (h : H p = none) : Sub H (upd H p o) := fun a u e => by
  rw [upd_ne (ne_of_none e h)]; exact e
theorem Sub.both {G H : Hp} (s : Sub G H) {p : Addr} {o : HO} : Sub (upd G p o) (upd H p o) := fun a u e => by
  by_cases h : a = p
  · subst h; rw [upd_same] at e ⊢; exact e
  · rw [upd_ne h] at e ⊢; exact s a u e

mutual
inductive Rp (K : PySem.W.Frag) (G : Hp) : V → DD → Prop
  | non : Rp K G .non .none
  | bl (b : Bool) : Rp K G (.bl b) (.bool b)
  | int (i : Int) : Rp K G (.int i) (.int i)
  | str (x : Str) : Rp K G (.str x) (.str x)
  | lst {a : Addr} {xs : List V} {ds : List DD} : G a = some (.lst xs) → RpAll K G xs ds → Rp K G (.ref a) (.list ds)
  | tup {a : Addr} {xs : List V} {ds : List DD} : SqT K G a xs → RpAll K G xs ds → Rp K G (.ref a) (.tuple ds)
inductive RpAll (K : PySem.W.Frag) (G : Hp) : List V → List DD → Prop
  | nil : RpAll K G [] []
  | cons {v : V} {vs : List V} {d : DD} {ds : List DD} : Rp K G v d → RpAll K G vs ds → RpAll K G (v :: vs) (d :: ds)
end
section
variable {K : PySem.W.Frag} {G H : Hp}
mutual
theorem Rp.mono (s : Sub G H) : ∀ {v : V} {d : DD}, Rp K G v d → Rp K H v d
  | _, _, .non => .non
  | _, _, .bl b => .bl b
  | _, _, .int i => .int i
  | _, _, .str x => .str x
  | _, _, .lst h r => .lst (s _ _ h) (RpAll.mono s r)
  | _, _, .tup h r => .tup (s.sqT h) (RpAll.mono s r)
theorem RpAll.mono (s : Sub G H) : ∀ {vs : List V} {ds : List DD}, RpAll K G vs ds → RpAll K H vs ds
  | _, _, .nil => .nil
  | _, _, .cons a b => .cons (Rp.mono s a) (RpAll.mono s b)
end
mutual
theorem Rp.dp : ∀ {v : V} {d : DD}, Rp K G v d → Dp K G v d
  | _, _, .non => .non
  | _, _, .bl b => .bl b
  | _, _, .int i => .int i
  | _, _, .str x => .str x
  | _, _, .lst h r => .lst (SqL.of h) (RpAll.dp r)
  | _, _, .tup h r => .tup h (RpAll.dp r)
theorem RpAll.dp : ∀ {vs : List V} {ds : List DD}, RpAll K G vs ds → DpAll K G vs ds
  | _, _, .nil => .nil
  | _, _, .cons a b => .cons (Rp.dp a) (RpAll.dp b)
end
theorem RpAll.len : ∀ {vs : List V} {ds : List DD}, RpAll K G vs ds → vs.length = ds.length
  | _, _, .nil => rfl
  | _, _, .cons _ b => congrArg (· + 1) (RpAll.len b)
theorem RpAll.get : ∀ {vs : List V} {ds : List DD} {i : Nat} {v : V}, RpAll K G vs ds → vs[i]? = some v → ∃ d, ds[i]? = some d ∧ Rp K G v d
  | _, _, _, _, .nil, h => by simp at h
  | _, _, 0, _, .cons a b, h => by
    have e := Option.some.inj h
    subst e
    exact ⟨_, rfl, a⟩
  | _, _, i + 1, _, .cons a b, h => RpAll.get (i := i) b h
theorem RpAll.getD : ∀ {vs : List V} {ds : List DD} {i : Nat} {d : DD}, RpAll K G vs ds → ds[i]? = some d → ∃ v, vs[i]? = some v ∧ Rp K G v d
  | _, _, _, _, .nil, h => by simp at h
  | _, _, 0, _, .cons a b, h => by
    have e := Option.some.inj h
    subst e
    exact ⟨_, rfl, a⟩
  | _, _, i + 1, _, .cons a b, h => RpAll.getD (i := i) b h
theorem RpAll.append : ∀ {vs ws : List V} {ds es : List DD}, RpAll K G vs ds → RpAll K G ws es → RpAll K G (vs ++ ws) (ds ++ es)
  | _, _, _, _, .nil, h => h
  | _, _, _, _, .cons a b, h => .cons a (RpAll.append b h)
theorem RpAll.take : ∀ {vs : List V} {ds : List DD} (n : Nat), RpAll K G vs ds → RpAll K G (vs.take n) (ds.take n)
  | _, _, 0, _ => .nil
  | _, _, _ + 1, .nil => .nil
  | _, _, n + 1, .cons a b => .cons a (RpAll.take n b)
theorem RpAll.drop : ∀ {vs : List V} {ds : List DD} (n : Nat), RpAll K G vs ds → RpAll K G (vs.drop n) (ds.drop n)
  | _, _, 0, h => h
  | _, _, _ + 1, .nil => .nil
  | _, _, n + 1, .cons a b => RpAll.drop n b
end

/-! ### the world: what may turn besides -/
/-- fp: where what W says stands; st: what of it may turn -/
structure Wd where
  st : Addr → Prop
  fp : Addr → Prop
  W : Hp → Prop
  sf : ∀ a, st a → fp a
  loc : ∀ {H H' : Hp}, (∀ a, fp a → H' a = H a) → W H → W H'
  /-- what is wished where an error leaves -/
  ex : WX
def Wd.zero : Wd := ⟨fun _ => False, fun _ => False, fun _ => True, fun _ h => h, fun _ _ => trivial, fun _ _ _ _ => False⟩
/-- the same world with another wish -/
def Wd.wish (w : Wd) (W : WX) : Wd := { w with ex := W }
structure Okw (w : Wd) (G H : Hp) : Prop where
  sub : Sub G H
  wd : w.W H
  out : ∀ a, w.st a → G a = none
  here : ∀ a, w.fp a → H a ≠ none
structure Stp (w : Wd) (G H G2 H2 : Hp) : Prop where
  sub : Sub G2 H2
  up : Sub G G2
  kp : ∀ a o, ¬ w.st a → H a = some o → H2 a = some o
  th : ∀ a, H a ≠ none → H2 a ≠ none
  nw : ∀ a, H a ≠ none → G a = none → G2 a = none
  wd : w.W H2
section
variable {w : Wd} {G H G2 H2 G3 H3 : Hp}
theorem Okw.stp (k : Okw w G H) : Stp w G H G H := ⟨k.sub, Sub.rfl, fun _ _ _ h => h, fun _ h => h, fun _ _ h => h, k.wd⟩
theorem Stp.trans (a : Stp w G H G2 H2) (b : Stp w G2 H2 G3 H3) : Stp w G H G3 H3 :=
  ⟨b.sub, a.up.trans b.up, fun x o n h => b.kp x o n (a.kp x o n h), fun x h => b.th x (a.th x h), fun x h n => b.nw x (a.th x h) (a.nw x h n), b.wd⟩
theorem Stp.okw (k : Okw w G H) (a : Stp w G H G2 H2) : Okw w G2 H2 :=
  ⟨a.sub, a.wd, fun x h => a.nw x (k.here x (w.sf x h)) (k.out x h), fun x h => a.th x (k.here x h)⟩
theorem Okw.new (k : Okw w G H) {p : Addr} {o : HO} (h : H p = none) : w.W (upd H p o) := w.loc (fun a f => upd_ne fun z => k.here a f (by rw [z]; exact h)) k.wd
theorem Stp.new (k : Okw w G H) {p : Addr} {o : HO} (h : H p = none) : Stp w G H (upd G p o) (upd H p o) := by
  have gp : G p = none := by
    cases e : G p with
    | none => rfl
    | some u => rw [k.sub p u e] at h; cases h
  refine ⟨k.sub.both, Sub.new gp, fun a u _ e => Sub.new h a u e, fun a e => ?_, fun a e n => ?_, k.new h⟩
  · have ne : a ≠ p := fun z => e (by rw [z]; exact h)
    rw [upd_ne ne]; exact e
  · have ne : a ≠ p := fun z => e (by rw [z]; exact h)
    rw [upd_ne ne]; exact n
/-- a new object that G does not take up -/
theorem Stp.new0 (k : Okw w G H) {p : Addr} {o : HO} (h : H p = none) : Stp w G H G (upd H p o) := by
  refine ⟨k.sub.trans (Sub.new h), Sub.rfl, fun a u _ e => Sub.new h a u e, fun a e => ?_, fun a e n => n, k.new h⟩
  have ne : a ≠ p := fun z => e (by rw [z]; exact h)
  rw [upd_ne ne]; exact e
theorem Okw.g_none (k : Okw w G H) {p : Addr} (h : H p = none) : G p = none := by
  cases e : G p with
  | none => rfl
  | some u => rw [k.sub p u e] at h; cases h
/-- something that was new is written -/
theorem Stp.mut {H0 G0 : Hp} (k0 : Okw w G0 H0) (a : Stp w G0 H0 G H) {p : Addr} {o : HO} (h0 : H0 p = none) (hg : G p = none) : Stp w G0 H0 G (upd H p o) := by
  refine ⟨fun x u e => ?_, a.up, fun x u n e => ?_, fun x e => ?_, a.nw, w.loc (fun x f => upd_ne fun z => k0.here x f (by rw [z]; exact h0)) a.wd⟩
  · rw [upd_ne (ne_of_none e hg)]; exact a.sub x u e
  · rw [upd_ne (ne_of_none e h0)]; exact a.kp x u n e
  · rw [upd_ne (fun z => e (by rw [z]; exact h0))]; exact a.th x e
theorem Okw.mut (k : Okw w G H) {p : Addr} {o : HO} (hf : ¬ w.fp p) (hg : G p = none) : Okw w G (upd H p o) := by
  refine ⟨fun x u e => ?_, w.loc (fun x f => upd_ne fun (z : x = p) => hf (by rw [← z]; exact f)) k.wd, k.out, fun x f => ?_⟩
  · rw [upd_ne (ne_of_none e hg)]; exact k.sub x u e
  · rw [upd_ne fun (z : x = p) => hf (by rw [← z]; exact f)]; exact k.here x f
/-- what a pure callee did, in any world -/
theorem Stp.lift (k : Okw w G H) (a : Stp Wd.zero G H G2 H2) : Stp w G H G2 H2 :=
  ⟨a.sub, a.up, fun x o _ h => a.kp x o (fun z => z) h, a.th, a.nw, w.loc (fun x f => by
    cases e : H x with
    | none => exact absurd e (k.here x f)
    | some o => exact a.kp x o (fun z => z) e) k.wd⟩
theorem Okw.zero (k : Okw w G H) : Okw Wd.zero G H := ⟨k.sub, trivial, fun _ h => h.elim, fun _ h => h.elim⟩
theorem Okw.wish {W : WX} (k : Okw w G H) : Okw (w.wish W) G H := ⟨k.sub, k.wd, k.out, k.here⟩
theorem Stp.wish {W : WX} (a : Stp w G H G2 H2) : Stp (w.wish W) G H G2 H2 := ⟨a.sub, a.up, a.kp, a.th, a.nw, a.wd⟩
theorem Stp.unwish {W : WX} (a : Stp (w.wish W) G H G2 H2) : Stp w G H G2 H2 := ⟨a.sub, a.up, a.kp, a.th, a.nw, a.wd⟩
end

/-! ### slots -/
inductive Ent where
  | un
  | dat (d : DD)
  | adr (a : Addr)
  | own (ds : List DD)
abbrev En := List Ent
structure SlOk (K : PySem.W.Frag) (G : Hp) (σ : L2.St) (ρ : En) : Prop where
  len : σ.length = ρ.length
  dat : ∀ (i : Nat) d, ρ[i]? = some (.dat d) → ∃ v, σ[i]? = some (some v) ∧ Rp K G v d
  adr : ∀ (i : Nat) a, ρ[i]? = some (.adr a) → σ[i]? = some (some (.ref a))
theorem SlOk.mono {K : PySem.W.Frag} {G H : Hp} {σ : L2.St} {ρ : En} (s : Sub G H) (h : SlOk K G σ ρ) : SlOk K H σ ρ :=
  ⟨h.len, fun i d e => let ⟨v, a, b⟩ := h.dat i d e; ⟨v, a, b.mono s⟩, h.adr⟩

/-! ### the readings over data -/
abbrev DE := En → (DD → Prop) → Prop
abbrev DT := En → (Bool → Prop) → Prop
abbrev DA := En → (List DD → Prop) → Prop
def RE (w : Wd) (K : PySem.W.Frag) (te : TE) (td : DE) : Prop := ∀ σ ρ G H (P : DD → Prop) (Q : VK), Okw w G H → SlOk K G σ ρ → td ρ P →
  (∀ v d G2 H2, Stp w G H G2 H2 → Rp K G2 v d → P d → Q v H2) → te σ H Q
def RT (w : Wd) (K : PySem.W.Frag) (tt : TT) (td : DT) : Prop := ∀ σ ρ G H (P : Bool → Prop) (Q : Bool → Hp → Prop), Okw w G H → SlOk K G σ ρ → td ρ P →
  (∀ b G2 H2, Stp w G H G2 H2 → P b → Q b H2) → tt σ H Q
def RA (w : Wd) (K : PySem.W.Frag) (n : Nat) (ta : TA) (td : DA) : Prop := ∀ σ ρ G H (P : List DD → Prop) (Q : List V → Hp → Prop), Okw w G H → SlOk K G σ ρ → td ρ P →
  (∀ vs ds G2 H2, Stp w G H G2 H2 → RpAll K G2 vs ds → vs.length = n → P ds → Q vs H2) → ta σ H Q
/-- a new list that nobody knows yet -/
def RN (w : Wd) (K : PySem.W.Frag) (te : TE) (td : DA) : Prop := ∀ σ ρ G H (P : List DD → Prop) (Q : VK), Okw w G H → SlOk K G σ ρ → td ρ P →
  (∀ p xs ds G2 H2, Stp w G H G2 H2 → H p = none → G2 p = none → H2 p = some (.lst xs) → RpAll K G2 xs ds → P ds → Q (.ref p) H2) → te σ H Q
structure PD (w : Wd) (X : Cx) (e : Expr) (td : DE) : Prop where
  ex : ∃ te, PE X e te ∧ RE w X.K te td
structure PDT (w : Wd) (X : Cx) (e : Expr) (td : DT) : Prop where
  ex : ∃ te, PT X e te ∧ RT w X.K te td
structure PDW (w : Wd) (X : Cx) (e : Expr) (td : DT) : Prop where
  ex : ∃ te, PW X e te ∧ RT w X.K te td
structure PDA (w : Wd) (X : Cx) (es : List Expr) (td : DA) : Prop where
  ex : ∃ te, PA X es te ∧ RA w X.K es.length te td
structure PDN (w : Wd) (X : Cx) (e : Expr) (td : DA) : Prop where
  ex : ∃ te, PE X e te ∧ RN w X.K te td
/-- an operation on two data -/
abbrev D2 := DD → DD → (DD → Prop) → Prop
def RO (w : Wd) (K : PySem.W.Frag) (r : R2) (g : D2) : Prop := ∀ x y d e G H (P : DD → Prop) (Q : VK), Okw w G H → Rp K G x d → Rp K G y e → g d e P →
  (∀ v d G2 H2, Stp w G H G2 H2 → Rp K G2 v d → P d → Q v H2) → r x y H Q
def OpD (w : Wd) (X : Cx) (f : Value → Value → Sem Value) (g : D2) : Prop := ∃ r, OpR X f r ∧ RO w X.K r g
/-- a call on data -/
abbrev D1 := List DD → (DD → Prop) → Prop
def RC (w : Wd) (K : PySem.W.Frag) (r : List V → Hp → VK → Prop) (g : D1) : Prop := ∀ xs ds G H (P : DD → Prop) (Q : VK), Okw w G H → RpAll K G xs ds → g ds P →
  (∀ v d G2 H2, Stp w G H G2 H2 → Rp K G2 v d → P d → Q v H2) → r xs H Q
def CallD (w : Wd) (X : Cx) (f : Value) (g : D1) : Prop := ∃ r, CallR X f r ∧ RC w X.K r g

section
variable {w : Wd} {X : Cx} {a b e : Expr} {es : List Expr} {ta tb : DE} {pos : Pos}

def dN (i : Nat) : DE := fun ρ P => match ρ[i]? with
  | some (.dat d) => P d
  | _ => False
theorem pd_n (i : Nat) {x : Str} {pos : Pos} (hN : X.N[i]? = some x := by rfl) (hv : Vis X.env.scope x := by first | exact Or.inl rfl | exact Or.inr (Or.inl rfl) | exact Or.inr (Or.inr rfl)) (hd : (x == ("__debug__" : Str)) = false := by decide)
    (hcd : (x == ("__classdict__" : Str)) = false := by decide) : PD w X (.Name x pos) (dN i) := by
  refine ⟨_, pe_var hN hv hd hcd, fun σ ρ G H P Q k s h q => ?_⟩
  unfold dN at h
  split at h
  · rename_i d e1
    obtain ⟨v, e2, r⟩ := s.dat _ _ e1
    exact ⟨v, e2, q v d G H k.stp r h⟩
  · exact h.elim
def dC (d : DD) : DE := fun _ P => P d
theorem pd_int {i j pos} : PD w X (.Constant (.int i) j pos) (dC (.int i)) := ⟨_, pe_int, fun _ _ G H _ _ k _ h q => q _ _ G H k.stp (.int i) h⟩
theorem pd_bl {i j pos} : PD w X (.Constant (.bool i) j pos) (dC (.bool i)) := ⟨_, pe_bl, fun _ _ G H _ _ k _ h q => q _ _ G H k.stp (.bl i) h⟩
theorem pd_non {j pos} : PD w X (.Constant .none j pos) (dC .none) := ⟨_, pe_non, fun _ _ G H _ _ k _ h q => q _ _ G H k.stp .non h⟩
theorem pd_str {i j pos} : PD w X (.Constant (.str i) j pos) (dC (.str i)) := ⟨_, pe_str, fun _ _ G H _ _ k _ h q => q _ _ G H k.stp (.str i) h⟩
theorem pd_gi {x : Str} {u : Tok} {i : Int} {pos : Pos} (hm : X.mg x = some (.int i u)) (hg : Gl X x := by rfl) (hd : (x == ("__debug__" : Str)) = false := by decide) : PD w X (.Name x pos) (dC (.int i)) :=
  ⟨_, pe_glob (v := .int i) hg hm ⟨_, rfl⟩ hd, fun _ _ G H _ _ k _ h q => q _ _ G H k.stp (.int i) h⟩
theorem pd_gs {x : Str} {u : Tok} {i : Str} {pos : Pos} (hm : X.mg x = some (.str i u)) (hg : Gl X x := by rfl) (hd : (x == ("__debug__" : Str)) = false := by decide) : PD w X (.Name x pos) (dC (.str i)) :=
  ⟨_, pe_glob (v := .str i) hg hm ⟨_, rfl⟩ hd, fun _ _ G H _ _ k _ h q => q _ _ G H k.stp (.str i) h⟩
/-! two in a row -/
def dOp (g : D2) (ta tb : DE) : DE := fun ρ P => ta ρ fun x => tb ρ fun y => g x y P
theorem re_op {r : R2} {g : D2} {ta' tb' : TE} (ho : RO w X.K r g) (ha : RE w X.K ta' ta) (hb : RE w X.K tb' tb) : RE w X.K (tOp r ta' tb') (dOp g ta tb) := by
  intro σ ρ G H P Q k s h q
  refine ha σ ρ G H _ _ k s h fun x d G1 H1 s1 r1 p1 => ?_
  refine hb σ ρ G1 H1 _ _ (s1.okw k) (s.mono s1.up) p1 fun y e G2 H2 s2 r2 p2 => ?_
  exact ho x y d e G2 H2 P Q (s2.okw (s1.okw k)) (r1.mono s2.up) r2 p2 fun v d G3 H3 s3 => q v d G3 H3 ((s1.trans s2).trans s3)
theorem pd_op {op : Operator} {g : D2} (ho : OpD w X (binaryOp op) g) (ha : PD w X a ta) (hb : PD w X b tb) : PD w X (.BinOp a op b pos) (dOp g ta tb) := by
  obtain ⟨r, o1, o2⟩ := ho
  obtain ⟨ta', a1, a2⟩ := ha
  obtain ⟨tb', b1, b2⟩ := hb
  exact ⟨_, pe_op o1 a1 b1, re_op o2 a2 b2⟩
def dUn (g : DD → (DD → Prop) → Prop) (ta : DE) : DE := fun ρ P => ta ρ fun x => g x P
def gNeg : DD → (DD → Prop) → Prop := fun x P => match x with
  | .int i => P (.int (-i))
  | _ => False
theorem pd_neg (ha : PD w X a ta) : PD w X (.UnaryOp .USub a pos) (dUn gNeg ta) := by
  obtain ⟨ta', a1, a2⟩ := ha
  refine ⟨_, pe_un un_neg a1, fun σ ρ G H P Q k s h q => ?_⟩
  refine a2 σ ρ G H _ _ k s h fun x d G1 H1 s1 r1 p1 => ?_
  cases r1 with
  | int i => exact ⟨i, rfl, q _ _ G1 H1 s1 (.int _) p1⟩
  | _ => exact p1.elim
def gIsN : D2 := fun x y P => match y with
  | .none => P (.bool (match x with | .none => true | _ => false))
  | _ => False
theorem od_isN : OpD w X (compareOp .Is) gIsN := by
  refine ⟨_, op_isN, fun x y d e G H P Q k r1 r2 h q => ?_⟩
  cases r2 with
  | non =>
    refine ⟨rfl, ?_⟩
    cases r1 <;> exact q _ _ G H k.stp (.bl _) h
  | _ => exact h.elim
def gNotN : D2 := fun x y P => match y with
  | .none => P (.bool (match x with | .none => false | _ => true))
  | _ => False
theorem od_notN : OpD w X (compareOp .IsNot) gNotN := by
  refine ⟨_, op_notN, fun x y d e G H P Q k r1 r2 h q => ?_⟩
  cases r2 with
  | non =>
    refine ⟨rfl, ?_⟩
    cases r1 <;> exact q _ _ G H k.stp (.bl _) h
  | _ => exact h.elim
/-! comparisons, as values and as tests -/
theorem pd_cmp {op : CmpOp} {g : D2} (ho : OpD w X (compareOp op) g) (ha : PD w X a ta) (hb : PD w X b tb) (hm : behindInMarks op b = false := by first | exact nomark _ (by decide) (by decide) | rfl) : PD w X (.Compare a [op] [b] pos) (dOp g ta tb) := by
  obtain ⟨r, o1, o2⟩ := ho
  obtain ⟨ta', a1, a2⟩ := ha
  obtain ⟨tb', b1, b2⟩ := hb
  exact ⟨_, pe_cmpR o1 a1 b1 hm, re_op o2 a2 b2⟩
def asB (P : Bool → Prop) : DD → Prop := fun x => match x with
  | .bool b => P b
  | _ => False
def dT (td : DE) : DT := fun ρ P => td ρ (asB P)
theorem rt_of {K : PySem.W.Frag} {te : TE} {td : DE} (h : RE w K te td) : RT w K (tTest te) (dT td) := by
  intro σ ρ G H P Q k s h1 q
  refine h σ ρ G H _ _ k s h1 fun v d G2 H2 s2 r p => ?_
  cases r with
  | bl b => exact ⟨b, rfl, q b G2 H2 s2 p⟩
  | _ => exact p.elim
theorem pt_cm {op : CmpOp} {g : D2} (ho : OpD w X (compareOp op) g) (ha : PD w X a ta) (hb : PD w X b tb) (hm : behindInMarks op b = false := by first | exact nomark _ (by decide) (by decide) | rfl) : PDT w X (.Compare a [op] [b] pos) (dT (dOp g ta tb)) := by
  obtain ⟨r, o1, o2⟩ := ho
  obtain ⟨ta', a1, a2⟩ := ha
  obtain ⟨tb', b1, b2⟩ := hb
  exact ⟨_, pt_cmpR o1 a1 b1 hm, rt_of (re_op o2 a2 b2)⟩
theorem pt_v {td : DE} (h : PD w X e td) (he : ∀ whole, isTrue e X.env whole = (do let v ← whole; standAt e.pos; holding [v] (truthy v)) := by intro _; rfl) : PDT w X e (dT td) := by
  obtain ⟨te, e1, e2⟩ := h
  exact ⟨_, pt_val e1 he, rt_of e2⟩
variable {tA tB : DT} {rest : List Expr}
def dAnd (t u : DT) : DT := fun ρ P => t ρ fun c => if c = true then u ρ P else P false
def dOr (t u : DT) : DT := fun ρ P => t ρ fun c => if c = true then P true else u ρ P
def dNot (t : DT) : DT := fun ρ P => t ρ fun c => P (!c)
theorem rt_and {K : PySem.W.Frag} {t u : TT} (ht : RT w K t tA) (hu : RT w K u tB) : RT w K (tAnd t u) (dAnd tA tB) := by
  intro σ ρ G H P Q k s h q
  refine ht σ ρ G H _ _ k s h fun b G1 H1 s1 p1 => ?_
  cases b with
  | true =>
    rw [if_pos rfl] at p1 ⊢
    exact hu σ ρ G1 H1 _ _ (s1.okw k) (s.mono s1.up) p1 fun b G2 H2 s2 => q b G2 H2 (s1.trans s2)
  | false => exact q false G1 H1 s1 p1
theorem rt_or {K : PySem.W.Frag} {t u : TT} (ht : RT w K t tA) (hu : RT w K u tB) : RT w K (tOr t u) (dOr tA tB) := by
  intro σ ρ G H P Q k s h q
  refine ht σ ρ G H _ _ k s h fun b G1 H1 s1 p1 => ?_
  cases b with
  | false =>
    rw [if_neg Bool.false_ne_true] at p1 ⊢
    exact hu σ ρ G1 H1 _ _ (s1.okw k) (s.mono s1.up) p1 fun b G2 H2 s2 => q b G2 H2 (s1.trans s2)
  | true => exact q true G1 H1 s1 p1
theorem pw_a1 (ha : PDT w X a tA) : PDW w X (.BoolOp .And [a] pos) tA := by
  obtain ⟨t, h1, h2⟩ := ha
  exact ⟨_, pw_and1 h1, h2⟩
theorem pw_o1 (ha : PDT w X a tA) : PDW w X (.BoolOp .Or [a] pos) tA := by
  obtain ⟨t, h1, h2⟩ := ha
  exact ⟨_, pw_or1 h1, h2⟩
theorem pw_a (ha : PDT w X a tA) (hb : PDW w X (.BoolOp .And (b :: rest) pos) tB) : PDW w X (.BoolOp .And (a :: b :: rest) pos) (dAnd tA tB) := by
  obtain ⟨t, h1, h2⟩ := ha
  obtain ⟨u, h3, h4⟩ := hb
  exact ⟨_, pw_and h1 h3, rt_and h2 h4⟩
theorem pw_o (ha : PDT w X a tA) (hb : PDW w X (.BoolOp .Or (b :: rest) pos) tB) : PDW w X (.BoolOp .Or (a :: b :: rest) pos) (dOr tA tB) := by
  obtain ⟨t, h1, h2⟩ := ha
  obtain ⟨u, h3, h4⟩ := hb
  exact ⟨_, pw_or h1 h3, rt_or h2 h4⟩
theorem PDW.t (h : PDW w X e tA) : PDT w X e tA := by
  obtain ⟨t, h1, h2⟩ := h
  exact ⟨_, h1.pt, h2⟩
theorem pt_no (ha : PDT w X a tA) : PDT w X (.UnaryOp .Not a pos) (dNot tA) := by
  obtain ⟨t, h1, h2⟩ := ha
  exact ⟨_, L2.pt_not h1, fun σ ρ G H P Q k s h q => h2 σ ρ G H _ _ k s h fun b G2 H2 s2 p => q _ G2 H2 s2 p⟩
/-! and, or, not of truth values, as values -/
def dAndV (ta tb : DE) : DE := fun ρ P => ta ρ (asB fun c => if c = true then tb ρ P else P (.bool false))
def dOrV (ta tb : DE) : DE := fun ρ P => ta ρ (asB fun c => if c = true then P (.bool true) else tb ρ P)
def dNotV (ta : DE) : DE := fun ρ P => ta ρ (asB fun c => P (.bool (!c)))
theorem pd_one {op} (ha : PD w X a ta) : PD w X (.BoolOp op [a] pos) ta := by
  obtain ⟨t, h1, h2⟩ := ha
  exact ⟨_, pe_one h1, h2⟩
theorem pd_and (ha : PD w X a ta) (hb : PD w X (.BoolOp .And (b :: rest) pos) tb) : PD w X (.BoolOp .And (a :: b :: rest) pos) (dAndV ta tb) := by
  obtain ⟨t, h1, h2⟩ := ha
  obtain ⟨u, h3, h4⟩ := hb
  refine ⟨_, pe_and h1 h3, fun σ ρ G H P Q k s h q => ?_⟩
  refine h2 σ ρ G H _ _ k s h fun x d G1 H1 s1 r1 p1 => ?_
  cases r1 with
  | bl c =>
    refine ⟨c, rfl, ?_⟩
    cases c with
    | true => exact h4 σ ρ G1 H1 _ _ (s1.okw k) (s.mono s1.up) p1 fun v d G2 H2 s2 => q v d G2 H2 (s1.trans s2)
    | false => exact q _ _ G1 H1 s1 (.bl false) p1
  | _ => exact p1.elim
theorem pd_or (ha : PD w X a ta) (hb : PD w X (.BoolOp .Or (b :: rest) pos) tb) : PD w X (.BoolOp .Or (a :: b :: rest) pos) (dOrV ta tb) := by
  obtain ⟨t, h1, h2⟩ := ha
  obtain ⟨u, h3, h4⟩ := hb
  refine ⟨_, pe_or h1 h3, fun σ ρ G H P Q k s h q => ?_⟩
  refine h2 σ ρ G H _ _ k s h fun x d G1 H1 s1 r1 p1 => ?_
  cases r1 with
  | bl c =>
    refine ⟨c, rfl, ?_⟩
    cases c with
    | false => exact h4 σ ρ G1 H1 _ _ (s1.okw k) (s.mono s1.up) p1 fun v d G2 H2 s2 => q v d G2 H2 (s1.trans s2)
    | true => exact q _ _ G1 H1 s1 (.bl true) p1
  | _ => exact p1.elim
theorem pd_not (ha : PD w X a ta) : PD w X (.UnaryOp .Not a pos) (dNotV ta) := by
  obtain ⟨t, h1, h2⟩ := ha
  refine ⟨_, pe_not h1, fun σ ρ G H P Q k s h q => ?_⟩
  refine h2 σ ρ G H _ _ k s h fun x d G1 H1 s1 r1 p1 => ?_
  cases r1 with
  | bl c => exact ⟨c, rfl, q _ _ G1 H1 s1 (.bl _) p1⟩
  | _ => exact p1.elim
def dIf (t : DT) (ta tb : DE) : DE := fun ρ P => t ρ fun c => if c = true then ta ρ P else tb ρ P
theorem pd_if {c : Expr} (hc : PDT w X c tA) (ha : PD w X a ta) (hb : PD w X b tb) : PD w X (.IfExp c a b pos) (dIf tA ta tb) := by
  obtain ⟨t, c1, c2⟩ := hc
  obtain ⟨t1, a1, a2⟩ := ha
  obtain ⟨t2, b1, b2⟩ := hb
  refine ⟨_, pe_ifExp c1 a1 b1, fun σ ρ G H P Q k s h q => ?_⟩
  refine c2 σ ρ G H _ _ k s h fun x G1 H1 s1 p1 => ?_
  cases x with
  | true => exact a2 σ ρ G1 H1 _ _ (s1.okw k) (s.mono s1.up) p1 fun v d G2 H2 s2 => q v d G2 H2 (s1.trans s2)
  | false => exact b2 σ ρ G1 H1 _ _ (s1.okw k) (s.mono s1.up) p1 fun v d G2 H2 s2 => q v d G2 H2 (s1.trans s2)
/-! a < b < c -/
def dCh (g g' : D2) (ta tb tc : DE) : DE := fun ρ P => ta ρ fun x => tb ρ fun y => g x y (asB fun c => if c = true then tc ρ fun z => g' y z P else P (.bool false))
/-! argument lists, displays -/
def dNil : DA := fun _ P => P []
def dCons (ta : DE) (tr : DA) : DA := fun ρ P => ta ρ fun x => tr ρ fun xs => P (x :: xs)
theorem da_nil : PDA w X [] dNil := ⟨_, pa_nil, fun _ _ G H _ _ k _ h q => q _ _ G H k.stp .nil rfl h⟩
theorem da_cons {tr : DA} (ha : PD w X e ta) (hr : PDA w X es tr) (hs : starEach (e :: es) X.env = (false, eval e X.env) :: starEach es X.env := by rfl) : PDA w X (e :: es) (dCons ta tr) := by
  obtain ⟨t, h1, h2⟩ := ha
  obtain ⟨u, h3, h4⟩ := hr
  refine ⟨_, pa_cons h1 h3 hs, fun σ ρ G H P Q k s h q => ?_⟩
  refine h2 σ ρ G H _ _ k s h fun x d G1 H1 s1 r1 p1 => ?_
  refine h4 σ ρ G1 H1 _ _ (s1.okw k) (s.mono s1.up) p1 fun xs ds G2 H2 s2 r2 l2 p2 => ?_
  exact q _ _ G2 H2 (s1.trans s2) (.cons (r1.mono s2.up) r2) (congrArg (· + 1) l2) p2
def dTup (t : DA) : DE := fun ρ P => t ρ fun xs => P (.tuple xs)
def dLst (t : DA) : DE := fun ρ P => t ρ fun xs => P (.list xs)
theorem line_le {n : Nat} (h : n ≤ 1000000) : n ≤ sizeLine := Nat.le_trans h (by decide)
theorem line_lt {n : Nat} (h : n < 1000000) : n < sizeLine := Nat.lt_of_lt_of_le h (by decide)
theorem pd_tup {x1} {t : DA} (h : PDA w X es t) (hl : es.length ≤ 1000 := by decide) : PD w X (.Tuple es x1 pos) (dTup t) := by
  obtain ⟨t', h1, h2⟩ := h
  refine ⟨_, pe_tup h1, fun σ ρ G H P Q k s h q => ?_⟩
  refine h2 σ ρ G H _ _ k s h fun xs ds G1 H1 s1 r1 l1 p1 => ⟨line_le (by omega), fun p hp => ?_⟩
  exact q _ _ _ _ (s1.trans (Stp.new (s1.okw k) hp)) (.tup (SqT.of upd_same) (r1.mono (Sub.new ((s1.okw k).g_none hp)))) p1
theorem pd_lst {t : DA} (h : PDA w X es t) (hl : es.length ≤ 1000 := by decide) : PD w X (.List es pos) (dLst t) := by
  obtain ⟨t', h1, h2⟩ := h
  refine ⟨_, pe_lst h1, fun σ ρ G H P Q k s h q => ?_⟩
  refine h2 σ ρ G H _ _ k s h fun xs ds G1 H1 s1 r1 l1 p1 => ⟨line_le (by omega), fun p hp => ?_⟩
  exact q _ _ _ _ (s1.trans (Stp.new (s1.okw k) hp)) (.lst upd_same (r1.mono (Sub.new ((s1.okw k).g_none hp)))) p1
/-- a display that a name takes for its own -/
theorem pn_lst {t : DA} (h : PDA w X es t) (hl : es.length ≤ 1000 := by decide) : PDN w X (.List es pos) t := by
  obtain ⟨t', h1, h2⟩ := h
  refine ⟨_, pe_lst h1, fun σ ρ G H P Q k s h q => ?_⟩
  refine h2 σ ρ G H _ _ k s h fun xs ds G1 H1 s1 r1 l1 p1 => ⟨line_le (by omega), fun p hp => ?_⟩
  have k1 := s1.okw k
  have hp0 : H p = none := by
    cases e : H p with
    | none => rfl
    | some u => exact absurd hp (s1.th p (by rw [e]; exact fun z => nomatch z))
  exact q p xs ds _ _ (s1.trans (Stp.new0 k1 hp)) hp0 (k1.g_none hp) upd_same r1 p1
end
end Z

set_option Elab.async false
set_option linter.all false
set_option maxRecDepth 100000
set_option maxHeartbeats 4000000
/-! Z2: < and > of tuples by the first difference, whatever stands behind it. -/
namespace ZO
open PySem PySem.SeqAt AutoSeq1 MeetsSeq MeetsSeq2 MeetsSeq3 SeqRoads2
/-- from place i on, k places left: the first that differs decides -/
def fd (e r : Nat → Bool) (z : Bool) : Nat → Nat → Bool
  | _, 0 => z
  | i, k + 1 => bif e i then fd e r z (i + 1) k else r i
def Rc (op : CmpOp) (A : Around) (s : Shared) (y x : Value) (k : Bool) : Prop :=
  ∀ (prog : Program) (w : World) (E : Value → Shared → Prop) (Q : Value → Shared → Prop), Q (.bool k) s → wpAny (model prog w) A (richCompare op y x) Q E s
theorem lt_walk (l b : Addr) (us ws : Array Value) (n m : Nat) (d1 d2 : Option Addr) (s1 s2 : Array (Option Value)) (e r : Nat → Bool) :
    Meets (Builtin.«tuple.__lt__» ⟨[.ref l, .ref b], []⟩) (fun A R s => s.heap.get? l = some ⟨.type "tuple", d1, .seq us n, s1⟩ ∧ s.heap.get? b = some ⟨.type "tuple", d2, .seq ws m, s2⟩ ∧
      (∀ j (h1 : j < us.size) (h2 : j < ws.size), (∀ i, i < j → e i = true) → EqAt A.in1 s us[j] ws[j] (e j)) ∧
      (∀ j (h1 : j < us.size) (h2 : j < ws.size), (∀ i, i < j → e i = true) → e j = false → Rc .Lt A.in1 s us[j] ws[j] (r j)) ∧
      R (.ok (.ret (.bool (fd e r (decide (us.size < ws.size)) 0 (min us.size ws.size))))) s) := .of_wp fun prog w A R s h => by
  obtain ⟨hp, g, d, tk, os⟩ := s; obtain ⟨hl, hb, he, hr, h⟩ := h
  have f2 := AutoSeq1.sub_tuple_tuple
  have hZ : (us.toList.zip ws.toList).length = min us.size ws.size := by simp
  wp_walk using wpAny_loadPart' hl, wpAny_loadPart' hb, wpAny_forIn_list _ (fun rest b s' => b.1 = none ∧ s' = ⟨hp, g, d, tk, os⟩ ∧ ∃ i, i ≤ min us.size ws.size ∧ (∀ j, j < i → e j = true) ∧ rest = (us.toList.zip ws.toList).drop i ∧ R (.ok (.ret (.bool (fd e r (decide (us.size < ws.size)) i (min us.size ws.size - i))))) ⟨hp, g, d, tk, os⟩) _
  case turn =>
    rintro ⟨y, x⟩ rest b s' ⟨hb', rfl, i, hle, hall, hz, hR⟩
    have hm : i < min us.size ws.size := by
      rcases Nat.lt_or_ge i (us.toList.zip ws.toList).length with h' | h'
      · exact hZ ▸ h'
      · rw [List.drop_of_length_le h'] at hz; cases hz
    have hlt : i < (us.toList.zip ws.toList).length := by rw [hZ]; exact hm
    have h1 : i < us.size := by omega
    have h2 : i < ws.size := by omega
    rw [List.drop_eq_getElem_cons hlt] at hz
    injection hz with hyx hrest
    obtain rfl : y = us[i] := by simpa using congrArg Prod.fst hyx
    obtain rfl : x = ws[i] := by simpa using congrArg Prod.snd hyx
    have hd : min us.size ws.size - i = (min us.size ws.size - (i + 1)) + 1 := by omega
    rw [hd] at hR
    refine wpAny_bind (he i h1 h2 hall prog w _ _ ?_)
    cases hy : e i with
    | true =>
      simp only [fd, hy, cond_true] at hR
      wp_walk
      refine ⟨rfl, rfl, i + 1, hm, fun j hj => ?_, hrest, hR⟩
      rcases Nat.lt_succ_iff_lt_or_eq.mp hj with z | z
      · exact hall j z
      · rw [z]; exact hy
    | false =>
      simp only [fd, hy, cond_false] at hR
      have hr' := hr i h1 h2 hall hy prog w
      dsimp only at hr' ⊢
      generalize PySem.richCompare .Lt us[i] ws[i] = rct at hr' ⊢
      wp_walk
      refine hr' _ _ ?_
      wp_walk
      exact ⟨_, rfl, hR⟩
  case fin =>
    rintro ⟨b1, b2⟩ s' ⟨hb', rfl, i, hle, hall, hz, hR⟩
    simp only at hb'
    subst hb'
    have hge : i = min us.size ws.size := by
      rcases Nat.lt_or_ge i (us.toList.zip ws.toList).length with h' | h'
      · rw [List.drop_eq_getElem_cons h'] at hz; cases hz
      · rw [hZ] at h'; omega
    subst hge
    rw [Nat.sub_self] at hR
    wp_walk
    exact ⟨_, rfl, by simpa [Builtin.Tuple.tupleCompareSizes, fd] using hR⟩
  case h => exact ⟨rfl, rfl, 0, Nat.zero_le _, fun j hj => absurd hj (Nat.not_lt_zero j), rfl, by simpa using h⟩
theorem gt_walk (l b : Addr) (us ws : Array Value) (n m : Nat) (d1 d2 : Option Addr) (s1 s2 : Array (Option Value)) (e r : Nat → Bool) :
    Meets (Builtin.«tuple.__gt__» ⟨[.ref l, .ref b], []⟩) (fun A R s => s.heap.get? l = some ⟨.type "tuple", d1, .seq us n, s1⟩ ∧ s.heap.get? b = some ⟨.type "tuple", d2, .seq ws m, s2⟩ ∧
      (∀ j (h1 : j < us.size) (h2 : j < ws.size), (∀ i, i < j → e i = true) → EqAt A.in1 s us[j] ws[j] (e j)) ∧
      (∀ j (h1 : j < us.size) (h2 : j < ws.size), (∀ i, i < j → e i = true) → e j = false → Rc .Gt A.in1 s us[j] ws[j] (r j)) ∧
      R (.ok (.ret (.bool (fd e r (decide (ws.size < us.size)) 0 (min us.size ws.size))))) s) := .of_wp fun prog w A R s h => by
  obtain ⟨hp, g, d, tk, os⟩ := s; obtain ⟨hl, hb, he, hr, h⟩ := h
  have f2 := AutoSeq1.sub_tuple_tuple
  have hZ : (us.toList.zip ws.toList).length = min us.size ws.size := by simp
  wp_walk using wpAny_loadPart' hl, wpAny_loadPart' hb, wpAny_forIn_list _ (fun rest b s' => b.1 = none ∧ s' = ⟨hp, g, d, tk, os⟩ ∧ ∃ i, i ≤ min us.size ws.size ∧ (∀ j, j < i → e j = true) ∧ rest = (us.toList.zip ws.toList).drop i ∧ R (.ok (.ret (.bool (fd e r (decide (ws.size < us.size)) i (min us.size ws.size - i))))) ⟨hp, g, d, tk, os⟩) _
  case turn =>
    rintro ⟨y, x⟩ rest b s' ⟨hb', rfl, i, hle, hall, hz, hR⟩
    have hm : i < min us.size ws.size := by
      rcases Nat.lt_or_ge i (us.toList.zip ws.toList).length with h' | h'
      · exact hZ ▸ h'
      · rw [List.drop_of_length_le h'] at hz; cases hz
    have hlt : i < (us.toList.zip ws.toList).length := by rw [hZ]; exact hm
    have h1 : i < us.size := by omega
    have h2 : i < ws.size := by omega
    rw [List.drop_eq_getElem_cons hlt] at hz
    injection hz with hyx hrest
    obtain rfl : y = us[i] := by simpa using congrArg Prod.fst hyx
    obtain rfl : x = ws[i] := by simpa using congrArg Prod.snd hyx
    have hd : min us.size ws.size - i = (min us.size ws.size - (i + 1)) + 1 := by omega
    rw [hd] at hR
    refine wpAny_bind (he i h1 h2 hall prog w _ _ ?_)
    cases hy : e i with
    | true =>
      simp only [fd, hy, cond_true] at hR
      wp_walk
      refine ⟨rfl, rfl, i + 1, hm, fun j hj => ?_, hrest, hR⟩
      rcases Nat.lt_succ_iff_lt_or_eq.mp hj with z | z
      · exact hall j z
      · rw [z]; exact hy
    | false =>
      simp only [fd, hy, cond_false] at hR
      have hr' := hr i h1 h2 hall hy prog w
      dsimp only at hr' ⊢
      generalize PySem.richCompare .Gt us[i] ws[i] = rct at hr' ⊢
      wp_walk
      refine hr' _ _ ?_
      wp_walk
      exact ⟨_, rfl, hR⟩
  case fin =>
    rintro ⟨b1, b2⟩ s' ⟨hb', rfl, i, hle, hall, hz, hR⟩
    simp only at hb'
    subst hb'
    have hge : i = min us.size ws.size := by
      rcases Nat.lt_or_ge i (us.toList.zip ws.toList).length with h' | h'
      · rw [List.drop_eq_getElem_cons h'] at hz; cases hz
      · rw [hZ] at h'; omega
    subst hge
    rw [Nat.sub_self] at hR
    wp_walk
    exact ⟨_, rfl, by simpa [Builtin.Tuple.tupleCompareSizes, fd] using hR⟩
  case h => exact ⟨rfl, rfl, 0, Nat.zero_le _, fun j hj => absurd hj (Nat.not_lt_zero j), rfl, by simpa using h⟩
section
variable {A : Around} {s : Shared} {l b : Addr} {us ws : Array Value} {e r : Nat → Bool}
theorem Rc.lt_tup (hl : s.heap.IsTuple l us) (hb : s.heap.IsTuple b ws) (hu : A.units < cLine)
    (he : ∀ j (h1 : j < us.size) (h2 : j < ws.size), (∀ i, i < j → e i = true) → EqAt A.in1 s us[j] ws[j] (e j))
    (hr : ∀ j (h1 : j < us.size) (h2 : j < ws.size), (∀ i, i < j → e i = true) → e j = false → Rc .Lt A.in1 s us[j] ws[j] (r j)) :
    Rc .Lt A s (.ref l) (.ref b) (fd e r (decide (us.size < ws.size)) 0 (min us.size ws.size)) := fun prog w E Q h => by
  obtain ⟨⟨cls, dd, data, sl⟩, ho, hc, n, hd⟩ := id hl; obtain ⟨⟨cls2, dd2, data2, sl2⟩, ho2, hc2, n2, hd2⟩ := id hb
  simp only at hc hd hc2 hd2; subst hc hd hc2 hd2
  exact richCompare_meets_room (op := .Lt) ⟨_, ho, rfl⟩ ⟨_, ho2, rfl⟩ F.slot_tuple_lt F.entry_tuple_lt (F.args_tuple_lt_2 _ _) (lt_walk l b us ws n n2 dd dd2 sl sl2 e r) ⟨ho, ho2, he, hr, ⟨(fun x => nomatch x), h⟩⟩ hu
theorem Rc.gt_tup (hl : s.heap.IsTuple l us) (hb : s.heap.IsTuple b ws) (hu : A.units < cLine)
    (he : ∀ j (h1 : j < us.size) (h2 : j < ws.size), (∀ i, i < j → e i = true) → EqAt A.in1 s us[j] ws[j] (e j))
    (hr : ∀ j (h1 : j < us.size) (h2 : j < ws.size), (∀ i, i < j → e i = true) → e j = false → Rc .Gt A.in1 s us[j] ws[j] (r j)) :
    Rc .Gt A s (.ref l) (.ref b) (fd e r (decide (ws.size < us.size)) 0 (min us.size ws.size)) := fun prog w E Q h => by
  obtain ⟨⟨cls, dd, data, sl⟩, ho, hc, n, hd⟩ := id hl; obtain ⟨⟨cls2, dd2, data2, sl2⟩, ho2, hc2, n2, hd2⟩ := id hb
  simp only at hc hd hc2 hd2; subst hc hd hc2 hd2
  exact richCompare_meets_room (op := .Gt) ⟨_, ho, rfl⟩ ⟨_, ho2, rfl⟩ F.slot_tuple_gt F.entry_tuple_gt (F.args_tuple_gt_2 _ _) (gt_walk l b us ws n n2 dd dd2 sl sl2 e r) ⟨ho, ho2, he, hr, ⟨(fun x => nomatch x), h⟩⟩ hu
end

/-! ### over data -/
mutual
/-- a < b (flip: a > b), where Python has an answer -/
def ord (f : Bool) : PyData → PyData → Option Bool
  | .int a, .int b => some (bif f then decide (b < a) else decide (a < b))
  | .str a, .str b => some (bif f then decide (b.cps.toList < a.cps.toList) else decide (a.cps.toList < b.cps.toList))
  | .tuple xs, .tuple ys => ordL f xs ys
  | _, _ => none
def ordL (f : Bool) : List PyData → List PyData → Option Bool
  | [], [] => some false
  | [], _ :: _ => some (!f)
  | _ :: _, [] => some f
  | x :: xs, y :: ys => bif PyData.eqv x y then ordL f xs ys else ord f x y
end
def opOf (f : Bool) : CmpOp := bif f then .Gt else .Lt
theorem fd_shift (e r : Nat → Bool) (z : Bool) : ∀ (k i : Nat), fd (fun j => e (j + 1)) (fun j => r (j + 1)) z i k = fd e r z (i + 1) k
  | 0, _ => rfl
  | k + 1, i => by simp only [fd, fd_shift e r z k (i + 1)]
theorem fd_ord (f : Bool) : ∀ (xs ys : List PyData) (k : Bool), ordL f xs ys = some k →
    fd (fun j => PyData.eqv (xs.getD j .none) (ys.getD j .none)) (fun j => (ord f (xs.getD j .none) (ys.getD j .none)).getD false) (bif f then decide (ys.length < xs.length) else decide (xs.length < ys.length)) 0 (min xs.length ys.length) = k
  | [], [], k, h => by
    have e : false = k := by simpa [ordL] using h
    subst e
    cases f <;> rfl
  | [], y :: ys, k, h => by
    have e : (!f) = k := by simpa [ordL] using h
    subst e
    cases f <;> simp [fd]
  | x :: xs, [], k, h => by
    have e : f = k := by simpa [ordL] using h
    subst e
    cases f <;> simp [fd]
  | x :: xs, y :: ys, k, h => by
    have hm : min (x :: xs).length (y :: ys).length = min xs.length ys.length + 1 := by simp only [List.length_cons]; omega
    rw [hm]
    simp only [fd, List.getD_cons_zero]
    simp only [ordL] at h
    cases he : PyData.eqv x y with
    | true =>
      rw [he] at h
      have ih := fd_ord f xs ys k h
      simp only [cond_true, ← fd_shift, List.getD_cons_succ, List.length_cons, Nat.add_lt_add_iff_right]
      exact ih
    | false =>
      rw [he] at h
      simp only [cond_false] at h ⊢
      rw [h]; rfl
theorem first_ord (f : Bool) : ∀ (xs ys : List PyData) (k : Bool), ordL f xs ys = some k → ∀ j, j < xs.length → j < ys.length → (∀ i, i < j → PyData.eqv (xs.getD i .none) (ys.getD i .none) = true) →
    PyData.eqv (xs.getD j .none) (ys.getD j .none) = false → ord f (xs.getD j .none) (ys.getD j .none) = some k
  | [], _, _, _, _, h, _, _, _ => absurd h (Nat.not_lt_zero _)
  | _ :: _, [], _, _, _, _, h, _, _ => absurd h (Nat.not_lt_zero _)
  | x :: xs, y :: ys, k, h, 0, _, _, _, he => by
    simp only [List.getD_cons_zero] at he ⊢
    rw [ordL, he] at h
    exact h
  | x :: xs, y :: ys, k, h, j + 1, h1, h2, ha, he => by
    have h0 := ha 0 (Nat.zero_lt_succ _)
    simp only [List.getD_cons_zero] at h0
    rw [ordL, h0] at h
    simp only [List.getD_cons_succ] at he ⊢
    exact first_ord f xs ys k h j (Nat.lt_of_succ_lt_succ h1) (Nat.lt_of_succ_lt_succ h2) (fun i hi => by simpa using ha (i + 1) (Nat.succ_lt_succ hi)) he
theorem plain_at : ∀ (xs : List PyData) (j : Nat), PyData.plainAll xs = true → j < xs.length → (xs.getD j .none).plain = true
  | [], _, _, h => absurd h (Nat.not_lt_zero _)
  | x :: xs, 0, h, _ => by simp [PyData.plainAll] at h; simpa using h.1
  | x :: xs, j + 1, h, hj => by simp [PyData.plainAll] at h; simpa using plain_at xs j h.2 (Nat.lt_of_succ_lt_succ hj)
theorem rc_ord (f : Bool) : ∀ (n : Nat) (d e : PyData) (A : Around) (s : Shared) (a b : Value) (as bs : List Addr) (k : Bool), d.depth ≤ n → Reads s.heap a d as → Reads s.heap b e bs → d.plain = true → e.plain = true → A.units + n < cLine → ord f d e = some k → Rc (opOf f) A s a b k := by
  intro n
  induction n with
  | zero =>
    intro d e A s a b as bs k hn ra rb hp hq hu ho
    cases d with
    | int i =>
      cases e with
      | int j =>
        cases ra; cases rb
        have z : (bif f then decide (j < i) else decide (i < j)) = k := by simpa [ord] using ho
        subst z
        intro prog w E Q h
        cases f with
        | true => exact PyProof.Rows.gt_int h
        | false => exact PyProof.Rows.lt_int h
      | _ => simp [ord] at ho
    | str i =>
      cases e with
      | str j =>
        cases ra; cases rb
        have z : (bif f then decide (j.cps.toList < i.cps.toList) else decide (i.cps.toList < j.cps.toList)) = k := by simpa [ord] using ho
        subst z
        intro prog w E Q h
        cases f with
        | true => exact PySem.P.gt_str h
        | false => exact PyProof.Rows.lt_str h
      | _ => simp [ord] at ho
    | tuple xs => simp [PyData.depth] at hn
    | _ => simp [ord] at ho
  | succ n ih =>
    intro d e A s a b as bs k hn ra rb hp hq hu ho
    cases d with
    | int i =>
      cases e with
      | int j =>
        cases ra; cases rb
        have z : (bif f then decide (j < i) else decide (i < j)) = k := by simpa [ord] using ho
        subst z
        intro prog w E Q h
        cases f with
        | true => exact PyProof.Rows.gt_int h
        | false => exact PyProof.Rows.lt_int h
      | _ => simp [ord] at ho
    | str i =>
      cases e with
      | str j =>
        cases ra; cases rb
        have z : (bif f then decide (j.cps.toList < i.cps.toList) else decide (i.cps.toList < j.cps.toList)) = k := by simpa [ord] using ho
        subst z
        intro prog w E Q h
        cases f with
        | true => exact PySem.P.gt_str h
        | false => exact PyProof.Rows.lt_str h
      | _ => simp [ord] at ho
    | tuple xs =>
      cases e with
      | tuple ys =>
        have hol : ordL f xs ys = some k := by rw [ord] at ho; exact ho
        have px : PyData.plainAll xs = true := by rw [PyData.plain] at hp; exact hp
        have py : PyData.plainAll ys = true := by rw [PyData.plain] at hq; exact hq
        have hdx : PyData.depthAll xs ≤ n := by rw [PyData.depth] at hn; omega
        cases ra with
        | @tuple la oa va na _ _ ga ca da ra =>
        cases rb with
        | @tuple lb ob vb nb _ _ gb cb db rb =>
        have n1 : va.size = xs.length := PySem.W.readsAll_len ra
        have n2 : vb.size = ys.length := PySem.W.readsAll_len rb
        have hl : s.heap.IsTuple la va := ⟨oa, ga, ca, na, da⟩
        have hb : s.heap.IsTuple lb vb := ⟨ob, gb, cb, nb, db⟩
        have at1 : ∀ j (h1 : j < va.size), ∃ cs, Reads s.heap va[j] (xs.getD j .none) cs ∧ (xs.getD j .none).depth ≤ n := fun j h1 => by
          obtain ⟨cs, r, _, _, dp⟩ := PySem.W.readsAll_atA ra j va[j] (by simp [h1])
          exact ⟨cs, r, Nat.le_trans dp hdx⟩
        have at2 : ∀ j (h2 : j < vb.size), ∃ cs, Reads s.heap vb[j] (ys.getD j .none) cs := fun j h2 => by
          obtain ⟨cs, r, _, _, _⟩ := PySem.W.readsAll_atA rb j vb[j] (by simp [h2])
          exact ⟨cs, r⟩
        have hu1 : A.in1.units + n < cLine := by show A.units + 1 + n < cLine; omega
        have he : ∀ j (h1 : j < va.size) (h2 : j < vb.size), (∀ i, i < j → PyData.eqv (xs.getD i .none) (ys.getD i .none) = true) → EqAt A.in1 s va[j] vb[j] (PyData.eqv (xs.getD j .none) (ys.getD j .none)) := fun j h1 h2 _ => by
          obtain ⟨cs, r1, dp⟩ := at1 j h1
          obtain ⟨cs', r2⟩ := at2 j h2
          refine eqAt_plain _ _ _ _ _ _ _ _ r1 r2 (plain_at xs j px (n1 ▸ h1)) (plain_at ys j py (n2 ▸ h2)) ?_
          have := Nat.min_le_left (xs.getD j PyData.none).depth (ys.getD j PyData.none).depth
          omega
        have hr : ∀ j (h1 : j < va.size) (h2 : j < vb.size), (∀ i, i < j → PyData.eqv (xs.getD i .none) (ys.getD i .none) = true) → PyData.eqv (xs.getD j .none) (ys.getD j .none) = false → Rc (opOf f) A.in1 s va[j] vb[j] ((ord f (xs.getD j .none) (ys.getD j .none)).getD false) := fun j h1 h2 ha hf => by
          obtain ⟨cs, r1, dp⟩ := at1 j h1
          obtain ⟨cs', r2⟩ := at2 j h2
          have ho2 := first_ord f xs ys k hol j (n1 ▸ h1) (n2 ▸ h2) ha hf
          rw [ho2]
          exact ih _ _ _ _ _ _ _ _ k dp r1 r2 (plain_at xs j px (n1 ▸ h1)) (plain_at ys j py (n2 ▸ h2)) hu1 ho2
        have fin := fd_ord f xs ys k hol
        cases f with
        | false =>
          have R := Rc.lt_tup hl hb (by omega) he hr
          rw [n1, n2] at R
          exact fin ▸ R
        | true =>
          have R := Rc.gt_tup hl hb (by omega) he hr
          rw [n1, n2] at R
          exact fin ▸ R
      | _ => simp [ord] at ho
    | _ => simp [ord] at ho
end ZO

set_option Elab.async false
set_option linter.all false
set_option maxRecDepth 100000
set_option maxHeartbeats 4000000
namespace Z
open PySem PySem.Spec PyProof.Rows L2
section
variable {w : Wd} {K : PySem.W.Frag} {G H : Hp}
mutual
theorem Rp.plain : ∀ {v : V} {d : DD}, Rp K G v d → d.plain = true
  | _, _, .non => rfl
  | _, _, .bl b => rfl
  | _, _, .int i => rfl
  | _, _, .str x => rfl
  | _, _, .lst h r => by rw [PyData.plain]; exact RpAll.plain r
  | _, _, .tup h r => by rw [PyData.plain]; exact RpAll.plain r
theorem RpAll.plain : ∀ {vs : List V} {ds : List DD}, RpAll K G vs ds → PyData.plainAll ds = true
  | _, _, .nil => rfl
  | _, _, .cons a b => by rw [PyData.plainAll, Rp.plain a, RpAll.plain b]; rfl
end
theorem Rp.reads {X : Cx} {pins : List (Addr × Obj)} {σ : L2.St} {s : Shared} {H : Hp} (I : Inv X pins σ H s) {d : DD} {v : V} {u : Value} (h : Rp X.K H v d) (r : RelV v u) : ∃ as, Reads s.heap u d as := Dp.reads I d v u h.dp r
end
/-- an operation that the library tells over data, the heap as it was -/
def rDat (K : PySem.W.Frag) (g : DD → DD → Option V) : R2 := fun x y H Q => ∃ d e z, Rp K H x d ∧ Rp K H y e ∧ g d e = some z ∧ Q z H
theorem opr_dat {X : Cx} {f : Value → Value → Sem Value} {g : DD → DD → Option Bool} (h : ∀ (pins : List (Addr × Obj)) (s : Shared) (σ : L2.St) (H : Hp) (d e : DD) (x y : V) (v u : Value) (k : Bool) (as bs : List Addr) (Q : Value → Shared → Prop), Inv X pins σ H s →
    d.plain = true → e.plain = true → Reads s.heap v d as → Reads s.heap u e bs → g d e = some k → Q (.bool k) s → wpAny (model X.prog X.w) X.A (f v u) Q X.xe s) : OpR X f (rDat X.K fun d e => (g d e).map V.bl) := by
  intro pins s σ H x y v u Q I rx ry hq
  obtain ⟨d, e, z, hd, he, hz, q⟩ := hq
  obtain ⟨as, r1⟩ := hd.reads I rx
  obtain ⟨bs, r2⟩ := he.reads I ry
  simp only at hz
  cases hg : g d e with
  | none => rw [hg] at hz; cases hz
  | some k =>
    rw [hg] at hz
    have ez : z = V.bl k := (Option.some.inj hz).symm
    subst ez
    exact h pins s σ H d e x y v u k as bs _ I hd.plain he.plain r1 r2 hg ⟨V.bl k, H, I, rfl, q⟩
def gB (g : DD → DD → Option Bool) : D2 := fun x y P => match g x y with
  | some k => P (.bool k)
  | none => False
theorem ro_dat {w : Wd} {K : PySem.W.Frag} {g : DD → DD → Option Bool} : RO w K (rDat K fun d e => (g d e).map V.bl) (gB g) := by
  intro x y d e G H P Q k r1 r2 h q
  unfold gB at h
  cases hg : g d e with
  | none => rw [hg] at h; exact h.elim
  | some b =>
    rw [hg] at h
    exact ⟨d, e, _, r1.mono k.sub, r2.mono k.sub, by simp only [hg]; rfl, q _ _ G H k.stp (.bl b) h⟩
def eqD (x y : DD) : Option Bool := if min x.depth y.depth ≤ 60 then some (PyData.eqv x y) else none
def neD (x y : DD) : Option Bool := if min x.depth y.depth ≤ 60 then some (!PyData.eqv x y) else none
def ltD (x y : DD) : Option Bool := if x.depth ≤ 60 then ZO.ord false x y else none
def gtD (x y : DD) : Option Bool := if x.depth ≤ 60 then ZO.ord true x y else none
section
variable {w : Wd} {X : Cx}
theorem od_eq {k : Nat} (hr : Room k X.A) : OpD w X (compareOp .Eq) (gB eqD) := by
  refine ⟨_, opr_dat (g := eqD) fun pins s σ H d e x y v u k as bs Q I p1 p2 r1 r2 hg q => ?_, ro_dat⟩
  unfold eqD at hg
  split at hg
  · have ez := Option.some.inj hg
    subst ez
    have h := hr.units
    exact SeqAt.eq_plain r1 r2 p1 p2 (by omega) q
  · cases hg
theorem od_ne {k : Nat} (hr : Room k X.A) : OpD w X (compareOp .NotEq) (gB neD) := by
  refine ⟨_, opr_dat (g := neD) fun pins s σ H d e x y v u k as bs Q I p1 p2 r1 r2 hg q => ?_, ro_dat⟩
  unfold neD at hg
  split at hg
  · have ez := Option.some.inj hg
    subst ez
    have h := hr.units
    exact SeqAt.ne_plain r1 r2 p1 p2 (by omega) q
  · cases hg
theorem od_lt {k : Nat} (hr : Room k X.A) : OpD w X (compareOp .Lt) (gB ltD) := by
  refine ⟨_, opr_dat (g := ltD) fun pins s σ H d e x y v u k as bs Q I p1 p2 r1 r2 hg q => ?_, ro_dat⟩
  unfold ltD at hg
  split at hg
  · have h := hr.units
    exact ZO.rc_ord false 60 d e X.A s v u as bs k (by assumption) r1 r2 p1 p2 (by omega) hg X.prog X.w _ _ q
  · cases hg
theorem od_gt {k : Nat} (hr : Room k X.A) : OpD w X (compareOp .Gt) (gB gtD) := by
  refine ⟨_, opr_dat (g := gtD) fun pins s σ H d e x y v u k as bs Q I p1 p2 r1 r2 hg q => ?_, ro_dat⟩
  unfold gtD at hg
  split at hg
  · have h := hr.units
    exact ZO.rc_ord true 60 d e X.A s v u as bs k (by assumption) r1 r2 p1 p2 (by omega) hg X.prog X.w _ _ q
  · cases hg
/-! the intsD of a list of data -/
def intsD : List DD → Option (List Int)
  | [] => some []
  | .int i :: r => (intsD r).map (i :: ·)
  | _ :: _ => none
theorem intsD_eq : ∀ {ds : List DD} {ns : List Int}, intsD ds = some ns → ds = ns.map PyData.int
  | [], ns, h => by cases h; rfl
  | .int i :: r, ns, h => by
    simp only [intsD] at h
    cases e : intsD r with
    | none => rw [e] at h; cases h
    | some ms => rw [e] at h; cases h; rw [intsD_eq e]; rfl
  | .none :: _, _, h => by simp [intsD] at h
  | .bool _ :: _, _, h => by simp [intsD] at h
  | .str _ :: _, _, h => by simp [intsD] at h
  | .list _ :: _, _, h => by simp [intsD] at h
  | .tuple _ :: _, _, h => by simp [intsD] at h
  | .dict _ :: _, _, h => by simp [intsD] at h
theorem intsD_map : ∀ ns : List Int, intsD (ns.map PyData.int) = some ns
  | [] => rfl
  | n :: ns => by simp [intsD, intsD_map ns]
theorem rp_ints {K : PySem.W.Frag} {G : Hp} : ∀ {ns : List Int} {vs : List V}, RpAll K G vs (ns.map PyData.int) → vs = ns.map V.int
  | [], _, .nil => rfl
  | _ :: _, _, .cons (.int _) r => by rw [rp_ints r]; rfl
/-- <= of intsD and of tuples of intsD -/
def gLe : D2 := fun x y P => match x, y with
  | .int i, .int j => P (.bool (decide (i ≤ j)))
  | .tuple xs, .tuple ys => match intsD xs, intsD ys with
    | some ns, some ms => P (.bool (!HT.lexLt ms ns))
    | _, _ => False
  | _, _ => False
theorem lex_shift (e r : Nat → Bool) (z : Bool) : ∀ (k i : Nat), Ob.lexAt (fun j => e (j + 1)) (fun j => r (j + 1)) z i k = Ob.lexAt e r z (i + 1) k
  | 0, _ => rfl
  | k + 1, i => by rw [Ob.lexAt_succ, Ob.lexAt_succ, lex_shift e r z k (i + 1)]
theorem lex_le : ∀ (ns ms : List Int), Ob.lexAt (fun j => decide (ns.getD j 0 = ms.getD j 0)) (fun j => decide (ns.getD j 0 ≤ ms.getD j 0)) (decide (ns.length ≤ ms.length)) 0 (min ns.length ms.length) = !HT.lexLt ms ns
  | [], [] => rfl
  | [], m :: ms => by simp [Ob.lexAt, HT.lexLt]
  | n :: ns, [] => by simp [Ob.lexAt, HT.lexLt]
  | n :: ns, m :: ms => by
    have hm : min (n :: ns).length (m :: ms).length = min ns.length ms.length + 1 := by simp only [List.length_cons]; omega
    rw [hm, Ob.lexAt_succ, ← lex_shift, HT.lexLt_cons]
    simp only [List.getD_cons_zero, List.getD_cons_succ, List.length_cons, Nat.add_le_add_iff_right]
    by_cases e : n = m
    · subst e; simp only [decide_true, if_true]; exact lex_le ns ms
    · rw [if_neg (by simpa using e), if_neg (fun z => e z.symm)]
      by_cases h : n ≤ m
      · have : ¬ m < n := by omega
        simp [h, this]
      · have : m < n := by omega
        simp [h, this]
theorem od_le {k : Nat} (hr : Room k X.A) : OpD w X (compareOp .LtE) gLe := by
  refine ⟨_, OpR.or op_le (op_leT hr.units0), fun x y d e G H P Q k r1 r2 h q => ?_⟩
  unfold gLe at h
  cases r1 with
  | int i =>
    cases r2 with
    | int j => exact .inl ⟨i, j, rfl, rfl, q _ _ G H k.stp (.bl _) h⟩
    | _ => exact h.elim
  | @tup a xs ds t1 a1 =>
    cases r2 with
    | @tup b ys es t2 a2 =>
      simp only at h
      cases h1 : intsD ds with
      | none => rw [h1] at h; exact h.elim
      | some ns =>
        cases h2 : intsD es with
        | none => rw [h1, h2] at h; exact h.elim
        | some ms =>
          rw [h1, h2] at h
          have e1 := intsD_eq h1
          have e2 := intsD_eq h2
          subst e1 e2
          have v1 := rp_ints a1
          have v2 := rp_ints a2
          subst v1 v2
          refine .inr ⟨a, b, ns, ms, rfl, rfl, k.sub.sqT t1, k.sub.sqT t2, ?_⟩
          rw [lex_le]
          exact q _ _ G H k.stp (.bl _) h
    | _ => exact h.elim
  | _ => exact h.elim
def gGe : D2 := fun x y P => match x, y with
  | .int i, .int j => P (.bool (decide (j ≤ i)))
  | _, _ => False
theorem od_ge : OpD w X (compareOp .GtE) gGe := by
  refine ⟨_, op_ge, fun x y d e G H P Q k r1 r2 h q => ?_⟩
  cases r1 with
  | int i =>
    cases r2 with
    | int j => exact ⟨i, j, rfl, rfl, q _ _ G H k.stp (.bl _) h⟩
    | _ => exact h.elim
  | _ => cases r2 <;> exact h.elim
/-! arithmetic -/
def gI (C : Int → Int → Prop) (f : Int → Int → Int) : D2 := fun x y P => match x, y with
  | .int i, .int j => C i j ∧ P (.int (f i j))
  | _, _ => False
theorem ro_I {K : PySem.W.Frag} {C : Int → Int → Prop} {f : Int → Int → Int} : RO w K (rI C fun i j => .int (f i j)) (gI C f) := by
  intro x y d e G H P Q k r1 r2 h q
  cases r1 with
  | int i =>
    cases r2 with
    | int j => exact ⟨i, j, rfl, rfl, h.1, q _ _ G H k.stp (.int _) h.2⟩
    | _ => exact h.elim
  | _ => cases r2 <;> exact h.elim
def gI0 (f : Int → Int → Int) : D2 := fun x y P => match x, y with
  | .int i, .int j => P (.int (f i j))
  | _, _ => False
theorem ro_I0 {K : PySem.W.Frag} {f : Int → Int → Int} : RO w K (rI0 fun i j => .int (f i j)) (gI0 f) := by
  intro x y d e G H P Q k r1 r2 h q
  cases r1 with
  | int i =>
    cases r2 with
    | int j => exact ⟨i, j, rfl, rfl, q _ _ G H k.stp (.int _) h⟩
    | _ => exact h.elim
  | _ => cases r2 <;> exact h.elim
theorem od_sub : OpD w X (binaryOp .Sub) (gI0 (· - ·)) := ⟨_, op_sub, ro_I0⟩
theorem od_mul : OpD w X (binaryOp .Mult) (gI CMul (· * ·)) := ⟨_, op_mul, ro_I⟩
theorem od_mod : OpD w X (binaryOp .Mod) (gI (fun _ j => 0 < j) (· % ·)) := ⟨_, op_mod, ro_I⟩
theorem od_div : OpD w X (binaryOp .FloorDiv) (gI CDivW (· / ·)) := ⟨_, op_fdivW, ro_I⟩
theorem od_pow : OpD w X (binaryOp .Pow) (gI CPow fun i j => i ^ j.toNat) := ⟨_, op_pow, ro_I⟩
theorem od_shr : OpD w X (binaryOp .RShift) (gI (fun _ j => 0 ≤ j) fun i j => i / 2 ^ j.toNat) := ⟨_, op_shr, ro_I⟩
theorem od_and : OpD w X (binaryOp .BitAnd) (gI0 Builtin.bitAnd) := ⟨_, op_and, ro_I0⟩
/-- +: intsD, lists, tuples, texts -/
def gAdd : D2 := fun x y P => match x, y with
  | .int i, .int j => P (.int (i + j))
  | .list xs, .list ys => xs.length + ys.length ≤ 1000000 ∧ P (.list (xs ++ ys))
  | .tuple xs, .tuple ys => xs.length + ys.length ≤ 1000000 ∧ P (.tuple (xs ++ ys))
  | _, _ => False
theorem od_add : OpD w X (binaryOp .Add) gAdd := by
  refine ⟨_, OpR.or op_add (OpR.or op_cat op_catA), fun x y d e G H P Q k r1 r2 h q => ?_⟩
  cases r1 with
  | int i =>
    cases r2 with
    | int j => exact .inl ⟨i, j, rfl, rfl, q _ _ G H k.stp (.int _) h⟩
    | _ => exact h.elim
  | @lst a xs ds t1 a1 =>
    cases r2 with
    | @lst b ys es t2 a2 =>
      obtain ⟨hl, h⟩ := h
      refine .inr (.inl ⟨a, b, xs, ys, rfl, rfl, k.sub _ _ t1, k.sub _ _ t2, line_le (by rw [a1.len, a2.len]; exact hl), fun p hp => ?_⟩)
      exact q _ _ _ _ (Stp.new k hp) (.lst upd_same ((a1.append a2).mono (Sub.new (k.g_none hp)))) h
    | _ => exact h.elim
  | @tup a xs ds t1 a1 =>
    cases r2 with
    | @tup b ys es t2 a2 =>
      obtain ⟨hl, h⟩ := h
      refine .inr (.inr ⟨a, b, xs, ys, rfl, rfl, k.sub.sqT t1, k.sub.sqT t2, line_le (by rw [a1.len, a2.len]; exact hl), fun e0 => ?_, fun _ e1 => ?_, fun _ _ p hp => ?_⟩)
      · subst e0
        cases a1
        exact q _ _ G H k.stp (.tup t2 a2) h
      · subst e1
        cases a2
        rw [List.append_nil] at h
        exact q _ _ G H k.stp (.tup t1 a1) h
      · exact q _ _ _ _ (Stp.new k hp) (.tup (SqT.of upd_same) ((a1.append a2).mono (Sub.new (k.g_none hp)))) h
    | _ => exact h.elim
  | _ => cases r2 <;> exact h.elim
/-! in -/
def flatD : DD → Bool
  | .none => true
  | .bool _ => true
  | .int _ => true
  | .str _ => true
  | _ => false
theorem Rp.flat {K : PySem.W.Frag} {G : Hp} {v : V} {d : DD} (r : Rp K G v d) (h : flatD d = true) : flatV v = true := by
  cases r <;> first | rfl | cases h
theorem RpAll.flat {K : PySem.W.Frag} {G : Hp} : ∀ {vs : List V} {ds : List DD}, RpAll K G vs ds → ds.all flatD = true → vs.all flatV = true
  | _, _, .nil, _ => rfl
  | _, _, .cons a b, h => by
    rw [List.all_cons, Bool.and_eq_true] at h ⊢
    exact ⟨a.flat h.1, RpAll.flat b h.2⟩
theorem Rp.eqV {K : PySem.W.Frag} {G : Hp} {v u : V} {d e : DD} (r : Rp K G v d) (r' : Rp K G u e) (h : flatD d = true) (h' : flatD e = true) : L2.eqV v u = PyData.eqv d e := by
  cases r <;> cases r' <;> first | rfl | cases h | cases h' | skip
  all_goals simp [L2.eqV, PyData.eqv]
theorem RpAll.inV {K : PySem.W.Frag} {G : Hp} {u : V} {e : DD} (r' : Rp K G u e) (h' : flatD e = true) : ∀ {vs : List V} {ds : List DD}, RpAll K G vs ds → ds.all flatD = true → (vs.any fun y => L2.eqV y u) = ds.any fun y => PyData.eqv y e
  | _, _, .nil, _ => rfl
  | _, _, .cons a b, h => by
    rw [List.all_cons, Bool.and_eq_true] at h
    rw [List.any_cons, List.any_cons, a.eqV r' h.1 h', RpAll.inV r' h' b h.2]
def seqOf : DD → Option (List DD)
  | .list ds => some ds
  | .tuple ds => some ds
  | _ => none
def inD (x y : DD) : Option Bool := match seqOf y with
  | some ds => if flatD x = true ∧ ds.all flatD = true then some (ds.any fun z => PyData.eqv z x) else none
  | none => none
theorem od_in : OpD w X (compareOp .In) (gB inD) := by
  refine ⟨_, op_in_seq, fun x y d e G H P Q k r1 r2 h q => ?_⟩
  unfold gB inD at h
  have main : ∀ (p : Addr) (xs : List V) (ds : List DD), y = .ref p → (SqL X.K H p xs ∨ SqT X.K H p xs) → RpAll X.K G xs ds → flatD d = true → ds.all flatD = true → P (.bool (ds.any fun z => PyData.eqv z d)) → rIn X.K false x y H Q := by
    intro p xs ds ey hs ha fx fa hp
    refine ⟨p, xs, ey, hs, r1.flat fx, ha.flat fa, ?_⟩
    have z : (if false = true then !L2.inV x xs else L2.inV x xs) = ds.any fun z => PyData.eqv z d := by
      rw [if_neg Bool.false_ne_true]; exact ha.inV r1 fx fa
    rw [z]
    exact q _ _ G H k.stp (.bl _) hp
  cases r2 with
  | @lst a xs ds t a1 =>
    simp only [seqOf] at h
    split at h
    · rename_i b hb
      split at hb
      · rename_i hf
        cases hb
        exact main a xs ds rfl (.inl (SqL.of (k.sub _ _ t))) a1 hf.1 hf.2 h
      · cases hb
    · exact h.elim
  | @tup a xs ds t a1 =>
    simp only [seqOf] at h
    split at h
    · rename_i b hb
      split at hb
      · rename_i hf
        cases hb
        exact main a xs ds rfl (.inr (k.sub.sqT t)) a1 hf.1 hf.2 h
      · cases hb
    · exact h.elim
  | _ => exact h.elim
end
end Z

set_option Elab.async false
set_option linter.all false
set_option maxRecDepth 100000
set_option maxHeartbeats 4000000
namespace Z
open PySem PySem.Spec PyProof.Rows L2
section
variable {w : Wd} {X : Cx} {a b c e : Expr} {es : List Expr} {ta tb tc : DE} {pos p2 : Pos}
/-! chains -/
theorem re_chain {r r' : R2} {g g' : D2} {ta' tb' tc' : TE} (ho : RO w X.K r g) (ho' : RO w X.K r' g') (ha : RE w X.K ta' ta) (hb : RE w X.K tb' tb) (hc : RE w X.K tc' tc) : RE w X.K (tChain r r' ta' tb' tc') (dCh g g' ta tb tc) := by
  intro σ ρ G H P Q k s h q
  refine ha σ ρ G H _ _ k s h fun x d G1 H1 s1 r1 p1 => ?_
  refine hb σ ρ G1 H1 _ _ (s1.okw k) (s.mono s1.up) p1 fun y e G2 H2 s2 r2 p2 => ?_
  have k2 := s2.okw (s1.okw k)
  refine ho x y d e G2 H2 _ _ k2 (r1.mono s2.up) r2 p2 fun v z G3 H3 s3 r3 p3 => ?_
  cases r3 with
  | bl m =>
    refine ⟨m, rfl, ?_⟩
    cases m with
    | true =>
      show tc' σ H3 _
      refine hc σ ρ G3 H3 _ _ (s3.okw k2) (s.mono ((s1.up.trans s2.up).trans s3.up)) p3 fun u f G4 H4 s4 r4 p4 => ?_
      exact ho' y u e f G4 H4 P Q (s4.okw (s3.okw k2)) (r2.mono (s3.up.trans s4.up)) r4 p4 fun v d G5 H5 s5 => q v d G5 H5 ((((s1.trans s2).trans s3).trans s4).trans s5)
    | false =>
      show Q (.bl false) H3
      exact q _ _ G3 H3 ((s1.trans s2).trans s3) (.bl false) p3
  | _ => exact p3.elim
theorem pd_ch {op op' : CmpOp} {g g' : D2} (ho : OpD w X (compareOp op) g) (ho' : OpD w X (compareOp op') g') (ha : PD w X a ta) (hb : PD w X b tb) (hc : PD w X c tc) (hm : lastMarks [op, op'] [b, c] = false := by with_unfolding_all rfl) :
    PD w X (.Compare a [op, op'] [b, c] pos) (dCh g g' ta tb tc) := by
  obtain ⟨r, o1, o2⟩ := ho
  obtain ⟨r', o1', o2'⟩ := ho'
  obtain ⟨ta', a1, a2⟩ := ha
  obtain ⟨tb', b1, b2⟩ := hb
  obtain ⟨tc', c1, c2⟩ := hc
  exact ⟨_, pe_chain o1 o1' a1 b1 c1 hm, re_chain o2 o2' a2 b2 c2⟩
theorem pt_ch {op op' : CmpOp} {g g' : D2} (ho : OpD w X (compareOp op) g) (ho' : OpD w X (compareOp op') g') (ha : PD w X a ta) (hb : PD w X b tb) (hc : PD w X c tc) (hm : lastMarks [op, op'] [b, c] = false := by with_unfolding_all rfl) :
    PDT w X (.Compare a [op, op'] [b, c] pos) (dT (dCh g g' ta tb tc)) := by
  obtain ⟨r, o1, o2⟩ := ho
  obtain ⟨r', o1', o2'⟩ := ho'
  obtain ⟨ta', a1, a2⟩ := ha
  obtain ⟨tb', b1, b2⟩ := hb
  obtain ⟨tc', c1, c2⟩ := hc
  exact ⟨_, pt_chain o1 o1' a1 b1 c1 hm, rt_of (re_chain o2 o2' a2 b2 c2)⟩
/-! subscripts -/
def gIx : D2 := fun x y P => match x, y with
  | .list ds, .int i => match atI ds i with | some d => P d | none => False
  | .tuple ds, .int i => match atI ds i with | some d => P d | none => False
  | .str z, .int i => z.length ≤ 1000000 ∧ match atI z.cps.toList i with | some c => P (.str ⟨#[c]⟩) | none => False
  | _, _ => False
theorem at_rp {K : PySem.W.Frag} {G : Hp} {xs : List V} {ds : List DD} {i : Int} {d : DD} (r : RpAll K G xs ds) (h : atI ds i = some d) : ∃ v, atI xs i = some v ∧ Rp K G v d := by
  unfold atI at h ⊢
  rw [r.len]
  cases e : ixN ds.length i with
  | none => rw [e] at h; cases h
  | some j =>
    rw [e] at h
    exact r.getD h
theorem pd_ix (ha : PD w X a ta) (hb : PD w X b tb) (hs : PlainIx b := by exact fun _ _ => rfl) : PD w X (.Subscript a b pos) (dOp gIx ta tb) := by
  obtain ⟨ta', a1, a2⟩ := ha
  obtain ⟨tb', b1, b2⟩ := hb
  refine ⟨_, pe_ix ix_seq a1 b1 hs, re_op (fun x y d e G H P Q k r1 r2 h q => ?_) a2 b2⟩
  unfold gIx at h
  cases r1 with
  | @lst p xs ds t1 q1 =>
    cases r2 with
    | int i =>
      simp only at h
      cases hd : atI ds i with
      | none => rw [hd] at h; exact h.elim
      | some d =>
        rw [hd] at h
        obtain ⟨v, hv, rv⟩ := at_rp q1 hd
        exact .inl ⟨p, xs, i, v, rfl, rfl, SqL.of (k.sub _ _ t1), hv, q _ _ G H k.stp rv h⟩
    | _ => exact h.elim
  | @tup p xs ds t1 q1 =>
    cases r2 with
    | int i =>
      simp only at h
      cases hd : atI ds i with
      | none => rw [hd] at h; exact h.elim
      | some d =>
        rw [hd] at h
        obtain ⟨v, hv, rv⟩ := at_rp q1 hd
        exact .inr (.inl ⟨p, xs, i, v, rfl, rfl, k.sub.sqT t1, hv, q _ _ G H k.stp rv h⟩)
    | _ => exact h.elim
  | str z =>
    cases r2 with
    | int i =>
      simp only at h
      obtain ⟨hz, h⟩ := h
      cases hd : atI z.cps.toList i with
      | none => rw [hd] at h; exact h.elim
      | some m =>
        rw [hd] at h
        exact .inr (.inr ⟨z, i, m, rfl, rfl, line_le hz, hd, q _ _ G H k.stp (.str _) h⟩)
    | _ => exact h.elim
  | _ => cases r2 <;> exact h.elim
/-! slices -/
abbrev DO := En → (Option Int → Prop) → Prop
structure PDO (w : Wd) (X : Cx) (e : Option Expr) (td : DO) : Prop where
  ex : ∃ to, PO X e to ∧ ∀ σ ρ G H (P : Option Int → Prop) (Q : Option Int → Hp → Prop), Okw w G H → SlOk X.K G σ ρ → td ρ P → (∀ o G2 H2, Stp w G H G2 H2 → P o → Q o H2) → to σ H Q
def dNo : DO := fun _ P => P none
def dSo (ta : DE) : DO := fun ρ P => ta ρ fun d => match d with
  | .int i => P (some i)
  | _ => False
theorem do_no : PDO w X none dNo := ⟨_, po_none, fun _ _ G H _ _ k _ h q => q _ G H k.stp h⟩
theorem do_so (ha : PD w X a ta) : PDO w X (some a) (dSo ta) := by
  obtain ⟨ta', a1, a2⟩ := ha
  refine ⟨_, po_some a1, fun σ ρ G H P Q k s h q => ?_⟩
  refine a2 σ ρ G H _ _ k s h fun v d G1 H1 s1 r1 p1 => ?_
  cases r1 with
  | int i => exact ⟨i, rfl, q _ G1 H1 s1 p1⟩
  | _ => exact p1.elim
def cutZ (xs : List DD) (lo hi : Option Int) : List DD := (xs.drop (HT.sIx xs.length 0 lo)).take (HT.sIx xs.length xs.length hi - HT.sIx xs.length 0 lo)
theorem RpAll.cut {K : PySem.W.Frag} {G : Hp} {xs : List V} {ds : List DD} (r : RpAll K G xs ds) (lo hi : Option Int) : RpAll K G (cutV xs lo hi) (cutZ ds lo hi) := by
  unfold cutV cutZ
  rw [r.len]
  exact (r.drop _).take _
theorem cut_whole (xs : List V) (lo hi : Option Int) (h : HT.sIx xs.length 0 lo = 0 ∧ HT.sIx xs.length xs.length hi = xs.length) : cutV xs lo hi = xs := by
  unfold cutV
  rw [h.1, h.2, List.drop_zero, Nat.sub_zero, List.take_length]
def dSl (ta : DE) (tl th : DO) : DE := fun ρ P => ta ρ fun x => tl ρ fun lo => th ρ fun hi => match x with
  | .list ds => P (.list (cutZ ds lo hi))
  | .tuple ds => P (.tuple (cutZ ds lo hi))
  | _ => False
variable {lo hi : Option Expr} {tl th : DO}
theorem pd_sl (ha : PD w X a ta) (hl : PDO w X lo tl) (hh : PDO w X hi th) : PD w X (.Subscript a (.Slice lo hi none p2) pos) (dSl ta tl th) := by
  obtain ⟨ta', a1, a2⟩ := ha
  obtain ⟨tl', l1, l2⟩ := hl
  obtain ⟨th', h1, h2⟩ := hh
  refine ⟨_, pe_slice (SlR.or sl_list sl_tupA) a1 l1 h1, fun σ ρ G H P Q k s h q => ?_⟩
  refine a2 σ ρ G H _ _ k s h fun x d G1 H1 s1 r1 p1 => ?_
  refine l2 σ ρ G1 H1 _ _ (s1.okw k) (s.mono s1.up) p1 fun o G2 H2 s2 p2 => ?_
  have k2 := s2.okw (s1.okw k)
  refine h2 σ ρ G2 H2 _ _ k2 (s.mono (s1.up.trans s2.up)) p2 fun o' G3 H3 s3 p3 => ?_
  have k3 := s3.okw k2
  have r3 := r1.mono (s2.up.trans s3.up)
  have s13 := (s1.trans s2).trans s3
  cases r3 with
  | @lst p xs ds t1 q1 =>
    exact .inl ⟨p, xs, rfl, SqL.of (k3.sub _ _ t1), fun n hn => q _ _ _ _ (s13.trans (Stp.new k3 hn)) (.lst upd_same ((q1.cut o o').mono (Sub.new (k3.g_none hn)))) p3⟩
  | @tup p xs ds t1 q1 =>
    refine .inr ⟨p, xs, rfl, k3.sub.sqT t1, fun hw => ?_, fun _ n hn => ?_⟩
    · refine q _ _ G3 H3 s13 (.tup t1 ?_) p3
      have z := q1.cut o o'
      rw [cut_whole xs o o' hw] at z
      exact z
    · exact q _ _ _ _ (s13.trans (Stp.new k3 hn)) (.tup (SqT.of upd_same) ((q1.cut o o').mono (Sub.new (k3.g_none hn)))) p3
  | _ => exact p3.elim
/-! calls of built-ins -/
variable {x : Str} {id : String} {p pp : Pos}
def dCall (g : D1) (t : DA) : DE := fun ρ P => t ρ fun ds => g ds P
theorem pd_cb {g : D1} {t : DA} (hc : CallD w X (.builtin id) g) (hm : X.mg x = none) (hv : bootBuiltins x = some (.builtin id)) (ha : PDA w X (e :: es) t) (hg : Gl X x := by rfl) (hn : x ≠ "__name__" := by decide) (hdb : (x == ("__debug__" : Str)) = false := by decide)
    (he : starEach (e :: es) X.env = (false, eval e X.env) :: starEach es X.env := by rfl) (hpl : (backTo pos (starEach es X.env)).any (·.1) = false := by rfl) : PD w X (.Call (.Name x p) (e :: es) [] pos) (dCall g t) := by
  obtain ⟨r, c1, c2⟩ := hc
  obtain ⟨t', a1, a2⟩ := ha
  refine ⟨_, pe_callB c1 hg hm hv a1 hn hdb he hpl, fun σ ρ G H P Q k s h q => ?_⟩
  refine a2 σ ρ G H _ _ k s h fun vs ds G1 H1 s1 r1 _ p1 => ?_
  exact c2 vs ds G1 H1 P Q (s1.okw k) r1 p1 fun v d G2 H2 s2 => q v d G2 H2 (s1.trans s2)
theorem pd_ct {g : D1} {t : DA} {T : String} (hc : CallD w X (.type T) g) (hm : X.mg x = none) (hv : bootBuiltins x = some (.type T)) (ha : PDA w X (e :: es) t) (hg : Gl X x := by rfl) (hn : x ≠ "__name__" := by decide) (hdb : (x == ("__debug__" : Str)) = false := by decide)
    (he : starEach (e :: es) X.env = (false, eval e X.env) :: starEach es X.env := by rfl) (hpl : (backTo pos (starEach es X.env)).any (·.1) = false := by rfl) : PD w X (.Call (.Name x p) (e :: es) [] pos) (dCall g t) := by
  obtain ⟨r, c1, c2⟩ := hc
  obtain ⟨t', a1, a2⟩ := ha
  refine ⟨_, pe_callTy c1 hg hm hv a1 hn hdb he hpl, fun σ ρ G H P Q k s h q => ?_⟩
  refine a2 σ ρ G H _ _ k s h fun vs ds G1 H1 s1 r1 _ p1 => ?_
  exact c2 vs ds G1 H1 P Q (s1.okw k) r1 p1 fun v d G2 H2 s2 => q v d G2 H2 (s1.trans s2)
/-- one argument -/
def g1 (g : DD → (DD → Prop) → Prop) : D1 := fun ds P => match ds with
  | [d] => g d P
  | _ => False
theorem one_of {K : PySem.W.Frag} {G : Hp} {vs : List V} {ds : List DD} {g : DD → (DD → Prop) → Prop} {P : DD → Prop} (r : RpAll K G vs ds) (h : g1 g ds P) : ∃ v d, vs = [v] ∧ Rp K G v d ∧ g d P := by
  cases r with
  | nil => exact h.elim
  | cons a b =>
    cases b with
    | nil => exact ⟨_, _, rfl, a, h⟩
    | cons _ _ => exact h.elim
def gLen : DD → (DD → Prop) → Prop := fun d P => match d with
  | .list ds => P (.int ds.length)
  | .tuple ds => P (.int ds.length)
  | .str z => z.length ≤ 1000000 ∧ P (.int z.length)
  | _ => False
theorem cd_len : CallD w X (.builtin "len") (g1 gLen) := by
  refine ⟨_, call_len, fun vs ds G H P Q k r h q => ?_⟩
  obtain ⟨v, d, rfl, r1, h⟩ := one_of r h
  cases r1 with
  | @lst p xs es t1 q1 => exact ⟨_, es.length, rfl, .inl ⟨xs, SqL.of (k.sub _ _ t1), q1.len.symm⟩, q _ _ G H k.stp (.int _) h⟩
  | @tup p xs es t1 q1 => exact ⟨_, es.length, rfl, .inr ⟨xs, k.sub.sqT t1, q1.len.symm⟩, q _ _ G H k.stp (.int _) h⟩
  | str z => exact ⟨_, z.length, rfl, ⟨line_le h.1, rfl⟩, q _ _ G H k.stp (.int _) h.2⟩
  | _ => exact h.elim
def gAbs : DD → (DD → Prop) → Prop := fun d P => match d with
  | .int i => P (.int (if i < 0 then -i else i))
  | _ => False
theorem cd_abs : CallD w X (.builtin "abs") (g1 gAbs) := by
  refine ⟨_, call_abs, fun vs ds G H P Q k r h q => ?_⟩
  obtain ⟨v, d, rfl, r1, h⟩ := one_of r h
  cases r1 with
  | int i => exact ⟨i, rfl, q _ _ G H k.stp (.int _) h⟩
  | _ => exact h.elim
def gInt : DD → (DD → Prop) → Prop := fun d P => match d with
  | .int i => P (.int i)
  | .bool b => P (.int (if b then 1 else 0))
  | _ => False
theorem cd_int : CallD w X (.type "int") (g1 gInt) := by
  refine ⟨_, call_int1, fun vs ds G H P Q k r h q => ?_⟩
  obtain ⟨v, d, rfl, r1, h⟩ := one_of r h
  cases r1 with
  | int i => exact .inl ⟨i, rfl, q _ _ G H k.stp (.int _) h⟩
  | bl i => exact .inr ⟨i, rfl, q _ _ G H k.stp (.int _) h⟩
  | _ => exact h.elim
def gOrd : DD → (DD → Prop) → Prop := fun d P => match d with
  | .str z => z.length = 1 ∧ P (.int (z.cps.getD 0 0 : Nat))
  | _ => False
theorem cd_ord : CallD w X (.builtin "ord") (g1 gOrd) := by
  refine ⟨_, call_ord, fun vs ds G H P Q k r h q => ?_⟩
  obtain ⟨v, d, rfl, r1, h⟩ := one_of r h
  cases r1 with
  | str z => exact ⟨z, rfl, h.1, q _ _ G H k.stp (.int _) h.2⟩
  | _ => exact h.elim
def gTuple : DD → (DD → Prop) → Prop := fun d P => match d with
  | .list ds => P (.tuple ds)
  | .tuple ds => P (.tuple ds)
  | _ => False
theorem cd_tuple : CallD w X (.type "tuple") (g1 gTuple) := by
  refine ⟨_, call_tuple_of, fun vs ds G H P Q k r h q => ?_⟩
  obtain ⟨v, d, rfl, r1, h⟩ := one_of r h
  cases r1 with
  | @lst p xs es t1 q1 => exact ⟨p, xs, rfl, .inl ⟨SqL.of (k.sub _ _ t1), fun n hn => q _ _ _ _ (Stp.new k hn) (.tup (SqT.of upd_same) (q1.mono (Sub.new (k.g_none hn)))) h⟩⟩
  | @tup p xs es t1 q1 => exact ⟨p, xs, rfl, .inr ⟨k.sub.sqT t1, q _ _ G H k.stp (.tup t1 q1) h⟩⟩
  | _ => exact h.elim
def gList : DD → (DD → Prop) → Prop := fun d P => match d with
  | .list ds => P (.list ds)
  | .tuple ds => P (.list ds)
  | _ => False
theorem cd_list : CallD w X (.type "list") (g1 gList) := by
  refine ⟨_, call_list_of, fun vs ds G H P Q k r h q => ?_⟩
  obtain ⟨v, d, rfl, r1, h⟩ := one_of r h
  cases r1 with
  | @lst p xs es t1 q1 => exact ⟨p, xs, rfl, .inl (SqL.of (k.sub _ _ t1)), fun n hn => q _ _ _ _ (Stp.new k hn) (.lst upd_same (q1.mono (Sub.new (k.g_none hn)))) h⟩
  | @tup p xs es t1 q1 => exact ⟨p, xs, rfl, .inr (k.sub.sqT t1), fun n hn => q _ _ _ _ (Stp.new k hn) (.lst upd_same (q1.mono (Sub.new (k.g_none hn)))) h⟩
  | _ => exact h.elim
/-! isinstance -/
inductive Ty where
  | str | int | bool | tuple | list
def Ty.nm : Ty → String
  | .str => "str"
  | .int => "int"
  | .bool => "bool"
  | .tuple => "tuple"
  | .list => "list"
def isa : Ty → DD → Bool
  | .str, .str _ => true
  | .int, .int _ => true
  | .int, .bool _ => true
  | .bool, .bool _ => true
  | .tuple, .tuple _ => true
  | .list, .list _ => true
  | _, _ => false
theorem isa_kit {K : PySem.W.Frag} {G : Hp} {v : V} {d : DD} (r : Rp K G v d) (T : Ty) : ∃ t, TyX K G v (.type t) ∧ kitB t T.nm = some (isa T d) := by
  cases r with
  | non => exact ⟨_, .base .non, by cases T <;> first | (show _ = some true; decide +kernel) | (show _ = some false; decide +kernel)⟩
  | bl b => exact ⟨_, .base (.bl b), by cases T <;> first | (show _ = some true; decide +kernel) | (show _ = some false; decide +kernel)⟩
  | int i => exact ⟨_, .base (.int i), by cases T <;> first | (show _ = some true; decide +kernel) | (show _ = some false; decide +kernel)⟩
  | str z => exact ⟨_, .base (.str z), by cases T <;> first | (show _ = some true; decide +kernel) | (show _ = some false; decide +kernel)⟩
  | lst h _ => exact ⟨_, .base (.lst h), by cases T <;> first | (show _ = some true; decide +kernel) | (show _ = some false; decide +kernel)⟩
  | tup h _ =>
    rcases h with (h | ⟨o, h⟩) | ⟨o, its, n, e, c, _⟩
    · exact ⟨_, .base (.tup h), by cases T <;> first | (show _ = some true; decide +kernel) | (show _ = some false; decide +kernel)⟩
    · exact ⟨_, .fTuple h, by cases T <;> first | (show _ = some true; decide +kernel) | (show _ = some false; decide +kernel)⟩
    · exact ⟨_, .kTuple e c, by cases T <;> first | (show _ = some true; decide +kernel) | (show _ = some false; decide +kernel)⟩
def dIsi (T : Ty) (ta : DE) : DE := fun ρ P => ta ρ fun d => P (.bool (isa T d))
theorem pd_isi (T : Ty) {y : Str} (hm : X.mg "isinstance" = none) (hm2 : X.mg y = none) (hv2 : bootBuiltins y = some (.type T.nm)) (ha : PD w X e ta) (hg : Gl X "isinstance" := by rfl) (hg2 : Gl X y := by rfl) (hn2 : y ≠ "__name__" := by decide) (hd2 : (y == ("__debug__" : Str)) = false := by decide)
    (hs1 : starEach [e, .Name y pp] X.env = (false, eval e X.env) :: starEach [.Name y pp] X.env := by rfl) (hpl : (backTo pos (starEach [.Name y pp] X.env)).any (·.1) = false := by rfl) : PD w X (.Call (.Name "isinstance" p) [e, .Name y pp] [] pos) (dIsi T ta) := by
  obtain ⟨ta', a1, a2⟩ := ha
  refine ⟨_, pe_callB call_isi hg hm (by decide +kernel) (pa_cons a1 (pa_cons (pe_bltn (v := .ty T.nm) hg2 hm2 hv2 rfl hn2 hd2) pa_nil) hs1) (by decide) (by decide) hs1 hpl, fun σ ρ G H P Q k s h q => ?_⟩
  refine a2 σ ρ G H _ _ k s h fun v d G1 H1 s1 r1 p1 => ?_
  obtain ⟨t, ht, hk⟩ := isa_kit (r1.mono s1.sub) T
  exact ⟨v, .ty T.nm, .type t, .type T.nm, isa T d, rfl, .ty _, ht, kit_ty hk, q _ _ G1 H1 s1 (.bl _) p1⟩
end
end Z

set_option Elab.async false
set_option linter.all false
set_option maxRecDepth 100000
set_option maxHeartbeats 4000000
namespace PySem
section
variable {prog : Program} {w : World} {A : Around} {E : Value → Shared → Prop} {s : Shared}
theorem zmax2 {a b : Value} {Q : Value → Shared → Prop} {bt : Nat → Nat → Bool} (hh : A.handled = none) (hc : CmpIn prog w A.in1 .Gt s.heap (fun i v => #[a, b][i]? = some v) bt)
    (h : ∀ h' tk, (∀ c o, s.heap.get? c = some o → h'.get? c = some o) → Q (if bt 1 0 then b else a) { s with heap := h', toks := tk }) : wpAny (model prog w) A (call (.builtin "max") [a, b]) Q E s := by
  have hname : (toString "max" ++ toString ".loop" : String) = "max.loop" := by decide
  refine call_function_tree F.kind_max F.plain_max F.entry_max (F.args_max2 _ _) (wpAny_bind (wpAny_of_eq (show Builtin.Builtins.bindParams "max" ["key", "default"] 0 ⟨[], []⟩ = pure [none, none] from rfl) ?_))
  show wpAny _ A.in1 (newTuple [a, b] >>= _) _ _ s
  have hT : (s.heap.push { cls := .type "tuple", data := .seq [a, b].toArray }).IsTuple s.heap.objs.size #[a, b] := ⟨_, Heap.get?_push_size _ rfl, rfl, 0, rfl⟩
  have keep0 : ∀ c o, s.heap.get? c = some o → (s.heap.push { cls := .type "tuple", data := .seq [a, b].toArray }).get? c = some o := fun c o e => Heap.get?_push_of_some _ e
  refine wpAny_bind (wpAny_newObj_type (wpAny_bind (W.iter_tupleW (A := A.in1) hh hT fun s₂ e WW st hfp hw hk => wpAny_bind (wpAny_newObj_type ?_))))
  have hSf := fun hm => Nat.lt_irrefl _ (hfp s₂.heap.objs.size hm)
  have kk : ∀ c o, s.heap.get? c = some o → s₂.heap.get? c = some o := fun c o z => hk c o (keep0 c o z)
  rw [hname]
  refine wpAny_pure ⟨plainId_quiet F.plain_max_loop _, codeAny_max_loop_firstH WW s.heap (fun c o z hm => hw c o (keep0 c o z) hm) bt hc s₂.heap.objs.size hSf (fresh_in kk) _ (show 0 < 2 from Nat.zero_lt_succ _) (fun c o z => Heap.get?_push_of_some _ (kk c o z)) (WW.frame 0 s₂ _ s₂.toks st (Nat.le_refl _) fun c _ o z => Heap.get?_push_of_some _ z) (Heap.get?_push_size _ rfl) fun v s' hP hm => ?_⟩
  obtain ⟨h', tk, rfl, hk'⟩ := PySem.W.moved_old e rfl (Moved.drop_new (tk := s₂.toks) hm (Nat.le_refl _))
  have hv : v = if bt 1 0 then b else a := by
    cases hb : bt 1 0 <;> simp [argBest, hb] at hP <;> simp [hP]
  rw [hv]
  exact h h' tk fun c o z => hk' c o (keep0 c o z)
theorem zmin2 {a b : Value} {Q : Value → Shared → Prop} {bt : Nat → Nat → Bool} (hh : A.handled = none) (hc : CmpIn prog w A.in1 .Lt s.heap (fun i v => #[a, b][i]? = some v) bt)
    (h : ∀ h' tk, (∀ c o, s.heap.get? c = some o → h'.get? c = some o) → Q (if bt 1 0 then b else a) { s with heap := h', toks := tk }) : wpAny (model prog w) A (call (.builtin "min") [a, b]) Q E s := by
  have hname : (toString "min" ++ toString ".loop" : String) = "min.loop" := by decide
  refine call_function_tree F.kind_min F.plain_min F.entry_min (F.args_min2 _ _) (wpAny_bind (wpAny_of_eq (show Builtin.Builtins.bindParams "min" ["key", "default"] 0 ⟨[], []⟩ = pure [none, none] from rfl) ?_))
  show wpAny _ A.in1 (newTuple [a, b] >>= _) _ _ s
  have hT : (s.heap.push { cls := .type "tuple", data := .seq [a, b].toArray }).IsTuple s.heap.objs.size #[a, b] := ⟨_, Heap.get?_push_size _ rfl, rfl, 0, rfl⟩
  have keep0 : ∀ c o, s.heap.get? c = some o → (s.heap.push { cls := .type "tuple", data := .seq [a, b].toArray }).get? c = some o := fun c o e => Heap.get?_push_of_some _ e
  refine wpAny_bind (wpAny_newObj_type (wpAny_bind (W.iter_tupleW (A := A.in1) hh hT fun s₂ e WW st hfp hw hk => wpAny_bind (wpAny_newObj_type ?_))))
  have hSf := fun hm => Nat.lt_irrefl _ (hfp s₂.heap.objs.size hm)
  have kk : ∀ c o, s.heap.get? c = some o → s₂.heap.get? c = some o := fun c o z => hk c o (keep0 c o z)
  rw [hname]
  refine wpAny_pure ⟨plainId_quiet F.plain_min_loop _, codeAny_min_loop_firstH WW s.heap (fun c o z hm => hw c o (keep0 c o z) hm) bt hc s₂.heap.objs.size hSf (fresh_in kk) _ (show 0 < 2 from Nat.zero_lt_succ _) (fun c o z => Heap.get?_push_of_some _ (kk c o z)) (WW.frame 0 s₂ _ s₂.toks st (Nat.le_refl _) fun c _ o z => Heap.get?_push_of_some _ z) (Heap.get?_push_size _ rfl) fun v s' hP hm => ?_⟩
  obtain ⟨h', tk, rfl, hk'⟩ := PySem.W.moved_old e rfl (Moved.drop_new (tk := s₂.toks) hm (Nat.le_refl _))
  have hv : v = if bt 1 0 then b else a := by
    cases hb : bt 1 0 <;> simp [argBest, hb] at hP <;> simp [hP]
  rw [hv]
  exact h h' tk fun c o z => hk' c o (keep0 c o z)
end
end PySem
namespace Z
open PySem PySem.Spec PyProof.Rows L2
theorem ordL_ints (f : Bool) : ∀ (ns ms : List Int), ZO.ordL f (ns.map PyData.int) (ms.map PyData.int) = some (bif f then HT.lexLt ms ns else HT.lexLt ns ms)
  | [], [] => by cases f <;> rfl
  | [], _ :: _ => by cases f <;> rfl
  | _ :: _, [] => by cases f <;> rfl
  | n :: ns, m :: ms => by
    simp only [List.map_cons, ZO.ordL, HT.lexLt_cons]
    by_cases e : n = m
    · subst e
      simp only [PyData.eqv, beq_self_eq_true, cond_true, if_true]
      exact ordL_ints f ns ms
    · have h : PyData.eqv (.int n) (.int m) = false := by simpa [PyData.eqv] using e
      rw [h, if_neg e, if_neg (fun z => e z.symm)]
      cases f <;> rfl
theorem ord_ints (f : Bool) (ns ms : List Int) : ZO.ord f (.tuple (ns.map PyData.int)) (.tuple (ms.map PyData.int)) = some (bif f then HT.lexLt ms ns else HT.lexLt ns ms) := by
  rw [ZO.ord]; exact ordL_ints f ns ms
theorem depth_ints : ∀ ns : List Int, PyData.depthAll (ns.map PyData.int) = 0
  | [] => rfl
  | n :: ns => by rw [List.map_cons, PyData.depthAll, depth_ints ns]; rfl
theorem plain_ints : ∀ ns : List Int, PyData.plainAll (ns.map PyData.int) = true
  | [] => rfl
  | n :: ns => by rw [List.map_cons, PyData.plainAll, plain_ints ns]; rfl
theorem rpAll_ints {K : PySem.W.Frag} {H : Hp} : ∀ ns : List Int, RpAll K H (ns.map V.int) (ns.map PyData.int)
  | [] => .nil
  | n :: ns => .cons (.int n) (rpAll_ints ns)
section
variable {w : Wd} {X : Cx}
def rM2 (K : PySem.W.Frag) (mx : Bool) : List V → Hp → VK → Prop := fun xs H Q => ∃ (a b : Addr) (ns ms : List Int), xs = [.ref a, .ref b] ∧ SqT K H a (ns.map V.int) ∧ SqT K H b (ms.map V.int) ∧ Q (.ref (if (bif mx then HT.lexLt ns ms else HT.lexLt ms ns) = true then b else a)) H
theorem cmp_m2 {pins : List (Addr × Obj)} {s : Shared} {σ : L2.St} {H : Hp} {a b : Addr} {ns ms : List Int} (f : Bool) (hu : X.A.units + 64 < cLine) (I : Inv X pins σ H s) (ha : SqT X.K H a (ns.map V.int)) (hb : SqT X.K H b (ms.map V.int)) :
    ∃ bt, CmpIn X.prog X.w X.A.in1 (ZO.opOf f) s.heap (fun i v => #[Value.ref a, Value.ref b][i]? = some v) bt ∧ bt 1 0 = bif f then HT.lexLt ns ms else HT.lexLt ms ns := by
  have ra : Rp X.K H (.ref a) (.tuple (ns.map PyData.int)) := .tup ha (rpAll_ints ns)
  have rb : Rp X.K H (.ref b) (.tuple (ms.map PyData.int)) := .tup hb (rpAll_ints ms)
  obtain ⟨as, r1⟩ := ra.reads I rfl
  obtain ⟨bs, r2⟩ := rb.reads I rfl
  have all : ∀ (i : Nat) v, #[Value.ref a, Value.ref b][i]? = some v → ∃ cs, Reads s.heap v (.tuple ((if i = 0 then ns else ms).map PyData.int)) cs := fun i v hv => by
    match i, hv with
    | 0, hv =>
      have e : Value.ref a = v := Option.some.inj hv
      subst e
      exact ⟨as, r1⟩
    | 1, hv =>
      have e : Value.ref b = v := Option.some.inj hv
      subst e
      exact ⟨bs, r2⟩
    | i + 2, hv => simp at hv
  refine ⟨fun i j => bif f then HT.lexLt (if j = 0 then ns else ms) (if i = 0 then ns else ms) else HT.lexLt (if i = 0 then ns else ms) (if j = 0 then ns else ms), fun i j vi vj s' Q E hk hi hj hq => ?_, by cases f <;> rfl⟩
  obtain ⟨cs, q1⟩ := all i vi hi
  obtain ⟨ds, q2⟩ := all j vj hj
  refine ZO.rc_ord f 1 _ _ X.A.in1 s' vi vj cs ds _ ?_ (Reads.keeps hk q1) (Reads.keeps hk q2) ?_ ?_ ?_ (ord_ints f _ _) X.prog X.w E Q hq
  · rw [PyData.depth, depth_ints]; exact Nat.le_refl _
  · rw [PyData.plain]; exact plain_ints _
  · rw [PyData.plain]; exact plain_ints _
  · show X.A.units + 1 + 1 < cLine; omega
theorem call_zmax2 (hu : X.A.units + 64 < cLine) (hc : X.calm = true) : CallR X (.builtin "max") (rM2 X.K true) := by
  intro pins s σ H xs us Q I r h
  obtain ⟨a, b, ns, ms, rfl, ha, hb, q⟩ := h
  obtain ⟨u, v, rfl, e1, e2⟩ := vals2 r
  cases e1; cases e2
  obtain ⟨bt, c1, c2⟩ := cmp_m2 (X := X) true hu I ha hb
  refine zmax2 (I.ok.hd hc) c1 fun h' tk k => ⟨_, H, I.kept k, ?_, q⟩
  rw [c2]
  show _ = Value.ref _
  cases z : (bif true then HT.lexLt ns ms else HT.lexLt ms ns) <;> rfl
theorem call_zmin2 (hu : X.A.units + 64 < cLine) (hc : X.calm = true) : CallR X (.builtin "min") (rM2 X.K false) := by
  intro pins s σ H xs us Q I r h
  obtain ⟨a, b, ns, ms, rfl, ha, hb, q⟩ := h
  obtain ⟨u, v, rfl, e1, e2⟩ := vals2 r
  cases e1; cases e2
  obtain ⟨bt, c1, c2⟩ := cmp_m2 (X := X) false hu I ha hb
  refine zmin2 (I.ok.hd hc) c1 fun h' tk k => ⟨_, H, I.kept k, ?_, q⟩
  rw [c2]
  show _ = Value.ref _
  cases z : (bif false then HT.lexLt ns ms else HT.lexLt ms ns) <;> rfl
/-- max, min of two ints or of two tuples of ints -/
def gM2 (mx : Bool) : D1 := fun ds P => match ds with
  | [.int i, .int j] => P (.int (bif mx then (if j > i then j else i) else (if j < i then j else i)))
  | [.tuple xs, .tuple ys] => match intsD xs, intsD ys with
    | some ns, some ms => P (.tuple (if (bif mx then HT.lexLt ns ms else HT.lexLt ms ns) = true then ys else xs))
    | _, _ => False
  | _ => False
def rI2 (mx : Bool) : List V → Hp → VK → Prop := fun xs H Q => ∃ i j, xs = [.int i, .int j] ∧ Q (.int (bif mx then (if j > i then j else i) else (if j < i then j else i))) H
theorem rc_m2 {K : PySem.W.Frag} (mx : Bool) : RC w K (fun xs H Q => rM2 K mx xs H Q ∨ rI2 mx xs H Q) (gM2 mx) := by
  intro vs ds G H P Q k r h q
  cases r with
  | nil => exact h.elim
  | cons r1 r =>
    cases r with
    | nil => cases r1 <;> exact h.elim
    | cons r2 r =>
      cases r with
      | cons _ _ => cases r1 <;> cases r2 <;> exact h.elim
      | nil =>
        cases r1 with
        | int i =>
          cases r2 with
          | int j => exact .inr ⟨i, j, rfl, q _ _ G H k.stp (.int _) h⟩
          | _ => exact h.elim
        | @tup a xs es t1 q1 =>
          cases r2 with
          | @tup b ys fs t2 q2 =>
            simp only [gM2] at h
            cases h1 : intsD es with
            | none => rw [h1] at h; exact h.elim
            | some ns =>
              cases h2 : intsD fs with
              | none => rw [h1, h2] at h; exact h.elim
              | some ms =>
                rw [h1, h2] at h
                have e1 := intsD_eq h1
                have e2 := intsD_eq h2
                subst e1 e2
                have v1 := rp_ints q1
                have v2 := rp_ints q2
                subst v1 v2
                refine .inl ⟨a, b, ns, ms, rfl, k.sub.sqT t1, k.sub.sqT t2, q _ _ G H k.stp ?_ h⟩
                split
                · exact .tup t2 q2
                · exact .tup t1 q1
          | _ => exact h.elim
        | _ => cases r2 <;> exact h.elim
theorem callR_or {f : Value} {r r' : List V → Hp → VK → Prop} (h : CallR X f r) (h' : CallR X f r') : CallR X f (fun xs H Q => r xs H Q ∨ r' xs H Q) := by
  intro pins s σ H xs us Q I rv q
  rcases q with q | q
  · exact h pins s σ H xs us Q I rv q
  · exact h' pins s σ H xs us Q I rv q
theorem cd_max2 {k : Nat} (hr : Room k X.A) (hc : X.calm = true := by rfl) : CallD w X (.builtin "max") (gM2 true) := ⟨_, callR_or (call_zmax2 hr.units hc) (call_max2 hc), rc_m2 true⟩
theorem cd_min2 {k : Nat} (hr : Room k X.A) (hc : X.calm = true := by rfl) : CallD w X (.builtin "min") (gM2 false) := ⟨_, callR_or (call_zmin2 hr.units hc) (call_min2 hc), rc_m2 false⟩
/-- max, min of one list or tuple of ints, not empty -/
def rM1 (K : PySem.W.Frag) (mx : Bool) : List V → Hp → VK → Prop := fun xs H Q => ∃ (a : Addr) (n : Int) (ns : List Int), xs = [.ref a] ∧ (SqT K H a ((n :: ns).map V.int) ∨ SqL K H a ((n :: ns).map V.int)) ∧ Q (.int (bif mx then ns.foldl (fun a y => if a < y then y else a) n else ns.foldl (fun a y => if y < a then y else a) n)) H
theorem call_zmax1 (hu : X.A.units + 64 < cLine) (hc : X.calm = true) : CallR X (.builtin "max") (rM1 X.K true) := by
  intro pins s σ H xs us Q I r h
  obtain ⟨a, n, ns, rfl, ha, q⟩ := h
  obtain ⟨u, rfl, e1⟩ := vals1 r
  cases e1
  rcases ha with ha | ha
  · obtain ⟨its, r1, p1, _⟩ := I.tuple ha
    refine PySem.W.max_tuple_datum (α := Int) (x := n) (xs := ns) (I.ok.hd hc) p1 (PySem.W.HoldAll.of_ints (Vals.ints r1)) (by show X.A.units + 1 + 0 < cLine; omega) fun i v h' tk hi Hv k => ?_
    obtain ⟨t, rfl⟩ := PySem.W.int_of_holds Hv
    exact ⟨.int _, H, I.kept k, ⟨t, rfl⟩, by simpa [PySem.W.maxOf, PySem.W.DatumOrd.lt] using q⟩
  · obtain ⟨its, r1, ⟨o, m, e, c, _, d⟩, _⟩ := I.list ha
    refine PySem.W.max_list_datum (α := Int) (x := n) (xs := ns) (I.ok.hd hc) ⟨o, e, c, m, d⟩ (PySem.W.HoldAll.of_ints (Vals.ints r1)) (by show X.A.units + 1 + 0 < cLine; omega) fun i v h' tk hi Hv k => ?_
    obtain ⟨t, rfl⟩ := PySem.W.int_of_holds Hv
    exact ⟨.int _, H, I.kept k, ⟨t, rfl⟩, by simpa [PySem.W.maxOf, PySem.W.DatumOrd.lt] using q⟩
theorem call_zmin1 (hu : X.A.units + 64 < cLine) (hc : X.calm = true) : CallR X (.builtin "min") (rM1 X.K false) := by
  intro pins s σ H xs us Q I r h
  obtain ⟨a, n, ns, rfl, ha, q⟩ := h
  obtain ⟨u, rfl, e1⟩ := vals1 r
  cases e1
  rcases ha with ha | ha
  · obtain ⟨its, r1, p1, _⟩ := I.tuple ha
    refine PySem.W.min_tuple_datum (α := Int) (x := n) (xs := ns) (I.ok.hd hc) p1 (PySem.W.HoldAll.of_ints (Vals.ints r1)) (by show X.A.units + 1 + 0 < cLine; omega) fun i v h' tk hi Hv k => ?_
    obtain ⟨t, rfl⟩ := PySem.W.int_of_holds Hv
    exact ⟨.int _, H, I.kept k, ⟨t, rfl⟩, by simpa [PySem.W.minOf, PySem.W.DatumOrd.lt] using q⟩
  · obtain ⟨its, r1, ⟨o, m, e, c, _, d⟩, _⟩ := I.list ha
    refine PySem.W.min_list_datum (α := Int) (x := n) (xs := ns) (I.ok.hd hc) ⟨o, e, c, m, d⟩ (PySem.W.HoldAll.of_ints (Vals.ints r1)) (by show X.A.units + 1 + 0 < cLine; omega) fun i v h' tk hi Hv k => ?_
    obtain ⟨t, rfl⟩ := PySem.W.int_of_holds Hv
    exact ⟨.int _, H, I.kept k, ⟨t, rfl⟩, by simpa [PySem.W.minOf, PySem.W.DatumOrd.lt] using q⟩
def bestI (mx : Bool) (n : Int) (ns : List Int) : Int := bif mx then ns.foldl (fun a y => if a < y then y else a) n else ns.foldl (fun a y => if y < a then y else a) n
def gM1 (mx : Bool) : DD → (DD → Prop) → Prop := fun d P => match seqOf d with
  | some ds => match intsD ds with
    | some (n :: ns) => P (.int (bestI mx n ns))
    | _ => False
  | none => False
theorem rc_m1 {K : PySem.W.Frag} (mx : Bool) : RC w K (rM1 K mx) (g1 (gM1 mx)) := by
  intro vs ds G H P Q k r h q
  obtain ⟨v, d, rfl, r1, h⟩ := one_of r h
  unfold gM1 at h
  cases r1 with
  | @lst a xs es t1 q1 =>
    simp only [seqOf] at h
    cases h1 : intsD es with
    | none => rw [h1] at h; exact h.elim
    | some l =>
      cases l with
      | nil => rw [h1] at h; exact h.elim
      | cons n ns =>
        rw [h1] at h
        have e1 := intsD_eq h1
        subst e1
        have v1 := rp_ints q1
        subst v1
        exact ⟨a, n, ns, rfl, .inr (SqL.of (k.sub _ _ t1)), q _ _ G H k.stp (.int _) h⟩
  | @tup a xs es t1 q1 =>
    simp only [seqOf] at h
    cases h1 : intsD es with
    | none => rw [h1] at h; exact h.elim
    | some l =>
      cases l with
      | nil => rw [h1] at h; exact h.elim
      | cons n ns =>
        rw [h1] at h
        have e1 := intsD_eq h1
        subst e1
        have v1 := rp_ints q1
        subst v1
        exact ⟨a, n, ns, rfl, .inl (k.sub.sqT t1), q _ _ G H k.stp (.int _) h⟩
  | _ => exact h.elim
theorem cd_max1 {k : Nat} (hr : Room k X.A) (hc : X.calm = true := by rfl) : CallD w X (.builtin "max") (g1 (gM1 true)) := ⟨_, call_zmax1 hr.units hc, rc_m1 true⟩
theorem cd_min1 {k : Nat} (hr : Room k X.A) (hc : X.calm = true := by rfl) : CallD w X (.builtin "min") (g1 (gM1 false)) := ⟨_, call_zmin1 hr.units hc, rc_m1 false⟩
end
end Z

set_option Elab.async false
set_option linter.all false
set_option maxRecDepth 100000
set_option maxHeartbeats 4000000
namespace Z
open PySem PySem.Spec PyProof.Rows L2
section
variable {w : Wd} {X : Cx} {a b c e o : Expr} {es : List Expr} {ta tb tc to : DE} {pos p2 : Pos}
/-! methods of texts and lists -/
def strsD : List DD → Option (List Str)
  | [] => some []
  | .str i :: r => (strsD r).map (i :: ·)
  | _ :: _ => none
theorem strsD_eq : ∀ {ds : List DD} {ns : List Str}, strsD ds = some ns → ds = ns.map PyData.str
  | [], ns, h => by cases h; rfl
  | .str i :: r, ns, h => by
    simp only [strsD] at h
    cases e : strsD r with
    | none => rw [e] at h; cases h
    | some ms => rw [e] at h; cases h; rw [strsD_eq e]; rfl
  | .none :: _, _, h => by simp [strsD] at h
  | .bool _ :: _, _, h => by simp [strsD] at h
  | .int _ :: _, _, h => by simp [strsD] at h
  | .list _ :: _, _, h => by simp [strsD] at h
  | .tuple _ :: _, _, h => by simp [strsD] at h
  | .dict _ :: _, _, h => by simp [strsD] at h
theorem strsD_map : ∀ ns : List Str, strsD (ns.map PyData.str) = some ns
  | [] => rfl
  | n :: ns => by simp [strsD, strsD_map ns]
theorem rp_strs {K : PySem.W.Frag} {G : Hp} : ∀ {ns : List Str} {vs : List V}, RpAll K G vs (ns.map PyData.str) → vs = ns.map V.str
  | [], _, .nil => rfl
  | _ :: _, _, .cons (.str _) r => by rw [rp_strs r]; rfl
/-- a method of one argument -/
def RM (w : Wd) (K : PySem.W.Frag) (r : V → List V → Hp → VK → Prop) (g : D2) : Prop := ∀ x y d e G H (P : DD → Prop) (Q : VK), Okw w G H → Rp K G x d → Rp K G y e → g d e P →
  (∀ v d G2 H2, Stp w G H G2 H2 → Rp K G2 v d → P d → Q v H2) → r x [y] H Q
def dM1 (g : D2) (to ta : DE) : DE := fun ρ P => to ρ fun x => match x with
  | .str a => ta ρ fun y => g (.str a) y P
  | _ => False
theorem re_m1 {r : V → List V → Hp → VK → Prop} {g : D2} {to' ta' : TE} (hr : RM w X.K r g) (o2 : RE w X.K to' to) (a2 : RE w X.K ta' ta) : RE w X.K (tM1 r to' ta') (dM1 g to ta) := by
  intro σ ρ G H P Q k s h q
  refine o2 σ ρ G H _ _ k s h fun x d G1 H1 s1 r1 p1 => ?_
  cases r1 with
  | str z =>
    refine ⟨⟨z, rfl⟩, ?_⟩
    refine a2 σ ρ G1 H1 _ _ (s1.okw k) (s.mono s1.up) p1 fun y e G2 H2 s2 r2 p2 => ?_
    exact hr (.str z) y (.str z) e G2 H2 P Q (s2.okw (s1.okw k)) (.str z) r2 p2 fun v d G3 H3 s3 => q v d G3 H3 ((s1.trans s2).trans s3)
  | _ => exact p1.elim
def gJoin : D2 := fun x y P => match x, y with
  | .str a, .list ds => match strsD ds with
    | some ys => ((ys.map (·.length)).sum + ys.length * a.length ≤ 16777216) ∧ P (.str (Txt.join a ys))
    | none => False
  | _, _ => False
theorem pd_join {apos : Pos} (ho : PD w X o to) (ha : PD w X a ta) (hs : starEach [a] X.env = [(false, eval a X.env)] := by rfl) (hbase : attributeBase o "join" X.env (eval o X.env) = eval o X.env := by rfl) (hline : (apos.endLine == pos.line) = true := by rfl) :
    PD w X (.Call (.Attribute o "join" apos) [a] [] pos) (dM1 gJoin to ta) := by
  obtain ⟨to', o1, o2⟩ := ho
  obtain ⟨ta', a1, a2⟩ := ha
  refine ⟨_, pe_join o1 a1 hs hbase hline, re_m1 (fun x y d e G H P Q k r1 r2 h q => ?_) o2 a2⟩
  cases r1 with
  | str z =>
    cases r2 with
    | @lst p xs ds t1 q1 =>
      simp only [gJoin] at h
      cases hd : strsD ds with
      | none => rw [hd] at h; exact h.elim
      | some ys =>
        rw [hd] at h
        have e1 := strsD_eq hd
        subst e1
        have v1 := rp_strs q1
        subst v1
        exact ⟨z, p, ys, rfl, rfl, .inl (SqL.of (k.sub _ _ t1)), h.1, q _ _ G H k.stp (.str _) h.2⟩
    | _ => exact h.elim
  | _ => cases r2 <;> exact h.elim
/-- text.index(text): there -/
def gSix : D2 := fun x y P => match x, y with
  | .str a, .str b => match Builtin.Str.occurrences a b 0 a.length 1 with
    | i :: _ => P (.int (i : Nat))
    | [] => False
  | _, _ => False
theorem pd_six {apos : Pos} (ho : PD w X o to) (ha : PD w X a ta) (hs : starEach [a] X.env = [(false, eval a X.env)] := by rfl) (hbase : attributeBase o "index" X.env (eval o X.env) = eval o X.env := by rfl) (hline : (apos.endLine == pos.line) = true := by rfl) :
    PD w X (.Call (.Attribute o "index" apos) [a] [] pos) (dM1 gSix to ta) := by
  obtain ⟨to', o1, o2⟩ := ho
  obtain ⟨ta', a1, a2⟩ := ha
  refine ⟨_, pe_m1 F.slot_str_index F.type_str_index mt_sindex o1 a1 hs hbase hline, re_m1 (fun x y d e G H P Q k r1 r2 h q => ?_) o2 a2⟩
  cases r1 with
  | str z =>
    cases r2 with
    | str y =>
      simp only [gSix] at h
      cases hd : Builtin.Str.occurrences z y 0 z.length 1 with
      | nil => rw [hd] at h; exact h.elim
      | cons i r =>
        rw [hd] at h
        exact ⟨z, y, i, r, rfl, rfl, hd, q _ _ G H k.stp (.int _) h⟩
    | _ => exact h.elim
  | _ => cases r2 <;> exact h.elim
/-- list.index(flat): there -/
def gLix : D2 := fun x y P => match x with
  | .list ds => flatD y = true ∧ ds.all flatD = true ∧ match ds.findIdx? (fun z => PyData.eqv z y) with
    | some j => P (.int (j : Nat))
    | none => False
  | _ => False
def dLix (to ta : DE) : DE := fun ρ P => to ρ fun x => match x with
  | .list ds => ta ρ fun y => gLix (.list ds) y P
  | _ => False
theorem pd_lix {apos : Pos} (ho : PD w X o to) (ha : PD w X a ta) (hbase : attributeBase o "index" X.env (eval o X.env) = eval o X.env := by rfl)
    (hfew : ((backTo pos (starEach [a] X.env)).all (fun x => !x.1) && (backToKw pos (keywordEach [] X.env)).all (fun x => x.1.isSome) && decide (([a] : List Expr).length + ([] : List Keyword).length + (if ([] : List Keyword).isEmpty then 0 else 1) < 30)) = true := by rfl)
    (hline : (apos.endLine == pos.line) = true := by rfl) (hs : starEach [a] X.env = (false, eval a X.env) :: starEach [] X.env := by rfl) (hplain : (backTo pos (starEach [] X.env)).any (·.1) = false := by rfl) :
    PD w X (.Call (.Attribute o "index" apos) [a] [] pos) (dLix to ta) := by
  obtain ⟨to', o1, o2⟩ := ho
  obtain ⟨ta', a1, a2⟩ := ha
  refine ⟨_, pe_bm PySem.F.plainAttrs_list PySem.F.slot_list_index PySem.F.type_list_index mt_index o1 (pa_cons a1 pa_nil hs) hbase hfew hline hs hplain, fun σ ρ G H P Q k s h q => ?_⟩
  refine o2 σ ρ G H _ _ k s h fun x d G1 H1 s1 r1 p1 => ?_
  cases r1 with
  | @lst p xs ds t1 q1 =>
    refine ⟨.inl ⟨rfl, xs, SqL.of ((s1.okw k).sub _ _ t1)⟩, ?_⟩
    refine a2 σ ρ G1 H1 _ _ (s1.okw k) (s.mono s1.up) p1 fun y e G2 H2 s2 r2 p2 => ?_
    obtain ⟨f1, f2, p2⟩ := p2
    have k2 := s2.okw (s1.okw k)
    have q2 := q1.mono s2.up
    cases hd : ds.findIdx? (fun z => PyData.eqv z e) with
    | none => rw [hd] at p2; exact p2.elim
    | some j =>
      rw [hd] at p2
      obtain ⟨hj, hp, hall⟩ := List.findIdx?_eq_some_iff_getElem.mp hd
      obtain ⟨v, hv, rv⟩ := q2.getD (List.getElem?_eq_getElem hj)
      have fl : ∀ (m : Nat) (hm : m < ds.length), flatD ds[m] = true := fun m hm => List.all_eq_true.mp f2 _ (List.getElem_mem hm)
      refine ⟨p, xs, y, j, v, rfl, rfl, SqL.of (k2.sub _ _ (s2.up _ _ t1)), r2.flat f1, q2.flat f2, hv, ?_, fun m z' hm hz => ?_, q _ _ G2 H2 (s1.trans s2) (.int _) p2⟩
      · rw [rv.eqV r2 (fl j hj) f1]; exact hp
      · obtain ⟨d', hd', rd'⟩ := q2.get hz
        have hm' : m < ds.length := (List.getElem?_eq_some_iff.mp hd').1
        have e' : d' = ds[m] := by rw [List.getElem?_eq_getElem hm'] at hd'; exact (Option.some.inj hd').symm
        have fd' : flatD d' = true := by rw [e']; exact fl m hm'
        have hne : ¬ PyData.eqv ds[m] e = true := hall m hm
        rw [rd'.eqV r2 fd' f1, e']
        exact Bool.eq_false_iff.mpr hne
  | _ => exact p1.elim
/-! own defs -/
/-- the contract of a pure def -/
def spD (K : PySem.W.Frag) (F : D1) : Sp := fun vs H Q _ => ∃ (G : Hp) (ds : List DD) (P : DD → Prop), Sub G H ∧ RpAll K G vs ds ∧ F ds P ∧ ∀ v d G2 H2, Stp Wd.zero G H G2 H2 → Rp K G2 v d → P d → Q v H2
variable {kf : Nat} {f : Addr} {fd : FuncData} {ps : List Str} {x : Str} {p : Pos}
theorem pd_fn {F : D1} {t : DA} (GF : FnOk X.prog X.w X.K X.mg X.base CX0 kf f fd ps (spD X.K F)) (hr : Room kf X.A) (hm : X.mg x = some (.ref f)) (hk : PySem.W.keepIn X.K (.ref f) = true) (hb : Binds X.K fd ps []) (ha : PDA w X (e :: es) t) (hg : Gl X x := by rfl)
    (hdb : (x == ("__debug__" : Str)) = false := by decide) (he : starEach (e :: es) X.env = (false, eval e X.env) :: starEach es X.env := by rfl) (hpl : (backTo pos (starEach es X.env)).any (·.1) = false := by rfl) : PD w X (.Call (.Name x p) (e :: es) [] pos) (dCall F t) := by
  obtain ⟨t', a1, a2⟩ := ha
  refine ⟨_, pe_call GF hr hg hm hk hb .nil (pass0 (X := X)) a1 hdb he hpl, fun σ ρ G H P Q k s h q => ?_⟩
  refine a2 σ ρ G H _ _ k s h fun vs ds G1 H1 s1 r1 _ p1 => ?_
  rw [List.append_nil]
  have k1 := s1.okw k
  exact ⟨G1, ds, P, k1.sub, r1, p1, fun v d G2 H2 s2 => q v d G2 H2 (s1.trans (s2.lift k1))⟩
theorem pd_fn0 {F : D1} (GF : FnOk X.prog X.w X.K X.mg X.base CX0 kf f fd ps (spD X.K F)) (hr : Room kf X.A) (hm : X.mg x = some (.ref f)) (hk : PySem.W.keepIn X.K (.ref f) = true) (hb : Binds X.K fd ps []) (hg : Gl X x := by rfl)
    (hdb : (x == ("__debug__" : Str)) = false := by decide) : PD w X (.Call (.Name x p) [] [] pos) (fun _ P => F [] P) := by
  refine ⟨_, pe_call0 GF hr hg hm hk hb .nil (pass0 (X := X)) hdb, fun σ ρ G H P Q k s h q => ?_⟩
  exact ⟨G, [], P, k.sub, .nil, h, fun v d G2 H2 s2 => q v d G2 H2 (s2.lift k)⟩
/-! ### what a for walks -/
structure Wk (K : PySem.W.Frag) (J : It) (ds : List DD) (B : Hp) : Prop where
  ex : ∃ Y, Walk J ds.length (fun H => Sub B H) Y ∧ ∀ i H x H', Y i H x H' → ∃ d, ds[i]? = some d ∧ ((H' = H ∧ Rp K B x d) ∨ ∃ p xs es, H p = none ∧ H' = upd H p (.tup xs) ∧ x = .ref p ∧ RpAll K B xs es ∧ d = .tuple es)
def RI (w : Wd) (K : PySem.W.Frag) (wi : TI) (td : DA) : Prop := ∀ σ ρ G H (P : List DD → Prop) (R : It → Hp → Prop), Okw w G H → SlOk K G σ ρ → td ρ P →
  (∀ J ds G2 H2, Stp w G H G2 H2 → Wk K J ds G2 → P ds → R J H2) → wi σ H R
structure PDI (w : Wd) (X : Cx) (tg e : Expr) (td : DA) : Prop where
  ex : ∃ wi, PI X tg e wi ∧ RI w X.K wi td
def dIl (ta : DE) : DA := fun ρ P => ta ρ fun d => match d with
  | .list ds => P ds
  | _ => False
def dIt (ta : DE) : DA := fun ρ P => ta ρ fun d => match d with
  | .tuple ds => P ds
  | _ => False
def chars (z : Str) : List DD := z.cps.toList.map fun c => .str ⟨#[c]⟩
def dIs (ta : DE) : DA := fun ρ P => ta ρ fun d => match d with
  | .str z => P (chars z)
  | _ => False
def upto (n : Int) : List DD := (List.range n.toNat).map fun i => .int (i : Nat)
def dIr (ta : DE) : DA := fun ρ P => ta ρ fun d => match d with
  | .int n => (-1000000 ≤ n ∧ n ≤ 1000000) ∧ P (upto n)
  | _ => False
variable {tg : Expr}
theorem wk_list {K : PySem.W.Frag} {B : Hp} {p : Addr} {xs : List V} {ds : List DD} (h : B p = some (.lst xs)) (r : RpAll K B xs ds) : Wk K (Itl K p) ds B := by
  refine ⟨fun i H x H' => H' = H ∧ xs[i]? = some x, ⟨fun i H hi hs => ?_, fun H hs => ⟨xs, SqL.of (hs _ _ h), by rw [r.len]; exact Nat.le_refl _⟩, fun i H x H' hi hs y => ⟨y.1, y.2 xs (SqL.of (hs _ _ h))⟩⟩, fun i H x H' y => ?_⟩
  · have hi' : i < xs.length := by rw [r.len]; exact hi
    exact ⟨xs, xs[i], SqL.of (hs _ _ h), List.getElem?_eq_getElem hi'⟩
  · obtain ⟨e, y⟩ := y
    obtain ⟨d, hd, rd⟩ := r.get y
    exact ⟨d, hd, .inl ⟨e, rd⟩⟩
theorem wk_tup {K : PySem.W.Frag} {B : Hp} {p : Addr} {xs : List V} {ds : List DD} (h : SqT K B p xs) (r : RpAll K B xs ds) : Wk K (Itt K p) ds B := by
  refine ⟨fun i H x H' => H' = H ∧ xs[i]? = some x, ⟨fun i H hi hs => ?_, fun H hs => ⟨xs, hs.sqT h, by rw [r.len]; exact Nat.le_refl _⟩, fun i H x H' hi hs y => ⟨y.1, y.2 xs (hs.sqT h)⟩⟩, fun i H x H' y => ?_⟩
  · have hi' : i < xs.length := by rw [r.len]; exact hi
    exact ⟨xs, xs[i], hs.sqT h, List.getElem?_eq_getElem hi'⟩
  · obtain ⟨e, y⟩ := y
    obtain ⟨d, hd, rd⟩ := r.get y
    exact ⟨d, hd, .inl ⟨e, rd⟩⟩
theorem wk_str {K : PySem.W.Frag} {B : Hp} {z : Str} : Wk K (Its z) (chars z) B := by
  have hl : (chars z).length = z.cps.size := by simp [chars]
  refine ⟨_, ⟨fun i H hi _ => by rw [hl] at hi; exact hi, fun H _ => by rw [hl]; exact Nat.le_refl _, fun i H x H' _ _ y => y⟩, fun i H x H' y => ?_⟩
  obtain ⟨e, c, hc, rfl⟩ := y
  refine ⟨.str ⟨#[c]⟩, ?_, .inl ⟨e, .str _⟩⟩
  have : z.cps.toList[i]? = some c := by rw [Array.getElem?_toList]; exact hc
  simp [chars, this]
theorem wk_range {K : PySem.W.Frag} {B : Hp} {n : Int} : Wk K (Itr 0 n.toNat) (upto n) B := by
  have hl : (upto n).length = n.toNat := by simp [upto]
  refine ⟨fun i H x H' => i < n.toNat ∧ H' = H ∧ x = .int (0 + i), ⟨fun i H hi _ => by rw [hl] at hi; exact hi, fun H _ => by rw [hl]; exact Nat.le_refl _, fun i H x H' hi _ y => ⟨by rw [hl] at hi; exact hi, y⟩⟩, fun i H x H' y => ?_⟩
  obtain ⟨hi, e, rfl⟩ := y
  refine ⟨.int (i : Nat), by simp [upto, hi], .inl ⟨e, ?_⟩⟩
  rw [Int.zero_add]
  exact .int _
theorem di_list (ha : PD w X a ta) : PDI w X tg a (dIl ta) := by
  obtain ⟨ta', a1, a2⟩ := ha
  refine ⟨_, pi_list a1, fun σ ρ G H P R k s h q => ?_⟩
  refine a2 σ ρ G H _ _ k s h fun v d G1 H1 s1 r1 p1 => ?_
  cases r1 with
  | @lst p xs ds t1 q1 => exact ⟨p, rfl, ⟨xs, SqL.of ((s1.okw k).sub _ _ t1)⟩, q _ ds G1 H1 s1 (wk_list t1 q1) p1⟩
  | _ => exact p1.elim
theorem di_tup (ha : PD w X a ta) : PDI w X tg a (dIt ta) := by
  obtain ⟨ta', a1, a2⟩ := ha
  refine ⟨_, pi_tup a1, fun σ ρ G H P R k s h q => ?_⟩
  refine a2 σ ρ G H _ _ k s h fun v d G1 H1 s1 r1 p1 => ?_
  cases r1 with
  | @tup p xs ds t1 q1 => exact ⟨p, rfl, ⟨xs, (s1.okw k).sub.sqT t1⟩, q _ ds G1 H1 s1 (wk_tup t1 q1) p1⟩
  | _ => exact p1.elim
theorem di_str (ha : PD w X a ta) : PDI w X tg a (dIs ta) := by
  obtain ⟨ta', a1, a2⟩ := ha
  refine ⟨_, pi_str a1, fun σ ρ G H P R k s h q => ?_⟩
  refine a2 σ ρ G H _ _ k s h fun v d G1 H1 s1 r1 p1 => ?_
  cases r1 with
  | str z => exact ⟨z, rfl, q _ _ G1 H1 s1 wk_str p1⟩
  | _ => exact p1.elim
theorem di_range (hm : X.mg "range" = none) (ha : PD w X a ta) (hg : Gl X "range" := by rfl) (hs : starEach [a] X.env = (false, eval a X.env) :: starEach [] X.env := by rfl) (hs2 : starEach [a] X.env = [(false, eval a X.env)] := by rfl) : PDI w X tg (.Call (.Name "range" p) [a] [] pos) (dIr ta) := by
  obtain ⟨ta', a1, a2⟩ := ha
  refine ⟨_, pi_range1 hg hm (pa_cons a1 pa_nil hs) hs2, fun σ ρ G H P R k s h q => ?_⟩
  refine a2 σ ρ G H _ _ k s h fun v d G1 H1 s1 r1 p1 => ?_
  cases r1 with
  | int n => exact ⟨n, rfl, by omega, by omega, q _ _ G1 H1 s1 wk_range p1.2⟩
  | _ => exact p1.elim
end
end Z

set_option Elab.async false
set_option linter.all false
set_option maxRecDepth 100000
set_option maxHeartbeats 4000000
namespace Z
open PySem PySem.Spec PyProof.Rows L2
/-! ### the reading that a meaning makes: the same wherever the code stands -/
def teOf (w : Wd) (K : PySem.W.Frag) (td : DE) : TE := fun σ H Q => ∃ ρ G P, Okw w G H ∧ SlOk K G σ ρ ∧ td ρ P ∧ ∀ v d G2 H2, Stp w G H G2 H2 → Rp K G2 v d → P d → Q v H2
def ttOf (w : Wd) (K : PySem.W.Frag) (td : DT) : TT := fun σ H Q => ∃ ρ G P, Okw w G H ∧ SlOk K G σ ρ ∧ td ρ P ∧ ∀ b G2 H2, Stp w G H G2 H2 → P b → Q b H2
section
variable {w : Wd} {X : Cx} {e : Expr} {td : DE} {tt : DT}
theorem PD.can (h : PD w X e td) : PE X e (teOf w X.K td) := by
  obtain ⟨te, h1, h2⟩ := h
  exact ⟨fun pins s σ H Q I ⟨ρ, G, P, k, sl, ht, q⟩ => h1.run pins s σ H Q I (h2 σ ρ G H P Q k sl ht q)⟩
theorem re_can {K : PySem.W.Frag} : RE w K (teOf w K td) td := fun _ ρ G _ P _ k s h q => ⟨ρ, G, P, k, s, h, q⟩
theorem rt_can {K : PySem.W.Frag} : RT w K (ttOf w K tt) tt := fun _ ρ G _ P _ k s h q => ⟨ρ, G, P, k, s, h, q⟩
structure PDTs (w : Wd) (X : Cx) (ifs : List Expr) (td : DT) : Prop where
  ex : ∃ te, PTs X ifs te ∧ RT w X.K te td
def dYes : DT := fun _ P => P true
theorem dts_nil : PDTs w X [] dYes := ⟨_, pts_nil, fun _ _ G H _ _ k _ h q => q true G H k.stp h⟩
theorem dts_one {c : Expr} (h : PDT w X c tt) : PDTs w X [c] tt := by
  obtain ⟨t, h1, h2⟩ := h
  exact ⟨_, pts_one h1, h2⟩
theorem PDTs.can {ifs : List Expr} (h : PDTs w X ifs tt) : PTs X ifs (ttOf w X.K tt) := by
  obtain ⟨te, h1, h2⟩ := h
  exact ⟨fun pins s σ H Q I ⟨ρ, G, P, k, sl, ht, q⟩ => h1.run pins s σ H Q I (h2 σ ρ G H P Q k sl ht q)⟩
end
/-! ### comprehensions -/
def comp (ρ : En) (j : Nat) (tt : DT) (td : DE) : List DD → List DD → (DD → Prop) → Prop
  | [], acc, P => P (.list acc)
  | x :: xs, acc, P => tt (ρ.set j (.dat x)) fun b => if b = true then td (ρ.set j (.dat x)) fun d => acc.length < 1000000 ∧ comp ρ j tt td xs (acc ++ [d]) P else comp ρ j tt td xs acc P
def dLc (ti : DA) (j : Nat) (tt : DT) (td : DE) : DE := fun ρ P => ti ρ fun items => comp ρ j tt td items [] P
theorem set_set_none {σ : L2.St} {j : Nat} {x : Option V} : (σ.set j none).set j x = σ.set j x := by rw [List.set_set]
theorem SlOk.set {K : PySem.W.Frag} {G : Hp} {σ : L2.St} {ρ : En} (s : SlOk K G σ ρ) {j : Nat} {v : V} {d : DD} (r : Rp K G v d) : SlOk K G (σ.set j (some v)) (ρ.set j (.dat d)) := by
  refine ⟨by rw [List.length_set, List.length_set]; exact s.len, fun i e h => ?_, fun i a h => ?_⟩
  · by_cases hij : j = i
    · subst hij
      have hl : j < ρ.length := by
        have := (List.getElem?_eq_some_iff.mp h).1
        rwa [List.length_set] at this
      rw [List.getElem?_set_self hl] at h
      have e1 : d = e := by injection (Option.some.inj h)
      subst e1
      exact ⟨v, by rw [List.getElem?_set_self (by rw [s.len]; exact hl)], r⟩
    · rw [List.getElem?_set_ne hij] at h
      obtain ⟨u, h1, h2⟩ := s.dat i e h
      exact ⟨u, by rw [List.getElem?_set_ne hij]; exact h1, h2⟩
  · by_cases hij : j = i
    · subst hij
      have hl : j < ρ.length := by
        have := (List.getElem?_eq_some_iff.mp h).1
        rwa [List.length_set] at this
      rw [List.getElem?_set_self hl] at h
      cases (Option.some.inj h)
    · rw [List.getElem?_set_ne hij] at h ⊢
      exact s.adr i a h
section
variable {w : Wd} {X : Cx}
theorem re_lc {wi : TI} {ti : DA} {j : Nat} {tt : DT} {td : DE} (hi : RI w X.K wi ti) : RE w X.K (tLc wi (gName j) (ttOf w X.K tt) (teOf w X.K td) [j]) (dLc ti j tt td) := by
  intro σ ρ G H P Q k s h q
  refine hi σ ρ G H _ _ k s h fun J items G1 H1 s1 wk p1 D hD => ?_
  have k1 := s1.okw k
  obtain ⟨Y, wlk, hy⟩ := wk
  refine lc_it wlk (fun i H' => ∃ G' acc ds, Stp w G1 H1 G' H' ∧ H' D = some (.lst acc) ∧ G' D = none ∧ RpAll X.K G' acc ds ∧ comp ρ j tt td (items.drop i) ds P) ?_ ?_ ?_ ?_
  · exact ⟨G1, [], [], Stp.new0 k1 hD, upd_same, k1.g_none hD, .nil, p1⟩
  · rintro i H' _ ⟨G', acc, ds, s2, _⟩
    exact s2.up.trans s2.sub
  · rintro i x H' H'' hlt ⟨G', acc, ds, s2, hacc, hgD, ra, hc⟩ y
    obtain ⟨d, hd, alt⟩ := hy i H' x H'' y
    have hdr : items.drop i = d :: items.drop (i + 1) := by
      obtain ⟨h1, h2⟩ := List.getElem?_eq_some_iff.mp hd
      rw [List.drop_eq_getElem_cons h1, h2]
    rw [hdr] at hc
    show wipe ((wipe σ [j]).set j (some x)) [j] = wipe σ [j] ∧ _
    refine ⟨by show (((σ.set j none).set j (some x)).set j none) = σ.set j none; rw [List.set_set, List.set_set], ?_⟩
    have e1 : (wipe σ [j]).set j (some x) = σ.set j (some x) := set_set_none
    rw [e1]
    -- the heap and what is known of x
    obtain ⟨G3, s3, rx, hacc3, hgD3⟩ : ∃ G3, Stp w G1 H1 G3 H'' ∧ Rp X.K G3 x d ∧ H'' D = some (.lst acc) ∧ G3 D = none ∧ Sub G' G3 := by
      have k2 := s2.okw k1
      rcases alt with ⟨rfl, rx⟩ | ⟨p, xs, es, hp, rfl, rfl, rx, rfl⟩
      · exact ⟨G', s2, rx.mono s2.up, hacc, hgD, Sub.rfl⟩
      · have sn := Stp.new (w := w) (o := .tup xs) k2 hp
        have ne : D ≠ p := ne_of_none hacc hp
        exact ⟨_, s2.trans sn, .tup (SqT.of upd_same) ((rx.mono s2.up).mono (Sub.new (k2.g_none hp))), by rw [upd_ne ne]; exact hacc, by rw [upd_ne ne]; exact hgD, sn.up⟩
    obtain ⟨hgD3, u3⟩ := hgD3
    have k3 := s3.okw k1
    have sl3 : SlOk X.K G3 (σ.set j (some x)) (ρ.set j (.dat d)) := (s.mono (s1.up.trans s3.up)).set rx
    refine ⟨_, G3, _, k3, sl3, hc, fun b G4 H4 s4 hb => ?_⟩
    have k4 := s4.okw k3
    have hst : ¬ w.st D := fun z => k1.here D (w.sf D z) hD
    have hacc4 : H4 D = some (.lst acc) := s4.kp D _ hst hacc3
    have hgD4 : G4 D = none := s4.nw D (by rw [hacc3]; exact fun z => nomatch z) hgD3
    cases b with
    | false =>
      rw [if_neg Bool.false_ne_true] at hb
      show ∃ G' acc ds, _
      exact ⟨G4, acc, ds, s3.trans s4, hacc4, hgD4, (ra.mono u3).mono s4.up, hb⟩
    | true =>
      rw [if_pos rfl] at hb
      show teOf w X.K td (List.set σ j (some x)) H4 _
      refine ⟨_, G4, _, k4, sl3.mono s4.up, hb, fun v e G5 H5 s5 re hp => ?_⟩
      have hacc5 : H5 D = some (.lst acc) := s5.kp D _ hst hacc4
      have hgD5 : G5 D = none := s5.nw D (by rw [hacc4]; exact fun z => nomatch z) hgD4
      have ra5 := ((ra.mono u3).mono s4.up).mono s5.up
      exact ⟨acc, hacc5, line_lt (by rw [ra5.len]; exact hp.1), G5, acc ++ [v], ds ++ [e], ((s3.trans s4).trans s5).mut k1 hD hgD5, upd_same, hgD5, ra5.append (.cons re .nil), hp.2⟩
  · rintro H' ⟨G', acc, ds, s2, hacc, hgD, ra, hc⟩
    rw [List.drop_length] at hc
    have hh : Stp w G1 H1 (upd G' D (.lst acc)) H' := by
      refine ⟨fun a u e => ?_, fun a u e => ?_, s2.kp, s2.th, fun a ha hg => ?_, s2.wd⟩
      · by_cases z : a = D
        · subst z; rw [upd_same] at e; rw [hacc]; exact e
        · rw [upd_ne z] at e; exact s2.sub a u e
      · rw [upd_ne (ne_of_none e (k1.g_none hD))]; exact s2.up a u e
      · rw [upd_ne (fun z => ha (by rw [z]; exact hD))]; exact s2.nw a ha hg
    exact q _ _ _ _ (s1.trans hh) (.lst upd_same (ra.mono (Sub.new hgD))) hc
theorem pd_lc {elt tg iter : Expr} {ifs : List Expr} {scope : Scope} {x : Str} {j : Nat} {pos : Pos} {ti : DA} {tt : DT} {td : DE} (hN : X.N.Nodup) (ok : BlkOk X.N X.env.scope scope [(x, j)]) (hi : PDI w X tg iter ti)
    (hg : ∀ (s : Shared) (H : Hp) (C : Addr) (cl : List (Str × Addr)) (fp : List Addr), PG (X.blk s H scope (compEnvC scope cl C X.env) fp) tg (gName j))
    (ht : ∀ (s : Shared) (H : Hp) (C : Addr) (cl : List (Str × Addr)) (fp : List Addr), PDTs w (X.blk s H scope (compEnvC scope cl C X.env) fp) ifs tt)
    (he : ∀ (s : Shared) (H : Hp) (C : Addr) (cl : List (Str × Addr)) (fp : List Addr), PD w (X.blk s H scope (compEnvC scope cl C X.env) fp) elt td)
    (hc : X.calm = true := by rfl) (hs : ∀ x, foldedSetIterable iter X.env x = pure x := by intro _; rfl) : PD w X (.ListComp elt [⟨tg, iter, ifs, 0⟩] scope pos) (dLc ti j tt td) := by
  obtain ⟨wi, i1, i2⟩ := hi
  exact ⟨_, pe_lc (own := [(x, j)]) hc hN i1 ok hg (fun s H C cl fp => (ht s H C cl fp).can) (fun s H C cl fp => (he s H C cl fp).can) hs, re_lc i2⟩
end
end Z

set_option Elab.async false
set_option linter.all false
set_option maxRecDepth 100000
set_option maxHeartbeats 4000000
namespace Z
open PySem PySem.Spec PyProof.Rows L2
/-! ### statements -/
structure SOk (w : Wd) (K : PySem.W.Frag) (G0 H0 B : Hp) (σ : L2.St) (ρ : En) (H G : Hp) : Prop where
  stp : Stp w G0 H0 G H
  lb : Sub B G
  sl : SlOk K G σ ρ
  own : ∀ (i : Nat) ds, ρ[i]? = some (.own ds) → ∃ a xs, σ[i]? = some (some (.ref a)) ∧ H a = some (.lst xs) ∧ RpAll K G xs ds ∧ G a = none ∧ H0 a = none
  sep : ∀ (i j : Nat) ds es a, ρ[i]? = some (.own ds) → ρ[j]? = some (.own es) → σ[i]? = some (some (.ref a)) → σ[j]? = some (some (.ref a)) → i = j
def SPo (w : Wd) (K : PySem.W.Frag) (G0 H0 B : Hp) (ρ : En) (σ : L2.St) (H : Hp) : Prop := ∃ G, SOk w K G0 H0 B σ ρ H G
theorem set_some {α : Type} {l : List α} {i j : Nat} {a b : α} (h : (l.set i a)[j]? = some b) : (i = j ∧ a = b ∧ i < l.length) ∨ (i ≠ j ∧ l[j]? = some b) := by
  by_cases e : i = j
  · subst e
    have hl : i < l.length := by
      have := (List.getElem?_eq_some_iff.mp h).1
      rwa [List.length_set] at this
    rw [List.getElem?_set_self hl] at h
    exact .inl ⟨rfl, Option.some.inj h, hl⟩
  · rw [List.getElem?_set_ne e] at h
    exact .inr ⟨e, h⟩
section
variable {w : Wd} {K : PySem.W.Frag} {G0 H0 B G H : Hp} {σ : L2.St} {ρ : En}
theorem SOk.okw (k0 : Okw w G0 H0) (s : SOk w K G0 H0 B σ ρ H G) : Okw w G H := s.stp.okw k0
/-- an expression has run: the slots as they were -/
theorem SOk.step (k0 : Okw w G0 H0) (s : SOk w K G0 H0 B σ ρ H G) {G2 H2 : Hp} (t : Stp w G H G2 H2) : SOk w K G0 H0 B σ ρ H2 G2 := by
  refine ⟨s.stp.trans t, s.lb.trans t.up, s.sl.mono t.up, fun i ds h => ?_, s.sep⟩
  obtain ⟨a, xs, h1, h2, h3, h4, h5⟩ := s.own i ds h
  exact ⟨a, xs, h1, t.kp a _ (fun z => k0.here a (w.sf a z) h5) h2, h3.mono t.up, t.nw a (by rw [h2]; exact fun z => nomatch z) h4, h5⟩
theorem SOk.set (s : SOk w K G0 H0 B σ ρ H G) {i : Nat} {v : V} {d : DD} (r : Rp K G v d) : SOk w K G0 H0 B (σ.set i (some v)) (ρ.set i (.dat d)) H G := by
  refine ⟨s.stp, s.lb, s.sl.set r, fun j ds h => ?_, fun j m ds es a h1 h2 h3 h4 => ?_⟩
  · rcases set_some h with ⟨_, z, _⟩ | ⟨ne, z⟩
    · cases z
    · obtain ⟨a, xs, q1, q2⟩ := s.own j ds z
      exact ⟨a, xs, by rw [List.getElem?_set_ne ne]; exact q1, q2⟩
  · rcases set_some h1 with ⟨_, z, _⟩ | ⟨n1, z1⟩
    · cases z
    · rcases set_some h2 with ⟨_, z, _⟩ | ⟨n2, z2⟩
      · cases z
      · rw [List.getElem?_set_ne n1] at h3
        rw [List.getElem?_set_ne n2] at h4
        exact s.sep j m ds es a z1 z2 h3 h4
theorem SlOk.setOwn (s : SlOk K G σ ρ) {i : Nat} {v : V} {ds : List DD} : SlOk K G (σ.set i (some v)) (ρ.set i (.own ds)) := by
  refine ⟨by rw [List.length_set, List.length_set]; exact s.len, fun j e h => ?_, fun j a h => ?_⟩
  · rcases set_some h with ⟨_, z, _⟩ | ⟨ne, z⟩
    · cases z
    · obtain ⟨u, h1, h2⟩ := s.dat j e z
      exact ⟨u, by rw [List.getElem?_set_ne ne]; exact h1, h2⟩
  · rcases set_some h with ⟨_, z, _⟩ | ⟨ne, z⟩
    · cases z
    · rw [List.getElem?_set_ne ne]; exact s.adr j a z
/-- a name takes a new list for its own -/
theorem SOk.setN (s : SOk w K G0 H0 B σ ρ H G) {i : Nat} {p : Addr} {xs : List V} {ds : List DD} (hp : H p = some (.lst xs)) (hg : G p = none) (h0 : H0 p = none) (r : RpAll K G xs ds) (nw : ∀ (j : Nat) es, ρ[j]? = some (.own es) → σ[j]? ≠ some (some (.ref p))) :
    SOk w K G0 H0 B (σ.set i (some (.ref p))) (ρ.set i (.own ds)) H G := by
  refine ⟨s.stp, s.lb, s.sl.setOwn, fun j es h => ?_, fun j m es fs a h1 h2 h3 h4 => ?_⟩
  · rcases set_some h with ⟨rfl, z, hl⟩ | ⟨ne, z⟩
    · cases z
      exact ⟨p, xs, List.getElem?_set_self (by rw [s.sl.len]; exact hl), hp, r, hg, h0⟩
    · obtain ⟨a, ys, q1, q2⟩ := s.own j es z
      exact ⟨a, ys, by rw [List.getElem?_set_ne ne]; exact q1, q2⟩
  · rcases set_some h1 with ⟨rfl, z, hl⟩ | ⟨n1, z1⟩
    · rcases set_some h2 with ⟨rfl, _, _⟩ | ⟨n2, z2⟩
      · rfl
      · rw [List.getElem?_set_self (by rw [s.sl.len]; exact hl)] at h3
        rw [List.getElem?_set_ne n2] at h4
        have e : p = a := by injection (Option.some.inj (Option.some.inj h3))
        subst e
        exact absurd h4 (nw m fs z2)
    · rcases set_some h2 with ⟨rfl, z, hl⟩ | ⟨n2, z2⟩
      · rw [List.getElem?_set_self (by rw [s.sl.len]; exact hl)] at h4
        rw [List.getElem?_set_ne n1] at h3
        have e : p = a := by injection (Option.some.inj (Option.some.inj h4))
        subst e
        exact absurd h3 (nw j es z1)
      · rw [List.getElem?_set_ne n1] at h3
        rw [List.getElem?_set_ne n2] at h4
        exact s.sep j m es fs a z1 z2 h3 h4
/-- the list that a name owns is written -/
theorem SOk.mut (k0 : Okw w G0 H0) (s : SOk w K G0 H0 B σ ρ H G) {i : Nat} {a : Addr} {xs : List V} {ds es : List DD} (hi : ρ[i]? = some (.own es)) (ha : σ[i]? = some (some (.ref a))) (hg : G a = none) (h0 : H0 a = none) (r : RpAll K G xs ds) :
    SOk w K G0 H0 B σ (ρ.set i (.own ds)) (upd H a (.lst xs)) G := by
  have hl : i < ρ.length := (List.getElem?_eq_some_iff.mp hi).1
  refine ⟨s.stp.mut k0 h0 hg, s.lb, ⟨by rw [List.length_set]; exact s.sl.len, fun j e h => ?_, fun j b h => ?_⟩, fun j fs h => ?_, fun j m fs gs b h1 h2 h3 h4 => ?_⟩
  · rcases set_some h with ⟨_, z, _⟩ | ⟨_, z⟩
    · cases z
    · exact s.sl.dat j e z
  · rcases set_some h with ⟨_, z, _⟩ | ⟨_, z⟩
    · cases z
    · exact s.sl.adr j b z
  · rcases set_some h with ⟨rfl, z, _⟩ | ⟨ne, z⟩
    · cases z
      exact ⟨a, xs, ha, upd_same, r, hg, h0⟩
    · obtain ⟨b, ys, q1, q2, q3, q4, q5⟩ := s.own j fs z
      have nb : b ≠ a := fun e => ne (s.sep i j es fs a hi z ha (by rw [q1, e]))
      exact ⟨b, ys, q1, by rw [upd_ne nb]; exact q2, q3, q4, q5⟩
  · have o1 : ∃ fs, ρ[j]? = some (.own fs) := by
      rcases set_some h1 with ⟨rfl, _, _⟩ | ⟨_, z⟩
      · exact ⟨_, hi⟩
      · exact ⟨_, z⟩
    have o2 : ∃ gs, ρ[m]? = some (.own gs) := by
      rcases set_some h2 with ⟨rfl, _, _⟩ | ⟨_, z⟩
      · exact ⟨_, hi⟩
      · exact ⟨_, z⟩
    obtain ⟨_, o1⟩ := o1
    obtain ⟨_, o2⟩ := o2
    exact s.sep j m _ _ b o1 o2 h3 h4
/-! the own lists seen as data -/
def Ent.full : Ent → Ent
  | .own ds => .dat (.list ds)
  | e => e
def full (ρ : En) : En := ρ.map Ent.full
open Classical in
noncomputable def fullG (σ : L2.St) (ρ : En) (G H : Hp) : Hp := fun a => if (∃ (i : Nat) (ds : List DD), ρ[i]? = some (.own ds) ∧ σ[i]? = some (some (.ref a))) then H a else G a
theorem fullG_own (h : ∃ (i : Nat) (ds : List DD), ρ[i]? = some (.own ds) ∧ σ[i]? = some (some (.ref a))) : fullG σ ρ G H a = H a := if_pos h
theorem fullG_not (h : ¬ ∃ (i : Nat) (ds : List DD), ρ[i]? = some (.own ds) ∧ σ[i]? = some (some (.ref a))) : fullG σ ρ G H a = G a := if_neg h
theorem SOk.own_at (s : SOk w K G0 H0 B σ ρ H G) {a : Addr} (h : ∃ (i : Nat) (ds : List DD), ρ[i]? = some (.own ds) ∧ σ[i]? = some (some (.ref a))) : G a = none ∧ H0 a = none := by
  obtain ⟨i, ds, h1, h2⟩ := h
  obtain ⟨b, xs, q1, q2, q3, q4, q5⟩ := s.own i ds h1
  rw [q1] at h2
  have e : b = a := by injection (Option.some.inj (Option.some.inj h2))
  subst e
  exact ⟨q4, q5⟩
theorem SOk.fullSub (s : SOk w K G0 H0 B σ ρ H G) : Sub G (fullG σ ρ G H) := fun a o e => by
  by_cases h : ∃ (i : Nat) (ds : List DD), ρ[i]? = some (.own ds) ∧ σ[i]? = some (some (.ref a))
  · rw [(s.own_at h).1] at e; cases e
  · rw [fullG_not h]; exact e
theorem SOk.fullStp (s : SOk w K G0 H0 B σ ρ H G) : Stp w G0 H0 (fullG σ ρ G H) H := by
  refine ⟨fun a o e => ?_, s.stp.up.trans s.fullSub, s.stp.kp, s.stp.th, fun a h1 h2 => ?_, s.stp.wd⟩
  · by_cases h : ∃ (i : Nat) (ds : List DD), ρ[i]? = some (.own ds) ∧ σ[i]? = some (some (.ref a))
    · rw [fullG_own h] at e; exact e
    · rw [fullG_not h] at e; exact s.stp.sub a o e
  · by_cases h : ∃ (i : Nat) (ds : List DD), ρ[i]? = some (.own ds) ∧ σ[i]? = some (some (.ref a))
    · exact absurd (s.own_at h).2 h1
    · rw [fullG_not h]; exact s.stp.nw a h1 h2
theorem SOk.fullSl (s : SOk w K G0 H0 B σ ρ H G) : SlOk K (fullG σ ρ G H) σ (full ρ) := by
  refine ⟨by unfold full; rw [List.length_map]; exact s.sl.len, fun i d h => ?_, fun i a h => ?_⟩
  · unfold full at h
    rw [List.getElem?_map] at h
    cases e : ρ[i]? with
    | none => rw [e] at h; cases h
    | some t =>
      rw [e] at h
      have h' : t.full = .dat d := Option.some.inj h
      cases t with
      | own ds =>
        have ed : PyData.list ds = d := by injection h'
        subst ed
        obtain ⟨a, xs, q1, q2, q3, q4, q5⟩ := s.own i ds e
        refine ⟨_, q1, .lst ?_ (q3.mono s.fullSub)⟩
        rw [fullG_own ⟨i, ds, e, q1⟩]
        exact q2
      | dat d' =>
        have ed : d' = d := by injection h'
        subst ed
        obtain ⟨v, q1, q2⟩ := s.sl.dat i _ e
        exact ⟨v, q1, q2.mono s.fullSub⟩
      | un => cases h'
      | adr _ => cases h'
  · unfold full at h
    rw [List.getElem?_map] at h
    cases e : ρ[i]? with
    | none => rw [e] at h; cases h
    | some t =>
      rw [e] at h
      have h' : t.full = .adr a := Option.some.inj h
      cases t with
      | adr b =>
        have ed : b = a := by injection h'
        subst ed
        exact s.sl.adr i _ e
      | own _ => cases h'
      | dat _ => cases h'
      | un => cases h'
/-- behind an expression that saw the own lists: what it made is forgotten -/
theorem SOk.after (k0 : Okw w G0 H0) (s : SOk w K G0 H0 B σ ρ H G) {G2 H2 : Hp} (t : Stp w (fullG σ ρ G H) H G2 H2) : SOk w K G0 H0 B σ ρ H2 G := by
  have st : ∀ a, w.st a → H0 a ≠ none := fun a z => k0.here a (w.sf a z)
  refine ⟨⟨(s.fullSub.trans t.up).trans t.sub, s.stp.up, fun a o n h => t.kp a o n (s.stp.kp a o n h), fun a h => t.th a (s.stp.th a h), s.stp.nw, t.wd⟩, s.lb, s.sl, fun i ds h => ?_, s.sep⟩
  obtain ⟨a, xs, h1, h2, h3, h4, h5⟩ := s.own i ds h
  exact ⟨a, xs, h1, t.kp a _ (fun z => st a z h5) h2, h3, h4, h5⟩
theorem Rp.flatTo {v : V} {d : DD} (r : Rp K G v d) (h : flatD d = true) : Rp K H v d := by
  cases r with
  | non => exact .non
  | bl b => exact .bl b
  | int i => exact .int i
  | str z => exact .str z
  | lst _ _ => cases h
  | tup _ _ => cases h
end

structure DEn where
  nx : En → Prop
  rt : DD → Prop
  bk : En → Prop
  ct : En → Prop
  ex : Str → En → Prop
abbrev DS := DEn → En → Prop
structure Rel (w : Wd) (K : PySem.W.Frag) (G0 H0 B : Hp) (D : Ends) (E : DEn) : Prop where
  nx : ∀ σ ρ H, SPo w K G0 H0 B ρ σ H → E.nx ρ → D.nx σ H
  rt : ∀ v d G H, Stp w G0 H0 G H → Rp K G v d → E.rt d → D.rt v H
  bk : ∀ σ ρ H, SPo w K G0 H0 B ρ σ H → E.bk ρ → D.bk σ H
  ct : ∀ σ ρ H, SPo w K G0 H0 B ρ σ H → E.ct ρ → D.ct σ H
  ex : ∀ x σ ρ H, SPo w K G0 H0 B ρ σ H → E.ex x ρ → w.ex (.ref (He.ga K x)) none σ H
def RS (w : Wd) (K : PySem.W.Frag) (ts : TS) (ds : DS) : Prop := ∀ G0 H0 B σ ρ H (D : Ends) (E : DEn), Okw w G0 H0 → SPo w K G0 H0 B ρ σ H → ds E ρ → Rel w K G0 H0 B D E → ts D σ H
structure PDS (w : Wd) (X : Cx) (st : Stmt) (ds : DS) : Prop where
  ex : ∃ ts, PS X st ts ∧ RS w X.K ts ds
structure PDSs (w : Wd) (X : Cx) (st : List Stmt) (ds : DS) : Prop where
  ex : ∃ ts, PSs X st ts ∧ RS w X.K ts ds
section
variable {w : Wd} {X : Cx} {st : Stmt} {rest : List Stmt} {ds es : DS} {e : Expr} {td : DE} {pos : Pos}
def sNx : DS := fun E ρ => E.nx ρ
def sSeq (a b : DS) : DS := fun E ρ => a { E with nx := fun ρ' => b E ρ' } ρ
theorem rs_next {K : PySem.W.Frag} : RS w K tNext sNx := fun _ _ _ σ ρ H _ _ _ s h r => r.nx σ ρ H s h
theorem sds_nil : PDSs w X [] sNx := ⟨_, pss_nil, rs_next⟩
theorem rs_seq {K : PySem.W.Frag} {t u : TS} (h1 : RS w K t ds) (h2 : RS w K u es) : RS w K (tSeq t u) (sSeq ds es) := fun G0 H0 B σ ρ H D E k s h r =>
  h1 G0 H0 B σ ρ H _ _ k s h ⟨fun σ' ρ' H' s' h' => h2 G0 H0 B σ' ρ' H' D E k s' h' r, r.rt, r.bk, r.ct, r.ex⟩
theorem sds_cons (h1 : PDS w X st ds) (h2 : PDSs w X rest es) : PDSs w X (st :: rest) (sSeq ds es) := by
  obtain ⟨t, a1, a2⟩ := h1
  obtain ⟨u, b1, b2⟩ := h2
  exact ⟨_, pss_cons a1 b1, rs_seq a2 b2⟩
theorem sds_one (h1 : PDS w X st ds) : PDSs w X [st] ds := by
  obtain ⟨t, a1, a2⟩ := h1
  exact ⟨_, pss_one a1, a2⟩
theorem sd_pass : PDS w X (.Pass pos) sNx := ⟨_, ps_pass, rs_next⟩
def sBk : DS := fun E ρ => E.bk ρ
def sCt : DS := fun E ρ => E.ct ρ
theorem sd_break : PDS w X (.Break pos) sBk := ⟨_, ps_break, fun _ _ _ σ ρ H _ _ _ s h r => r.bk σ ρ H s h⟩
theorem sd_continue : PDS w X (.Continue pos) sCt := ⟨_, ps_continue, fun _ _ _ σ ρ H _ _ _ s h r => r.ct σ ρ H s h⟩
/-! x = e -/
def sSet (i : Nat) (td : DE) : DS := fun E ρ => td ρ fun d => E.nx (ρ.set i (.dat d))
theorem rs_set {K : PySem.W.Frag} {te : TE} {i : Nat} (h : RE w K te td) : RS w K (tAsg te (gName i)) (sSet i td) := by
  intro G0 H0 B σ ρ H D E k ⟨G, s⟩ hd r
  refine h σ ρ G H _ _ (s.okw k) s.sl hd fun v d G2 H2 s2 rv p => ?_
  exact r.nx _ _ _ ⟨G2, (s.step k s2).set rv⟩ p
theorem sd_set {x : Str} {i : Nat} {pos' : Pos} (hN : X.N.Nodup) (he : PD w X e td) (hi : X.N[i]? = some x := by rfl) (hx : Loc X.env.scope x := by first | exact Or.inl rfl | exact Or.inr rfl) (hs : swapsWith e (some (.Name x pos')) pos.line X.env = pure false := by rfl)
    (hf : X.fn x = true ∨ X.env.scope.names.lookup x = some .local := by first | exact .inl rfl | exact .inr rfl | assumption) : PDS w X (.Assign [.Name x pos'] e pos) (sSet i td) := by
  obtain ⟨te, h1, h2⟩ := he
  exact ⟨_, ps_set hN hi hx h1 hs hf, rs_set h2⟩
/-- x = a value without parts, that may look at the own lists -/
def sSetF (i : Nat) (td : DE) : DS := fun E ρ => td (full ρ) fun d => flatD d = true ∧ E.nx (ρ.set i (.dat d))
theorem sd_setF {x : Str} {i : Nat} {pos' : Pos} (hN : X.N.Nodup) (he : PD w X e td) (hi : X.N[i]? = some x := by rfl) (hx : Loc X.env.scope x := by first | exact Or.inl rfl | exact Or.inr rfl) (hs : swapsWith e (some (.Name x pos')) pos.line X.env = pure false := by rfl)
    (hf : X.fn x = true ∨ X.env.scope.names.lookup x = some .local := by first | exact .inl rfl | exact .inr rfl | assumption) : PDS w X (.Assign [.Name x pos'] e pos) (sSetF i td) := by
  obtain ⟨te, h1, h2⟩ := he
  refine ⟨_, ps_set hN hi hx h1 hs hf, ?_⟩
  intro G0 H0 B σ ρ H D E k ⟨G, s⟩ hd r
  refine h2 σ (full ρ) _ H _ _ (s.fullStp.okw k) s.fullSl hd fun v d G2 H2 s2 rv p => ?_
  exact r.nx _ _ _ ⟨G, (s.after k s2).set (rv.flatTo p.1)⟩ p.2
/-- x = a new list, x's own -/
def sSetN (i : Nat) (tn : DA) : DS := fun E ρ => tn ρ fun ds => E.nx (ρ.set i (.own ds))
theorem sd_setN {tn : DA} {x : Str} {i : Nat} {pos' : Pos} (hN : X.N.Nodup) (he : PDN w X e tn) (hi : X.N[i]? = some x := by rfl) (hx : Loc X.env.scope x := by first | exact Or.inl rfl | exact Or.inr rfl) (hs : swapsWith e (some (.Name x pos')) pos.line X.env = pure false := by rfl)
    (hf : X.fn x = true ∨ X.env.scope.names.lookup x = some .local := by first | exact .inl rfl | exact .inr rfl | assumption) : PDS w X (.Assign [.Name x pos'] e pos) (sSetN i tn) := by
  obtain ⟨te, h1, h2⟩ := he
  refine ⟨_, ps_set hN hi hx h1 hs hf, ?_⟩
  intro G0 H0 B σ ρ H D E k ⟨G, s⟩ hd r
  refine h2 σ ρ G H _ _ (s.okw k) s.sl hd fun p xs ds G2 H2 s2 hp hg2 hl rv q => ?_
  have h0 : H0 p = none := by
    cases z : H0 p with
    | none => rfl
    | some u => exact absurd hp (s.stp.th p (by rw [z]; exact fun z => nomatch z))
  refine r.nx _ _ _ ⟨G2, (s.step k s2).setN hl hg2 h0 rv fun j es hj hσ => ?_⟩ q
  obtain ⟨a, ys, q1, q2, _⟩ := s.own j es hj
  rw [q1] at hσ
  have ea : a = p := by injection (Option.some.inj (Option.some.inj hσ))
  subst ea
  rw [hp] at q2; cases q2
/-! return, if -/
def sRet (td : DE) : DS := fun E ρ => td (full ρ) E.rt
theorem sd_ret (he : PD w X e td) : PDS w X (.Return (some e) pos) (sRet td) := by
  obtain ⟨te, h1, h2⟩ := he
  refine ⟨_, ps_ret h1, ?_⟩
  intro G0 H0 B σ ρ H D E k ⟨G, s⟩ hd r
  exact h2 σ (full ρ) _ H _ _ (s.fullStp.okw k) s.fullSl hd fun v d G2 H2 s2 rv p => r.rt v d G2 H2 (s.fullStp.trans s2) rv p
def sRetN : DS := fun E _ => E.rt .none
theorem sd_retN : PDS w X (.Return none pos) sRetN := ⟨_, ps_retN, fun G0 H0 B σ ρ H D E k ⟨G, s⟩ hd r => r.rt _ _ G H s.stp .non hd⟩
def sIf (tt : DT) (a b : DS) : DS := fun E ρ => tt (full ρ) fun c => if c = true then a E ρ else b E ρ
theorem sd_if {c : Expr} {a b : List Stmt} {tt : DT} (hc : PDT w X c tt) (ha : PDSs w X a ds) (hb : PDSs w X b es) : PDS w X (.If c a b pos) (sIf tt ds es) := by
  obtain ⟨tc, c1, c2⟩ := hc
  obtain ⟨t, a1, a2⟩ := ha
  obtain ⟨u, b1, b2⟩ := hb
  refine ⟨_, ps_if c1 a1 b1, ?_⟩
  intro G0 H0 B σ ρ H D E k ⟨G, s⟩ hd r
  refine c2 σ (full ρ) _ H _ _ (s.fullStp.okw k) s.fullSl hd fun v G2 H2 s2 p => ?_
  cases v with
  | true => exact a2 G0 H0 B σ ρ H2 D E k ⟨G, s.after k s2⟩ p r
  | false => exact b2 G0 H0 B σ ρ H2 D E k ⟨G, s.after k s2⟩ p r
/-! x.append(e), x.extend(e), x a name's own list -/
def sApp (i : Nat) (td : DE) : DS := fun E ρ => match ρ[i]? with
  | some (.own ds) => td ρ fun d => ds.length < 1000000 ∧ E.nx (ρ.set i (.own (ds ++ [d])))
  | _ => False
def sExt (i : Nat) (td : DE) : DS := fun E ρ => match ρ[i]? with
  | some (.own ds) => td ρ fun d => match d with
    | .list es => ds.length + es.length ≤ 1000000 ∧ E.nx (ρ.set i (.own (ds ++ es)))
    | _ => False
  | _ => False
theorem sd_app {x : Str} {i : Nat} {p1 p2 p3 : Pos} (hx : PE X (.Name x p1) (tVar i)) (he : PD w X e td) (hbase : attributeBase (.Name x p1) "append" X.env (eval (.Name x p1) X.env) = eval (.Name x p1) X.env := by rfl)
    (hfew : ((backTo p3 (starEach [e] X.env)).all (fun x => !x.1) && (backToKw p3 (keywordEach [] X.env)).all (fun x => x.1.isSome) && decide (([e] : List Expr).length + ([] : List Keyword).length + (if ([] : List Keyword).isEmpty then 0 else 1) < 30)) = true := by rfl)
    (hline : (p2.endLine == p3.line) = true := by rfl) (hs : starEach [e] X.env = (false, eval e X.env) :: starEach [] X.env := by rfl) (hplain : (backTo p3 (starEach [] X.env)).any (·.1) = false := by rfl)
    (hsw : swapsWith (.Call (.Attribute (.Name x p1) "append" p2) [e] [] p3) none pos.line X.env = pure false := by rfl) : PDS w X (.Expr (.Call (.Attribute (.Name x p1) "append" p2) [e] [] p3) pos) (sApp i td) := by
  obtain ⟨te, h1, h2⟩ := he
  refine ⟨_, ps_expr (pe_bm PySem.F.plainAttrs_list PySem.F.slot_list_append PySem.F.type_list_append mt_append hx (pa_cons h1 pa_nil hs) hbase hfew hline hs hplain) hsw, ?_⟩
  intro G0 H0 B σ ρ H D E k ⟨G, s⟩ hd r
  unfold sApp at hd
  split at hd
  · rename_i ds hi
    obtain ⟨a, xs, q1, q2, q3, q4, q5⟩ := s.own i ds hi
    refine ⟨_, q1, .inl ⟨rfl, xs, SqL.of q2⟩, ?_⟩
    refine h2 σ ρ G H _ _ (s.okw k) s.sl hd fun v d G2 H2 s2 rv p => ?_
    have s' := s.step k s2
    have z : H2 a = some (.lst xs) := s2.kp a _ (fun z => k.here a (w.sf a z) q5) q2
    have hg : G2 a = none := s2.nw a (by rw [q2]; exact fun z => nomatch z) q4
    have q3' := q3.mono s2.up
    exact ⟨a, xs, v, rfl, rfl, z, line_lt (by rw [q3'.len]; exact p.1), r.nx _ _ _ ⟨G2, s'.mut k hi q1 hg q5 (q3'.append (.cons rv .nil))⟩ p.2⟩
  · exact hd.elim
theorem sd_ext {x : Str} {i : Nat} {p1 p2 p3 : Pos} (hx : PE X (.Name x p1) (tVar i)) (he : PD w X e td) (hbase : attributeBase (.Name x p1) "extend" X.env (eval (.Name x p1) X.env) = eval (.Name x p1) X.env := by rfl)
    (hfew : ((backTo p3 (starEach [e] X.env)).all (fun x => !x.1) && (backToKw p3 (keywordEach [] X.env)).all (fun x => x.1.isSome) && decide (([e] : List Expr).length + ([] : List Keyword).length + (if ([] : List Keyword).isEmpty then 0 else 1) < 30)) = true := by rfl)
    (hline : (p2.endLine == p3.line) = true := by rfl) (hs : starEach [e] X.env = (false, eval e X.env) :: starEach [] X.env := by rfl) (hplain : (backTo p3 (starEach [] X.env)).any (·.1) = false := by rfl)
    (hsw : swapsWith (.Call (.Attribute (.Name x p1) "extend" p2) [e] [] p3) none pos.line X.env = pure false := by rfl) : PDS w X (.Expr (.Call (.Attribute (.Name x p1) "extend" p2) [e] [] p3) pos) (sExt i td) := by
  obtain ⟨te, h1, h2⟩ := he
  refine ⟨_, ps_expr (pe_bm PySem.F.plainAttrs_list PySem.F.slot_list_extend PySem.F.type_list_extend mt_extend hx (pa_cons h1 pa_nil hs) hbase hfew hline hs hplain) hsw, ?_⟩
  intro G0 H0 B σ ρ H D E k ⟨G, s⟩ hd r
  unfold sExt at hd
  split at hd
  · rename_i ds hi
    obtain ⟨a, xs, q1, q2, q3, q4, q5⟩ := s.own i ds hi
    refine ⟨_, q1, .inl ⟨rfl, xs, SqL.of q2⟩, ?_⟩
    refine h2 σ ρ G H _ _ (s.okw k) s.sl hd fun v d G2 H2 s2 rv p => ?_
    have s' := s.step k s2
    have z : H2 a = some (.lst xs) := s2.kp a _ (fun z => k.here a (w.sf a z) q5) q2
    have hg : G2 a = none := s2.nw a (by rw [q2]; exact fun z => nomatch z) q4
    have q3' := q3.mono s2.up
    cases rv with
    | @lst b ys fs t1 r1 => exact ⟨a, b, xs, ys, rfl, rfl, z, s2.sub _ _ t1, line_le (by rw [q3'.len, r1.len]; exact p.1), r.nx _ _ _ ⟨G2, s'.mut k hi q1 hg q5 (q3'.append r1)⟩ p.2⟩
    | _ => exact p.elim
  · exact hd.elim
end
end Z

set_option Elab.async false
set_option linter.all false
set_option maxRecDepth 100000
set_option maxHeartbeats 4000000
namespace Z
open PySem PySem.Spec PyProof.Rows L2
/-! targets -/
abbrev DG := DD → En → (En → Prop) → Prop
abbrev DGs := List DD → En → (En → Prop) → Prop
def RG (w : Wd) (K : PySem.W.Frag) (g : TG) (gd : DG) : Prop := ∀ G0 H0 B σ ρ H G x d (k : En → Prop) (Q : L2.St → Hp → Prop), SOk w K G0 H0 B σ ρ H G → Rp K G x d → gd d ρ k → (∀ σ' ρ' H', SPo w K G0 H0 B ρ' σ' H' → k ρ' → Q σ' H') → g x σ H Q
def RGs (w : Wd) (K : PySem.W.Frag) (g : TGs) (gd : DGs) : Prop := ∀ G0 H0 B σ ρ H G xs ds (k : En → Prop) (Q : L2.St → Hp → Prop), SOk w K G0 H0 B σ ρ H G → RpAll K G xs ds → gd ds ρ k → (∀ σ' ρ' H', SPo w K G0 H0 B ρ' σ' H' → k ρ' → Q σ' H') → g xs σ H Q
structure PDG (w : Wd) (X : Cx) (tg : Expr) (gd : DG) : Prop where
  ex : ∃ g, PG X tg g ∧ RG w X.K g gd
structure PDGs (w : Wd) (X : Cx) (tgs : List Expr) (gd : DGs) : Prop where
  ex : ∃ g, PGs X tgs g ∧ RGs w X.K g gd
def tN (i : Nat) : DG := fun d ρ k => k (ρ.set i (.dat d))
def tNil : DGs := fun ds ρ k => ds = [] ∧ k ρ
/-- the further targets are names, too -/
def tNs : List Nat → DGs
  | [] => fun ds ρ k => match ds with
    | [] => k ρ
    | _ => False
  | i :: is => fun ds ρ k => match ds with
    | d :: r => tNs is r (ρ.set i (.dat d)) k
    | _ => False
def tT (is : List Nat) : DG := fun d ρ k => match d with
  | .tuple ds => tNs is ds ρ k
  | _ => False
section
variable {w : Wd} {X : Cx} {pos : Pos} {e tg : Expr} {es : List Expr} {td : DE}
theorem rg_name {K : PySem.W.Frag} {i : Nat} : RG w K (gName i) (tN i) := fun G0 H0 B σ ρ H G x d k Q s r h q => q _ _ _ ⟨G, s.set r⟩ h
theorem dg_n {i : Nat} {x : Str} (hN : X.N.Nodup) (hi : X.N[i]? = some x := by rfl) (hx : Loc X.env.scope x := by first | exact Or.inl rfl | exact Or.inr rfl) (hf : X.fn x = true ∨ X.env.scope.names.lookup x = some .local := by first | exact .inl rfl | exact .inr rfl | assumption) : PDG w X (.Name x pos) (tN i) :=
  ⟨_, pg_name hN hi hx hf, rg_name⟩
theorem dgs_nil : PDGs w X [] (tNs []) := by
  refine ⟨_, pgs_nil, fun G0 H0 B σ ρ H G xs ds k Q s r h q => ?_⟩
  cases r with
  | nil => exact ⟨rfl, q _ _ _ ⟨G, s⟩ h⟩
  | cons _ _ => exact h.elim
theorem dgs_n {i : Nat} {is : List Nat} {x : Str} {rest : List Expr} (hN : X.N.Nodup) (hr : PDGs w X rest (tNs is)) (hi : X.N[i]? = some x := by rfl) (hx : Loc X.env.scope x := by first | exact Or.inl rfl | exact Or.inr rfl)
    (hf : X.fn x = true ∨ X.env.scope.names.lookup x = some .local := by first | exact .inl rfl | exact .inr rfl | assumption) (hs : (assignEach (.Name x pos :: rest) X.env).map (·.2) = assign (.Name x pos) X.env :: (assignEach rest X.env).map (·.2) := by rfl) : PDGs w X (.Name x pos :: rest) (tNs (i :: is)) := by
  obtain ⟨g, h1, h2⟩ := hr
  refine ⟨_, pgs_cons (pg_name hN hi hx hf) h1 hs, fun G0 H0 B σ ρ H G xs ds k Q s r h q => ?_⟩
  cases r with
  | nil => exact h.elim
  | cons ra rb => exact ⟨_, _, rfl, h2 G0 H0 B _ _ H G _ _ k Q (s.set ra) rb h q⟩
theorem dg_t {is : List Nat} {kx : Nat} (hr : PDGs w X es (tNs is)) (hl : es.length = is.length := by rfl) (hc : X.calm = true := by rfl) (hn : (assignEach es X.env).length = es.length := by rfl) (hst : (assignEach es X.env).findIdx? (·.1) = none := by rfl) : PDG w X (.Tuple es kx pos) (tT is) := by
  obtain ⟨g, h1, h2⟩ := hr
  refine ⟨_, pg_tup hc h1 hn hst, fun G0 H0 B σ ρ H G x d k Q s r h q => ?_⟩
  cases r with
  | @tup a xs ds t1 r1 =>
    have len : ∀ (is : List Nat) (ds : List DD) ρ, tNs is ds ρ k → ds.length = is.length := fun is => by
      induction is with
      | nil => intro ds ρ h; cases ds with
        | nil => rfl
        | cons _ _ => exact h.elim
      | cons i is ih => intro ds ρ h; cases ds with
        | nil => exact h.elim
        | cons d ds => exact congrArg (· + 1) (ih ds _ h)
    exact ⟨a, xs, rfl, s.stp.sub.sqT t1, by rw [r1.len, len is ds ρ h, hl], h2 G0 H0 B σ ρ H G xs ds k Q s r1 h q⟩
  | _ => exact h.elim
/-! target = e -/
def sAsg (td : DE) (gd : DG) : DS := fun E ρ => td ρ fun d => gd d ρ E.nx
theorem sd_asg {gd : DG} (he : PD w X e td) (hg : PDG w X tg gd) (hs : swapsWithSole [tg] e pos.line X.env = pure false := by rfl) (hw : swappedStores [tg] e X.env = pure none := by rfl)
    (h1 : (assignEach [tg] X.env).map (·.2) = [assign tg X.env] := by rfl) : PDS w X (.Assign [tg] e pos) (sAsg td gd) := by
  obtain ⟨te, e1, e2⟩ := he
  obtain ⟨g, g1, g2⟩ := hg
  refine ⟨_, ps_asg e1 g1 hs hw h1, ?_⟩
  intro G0 H0 B σ ρ H D E k ⟨G, s⟩ hd r
  refine e2 σ ρ G H _ _ (s.okw k) s.sl hd fun v d G2 H2 s2 rv p => ?_
  exact g2 G0 H0 B σ ρ H2 G2 v d _ _ (s.step k s2) rv p r.nx
/-- x = [.. for ..] where the comprehension stores by itself -/
theorem sd_lc {elt iter : Expr} {ifs : List Expr} {scope : Scope} {x y : Str} {i j : Nat} {lpos py : Pos} {ti : DA} {tt : DT} (hN : X.N.Nodup) (hyl : X.env.scope.names.lookup y = some .local) (ok : BlkOk X.N X.env.scope scope [(x, j)]) (hi : PDI w X tg iter ti)
    (hg : ∀ (s : Shared) (H : Hp) (C : Addr) (cl : List (Str × Addr)) (fp : List Addr), PG (X.blk s H scope (compEnvC scope cl C X.env) fp) tg (gName j))
    (ht : ∀ (s : Shared) (H : Hp) (C : Addr) (cl : List (Str × Addr)) (fp : List Addr), PDTs w (X.blk s H scope (compEnvC scope cl C X.env) fp) ifs tt)
    (he : ∀ (s : Shared) (H : Hp) (C : Addr) (cl : List (Str × Addr)) (fp : List Addr), PD w (X.blk s H scope (compEnvC scope cl C X.env) fp) elt td)
    (hsw : swapsWith (.ListComp elt [⟨tg, iter, ifs, 0⟩] scope lpos) (some (.Name y py)) pos.line X.env = pure true)
    (hy : X.N[i]? = some y := by rfl) (hc : X.calm = true := by rfl) (hs : ∀ x, foldedSetIterable iter X.env x = pure x := by intro _; rfl) : PDS w X (.Assign [.Name y py] (.ListComp elt [⟨tg, iter, ifs, 0⟩] scope lpos) pos) (sSet i (dLc ti j tt td)) := by
  obtain ⟨wi, i1, i2⟩ := hi
  exact ⟨_, ps_setLc (own := [(x, j)]) hc hN hy hyl hsw i1 ok hg (fun s H C cl fp => (ht s H C cl fp).can) (fun s H C cl fp => (he s H C cl fp).can) hs, rs_set (re_lc i2)⟩
/-! x += int -/
def sAug (i : Nat) (td : DE) : DS := fun E ρ => match ρ[i]? with
  | some (.dat (.int a)) => td ρ fun d => match d with
    | .int b => E.nx (ρ.set i (.dat (.int (a + b))))
    | _ => False
  | _ => False
theorem sd_aug {i : Nat} {x : Str} {pos' : Pos} (hN : X.N.Nodup) (he : PD w X e td) (hi : X.N[i]? = some x := by rfl) (hx : Loc X.env.scope x := by first | exact Or.inl rfl | exact Or.inr rfl) (hf : X.fn x = true ∨ X.env.scope.names.lookup x = some .local := by first | exact .inl rfl | exact .inr rfl | assumption) :
    PDS w X (.AugAssign (.Name x pos') .Add e pos) (sAug i td) := by
  obtain ⟨te, e1, e2⟩ := he
  refine ⟨_, ps_aug hN hi hx e1 ip_add hf, ?_⟩
  intro G0 H0 B σ ρ H D E k ⟨G, s⟩ hd r
  unfold sAug at hd
  split at hd
  · rename_i a ha
    obtain ⟨v, q1, q2⟩ := s.sl.dat i _ ha
    cases q2
    refine ⟨_, q1, ?_⟩
    refine e2 σ ρ G H _ _ (s.okw k) s.sl hd fun v d G2 H2 s2 rv p => ?_
    cases rv with
    | int b => exact ⟨a, b, rfl, rfl, r.nx _ _ _ ⟨G2, (s.step k s2).set (.int _)⟩ p⟩
    | _ => exact p.elim
  · exact hd.elim
/-! loops -/
def loop (gd : DG) (sb : DS) (E : DEn) : List DD → En → Prop
  | [] => E.nx
  | x :: xs => fun ρ => gd x ρ fun ρ1 => sb ⟨loop gd sb E xs, E.rt, E.nx, loop gd sb E xs, E.ex⟩ ρ1
def sFor (ti : DA) (gd : DG) (sb : DS) : DS := fun E ρ => ti ρ fun items => loop gd sb E items ρ
theorem SOk.lower {K : PySem.W.Frag} {G0 H0 B B' : Hp} {σ : L2.St} {ρ : En} {H G : Hp} (s : SOk w K G0 H0 B' σ ρ H G) (h : Sub B B') : SOk w K G0 H0 B σ ρ H G := ⟨s.stp, h.trans s.lb, s.sl, s.own, s.sep⟩
theorem rs_for {K : PySem.W.Frag} {wi : TI} {g : TG} {tb : TS} {ti : DA} {gd : DG} {sb : DS} (hi : RI w K wi ti) (hg : RG w K g gd) (hb : RS w K tb sb) : RS w K (tFor wi g tb) (sFor ti gd sb) := by
  intro G0 H0 B σ ρ H D E k ⟨G, s⟩ hd r
  refine hi σ ρ G H _ _ (s.okw k) s.sl hd fun J items G2 H2 s2 wk p => ?_
  have s' := s.step k s2
  have lbB : Sub B G2 := s'.lb
  obtain ⟨Y, wlk, hy⟩ := wk
  refine for_it wlk (fun i σ' H' => ∃ ρ', SPo w K G0 H0 G2 ρ' σ' H' ∧ loop gd sb E (items.drop i) ρ') ?_ ?_ ?_ ?_
  · exact ⟨ρ, ⟨G2, s'.stp, Sub.rfl, s'.sl, s'.own, s'.sep⟩, p⟩
  · rintro i σ' H' _ ⟨ρ', ⟨G', s1⟩, _⟩
    exact s1.lb.trans s1.stp.sub
  · rintro i x σ' H' H'' hlt ⟨ρ', ⟨G', s1⟩, hl⟩ y
    obtain ⟨d, hd, alt⟩ := hy i H' x H'' y
    have hdr : items.drop i = d :: items.drop (i + 1) := by
      obtain ⟨h1, h2⟩ := List.getElem?_eq_some_iff.mp hd
      rw [List.drop_eq_getElem_cons h1, h2]
    rw [hdr] at hl
    obtain ⟨G3, s3, rx⟩ : ∃ G3, SOk w K G0 H0 G2 σ' ρ' H'' G3 ∧ Rp K G3 x d := by
      rcases alt with ⟨rfl, rx⟩ | ⟨pp, xs, es, hp, rfl, rfl, rx, rfl⟩
      · exact ⟨G', s1, rx.mono s1.lb⟩
      · have k1 := s1.okw k
        have sn := Stp.new (w := w) (o := .tup xs) k1 hp
        exact ⟨_, s1.step k sn, .tup (SqT.of upd_same) ((rx.mono s1.lb).mono sn.up)⟩
    refine hg G0 H0 G2 σ' ρ' H'' G3 x d _ _ s3 rx hl fun σ4 ρ4 H4 s4 h4 => ?_
    refine hb G0 H0 G2 σ4 ρ4 H4 _ _ k s4 h4 ⟨fun σ5 ρ5 H5 s5 h5 => ⟨ρ5, s5, h5⟩, r.rt, fun σ5 ρ5 H5 s5 h5 => ?_, fun σ5 ρ5 H5 s5 h5 => ⟨ρ5, s5, h5⟩, fun y σ5 ρ5 H5 s5 h5 => ?_⟩
    · obtain ⟨G5, s5⟩ := s5
      exact r.nx _ _ _ ⟨G5, s5.lower lbB⟩ h5
    · obtain ⟨G5, s5⟩ := s5
      exact r.ex _ _ _ _ ⟨G5, s5.lower lbB⟩ h5
  · rintro σ' H' ⟨ρ', ⟨G', s1⟩, hl⟩
    rw [List.drop_length] at hl
    exact r.nx _ _ _ ⟨G', s1.lower lbB⟩ hl
theorem sd_for {iter : Expr} {body : List Stmt} {ti : DA} {gd : DG} {sb : DS} (hi : PDI w X tg iter ti) (hg : PDG w X tg gd) (hb : PDSs w X body sb) (hp : PassesOwn (model X.prog X.w) X.A X.env X.xe := by exact PassesOwn.never) (hc : X.calm = true := by rfl)
    (hs : ∀ x, foldedSetIterable iter X.env x = pure x := by intro _; rfl) : PDS w X (.For tg iter body [] pos) (sFor ti gd sb) := by
  obtain ⟨wi, i1, i2⟩ := hi
  obtain ⟨g, g1, g2⟩ := hg
  obtain ⟨tb, b1, b2⟩ := hb
  exact ⟨_, ps_for hp hc i1 g1 b1 hs, rs_for i2 g2 b2⟩
/-- at most n turns -/
def turns (tt : DT) (sb : DS) (E : DEn) : Nat → En → Prop
  | 0 => fun _ => False
  | n + 1 => fun ρ => tt (full ρ) fun c => if c = true then sb ⟨turns tt sb E n, E.rt, E.nx, turns tt sb E n, E.ex⟩ ρ else E.nx ρ
def sWh (tt : DT) (sb : DS) : DS := fun E ρ => ∃ n, turns tt sb E n ρ
theorem sd_wh {c : Expr} {body : List Stmt} {tt : DT} {sb : DS} (ht : PDT w X c tt) (hb : PDSs w X body sb) (hp : PassesOwn (model X.prog X.w) X.A X.env X.xe := by exact PassesOwn.never) : PDS w X (.While c body [] pos) (sWh tt sb) := by
  obtain ⟨tc, c1, c2⟩ := ht
  obtain ⟨tb, b1, b2⟩ := hb
  refine ⟨_, ps_while hp c1 b1, ?_⟩
  intro G0 H0 B σ ρ H D E k s ⟨n, hn⟩ r
  refine ⟨fun m σ' H' => ∃ ρ', SPo w X.K G0 H0 B ρ' σ' H' ∧ turns tt sb E m ρ', ⟨n, ρ, s, hn⟩, fun m σ' H' ⟨ρ', ⟨G', s1⟩, ht⟩ => ?_⟩
  cases m with
  | zero => exact ht.elim
  | succ m =>
    refine c2 σ' (full ρ') _ H' _ _ (s1.fullStp.okw k) s1.fullSl ht fun b G2 H2 s2 p => ?_
    have s3 : SPo w X.K G0 H0 B ρ' σ' H2 := ⟨G', s1.after k s2⟩
    cases b with
    | false => exact r.nx _ _ _ s3 p
    | true =>
      refine ⟨fun σ4 H4 => ∃ ρ4, SPo w X.K G0 H0 B ρ4 σ4 H4 ∧ turns tt sb E m ρ4, fun σ4 H4 h4 => ⟨m, Nat.lt_succ_self m, h4⟩, ?_⟩
      exact b2 G0 H0 B σ' ρ' H2 _ _ k s3 p ⟨fun σ5 ρ5 H5 s5 h5 => ⟨ρ5, s5, h5⟩, r.rt, fun σ5 ρ5 H5 s5 h5 => r.nx _ _ _ s5 h5, fun σ5 ρ5 H5 s5 h5 => ⟨ρ5, s5, h5⟩, r.ex⟩
end
/-! ### a def -/
def startD (N : List Str) (ds : List DD) : En := ds.map Ent.dat ++ List.replicate (N.length - ds.length) Ent.un
theorem sl_start {K : PySem.W.Frag} {G : Hp} {N : List Str} {vs : List V} {ds : List DD} (r : RpAll K G vs ds) : SlOk K G (start N vs) (startD N ds) := by
  have hl := r.len
  refine ⟨by simp [L2.start, startD, hl], fun i d h => ?_, fun i a h => ?_⟩
  · unfold startD at h
    by_cases hi : i < ds.length
    · rw [List.getElem?_append_left (by simpa using hi), List.getElem?_map] at h
      cases e : ds[i]? with
      | none => rw [e] at h; cases h
      | some d' =>
        rw [e] at h
        have ed : d' = d := by injection (Option.some.inj h)
        subst ed
        obtain ⟨v, hv, rv⟩ := r.getD e
        refine ⟨v, ?_, rv⟩
        unfold L2.start
        rw [List.getElem?_append_left (by rw [List.length_map, hl]; exact hi), List.getElem?_map, hv]
        rfl
    · rw [List.getElem?_append_right (by simpa using Nat.le_of_not_lt hi)] at h
      rw [List.getElem?_replicate] at h
      split at h <;> cases h
  · unfold startD at h
    by_cases hi : i < ds.length
    · rw [List.getElem?_append_left (by simpa using hi), List.getElem?_map] at h
      cases e : ds[i]? with
      | none => rw [e] at h; cases h
      | some d' => rw [e] at h; cases h
    · rw [List.getElem?_append_right (by simpa using Nat.le_of_not_lt hi)] at h
      rw [List.getElem?_replicate] at h
      split at h <;> cases h
def endsD (P : DD → Prop) : DEn := ⟨fun _ => P .none, P, fun _ => False, fun _ => False, fun _ _ => False⟩
section
variable {P : Program} {wd : World} {K : PySem.W.Frag} {mg : Str → Option Value} {base : Heap} {x qual : Str} {st : Stmt} {f : Addr} {fd : FuncData} {N ps : List Str} {k : Nat} {F : D1} {sd : DS}
/-- THE RULE for a pure def: its body's meaning, and that it does what F says -/
theorem fn_pure (Fn : Fun K x qual st f fd) (S : FnScope N ps (defScope st))
    (body : ∀ (cdv : Value) (A : Around) (outer : List Env) (s : Shared) (H : Hp) (E : XK), Room k (A.deeper (envOfC qual (defScope st) s.heap.objs.size f cdv)) → PDSs Wd.zero (cxOf CX0 P wd K mg base N qual (defScope st) f cdv A outer s H E).nox (defBody st) sd)
    (hF : ∀ ds Q, F ds Q → ds.length = ps.length ∧ sd (endsD Q) (startD N ds)) : FnOk P wd K mg base CX0 (k + 1) f fd ps (spD K F) := by
  refine Fn.ok S (fun vs H Q E h => ?_) (fun cdv A outer s H vs Q E hr h => ?_)
  · obtain ⟨G, ds, P', hs, r, hf, _⟩ := h
    rw [r.len]; exact (hF ds P' hf).1
  · obtain ⟨G, ds, P', hs, r, hf, q⟩ := h
    obtain ⟨ts, t1, t2⟩ := body cdv A outer s H E hr
    refine ⟨ts, t1, ?_⟩
    have k0 : Okw Wd.zero G H := ⟨hs, trivial, fun _ h => h.elim, fun _ h => h.elim⟩
    have nown : ∀ (i : Nat) es, (startD N ds)[i]? ≠ some (.own es) := fun i es h => by
      have z : Ent.own es ∈ startD N ds := List.mem_of_getElem? h
      unfold startD at z
      rcases List.mem_append.mp z with z | z
      · obtain ⟨d, _, e⟩ := List.mem_map.mp z
        cases e
      · rw [List.mem_replicate] at z
        cases z.2
    refine t2 G H G (start N vs) (startD N ds) H _ (endsD P') k0 ⟨G, k0.stp, Sub.rfl, sl_start r, fun i es h => absurd h (nown i es), fun i j es _ a h => absurd h (nown i es)⟩ (hF ds P' hf).2 ⟨fun σ ρ H' s' h' => ?_, fun v d G' H' s' r' h' => q v d G' H' s' r' h', fun _ _ _ _ h' => h'.elim, fun _ _ _ _ h' => h'.elim, fun _ _ _ _ _ h' => h'.elim⟩
    obtain ⟨G', s'⟩ := s'
    exact q _ _ G' H' s'.stp .non h'
end
end Z

set_option Elab.async false
set_option linter.all false
set_option maxRecDepth 100000
set_option maxHeartbeats 4000000
namespace Z
open PySem PySem.Spec PyProof.Rows L2
/-! ### a name's own list: made by a comprehension, written by place, given up -/
section
variable {w : Wd} {X : Cx} {st : Stmt} {rest : List Stmt} {ds es : DS} {e : Expr} {td : DE} {pos : Pos}
def compN (ρ : En) (j : Nat) (tt : DT) (td : DE) (items : List DD) (P : List DD → Prop) : Prop := comp ρ j tt td items [] fun d => match d with
  | .list ds => P ds
  | _ => False
def dLcN (ti : DA) (j : Nat) (tt : DT) (td : DE) : DA := fun ρ P => ti ρ fun items => compN ρ j tt td items P
/-- any reading of a value that is a list that nobody knows may be its owner's -/
theorem rn_lc {wi : TI} {ti : DA} {j : Nat} {tt : DT} {td : DE} (hi : RI w X.K wi ti) : RN w X.K (tLc wi (gName j) (ttOf w X.K tt) (teOf w X.K td) [j]) (dLcN ti j tt td) := by
  intro σ ρ G H P Q k s h q
  refine hi σ ρ G H _ _ k s h fun J items G1 H1 s1 wk p1 D hD => ?_
  have k1 := s1.okw k
  obtain ⟨Y, wlk, hy⟩ := wk
  refine lc_it wlk (fun i H' => ∃ G' acc ds, Stp w G1 H1 G' H' ∧ H' D = some (.lst acc) ∧ G' D = none ∧ RpAll X.K G' acc ds ∧ comp ρ j tt td (items.drop i) ds fun d => match d with
    | .list ds => P ds
    | _ => False) ?_ ?_ ?_ ?_
  · exact ⟨G1, [], [], Stp.new0 k1 hD, upd_same, k1.g_none hD, .nil, p1⟩
  · rintro i H' _ ⟨G', acc, ds, s2, _⟩
    exact s2.up.trans s2.sub
  · rintro i x H' H'' hlt ⟨G', acc, ds, s2, hacc, hgD, ra, hc⟩ y
    obtain ⟨d, hd, alt⟩ := hy i H' x H'' y
    have hdr : items.drop i = d :: items.drop (i + 1) := by
      obtain ⟨h1, h2⟩ := List.getElem?_eq_some_iff.mp hd
      rw [List.drop_eq_getElem_cons h1, h2]
    rw [hdr] at hc
    show wipe ((wipe σ [j]).set j (some x)) [j] = wipe σ [j] ∧ _
    refine ⟨by show (((σ.set j none).set j (some x)).set j none) = σ.set j none; rw [List.set_set, List.set_set], ?_⟩
    have e1 : (wipe σ [j]).set j (some x) = σ.set j (some x) := set_set_none
    rw [e1]
    obtain ⟨G3, s3, rx, hacc3, hgD3⟩ : ∃ G3, Stp w G1 H1 G3 H'' ∧ Rp X.K G3 x d ∧ H'' D = some (.lst acc) ∧ G3 D = none ∧ Sub G' G3 := by
      have k2 := s2.okw k1
      rcases alt with ⟨rfl, rx⟩ | ⟨p, xs, es, hp, rfl, rfl, rx, rfl⟩
      · exact ⟨G', s2, rx.mono s2.up, hacc, hgD, Sub.rfl⟩
      · have sn := Stp.new (w := w) (o := .tup xs) k2 hp
        have ne : D ≠ p := ne_of_none hacc hp
        exact ⟨_, s2.trans sn, .tup (SqT.of upd_same) ((rx.mono s2.up).mono (Sub.new (k2.g_none hp))), by rw [upd_ne ne]; exact hacc, by rw [upd_ne ne]; exact hgD, sn.up⟩
    obtain ⟨hgD3, u3⟩ := hgD3
    have k3 := s3.okw k1
    have sl3 : SlOk X.K G3 (σ.set j (some x)) (ρ.set j (.dat d)) := (s.mono (s1.up.trans s3.up)).set rx
    refine ⟨_, G3, _, k3, sl3, hc, fun b G4 H4 s4 hb => ?_⟩
    have k4 := s4.okw k3
    have hst : ¬ w.st D := fun z => k1.here D (w.sf D z) hD
    have hacc4 : H4 D = some (.lst acc) := s4.kp D _ hst hacc3
    have hgD4 : G4 D = none := s4.nw D (by rw [hacc3]; exact fun z => nomatch z) hgD3
    cases b with
    | false =>
      rw [if_neg Bool.false_ne_true] at hb
      show ∃ G' acc ds, _
      exact ⟨G4, acc, ds, s3.trans s4, hacc4, hgD4, (ra.mono u3).mono s4.up, hb⟩
    | true =>
      rw [if_pos rfl] at hb
      show teOf w X.K td (List.set σ j (some x)) H4 _
      refine ⟨_, G4, _, k4, sl3.mono s4.up, hb, fun v e G5 H5 s5 re hp => ?_⟩
      have hacc5 : H5 D = some (.lst acc) := s5.kp D _ hst hacc4
      have hgD5 : G5 D = none := s5.nw D (by rw [hacc4]; exact fun z => nomatch z) hgD4
      have ra5 := ((ra.mono u3).mono s4.up).mono s5.up
      exact ⟨acc, hacc5, line_lt (by rw [ra5.len]; exact hp.1), G5, acc ++ [v], ds ++ [e], ((s3.trans s4).trans s5).mut k1 hD hgD5, upd_same, hgD5, ra5.append (.cons re .nil), hp.2⟩
  · rintro H' ⟨G', acc, ds, s2, hacc, hgD, ra, hc⟩
    rw [List.drop_length] at hc
    have hD0 : H D = none := by
      cases z : H D with
      | none => rfl
      | some u => exact absurd hD (s1.th D (by rw [z]; exact fun z => nomatch z))
    exact q D acc ds G' H' (s1.trans s2) hD0 hgD hacc ra hc
theorem sd_lcN {elt iter tg : Expr} {ifs : List Expr} {scope : Scope} {x y : Str} {i j : Nat} {lpos py : Pos} {ti : DA} {tt : DT} (hN : X.N.Nodup) (hyl : X.env.scope.names.lookup y = some .local) (ok : BlkOk X.N X.env.scope scope [(x, j)]) (hi : PDI w X tg iter ti)
    (hg : ∀ (s : Shared) (H : Hp) (C : Addr) (cl : List (Str × Addr)) (fp : List Addr), PG (X.blk s H scope (compEnvC scope cl C X.env) fp) tg (gName j))
    (ht : ∀ (s : Shared) (H : Hp) (C : Addr) (cl : List (Str × Addr)) (fp : List Addr), PDTs w (X.blk s H scope (compEnvC scope cl C X.env) fp) ifs tt)
    (he : ∀ (s : Shared) (H : Hp) (C : Addr) (cl : List (Str × Addr)) (fp : List Addr), PD w (X.blk s H scope (compEnvC scope cl C X.env) fp) elt td)
    (hsw : swapsWith (.ListComp elt [⟨tg, iter, ifs, 0⟩] scope lpos) (some (.Name y py)) pos.line X.env = pure true)
    (hy : X.N[i]? = some y := by rfl) (hc : X.calm = true := by rfl) (hs : ∀ x, foldedSetIterable iter X.env x = pure x := by intro _; rfl) : PDS w X (.Assign [.Name y py] (.ListComp elt [⟨tg, iter, ifs, 0⟩] scope lpos) pos) (sSetN i (dLcN ti j tt td)) := by
  obtain ⟨wi, i1, i2⟩ := hi
  refine ⟨_, ps_setLc (own := [(x, j)]) (tt := ttOf w X.K tt) (te := teOf w X.K td) hc hN hy hyl hsw i1 ok hg (fun s H C cl fp => (ht s H C cl fp).can) (fun s H C cl fp => (he s H C cl fp).can) hs, ?_⟩
  intro G0 H0 B σ ρ H D E k ⟨G, s⟩ hd r
  refine rn_lc i2 σ ρ G H _ _ (s.okw k) s.sl hd fun p xs ds G2 H2 s2 hp hg2 hl rv q => ?_
  have h0 : H0 p = none := by
    cases z : H0 p with
    | none => rfl
    | some u => exact absurd hp (s.stp.th p (by rw [z]; exact fun z => nomatch z))
  refine r.nx _ _ _ ⟨G2, (s.step k s2).setN hl hg2 h0 rv fun j es hj hσ => ?_⟩ q
  obtain ⟨a, ys, q1, q2, _⟩ := s.own j es hj
  rw [q1] at hσ
  have ea : a = p := by injection (Option.some.inj (Option.some.inj hσ))
  subst ea
  rw [hp] at q2; cases q2
/-- x[n] = e, x a name's own list -/
def sPut (i : Nat) (tn td : DE) : DS := fun E ρ => match ρ[i]? with
  | some (.own ds) => td (full ρ) fun d => tn ρ fun n => match n with
    | .int n => match ixN ds.length n with
      | some j => E.nx (ρ.set i (.own (ds.set j d)))
      | none => False
    | _ => False
  | _ => False
/-- a name gives its list up: from now on it is data -/
def sFrz (i : Nat) (ds : DS) : DS := fun E ρ => match ρ[i]? with
  | some (.own es) => ds E (ρ.set i (.dat (.list es)))
  | _ => False
theorem SOk.frz {K : PySem.W.Frag} {G0 H0 B G H : Hp} {σ : L2.St} {ρ : En} (k0 : Okw w G0 H0) (s : SOk w K G0 H0 B σ ρ H G) {i : Nat} {ds : List DD} (hi : ρ[i]? = some (.own ds)) : SPo w K G0 H0 B (ρ.set i (.dat (.list ds))) σ H := by
  obtain ⟨a, xs, q1, q2, q3, q4, q5⟩ := s.own i ds hi
  have hl : i < ρ.length := (List.getElem?_eq_some_iff.mp hi).1
  have up : Sub G (upd G a (.lst xs)) := Sub.new q4
  refine ⟨upd G a (.lst xs), ⟨fun b o e => ?_, s.stp.up.trans up, s.stp.kp, s.stp.th, fun b h1 h2 => ?_, s.stp.wd⟩, s.lb.trans up, ⟨by rw [List.length_set]; exact s.sl.len, fun j d h => ?_, fun j b h => ?_⟩, fun j es h => ?_, fun j m es fs b h1 h2 h3 h4 => ?_⟩
  · by_cases z : b = a
    · subst z; rw [upd_same] at e; rw [q2]; exact e
    · rw [upd_ne z] at e; exact s.stp.sub b o e
  · rw [upd_ne (fun z => h1 (by rw [z]; exact q5))]; exact s.stp.nw b h1 h2
  · rcases set_some h with ⟨rfl, z, _⟩ | ⟨ne, z⟩
    · have ed : PyData.list ds = d := by injection z
      subst ed
      exact ⟨_, q1, .lst upd_same (q3.mono up)⟩
    · obtain ⟨v, r1, r2⟩ := s.sl.dat j d z
      exact ⟨v, r1, r2.mono up⟩
  · rcases set_some h with ⟨rfl, z, _⟩ | ⟨ne, z⟩
    · cases z
    · exact s.sl.adr j b z
  · rcases set_some h with ⟨rfl, z, _⟩ | ⟨ne, z⟩
    · cases z
    · obtain ⟨b, ys, r1, r2, r3, r4, r5⟩ := s.own j es z
      have nb : b ≠ a := fun e => ne (s.sep i j ds es a hi z q1 (by rw [r1, e]))
      exact ⟨b, ys, r1, r2, r3.mono up, by rw [upd_ne nb]; exact r4, r5⟩
  · rcases set_some h1 with ⟨rfl, z, _⟩ | ⟨_, z1⟩
    · cases z
    · rcases set_some h2 with ⟨rfl, z, _⟩ | ⟨_, z2⟩
      · cases z
      · exact s.sep j m es fs b z1 z2 h3 h4
theorem sds_frz (i : Nat) (h : PDSs w X rest es) : PDSs w X rest (sFrz i es) := by
  obtain ⟨ts, h1, h2⟩ := h
  refine ⟨ts, h1, fun G0 H0 B σ ρ H D E k ⟨G, s⟩ hd r => ?_⟩
  unfold sFrz at hd
  split at hd
  · rename_i es' hi
    exact h2 G0 H0 B σ _ H D E k (s.frz k hi) hd r
  · exact hd.elim
end
/-! ### the drawing state: a list that every draw turns -/
def wst (a l : Addr) (ns : List Int) : Wd where
  st := fun b => b = a
  fp := fun b => b = a ∨ b = l
  W := fun H => H l = some (.lst (ns.map V.int)) ∧ l ≠ a ∧ ∃ (i : Nat) (v s : Int), H a = some (.lst [.ref l, .int i, .int v, .int s]) ∧ i ≤ ns.length ∧ 0 ≤ v ∧ 0 ≤ s ∧ s < 2147483647
  sf := fun b h => .inl h
  loc := fun {H H'} e h => by
    obtain ⟨h1, h2, i, v, s, h3, h4⟩ := h
    exact ⟨by rw [e l (.inr rfl)]; exact h1, h2, i, v, s, by rw [e a (.inl rfl)]; exact h3, h4⟩
  ex := fun _ _ _ _ => False
/-- the contract of a def whose first argument is the state -/
def spS (K : PySem.W.Frag) (F : D1) : Sp := fun vs H Q _ => ∃ (a l : Addr) (ns : List Int) (G : Hp) (us : List V) (ds : List DD) (P : DD → Prop), vs = .ref a :: us ∧ Okw (wst a l ns) G H ∧ RpAll K G us ds ∧ F ds P ∧
  ∀ v d G2 H2, Stp (wst a l ns) G H G2 H2 → Rp K G2 v d → P d → Q v H2
section
variable {X : Cx} {a l : Addr} {ns : List Int} {es : List Expr} {kf : Nat} {f : Addr} {fd : FuncData} {ps : List Str} {x y : Str} {p py pos : Pos}
def dSt (a : Addr) (i : Nat) (F : D1) (t : DA) : DE := fun ρ P => ρ[i]? = some (.adr a) ∧ t ρ fun ds => F ds P
theorem pd_sfn {F : D1} {t : DA} {i : Nat} (GF : FnOk X.prog X.w X.K X.mg X.base CX0 kf f fd ps (spS X.K F)) (hr : Room kf X.A) (hm : X.mg x = some (.ref f)) (hk : PySem.W.keepIn X.K (.ref f) = true) (hb : Binds X.K fd ps []) (hv : PE X (.Name y py) (tVar i)) (ha : PDA (wst a l ns) X es t) (hg : Gl X x := by rfl)
    (hdb : (x == ("__debug__" : Str)) = false := by decide) (he : starEach (.Name y py :: es) X.env = (false, eval (.Name y py) X.env) :: starEach es X.env := by rfl) (hpl : (backTo pos (starEach es X.env)).any (·.1) = false := by rfl) : PD (wst a l ns) X (.Call (.Name x p) (.Name y py :: es) [] pos) (dSt a i F t) := by
  obtain ⟨t', a1, a2⟩ := ha
  refine ⟨_, pe_call GF hr hg hm hk hb .nil (pass0 (X := X)) (pa_cons hv a1 he) hdb he hpl, fun σ ρ G H P Q k s h q => ?_⟩
  refine ⟨_, s.adr i a h.1, ?_⟩
  refine a2 σ ρ G H _ _ k s h.2 fun vs ds G1 H1 s1 r1 _ p1 => ?_
  show spS X.K F ((V.ref a :: vs) ++ []) H1 Q E0
  rw [List.append_nil]
  exact ⟨a, l, ns, G1, vs, ds, P, rfl, s1.okw k, r1, p1, fun v d G2 H2 s2 => q v d G2 H2 (s1.trans s2)⟩
end
def startS (a : Addr) (N : List Str) (ds : List DD) : En := Ent.adr a :: (ds.map Ent.dat ++ List.replicate (N.length - 1 - ds.length) Ent.un)
theorem pss_any {X : Cx} {st : List Stmt} : PSs X st (fun D σ H => ∃ ts, PSs X st ts ∧ ts D σ H) := ⟨fun pins s σ H D I ⟨ts, h1, h2⟩ => h1.run pins s σ H D I h2⟩
section
variable {P : Program} {wd : World} {K : PySem.W.Frag} {mg : Str → Option Value} {base : Heap} {x qual : Str} {st : Stmt} {f : Addr} {fd : FuncData} {N ps : List Str} {k : Nat} {F : D1} {sd : Addr → DS}
theorem fn_state (Fn : Fun K x qual st f fd) (S : FnScope N ps (defScope st)) (hn : 1 ≤ N.length)
    (body : ∀ (a l : Addr) (ns : List Int) (cdv : Value) (A : Around) (outer : List Env) (s : Shared) (H : Hp) (E : XK), Room k (A.deeper (envOfC qual (defScope st) s.heap.objs.size f cdv)) → PDSs (wst a l ns) (cxOf CX0 P wd K mg base N qual (defScope st) f cdv A outer s H E).nox (defBody st) (sd a))
    (hF : ∀ a ds Q, F ds Q → ds.length + 1 = ps.length ∧ sd a (endsD Q) (startS a N ds)) : FnOk P wd K mg base CX0 (k + 1) f fd ps (spS K F) := by
  refine Fn.ok S (fun vs H Q E h => ?_) (fun cdv A outer s H vs Q E hr h => ?_)
  · obtain ⟨a, l, ns, G, us, ds, P', rfl, hs, r, hf, _⟩ := h
    rw [List.length_cons, r.len]; exact (hF a ds P' hf).1
  · obtain ⟨a, l, ns, G, us, ds, P', rfl, k0, r, hf, q⟩ := h
    refine ⟨_, pss_any, ?_⟩
    obtain ⟨ts, t1, t2⟩ := body a l ns cdv A outer s H E hr
    refine ⟨ts, t1, ?_⟩
    have nown : ∀ (i : Nat) es, (startS a N ds)[i]? ≠ some (.own es) := fun i es h => by
      have z : Ent.own es ∈ startS a N ds := List.mem_of_getElem? h
      unfold startS at z
      rcases List.mem_cons.mp z with z | z
      · cases z
      · rcases List.mem_append.mp z with z | z
        · obtain ⟨d, _, e⟩ := List.mem_map.mp z
          cases e
        · rw [List.mem_replicate] at z
          cases z.2
    have sl : SlOk K G (L2.start N (.ref a :: us)) (startS a N ds) := by
      have hl := r.len
      refine ⟨by simp [L2.start, startS, hl]; omega, fun i d h => ?_, fun i b h => ?_⟩
      · cases i with
        | zero => cases (Option.some.inj h)
        | succ i =>
          have h' : (ds.map Ent.dat ++ List.replicate (N.length - 1 - ds.length) Ent.un)[i]? = some (.dat d) := h
          by_cases hi : i < ds.length
          · rw [List.getElem?_append_left (by simpa using hi), List.getElem?_map] at h'
            cases e : ds[i]? with
            | none => rw [e] at h'; cases h'
            | some d' =>
              rw [e] at h'
              have ed : d' = d := by injection (Option.some.inj h')
              subst ed
              obtain ⟨v, hv, rv⟩ := r.getD e
              refine ⟨v, ?_, rv⟩
              show (us.map some ++ _)[i]? = _
              rw [List.getElem?_append_left (by rw [List.length_map, hl]; exact hi), List.getElem?_map, hv]
              rfl
          · rw [List.getElem?_append_right (by simpa using Nat.le_of_not_lt hi), List.getElem?_replicate] at h'
            split at h' <;> cases h'
      · cases i with
        | zero =>
          have eb : a = b := by injection (Option.some.inj h)
          subst eb
          rfl
        | succ i =>
          have h' : (ds.map Ent.dat ++ List.replicate (N.length - 1 - ds.length) Ent.un)[i]? = some (.adr b) := h
          by_cases hi : i < ds.length
          · rw [List.getElem?_append_left (by simpa using hi), List.getElem?_map] at h'
            cases e : ds[i]? with
            | none => rw [e] at h'; cases h'
            | some d' => rw [e] at h'; cases (Option.some.inj h')
          · rw [List.getElem?_append_right (by simpa using Nat.le_of_not_lt hi), List.getElem?_replicate] at h'
            split at h' <;> cases h'
    refine t2 G H G _ (startS a N ds) H _ (endsD P') k0 ⟨G, k0.stp, Sub.rfl, sl, fun i es h => absurd h (nown i es), fun i j es _ b h => absurd h (nown i es)⟩ (hF a ds P' hf).2 ⟨fun σ ρ H' s' h' => ?_, fun v d G' H' s' r' h' => q v d G' H' s' r' h', fun _ _ _ _ h' => h'.elim, fun _ _ _ _ h' => h'.elim, fun _ _ _ _ _ h' => h'.elim⟩
    obtain ⟨G', s'⟩ := s'
    exact q _ _ G' H' s'.stp .non h'
end
end Z

set_option Elab.async false
set_option linter.all false
set_option maxRecDepth 100000
set_option maxHeartbeats 4000000
namespace Z
open PySem PySem.Spec PyProof.Rows L2
mutual
/-- no list lies within -/
def nol : DD → Bool
  | .list _ => false
  | .tuple ds => nolAll ds
  | .dict _ => false
  | _ => true
def nolAll : List DD → Bool
  | [] => true
  | d :: ds => nol d && nolAll ds
end
section
variable {K : PySem.W.Frag} {G G' : Hp}
mutual
theorem Rp.nolTo (e : ∀ a u, G a = some u → (∀ xs, u ≠ .lst xs) → G' a = some u) : ∀ {v : V} {d : DD}, Rp K G v d → nol d = true → Rp K G' v d
  | _, _, .non, _ => .non
  | _, _, .bl b, _ => .bl b
  | _, _, .int i, _ => .int i
  | _, _, .str x, _ => .str x
  | _, _, .lst _ _, h => by simp [nol] at h
  | _, _, .tup t r, h => by
    rw [nol] at h
    refine .tup ?_ (RpAll.nolTo e r h)
    rcases t with (t | ⟨o, t⟩) | t
    · exact .inl (.inl (e _ _ t (fun _ z => by cases z)))
    · exact .inl (.inr ⟨o, e _ _ t (fun _ z => by cases z)⟩)
    · exact .inr t
theorem RpAll.nolTo (e : ∀ a u, G a = some u → (∀ xs, u ≠ .lst xs) → G' a = some u) : ∀ {vs : List V} {ds : List DD}, RpAll K G vs ds → nolAll ds = true → RpAll K G' vs ds
  | _, _, .nil, _ => .nil
  | _, _, .cons a b, h => by
    rw [nolAll, Bool.and_eq_true] at h
    exact .cons (Rp.nolTo e a h.1) (RpAll.nolTo e b h.2)
end
end
section
variable {w : Wd} {K : PySem.W.Frag} {G0 H0 B G H : Hp} {σ : L2.St} {ρ : En}
open Classical in
/-- behind an expression that saw the own lists: what it made is kept, but for the own lists -/
theorem SOk.afterN (k0 : Okw w G0 H0) (s : SOk w K G0 H0 B σ ρ H G) {G2 H2 : Hp} (t : Stp w (fullG σ ρ G H) H G2 H2) : ∃ G3, SOk w K G0 H0 B σ ρ H2 G3 ∧ ∀ v d, Rp K G2 v d → nol d = true → Rp K G3 v d := by
  have fs := s.fullStp.trans t
  have st : ∀ a, w.st a → H0 a ≠ none := fun a z => k0.here a (w.sf a z)
  have own2 : ∀ a, (∃ (i : Nat) (ds : List DD), ρ[i]? = some (.own ds) ∧ σ[i]? = some (some (.ref a))) → ∃ xs, H2 a = some (.lst xs) := fun a ⟨i, ds, h1, h2⟩ => by
    obtain ⟨b, xs, q1, q2, q3, q4, q5⟩ := s.own i ds h1
    rw [q1] at h2
    have e : b = a := by injection (Option.some.inj (Option.some.inj h2))
    subst e
    exact ⟨xs, t.kp _ _ (fun z => st _ z q5) q2⟩
  let G3 : Hp := fun a => if (∃ (i : Nat) (ds : List DD), ρ[i]? = some (.own ds) ∧ σ[i]? = some (some (.ref a))) then none else G2 a
  have g3y : ∀ a, (∃ (i : Nat) (ds : List DD), ρ[i]? = some (.own ds) ∧ σ[i]? = some (some (.ref a))) → G3 a = none := fun a h => if_pos h
  have g3n : ∀ a, ¬ (∃ (i : Nat) (ds : List DD), ρ[i]? = some (.own ds) ∧ σ[i]? = some (some (.ref a))) → G3 a = G2 a := fun a h => if_neg h
  have up : Sub G G3 := fun a o e => by
    by_cases h : ∃ (i : Nat) (ds : List DD), ρ[i]? = some (.own ds) ∧ σ[i]? = some (some (.ref a))
    · rw [(s.own_at h).1] at e; cases e
    · rw [g3n a h]; exact t.up a o (s.fullSub a o e)
  refine ⟨G3, ⟨⟨fun a o e => ?_, s.stp.up.trans up, fs.kp, fs.th, fun a h1 h2 => ?_, fs.wd⟩, s.lb.trans up, s.sl.mono up, fun i ds h => ?_, s.sep⟩, fun v d r n => r.nolTo (fun a u e nl => ?_) n⟩
  · by_cases h : ∃ (i : Nat) (ds : List DD), ρ[i]? = some (.own ds) ∧ σ[i]? = some (some (.ref a))
    · rw [g3y a h] at e; cases e
    · rw [g3n a h] at e; exact t.sub a o e
  · by_cases h : ∃ (i : Nat) (ds : List DD), ρ[i]? = some (.own ds) ∧ σ[i]? = some (some (.ref a))
    · exact g3y a h
    · rw [g3n a h]; exact fs.nw a h1 h2
  · obtain ⟨a, xs, q1, q2, q3, q4, q5⟩ := s.own i ds h
    exact ⟨a, xs, q1, t.kp a _ (fun z => st a z q5) q2, q3.mono up, g3y a ⟨i, ds, h, q1⟩, q5⟩
  · by_cases h : ∃ (i : Nat) (ds : List DD), ρ[i]? = some (.own ds) ∧ σ[i]? = some (some (.ref a))
    · obtain ⟨xs, hx⟩ := own2 a h
      have := t.sub a u e
      rw [hx] at this
      exact absurd (Option.some.inj this).symm (nl xs)
    · rw [g3n a h]; exact e
end
section
variable {w : Wd} {X : Cx} {e ei : Expr} {td tn : DE} {pos p1 p2 : Pos}
/-- x = a value without lists, that may look at the own lists -/
def sSetT (i : Nat) (td : DE) : DS := fun E ρ => td (full ρ) fun d => nol d = true ∧ E.nx (ρ.set i (.dat d))
theorem sd_setT {x : Str} {i : Nat} {pos' : Pos} (hN : X.N.Nodup) (he : PD w X e td) (hi : X.N[i]? = some x := by rfl) (hx : Loc X.env.scope x := by first | exact Or.inl rfl | exact Or.inr rfl) (hs : swapsWith e (some (.Name x pos')) pos.line X.env = pure false := by rfl)
    (hf : X.fn x = true ∨ X.env.scope.names.lookup x = some .local := by first | exact .inl rfl | exact .inr rfl | assumption) : PDS w X (.Assign [.Name x pos'] e pos) (sSetT i td) := by
  obtain ⟨te, h1, h2⟩ := he
  refine ⟨_, ps_set hN hi hx h1 hs hf, ?_⟩
  intro G0 H0 B σ ρ H D E k ⟨G, s⟩ hd r
  refine h2 σ (full ρ) _ H _ _ (s.fullStp.okw k) s.fullSl hd fun v d G2 H2 s2 rv p => ?_
  obtain ⟨G3, s3, tr⟩ := s.afterN k s2
  exact r.nx _ _ _ ⟨G3, s3.set (tr v d rv p.1)⟩ p.2
def sPut1 (i : Nat) (tn td : DE) : DS := fun E ρ => match ρ[i]? with
  | some (.own ds) => td (full ρ) fun d => nol d = true ∧ tn ρ fun n => match n with
    | .int n => match ixN ds.length n with
      | some j => E.nx (ρ.set i (.own (ds.set j d)))
      | none => False
    | _ => False
  | _ => False
theorem RpAll.set {K : PySem.W.Frag} {G : Hp} {v : V} {d : DD} (r : Rp K G v d) : ∀ {vs : List V} {ds : List DD} (j : Nat), RpAll K G vs ds → RpAll K G (vs.set j v) (ds.set j d)
  | _, _, _, .nil => .nil
  | _, _, 0, .cons _ b => .cons r b
  | _, _, j + 1, .cons a b => .cons a (RpAll.set r j b)
theorem sd_put {x : Str} {i : Nat} (hx : PE X (.Name x p1) (tVar i)) (hn : PD w X ei tn) (he : PD w X e td)
    (ha : ∀ v, assign (.Subscript (.Name x p1) ei p2) X.env v = (do let ov ← holding [v] (eval (.Name x p1) X.env); let iv ← holding [v, ov] (eval ei X.env); standAt p2; holding [v, ov, iv] (setItem ov iv v); release [v, ov, iv] []) := by intro _; rfl)
    (hs : swapsWithSole [.Subscript (.Name x p1) ei p2] e pos.line X.env = pure false := by rfl) (hw : swappedStores [.Subscript (.Name x p1) ei p2] e X.env = pure none := by rfl) (h1 : (assignEach [.Subscript (.Name x p1) ei p2] X.env).map (·.2) = [assign (.Subscript (.Name x p1) ei p2) X.env] := by rfl) :
    PDS w X (.Assign [.Subscript (.Name x p1) ei p2] e pos) (sPut1 i tn td) := by
  obtain ⟨te, e1, e2⟩ := he
  obtain ⟨tn', n1, n2⟩ := hn
  refine ⟨_, ps_asg e1 (pg_sub hx n1 set_list ha) hs hw h1, ?_⟩
  intro G0 H0 B σ ρ H D E k ⟨G, s⟩ hd r
  unfold sPut1 at hd
  split at hd
  · rename_i ds hi
    refine e2 σ (full ρ) _ H _ _ (s.fullStp.okw k) s.fullSl hd fun v d G2 H2 s2 rv p => ?_
    obtain ⟨G3, s3, tr⟩ := s.afterN k s2
    have rv3 := tr v d rv p.1
    obtain ⟨a, xs, q1, q2, q3, q4, q5⟩ := s3.own i ds hi
    refine ⟨_, q1, ?_⟩
    refine n2 σ ρ G3 H2 _ _ (s3.okw k) s3.sl p.2 fun u n G4 H4 s4 rn pn => ?_
    have s5 := s3.step k s4
    cases rn with
    | int m =>
      simp only at pn
      cases hj : ixN ds.length m with
      | none => rw [hj] at pn; exact pn.elim
      | some j =>
        rw [hj] at pn
        have z : H4 a = some (.lst xs) := s4.kp a _ (fun z => k.here a (w.sf a z) q5) q2
        have hg : G4 a = none := s4.nw a (by rw [q2]; exact fun z => nomatch z) q4
        exact ⟨a, xs, m, j, rfl, rfl, z, by rw [q3.len]; exact hj, r.nx _ _ _ ⟨G4, s5.mut k hi q1 hg q5 ((q3.mono s4.up).set (rv3.mono s4.up) j)⟩ pn⟩
    | _ => exact pn.elim
  · exact hd.elim
end
end Z

set_option Elab.async false
set_option linter.all false
set_option maxRecDepth 100000
set_option maxHeartbeats 4000000
namespace Z
open PySem PySem.Spec PyProof.Rows L2
theorem bt_len : bootBuiltins "len" = some (.builtin "len") := by decide +kernel
theorem bt_abs : bootBuiltins "abs" = some (.builtin "abs") := by decide +kernel
theorem bt_ord : bootBuiltins "ord" = some (.builtin "ord") := by decide +kernel
theorem bt_max : bootBuiltins "max" = some (.builtin "max") := by decide +kernel
theorem bt_min : bootBuiltins "min" = some (.builtin "min") := by decide +kernel
theorem bt_int : bootBuiltins "int" = some (.type "int") := by decide +kernel
theorem bt_str : bootBuiltins "str" = some (.type "str") := by decide +kernel
theorem bt_bool : bootBuiltins "bool" = some (.type "bool") := by decide +kernel
theorem bt_tuple : bootBuiltins "tuple" = some (.type "tuple") := by decide +kernel
theorem bt_list : bootBuiltins "list" = some (.type "list") := by decide +kernel
/-- names of the language that the text doesn't take for its own -/
structure Blt (mg : Str → Option Value) : Prop where
  len : mg "len" = none
  abs : mg "abs" = none
  ord : mg "ord" = none
  max : mg "max" = none
  min : mg "min" = none
  int : mg "int" = none
  str : mg "str" = none
  bool : mg "bool" = none
  tuple : mg "tuple" = none
  list : mg "list" = none
  isinstance : mg "isinstance" = none
  range : mg "range" = none
  any : mg "any" = none
  enumerate : mg "enumerate" = none
/-- a constant of the text -/
inductive Cst (mg : Str → Option Value) (x : Str) : DD → Prop where
  | int {i : Int} {u : Tok} (h : mg x = some (.int i u)) : Cst mg x (.int i)
  | str {z : Str} {u : Tok} (h : mg x = some (.str z u)) : Cst mg x (.str z)
structure Fnc (P : Program) (wd : World) (K : PySem.W.Frag) (mg : Str → Option Value) (base : Heap) (k : Nat) (x : Str) (F : D1) : Prop where
  ex : ∃ f fd ps, FnOk P wd K mg base CX0 k f fd ps (spD K F) ∧ mg x = some (.ref f) ∧ PySem.W.keepIn K (.ref f) = true ∧ Binds K fd ps []
structure Sfn (P : Program) (wd : World) (K : PySem.W.Frag) (mg : Str → Option Value) (base : Heap) (k : Nat) (x : Str) (F : D1) : Prop where
  ex : ∃ f fd ps, FnOk P wd K mg base CX0 k f fd ps (spS K F) ∧ mg x = some (.ref f) ∧ PySem.W.keepIn K (.ref f) = true ∧ Binds K fd ps []
/-- a def of the text by its name -/
structure Dfn (K : PySem.W.Frag) (mg : Str → Option Value) (x : Str) (st : Stmt) (ps : List Str) : Prop where
  ex : ∃ f fd, Fun K x x st f fd ∧ mg x = some (.ref f) ∧ Binds K fd ps []
section
variable {w : Wd} {X : Cx} {e : Expr} {es : List Expr} {pos p py : Pos} {x y : Str} {kf j : Nat} {F : D1} {t : DA}
theorem pd_gI {i : Int} (h : Cst X.mg x (.int i)) (hg : Gl X x := by rfl) (hd : (x == ("__debug__" : Str)) = false := by decide) : PD w X (.Name x pos) (dC (.int i)) := by
  cases h with
  | int h => exact pd_gi h hg hd
theorem pd_gS {i : Str} (h : Cst X.mg x (.str i)) (hg : Gl X x := by rfl) (hd : (x == ("__debug__" : Str)) = false := by decide) : PD w X (.Name x pos) (dC (.str i)) := by
  cases h with
  | str h => exact pd_gs h hg hd
theorem pd_f (C : Fnc X.prog X.w X.K X.mg X.base kf x F) (hr : Room j X.A) (ha : PDA w X (e :: es) t) (hj : kf ≤ j := by decide) (hg : Gl X x := by rfl) (hdb : (x == ("__debug__" : Str)) = false := by decide)
    (he : starEach (e :: es) X.env = (false, eval e X.env) :: starEach es X.env := by rfl) (hpl : (backTo pos (starEach es X.env)).any (·.1) = false := by rfl) : PD w X (.Call (.Name x p) (e :: es) [] pos) (dCall F t) := by
  obtain ⟨f, fd, ps, h1, h2, h3, h4⟩ := C
  exact pd_fn h1 (hr.mono hj) h2 h3 h4 ha hg hdb he hpl
theorem pd_f0 (C : Fnc X.prog X.w X.K X.mg X.base kf x F) (hr : Room j X.A) (hj : kf ≤ j := by decide) (hg : Gl X x := by rfl) (hdb : (x == ("__debug__" : Str)) = false := by decide) : PD w X (.Call (.Name x p) [] [] pos) (fun _ P => F [] P) := by
  obtain ⟨f, fd, ps, h1, h2, h3, h4⟩ := C
  exact pd_fn0 h1 (hr.mono hj) h2 h3 h4 hg hdb
theorem pd_s {a l : Addr} {ns : List Int} {i : Nat} (C : Sfn X.prog X.w X.K X.mg X.base kf x F) (hr : Room j X.A) (hv : PE X (.Name y py) (tVar i)) (ha : PDA (wst a l ns) X es t) (hj : kf ≤ j := by decide) (hg : Gl X x := by rfl) (hdb : (x == ("__debug__" : Str)) = false := by decide)
    (he : starEach (.Name y py :: es) X.env = (false, eval (.Name y py) X.env) :: starEach es X.env := by rfl) (hpl : (backTo pos (starEach es X.env)).any (·.1) = false := by rfl) : PD (wst a l ns) X (.Call (.Name x p) (.Name y py :: es) [] pos) (dSt a i F t) := by
  obtain ⟨f, fd, ps, h1, h2, h3, h4⟩ := C
  exact pd_sfn h1 (hr.mono hj) h2 h3 h4 hv ha hg hdb he hpl
end
section
variable {P : Program} {wd : World} {K : PySem.W.Frag} {mg : Str → Option Value} {base : Heap} {x : Str} {st : Stmt} {N ps : List Str} {k : Nat} {F : D1}
theorem fnc_mk {sd : DS} (D : Dfn K mg x st ps) (S : FnScope N ps (defScope st))
    (body : ∀ (f : Addr) (cdv : Value) (A : Around) (outer : List Env) (s : Shared) (H : Hp) (E : XK), Room k (A.deeper (envOfC x (defScope st) s.heap.objs.size f cdv)) → PDSs Wd.zero (cxOf CX0 P wd K mg base N x (defScope st) f cdv A outer s H E).nox (defBody st) sd)
    (hF : ∀ ds Q, F ds Q → ds.length = ps.length ∧ sd (endsD Q) (startD N ds)) : Fnc P wd K mg base (k + 1) x F := by
  obtain ⟨f, fd, Fn, h2, h3⟩ := D
  exact ⟨f, fd, ps, fn_pure Fn S (body f) hF, h2, Fn.kp, h3⟩
theorem sfn_mk {sd : Addr → DS} (D : Dfn K mg x st ps) (S : FnScope N ps (defScope st)) (hn : 1 ≤ N.length)
    (body : ∀ (f a l : Addr) (ns : List Int) (cdv : Value) (A : Around) (outer : List Env) (s : Shared) (H : Hp) (E : XK), Room k (A.deeper (envOfC x (defScope st) s.heap.objs.size f cdv)) → PDSs (wst a l ns) (cxOf CX0 P wd K mg base N x (defScope st) f cdv A outer s H E).nox (defBody st) (sd a))
    (hF : ∀ a ds Q, F ds Q → ds.length + 1 = ps.length ∧ sd a (endsD Q) (startS a N ds)) : Sfn P wd K mg base (k + 1) x F := by
  obtain ⟨f, fd, Fn, h2, h3⟩ := D
  exact ⟨f, fd, ps, fn_state Fn S hn (body f) hF, h2, Fn.kp, h3⟩
end
end Z

set_option Elab.async false
set_option linter.all false
set_option maxRecDepth 100000
set_option maxHeartbeats 4000000
/-! the mathematics of keys: what each def of the text is worth, over plain data -/
namespace Z
open PySem PySem.Spec PyProof.Rows L2
def CH : Str := Str.ofString " !\"#$&'()*+,-./0123456789:;<=>?@ABCDEFGHIJKLMNOPQRSTUVWXYZ[\\]^_`abcdefghijklmnopqrstuvwxyz{|}~"
def okC (c : Nat) : Bool := decide (32 ≤ c ∧ c ≤ 126 ∧ c ≠ 37)
def okV : DD → Bool
  | .int n => decide (-1000000000 ≤ n ∧ n ≤ 1000000000)
  | .str z => decide (z.cps.size ≤ 6) && z.cps.toList.all okC
  | _ => false
def be5 (m : Int) : List Int := [m / 2 ^ 32 % 256, m / 2 ^ 24 % 256, m / 2 ^ 16 % 256, m / 2 ^ 8 % 256, m % 256]
def bytesV : DD → List Int
  | .int n => 1 :: be5 (n + 549755813888)
  | .str z => 2 :: (z.cps.toList.map fun (c : Nat) => (c : Int)) ++ [0]
  | _ => []
def keyI (vs : List DD) : List Int := vs.flatMap bytesV
def iD (ns : List Int) : List DD := ns.map PyData.int
def tD (ns : List Int) : DD := .tuple (iD ns)
def isB (b : Int) : Bool := decide (0 ≤ b ∧ b ≤ 255)
def F_integer_bytes : D1 := fun ds P => match ds with
  | [.int n] => okV (.int n) = true ∧ P (.list (iD (bytesV (.int n))))
  | _ => False
def F_text_bytes : D1 := fun ds P => match ds with
  | [.str z] => okV (.str z) = true ∧ P (.list (iD (bytesV (.str z))))
  | _ => False
def F_key_of : D1 := fun ds P => match ds with
  | [.tuple vs] => (vs.length ≤ 1000 ∧ vs.all okV = true) ∧ P (tD (keyI vs))
  | _ => False
def chD (c : Int) : DD := if 32 ≤ c ∧ c ≤ 126 ∧ c ≠ 37 then .str ⟨#[c.toNat]⟩ else .none
def F_character_of : D1 := fun ds P => match ds with
  | [.int c] => P (chD c)
  | _ => False
def textD (cs : List Int) : DD := if cs.length ≤ 6 ∧ cs.all (fun c => decide (32 ≤ c ∧ c ≤ 126 ∧ c ≠ 37)) = true then .str ⟨(cs.map Int.toNat).toArray⟩ else .none
def F_text_of : D1 := fun ds P => match ds with
  | [.tuple es] => ∃ cs, es = iD cs ∧ cs.length ≤ 100000 ∧ P (textD cs)
  | _ => False
def val5 (ds : List Int) : Int := ds.foldl (fun a d => a * 256 + d) 0
def intB (ds : List Int) : DD := if ds.length < 5 then .none else if -1000000000 ≤ val5 ds - 549755813888 ∧ val5 ds - 549755813888 ≤ 1000000000 then .int (val5 ds - 549755813888) else .none
def F_integer_of : D1 := fun ds P => match ds with
  | [.tuple es] => ∃ cs, es = iD cs ∧ cs.length ≤ 5 ∧ cs.all isB = true ∧ P (intB cs)
  | _ => False
/-- the first value of these bytes (none: there is none), and how many bytes it takes -/
def first (r : List Int) : DD × Nat := match r with
  | 1 :: t => (intB (t.take 5), 6)
  | 2 :: t => match t.findIdx? (· == 0) with
    | some j => (textD (t.take j), j + 2)
    | none => (.none, 0)
  | _ => (.none, 0)
def F_value_at : D1 := fun ds P => match ds with
  | [.tuple es, .int i] => ∃ (cs : List Int) (j : Nat), es = iD cs ∧ i = (j : Nat) ∧ cs.length ≤ 100000 ∧ cs.all isB = true ∧ j < cs.length ∧ P (.tuple [(first (cs.drop j)).1, .int ((j + (first (cs.drop j)).2 : Nat) : Int)])
  | _ => False
/-- all values of these bytes, or none -/
def decode : Nat → List Int → Option (List DD)
  | _, [] => some []
  | 0, _ :: _ => none
  | n + 1, r@(_ :: _) => match first r with
    | (.none, _) => none
    | (v, k) => (decode n (r.drop k)).map (v :: ·)
def decD (cs : List Int) : DD := match decode cs.length cs with
  | some vs => .tuple vs
  | none => .none
def F_values_of : D1 := fun ds P => match ds with
  | [.tuple es] => ∃ cs, es = iD cs ∧ cs.length ≤ 100000 ∧ cs.all isB = true ∧ P (decD cs)
  | _ => False
def F_prefix_range : D1 := fun ds P => match ds with
  | [.tuple es] => ∃ cs, es = iD cs ∧ cs.length ≤ 100000 ∧ P (.tuple [tD cs, tD (cs ++ [3])])
  | _ => False
def isIn (k lo hi : List Int) : Bool := !HT.lexLt k lo && HT.lexLt k hi
def F_is_in : D1 := fun ds P => match ds with
  | [.tuple es, .tuple [.tuple ls, .tuple hs]] => ∃ k lo hi, es = iD k ∧ ls = iD lo ∧ hs = iD hi ∧ P (.bool (isIn k lo hi))
  | _ => False
def mx (a b : List Int) : List Int := if HT.lexLt a b = true then b else a
def mn (a b : List Int) : List Int := if HT.lexLt b a = true then b else a
def F_meet : D1 := fun ds P => match ds with
  | [.tuple [.tuple as, .tuple bs], .tuple [.tuple cs, .tuple es]] => ∃ a b c e, as = iD a ∧ bs = iD b ∧ cs = iD c ∧ es = iD e ∧ P (.bool (HT.lexLt (mx a c) (mn b e)))
  | _ => False
def kind : DD → Int
  | .str _ => 2
  | _ => 1
def ordV (v : DD) : DD := .tuple [.int (kind v), v]
def F_row_order : D1 := fun ds P => match ds with
  | [.tuple vs] => (vs.length ≤ 1000 ∧ vs.all okV = true) ∧ P (.tuple (vs.map ordV))
  | _ => False
def F__law_characters : D1 := fun ds P => ds = [] ∧ P (.str CH)
def F__law_bytes : D1 := F_key_of
def F__law_read : D1 := F_values_of
/-- the order of values, of rows of values: less, equal, greater -/
def cmpV (v u : DD) : Int := if kind v = kind u then (if v.eqv u = true then 0 else if ZO.ord false v u = some true then -1 else 1) else if kind v < kind u then -1 else 1
def cmpR : List DD → List DD → Int
  | [], [] => 0
  | [], _ :: _ => -1
  | _ :: _, [] => 1
  | v :: vs, u :: us => if cmpV v u = 0 then cmpR vs us else cmpV v u
def F__law_order : D1 := fun ds P => match ds with
  | [.tuple vs, .tuple us] => (vs.length ≤ 1000 ∧ us.length ≤ 1000 ∧ vs.all okV = true ∧ us.all okV = true) ∧ P (.int (cmpR vs us))
  | _ => False
def F__law_agrees : D1 := fun ds P => match ds with
  | [.tuple l, .tuple r, .int o] => ∃ p q, (PyData.tuple l).depth ≤ 3 ∧ (PyData.tuple r).depth ≤ 3 ∧ ZO.ord false (.tuple l) (.tuple r) = some p ∧ ZO.ord true (.tuple l) (.tuple r) = some q ∧ p = decide (o < 0) ∧ PyData.eqv (.tuple l) (.tuple r) = decide (o = 0) ∧ q = decide (0 < o) ∧ P (.bool true)
  | _ => False
/-- data that a law compares place by place -/
def okS : Nat → DD → Bool
  | _, .none => true
  | _, .bool _ => true
  | _, .int _ => true
  | _, .str _ => true
  | n + 1, .tuple ds => decide (ds.length ≤ 100000) && ds.all (okS n)
  | n + 1, .list ds => decide (ds.length ≤ 100000) && ds.all (okS n)
  | _, _ => false
def F__law_same : D1 := fun ds P => match ds with
  | [d, e] => d = e ∧ okS 4 e = true ∧ P (.bool true)
  | _ => False
def keysOk (l : List (List Int)) : Prop := l.length ≤ 1000 ∧ ∀ k ∈ l, k.length ≤ 10000
def F__law_ranges : D1 := fun ds P => match ds with
  | [.list ks, .list ss] => ∃ k l m, ks = (k :: l).map tD ∧ ss = m.map tD ∧ keysOk (k :: l) ∧ keysOk m ∧ P (.bool true)
  | _ => False
def F__law_next : D1 := fun ds P => match ds with
  | [.int n] => (0 < n ∧ n < 2 ^ 64) ∧ ∀ r, 0 ≤ r → r < n → P (.int r)
  | _ => False
def F__law_value : D1 := fun ds P => ds = [] ∧ ∀ v, okV v = true → P v
end Z

set_option Elab.async false
set_option linter.all false
set_option maxRecDepth 100000
set_option maxHeartbeats 1000000
/-! how a meaning is reckoned -/
namespace Z
open PySem PySem.Spec PyProof.Rows L2
theorem mv {Q : DD → Prop} {a b : DD} (h : Q a) (e : a = b) : Q b := e ▸ h
theorem e_lt (a b : Int) (P : DD → Prop) : gB ltD (.int a) (.int b) P = P (.bool (decide (a < b))) := rfl
theorem e_gt (a b : Int) (P : DD → Prop) : gB gtD (.int a) (.int b) P = P (.bool (decide (b < a))) := rfl
theorem e_eq (a b : Int) (P : DD → Prop) : gB eqD (.int a) (.int b) P = P (.bool (a == b)) := rfl
theorem e_ne (a b : Int) (P : DD → Prop) : gB neD (.int a) (.int b) P = P (.bool (!(a == b))) := rfl
theorem e_le (a b : Int) (P : DD → Prop) : gLe (.int a) (.int b) P = P (.bool (decide (a ≤ b))) := rfl
theorem e_ge (a b : Int) (P : DD → Prop) : gGe (.int a) (.int b) P = P (.bool (decide (b ≤ a))) := rfl
theorem e_add (a b : Int) (P : DD → Prop) : gAdd (.int a) (.int b) P = P (.int (a + b)) := rfl
theorem e_addL (a b : List DD) (P : DD → Prop) : gAdd (.list a) (.list b) P = (a.length + b.length ≤ 1000000 ∧ P (.list (a ++ b))) := rfl
theorem e_addT (a b : List DD) (P : DD → Prop) : gAdd (.tuple a) (.tuple b) P = (a.length + b.length ≤ 1000000 ∧ P (.tuple (a ++ b))) := rfl
theorem e_I0 (f : Int → Int → Int) (a b : Int) (P : DD → Prop) : gI0 f (.int a) (.int b) P = P (.int (f a b)) := rfl
theorem e_I (C : Int → Int → Prop) (f : Int → Int → Int) (a b : Int) (P : DD → Prop) : gI C f (.int a) (.int b) P = (C a b ∧ P (.int (f a b))) := rfl
theorem e_isN (P : DD → Prop) : gIsN .none .none P = P (.bool true) := rfl
theorem e_isI (i : Int) (P : DD → Prop) : gIsN (.int i) .none P = P (.bool false) := rfl
theorem e_isS (i : Str) (P : DD → Prop) : gIsN (.str i) .none P = P (.bool false) := rfl
theorem e_isB (i : Bool) (P : DD → Prop) : gIsN (.bool i) .none P = P (.bool false) := rfl
theorem e_isT (i : List DD) (P : DD → Prop) : gIsN (.tuple i) .none P = P (.bool false) := rfl
theorem e_isL (i : List DD) (P : DD → Prop) : gIsN (.list i) .none P = P (.bool false) := rfl
theorem e_ixL (ds : List DD) (i : Int) (P : DD → Prop) : gIx (.list ds) (.int i) P = match atI ds i with | some d => P d | none => False := rfl
theorem e_ixT (ds : List DD) (i : Int) (P : DD → Prop) : gIx (.tuple ds) (.int i) P = match atI ds i with | some d => P d | none => False := rfl
theorem e_ixS (z : Str) (i : Int) (P : DD → Prop) : gIx (.str z) (.int i) P = (z.length ≤ 1000000 ∧ match atI z.cps.toList i with | some c => P (.str ⟨#[c]⟩) | none => False) := rfl
theorem e_n0 (d : DD) (r : En) (P : DD → Prop) : dN 0 (.dat d :: r) P = P d := rfl
theorem e_nS (n : Nat) (e : Ent) (r : En) (P : DD → Prop) : dN (n + 1) (e :: r) P = dN n r P := rfl
theorem e_n1 (e : Ent) (r : En) (P : DD → Prop) : dN 1 (e :: r) P = dN 0 r P := rfl
theorem e_n2 (e : Ent) (r : En) (P : DD → Prop) : dN 2 (e :: r) P = dN 1 r P := rfl
theorem e_n3 (e : Ent) (r : En) (P : DD → Prop) : dN 3 (e :: r) P = dN 2 r P := rfl
theorem e_n4 (e : Ent) (r : En) (P : DD → Prop) : dN 4 (e :: r) P = dN 3 r P := rfl
theorem e_n5 (e : Ent) (r : En) (P : DD → Prop) : dN 5 (e :: r) P = dN 4 r P := rfl
theorem e_n6 (e : Ent) (r : En) (P : DD → Prop) : dN 6 (e :: r) P = dN 5 r P := rfl
theorem e_n7 (e : Ent) (r : En) (P : DD → Prop) : dN 7 (e :: r) P = dN 6 r P := rfl
theorem e_n8 (e : Ent) (r : En) (P : DD → Prop) : dN 8 (e :: r) P = dN 7 r P := rfl
theorem e_n9 (e : Ent) (r : En) (P : DD → Prop) : dN 9 (e :: r) P = dN 8 r P := rfl
theorem f_nil : full [] = [] := rfl
theorem f_dat (d : DD) (r : En) : full (.dat d :: r) = .dat d :: full r := rfl
theorem f_un (r : En) : full (.un :: r) = .un :: full r := rfl
theorem f_adr (a : Addr) (r : En) : full (.adr a :: r) = .adr a :: full r := rfl
theorem f_own (ds : List DD) (r : En) : full (.own ds :: r) = .dat (.list ds) :: full r := rfl
theorem nx_ends (P : DD → Prop) (ρ : En) : (endsD P).nx ρ = P .none := rfl
theorem rt_ends (P : DD → Prop) : (endsD P).rt = P := rfl
/-! comprehensions -/
theorem comp_map {ρ : En} {j : Nat} {td : DE} (f : DD → DD) : ∀ {items acc : List DD} {P : DD → Prop}, (∀ x ∈ items, ∀ Q : DD → Prop, Q (f x) → td (ρ.set j (.dat x)) Q) → acc.length + items.length ≤ 1000000 → P (.list (acc ++ items.map f)) → comp ρ j dYes td items acc P
  | [], acc, P, _, _, h => by
    show P (.list acc)
    rw [List.map_nil, List.append_nil] at h; exact h
  | x :: xs, acc, P, hd, hl, h => by
    show td (ρ.set j (.dat x)) fun d => acc.length < 1000000 ∧ comp ρ j dYes td xs (acc ++ [d]) P
    rw [List.length_cons] at hl
    refine hd x List.mem_cons_self _ ⟨by omega, comp_map f (fun y hy => hd y (List.mem_cons_of_mem _ hy)) (by rw [List.length_append, List.length_singleton]; omega) ?_⟩
    rw [List.append_assoc]; exact h
theorem comp_if {ρ : En} {j : Nat} {tt : DT} {td : DE} (p : DD → Bool) (f : DD → DD) : ∀ {items acc : List DD} {P : DD → Prop}, (∀ x ∈ items, ∀ Q : Bool → Prop, Q (p x) → tt (ρ.set j (.dat x)) Q) → (∀ x ∈ items, p x = true → ∀ Q : DD → Prop, Q (f x) → td (ρ.set j (.dat x)) Q) → acc.length + items.length ≤ 1000000 →
    P (.list (acc ++ (items.filter p).map f)) → comp ρ j tt td items acc P
  | [], acc, P, _, _, _, h => by
    show P (.list acc)
    rw [List.filter_nil, List.map_nil, List.append_nil] at h; exact h
  | x :: xs, acc, P, ht, hd, hl, h => by
    show tt (ρ.set j (.dat x)) fun b => if b = true then td (ρ.set j (.dat x)) fun d => acc.length < 1000000 ∧ comp ρ j tt td xs (acc ++ [d]) P else comp ρ j tt td xs acc P
    rw [List.length_cons] at hl
    refine ht x List.mem_cons_self _ ?_
    cases hp : p x with
    | true =>
      rw [if_pos rfl]
      rw [List.filter_cons, if_pos hp] at h
      refine hd x List.mem_cons_self hp _ ⟨by omega, comp_if p f (fun y hy => ht y (List.mem_cons_of_mem _ hy)) (fun y hy => hd y (List.mem_cons_of_mem _ hy)) (by rw [List.length_append, List.length_singleton]; omega) ?_⟩
      rw [List.append_assoc]; exact h
    | false =>
      rw [if_neg Bool.false_ne_true]
      rw [List.filter_cons, if_neg (by rw [hp]; exact Bool.false_ne_true)] at h
      exact comp_if p f (fun y hy => ht y (List.mem_cons_of_mem _ hy)) (fun y hy => hd y (List.mem_cons_of_mem _ hy)) (by omega) h
theorem comp_all {ρ : En} {j : Nat} {td : DE} (p : DD → Prop) : ∀ {items acc : List DD} {P : DD → Prop}, (∀ x ∈ items, ∀ Q : DD → Prop, (∀ d, p d → Q d) → td (ρ.set j (.dat x)) Q) → acc.length + items.length ≤ 1000000 →
    (∀ ds : List DD, ds.length = items.length → (∀ d ∈ ds, p d) → P (.list (acc ++ ds))) → comp ρ j dYes td items acc P
  | [], acc, P, _, _, h => by
    have z := h [] rfl (fun _ hd => by cases hd)
    rw [List.append_nil] at z; exact z
  | x :: xs, acc, P, hd, hl, h => by
    show td (ρ.set j (.dat x)) fun d => acc.length < 1000000 ∧ comp ρ j dYes td xs (acc ++ [d]) P
    rw [List.length_cons] at hl
    refine hd x List.mem_cons_self _ fun d pd => ⟨by omega, comp_all p (fun y hy => hd y (List.mem_cons_of_mem _ hy)) (by rw [List.length_append, List.length_singleton]; omega) fun ds h1 h2 => ?_⟩
    rw [List.append_assoc]
    refine h (d :: ds) (by rw [List.length_cons, List.length_cons, h1]) fun e he => ?_
    rcases List.mem_cons.mp he with rfl | he
    · exact pd
    · exact h2 e he
end Z

set_option Elab.async false
set_option linter.all false
set_option maxRecDepth 100000
set_option maxHeartbeats 4000000
/-! errors that leave a def, and that a def catches -/
namespace Z
open PySem PySem.Spec PyProof.Rows L2
theorem SPo.wish {w : Wd} {W : WX} {K : PySem.W.Frag} {G0 H0 B H : Hp} {σ : L2.St} {ρ : En} : SPo w K G0 H0 B ρ σ H → SPo (w.wish W) K G0 H0 B ρ σ H := fun ⟨G, s⟩ => ⟨G, s.stp.wish, s.lb, s.sl, s.own, s.sep⟩
theorem SPo.unwish {w : Wd} {W : WX} {K : PySem.W.Frag} {G0 H0 B H : Hp} {σ : L2.St} {ρ : En} : SPo (w.wish W) K G0 H0 B ρ σ H → SPo w K G0 H0 B ρ σ H := fun ⟨G, s⟩ => ⟨G, s.stp.unwish, s.lb, s.sl, s.own, s.sep⟩
/-- an expression that may raise: its value, or the error's class -/
abbrev DX := En → (DD → Prop) → (Str → Prop) → Prop
abbrev D1X := List DD → (DD → Prop) → (Str → Prop) → Prop
def REX (w : Wd) (K : PySem.W.Frag) (te : TE) (td : DX) : Prop := ∀ σ ρ G H (P : DD → Prop) (PX : Str → Prop) (Q : VK), Okw w G H → SlOk K G σ ρ → td ρ P PX →
  (∀ v d G2 H2, Stp w G H G2 H2 → Rp K G2 v d → P d → Q v H2) → (∀ x G2 H2, Stp w G H G2 H2 → PX x → w.ex (.ref (He.ga K x)) none σ H2) → te σ H Q
structure PDX (w : Wd) (X : Cx) (e : Expr) (td : DX) : Prop where
  ex : ∃ te, PE X e te ∧ REX w X.K te td
/-- the contract of a def that may raise -/
def spX (K : PySem.W.Frag) (F : D1X) : Sp := fun vs H Q E => ∃ (G : Hp) (ds : List DD) (P : DD → Prop) (PX : Str → Prop), Sub G H ∧ RpAll K G vs ds ∧ F ds P PX ∧ (∀ v d G2 H2, Stp Wd.zero G H G2 H2 → Rp K G2 v d → P d → Q v H2) ∧
  ∀ x G2 H2, Stp Wd.zero G H G2 H2 → PX x → E (.ref (He.ga K x)) none H2
structure FncX (P : Program) (wd : World) (K : PySem.W.Frag) (mg : Str → Option Value) (base : Heap) (k : Nat) (x : Str) (F : D1X) : Prop where
  ex : ∃ f fd ps, FnOk P wd K mg base (L2.CX P wd) k f fd ps (spX K F) ∧ mg x = some (.ref f) ∧ PySem.W.keepIn K (.ref f) = true ∧ Binds K fd ps []
section
variable {w : Wd} {X : Cx} {e tg : Expr} {es : List Expr} {pos p py : Pos} {x y : Str} {kf j : Nat} {F : D1X} {t : DA}
def dCallX (F : D1X) (t : DA) : DX := fun ρ P PX => t ρ fun ds => F ds P PX
theorem pdx_f (C : FncX X.prog X.w X.K X.mg X.base kf x F) (tk : Takes X w.ex) (hr : Room j X.A) (ha : PDA w X (e :: es) t) (hj : kf ≤ j := by decide) (hg : Gl X x := by rfl) (hdb : (x == ("__debug__" : Str)) = false := by decide)
    (he : starEach (e :: es) X.env = (false, eval e X.env) :: starEach es X.env := by rfl) (hpl : (backTo pos (starEach es X.env)).any (·.1) = false := by rfl) : PDX w X (.Call (.Name x p) (e :: es) [] pos) (dCallX F t) := by
  obtain ⟨f, fd, ps, h1, h2, h3, h4⟩ := C
  obtain ⟨t', a1, a2⟩ := ha
  refine ⟨_, pe_callS h1 (hr.mono hj) hg h2 h3 h4 (fun σ => passAt tk σ) a1 hdb he hpl, fun σ ρ G H P PX Q k s h q qx => ?_⟩
  refine a2 σ ρ G H _ _ k s h fun vs ds G1 H1 s1 r1 _ p1 => ?_
  have k1 := s1.okw k
  exact ⟨G1, ds, P, PX, k1.sub, r1, p1, fun v d G2 H2 s2 => q v d G2 H2 (s1.trans (s2.lift k1)), fun y G2 H2 s2 => qx y G2 H2 (s1.trans (s2.lift k1))⟩
/-- .. where it does not raise -/
def noX (F : D1X) : D1 := fun ds P => F ds P fun _ => False
theorem pd_fx (C : FncX X.prog X.w X.K X.mg X.base kf x F) (hr : Room j X.A) (ha : PDA w X (e :: es) t) (hj : kf ≤ j := by decide) (hg : Gl X x := by rfl) (hdb : (x == ("__debug__" : Str)) = false := by decide)
    (he : starEach (e :: es) X.env = (false, eval e X.env) :: starEach es X.env := by rfl) (hpl : (backTo pos (starEach es X.env)).any (·.1) = false := by rfl) : PD w X (.Call (.Name x p) (e :: es) [] pos) (dCall (noX F) t) := by
  obtain ⟨f, fd, ps, h1, h2, h3, h4⟩ := C
  obtain ⟨t', a1, a2⟩ := ha
  refine ⟨_, pe_call h1 (hr.mono hj) hg h2 h3 h4 .nil (passL (X := X)) a1 hdb he hpl, fun σ ρ G H P Q k s h q => ?_⟩
  refine a2 σ ρ G H _ _ k s h fun vs ds G1 H1 s1 r1 _ p1 => ?_
  have k1 := s1.okw k
  show spX X.K F (vs ++ []) H1 Q E0
  rw [List.append_nil]
  exact ⟨G1, ds, P, _, k1.sub, r1, p1, fun v d G2 H2 s2 => q v d G2 H2 (s1.trans (s2.lift k1)), fun y G2 H2 s2 z => z.elim⟩
/-! ### statements -/
def sRaise (x : Str) : DS := fun E ρ => E.ex x ρ
/-- an own class of errors without an __init__ -/
structure ErC (K : PySem.W.Frag) (mg : Str → Option Value) (x : Str) : Prop where
  g : mg x = some (.ref (He.ga K x))
  c : (He.Fa.exc x).ok K = true
theorem sd_raise {m : Str} {jj : Nat} {p2 p3 : Pos} (C : ErC X.K X.mg x) (tk : Takes X w.ex) (hc : X.calm = true := by rfl) (hg : Gl X x := by rfl) (hdb : (x == ("__debug__" : Str)) = false := by decide) : PDS w X (.Raise (some (.Call (.Name x p) [.Constant (.str m) jj p2] [] p3)) none pos) (sRaise x) := by
  obtain ⟨h1, h2, h3, h4⟩ := He.exc_ok C.c
  exact ⟨_, ps_raise hc tk (pmk_own PySem.F.excBase_ValueError h1 C.g h2 (raises_own h3 h4) hg hdb), fun G0 H0 B σ ρ H D E k s hd r => r.ex x σ ρ H s hd⟩
/-- target = a call that may raise -/
def sAsgX (td : DX) (gd : DG) : DS := fun E ρ => td ρ (fun d => gd d ρ E.nx) fun x => E.ex x ρ
theorem sd_asgX {td : DX} {gd : DG} (he : PDX w X e td) (hg : PDG w X tg gd) (hs : swapsWithSole [tg] e pos.line X.env = pure false := by rfl) (hw : swappedStores [tg] e X.env = pure none := by rfl)
    (h1 : (assignEach [tg] X.env).map (·.2) = [assign tg X.env] := by rfl) : PDS w X (.Assign [tg] e pos) (sAsgX td gd) := by
  obtain ⟨te, e1, e2⟩ := he
  obtain ⟨g, g1, g2⟩ := hg
  refine ⟨_, ps_asg e1 g1 hs hw h1, ?_⟩
  intro G0 H0 B σ ρ H D E k ⟨G, s⟩ hd r
  refine e2 σ ρ G H _ _ _ (s.okw k) s.sl hd (fun v d G2 H2 s2 rv p => ?_) fun y G2 H2 s2 p => r.ex y σ ρ H2 ⟨G2, s.step k s2⟩ p
  exact g2 G0 H0 B σ ρ H2 G2 v d _ _ (s.step k s2) rv p r.nx
def sSetX (i : Nat) (td : DX) : DS := fun E ρ => td ρ (fun d => E.nx (ρ.set i (.dat d))) fun x => E.ex x ρ
theorem sd_setX {td : DX} {i : Nat} {pos' : Pos} (hN : X.N.Nodup) (he : PDX w X e td) (hi : X.N[i]? = some x := by rfl) (hx : Loc X.env.scope x := by first | exact Or.inl rfl | exact Or.inr rfl) (hs : swapsWith e (some (.Name x pos')) pos.line X.env = pure false := by rfl)
    (hf : X.fn x = true ∨ X.env.scope.names.lookup x = some .local := by first | exact .inl rfl | exact .inr rfl | assumption) : PDS w X (.Assign [.Name x pos'] e pos) (sSetX i td) := by
  obtain ⟨te, e1, e2⟩ := he
  refine ⟨_, ps_set hN hi hx e1 hs hf, ?_⟩
  intro G0 H0 B σ ρ H D E k ⟨G, s⟩ hd r
  refine e2 σ ρ G H _ _ _ (s.okw k) s.sl hd (fun v d G2 H2 s2 rv p => ?_) fun y G2 H2 s2 p => r.ex y σ ρ H2 ⟨G2, s.step k s2⟩ p
  exact r.nx _ _ _ ⟨G2, (s.step k s2).set rv⟩ p
def sRetX (td : DX) : DS := fun E ρ => td (full ρ) E.rt fun x => E.ex x ρ
theorem sd_retX {td : DX} (he : PDX w X e td) : PDS w X (.Return (some e) pos) (sRetX td) := by
  obtain ⟨te, e1, e2⟩ := he
  refine ⟨_, ps_ret e1, ?_⟩
  intro G0 H0 B σ ρ H D E k ⟨G, s⟩ hd r
  exact e2 σ (full ρ) _ H _ _ _ (s.fullStp.okw k) s.fullSl hd (fun v d G2 H2 s2 rv p => r.rt v d G2 H2 (s.fullStp.trans s2) rv p) fun y G2 H2 s2 p => r.ex y σ ρ H2 ⟨G, s.after k s2⟩ p
end
/-! ### slots: an address, nothing -/
section
variable {w : Wd} {K : PySem.W.Frag} {G0 H0 B G H : Hp} {σ : L2.St} {ρ : En}
theorem SOk.setAdr (s : SOk w K G0 H0 B σ ρ H G) {i : Nat} {a : Addr} : SOk w K G0 H0 B (σ.set i (some (.ref a))) (ρ.set i (.adr a)) H G := by
  refine ⟨s.stp, s.lb, ⟨by rw [List.length_set, List.length_set]; exact s.sl.len, fun j e h => ?_, fun j b h => ?_⟩, fun j ds h => ?_, fun j m ds es b h1 h2 h3 h4 => ?_⟩
  · rcases set_some h with ⟨_, z, _⟩ | ⟨ne, z⟩
    · cases z
    · rw [List.getElem?_set_ne ne]; exact s.sl.dat j e z
  · rcases set_some h with ⟨rfl, z, hl⟩ | ⟨ne, z⟩
    · have e : a = b := by injection z
      subst e
      rw [List.getElem?_set_self (by rw [s.sl.len]; exact hl)]
    · rw [List.getElem?_set_ne ne]; exact s.sl.adr j b z
  · rcases set_some h with ⟨_, z, _⟩ | ⟨ne, z⟩
    · cases z
    · obtain ⟨b, xs, q1, q2⟩ := s.own j ds z
      exact ⟨b, xs, by rw [List.getElem?_set_ne ne]; exact q1, q2⟩
  · rcases set_some h1 with ⟨_, z, _⟩ | ⟨n1, z1⟩
    · cases z
    · rcases set_some h2 with ⟨_, z, _⟩ | ⟨n2, z2⟩
      · cases z
      · rw [List.getElem?_set_ne n1] at h3
        rw [List.getElem?_set_ne n2] at h4
        exact s.sep j m ds es b z1 z2 h3 h4
theorem SOk.setUn (s : SOk w K G0 H0 B σ ρ H G) {i : Nat} {v : Option V} : SOk w K G0 H0 B (σ.set i v) (ρ.set i .un) H G := by
  refine ⟨s.stp, s.lb, ⟨by rw [List.length_set, List.length_set]; exact s.sl.len, fun j e h => ?_, fun j b h => ?_⟩, fun j ds h => ?_, fun j m ds es b h1 h2 h3 h4 => ?_⟩
  · rcases set_some h with ⟨_, z, _⟩ | ⟨ne, z⟩
    · cases z
    · rw [List.getElem?_set_ne ne]; exact s.sl.dat j e z
  · rcases set_some h with ⟨_, z, _⟩ | ⟨ne, z⟩
    · cases z
    · rw [List.getElem?_set_ne ne]; exact s.sl.adr j b z
  · rcases set_some h with ⟨_, z, _⟩ | ⟨ne, z⟩
    · cases z
    · obtain ⟨b, xs, q1, q2⟩ := s.own j ds z
      exact ⟨b, xs, by rw [List.getElem?_set_ne ne]; exact q1, q2⟩
  · rcases set_some h1 with ⟨_, z, _⟩ | ⟨n1, z1⟩
    · cases z
    · rcases set_some h2 with ⟨_, z, _⟩ | ⟨n2, z2⟩
      · cases z
      · rw [List.getElem?_set_ne n1] at h3
        rw [List.getElem?_set_ne n2] at h4
        exact s.sep j m ds es b z1 z2 h3 h4
end
/-! ### try: .. except C as n: .. -/
/-- ct: does the clause catch an error of this class; sh: the suite, of the class and the error's address -/
def sTry (ct : Str → Option Bool) (i : Nat) (sb : DS) (sh : Str → Addr → DS) : DS := fun E ρ => sb { E with ex := fun y ρ1 => ∃ b, ct y = some b ∧
  (b = true → ∀ a, sh y a ⟨fun ρ2 => E.nx (ρ2.set i .un), E.rt, fun ρ2 => E.bk (ρ2.set i .un), fun ρ2 => E.ct (ρ2.set i .un), fun _ _ => False⟩ (ρ1.set i (.adr a))) ∧ (b = false → E.ex y ρ1) } ρ
theorem sd_try {w : Wd} {X : Cx} {x n : Str} {i : Nat} {body suite : List Stmt} {b₀ : Stmt} {np pos pos' : Pos} {sb : DS} {sh : Str → Addr → DS} {ct : Str → Option Bool} (hN : X.N.Nodup) (hc : Names X x (.ref (He.ga X.K x))) (tk : Takes X w.ex)
    (hct : ∀ y b, ct y = some b → PySem.W.exmOne X.K (.ref (He.ga X.K y)) (.ref (He.ga X.K x)) = some b)
    (hb : ∀ (W : WX) (pn : List (Addr × Obj)) (xe : Value → Shared → Prop), Takes (X.tr pn xe) W → PassesOwn (model X.prog X.w) X.A X.env xe → PDSs (w.wish W) (X.tr pn xe) body sb)
    (hsu : ∀ (y : Str), ct y = some true → ∀ (a : Addr) (oe : Obj) (pn : List (Addr × Obj)), Zc (.ref (He.ga X.K y)) none oe → (∃ vs, oe.data = .fields vs) → PDSs (w.wish fun _ _ _ _ => False) (X.suite a ((a, oe) :: pn)) (b₀ :: suite) (sh y a))
    (hs : X.stack = X.env :: X.outer := by rfl) (hf : X.env.frame = some X.env.locals := by rfl) (hi : X.N[i]? = some n := by rfl) (hln : X.env.kindOf n = some .local := by rfl) :
    PDS w X (.Try body [.ExceptHandler (some (.Name x np)) (some n) (b₀ :: suite) pos'] [] [] pos) (sTry ct i sb sh) := by
  refine ⟨_, ps_try_as (tb := fun W D σ H => ∀ (pn : List (Addr × Obj)) (xe : Value → Shared → Prop), Takes (X.tr pn xe) W → PassesOwn (model X.prog X.w) X.A X.env xe → ∃ t, PSs (X.tr pn xe) body t ∧ t D σ H)
    (ts := fun a cls d D σ H => ∀ (oe : Obj) (pn : List (Addr × Obj)), Zc cls d oe → (∃ vs, oe.data = .fields vs) → ∃ t, PSs (X.suite a ((a, oe) :: pn)) (b₀ :: suite) t ∧ t D σ H) hs hf hN hi hln hc tk ?_ ?_, ?_⟩
  · exact fun W pn xe tk2 pa => ⟨fun pins s σ H D I h => by
      obtain ⟨t, h1, h2⟩ := h pn xe tk2 pa
      exact h1.run pins s σ H D I h2⟩
  · exact fun a oe cls d pn hz hfd => ⟨fun pins s σ H D I h => by
      obtain ⟨t, h1, h2⟩ := h oe pn hz hfd
      exact h1.run pins s σ H D I h2⟩
  intro G0 H0 B σ ρ H D E k s hd r pn xe tk2 pa
  obtain ⟨t, h1, h2⟩ := hb _ pn xe tk2 pa
  refine ⟨t, h1, h2 G0 H0 B σ ρ H D _ k.wish s.wish hd ⟨fun σ1 ρ1 H1 s1 => r.nx σ1 ρ1 H1 s1.unwish, fun v d G2 H2 s2 => r.rt v d G2 H2 s2.unwish, fun σ1 ρ1 H1 s1 => r.bk σ1 ρ1 H1 s1.unwish, fun σ1 ρ1 H1 s1 => r.ct σ1 ρ1 H1 s1.unwish, fun y σ1 ρ1 H1 s1 h => ?_⟩⟩
  obtain ⟨b, hb1, hyes, hno⟩ := h
  refine ⟨b, hct y b hb1, fun eb a na oe pn2 hz hfd => ?_, fun eb => r.ex y σ1 ρ1 H1 s1.unwish (hno eb)⟩
  subst eb
  obtain ⟨t2, q1, q2⟩ := hsu y hb1 a oe pn2 hz hfd
  obtain ⟨G1, s1'⟩ := s1.unwish
  refine ⟨t2, q1, q2 G0 H0 B _ _ H1 _ _ k.wish (SPo.wish ⟨G1, s1'.setAdr⟩) (hyes rfl a) ⟨fun σ2 ρ2 H2 s2 h2 => ?_, fun v d G2 H2 s2 => r.rt v d G2 H2 s2.unwish, fun σ2 ρ2 H2 s2 h2 => ?_, fun σ2 ρ2 H2 s2 h2 => ?_, fun _ _ _ _ _ z => z.elim⟩⟩
  · obtain ⟨G2, s2⟩ := s2.unwish
    exact r.nx _ _ _ ⟨G2, s2.setUn⟩ h2
  · obtain ⟨G2, s2⟩ := s2.unwish
    exact r.bk _ _ _ ⟨G2, s2.setUn⟩ h2
  · obtain ⟨G2, s2⟩ := s2.unwish
    exact r.ct _ _ _ ⟨G2, s2.setUn⟩ h2
/-- isinstance of the error that the suite holds -/
def dIsE (i : Nat) (a : Addr) (b : Bool) : DE := fun ρ P => ρ[i]? = some (.adr a) ∧ P (.bool b)
section
variable {w : Wd} {X : Cx} {a : Addr} {oe : Obj} {pn : List (Addr × Obj)} {y x : Str} {i : Nat} {p py pc pos : Pos} {b : Bool}
theorem pd_isE {z : Str} (C : ExcC X.K (He.ga X.K y)) (hz : Zc (.ref (He.ga X.K y)) none oe) (hf : ∃ vs, oe.data = .fields vs) (hm : X.mg "isinstance" = none) (hv : PE (X.suite a ((a, oe) :: pn)) (.Name z py) (tVar i)) (hg : Gl X "isinstance" := by rfl)
    (hx : X.mg x = some (.ref (He.ga X.K x))) (hgx : Gl X x := by rfl) (hdx : (x == ("__debug__" : Str)) = false := by decide) (hk : PySem.W.kitOne X.K (.ref (He.ga X.K y)) (.ref (He.ga X.K x)) = some b) :
    PD w (X.suite a ((a, oe) :: pn)) (.Call (.Name "isinstance" p) [.Name z py, .Name x pc] [] pos) (dIsE i a b) := by
  refine ⟨_, pe_callB (call_isE C hz hf) hg hm (by decide +kernel) (pa_cons hv (pa_cons (pe_glob (v := .ref (He.ga X.K x)) hgx hx rfl hdx) pa_nil)), fun σ ρ G H P Q k s h q => ?_⟩
  refine ⟨_, s.adr i a h.1, ?_⟩
  exact ⟨_, _, b, rfl, fun u e => e, hk, q _ _ G H k.stp (.bl b) h.2⟩
end
/-- a clause that catches the errors of the class x, where no other come -/
def ctOne (x : Str) : Str → Option Bool := fun y => if y = x then some true else none
theorem ctOne_eq {x y : Str} {b : Bool} (h : ctOne x y = some b) : y = x ∧ b = true := by
  unfold ctOne at h
  split at h
  · rename_i e
    exact ⟨e, (Option.some.inj h).symm⟩
  · cases h
/-! ### a def that may raise -/
def endsX (P : DD → Prop) (PX : Str → Prop) : DEn := ⟨fun _ => P .none, P, fun _ => False, fun _ => False, fun x _ => PX x⟩
/-- the world of a def that may raise -/
def wx (E : XK) : Wd := Wd.zero.wish fun cls d _ H => E cls d H
section
variable {P : Program} {wd : World} {K : PySem.W.Frag} {mg : Str → Option Value} {base : Heap} {x : Str} {st : Stmt} {N ps : List Str} {k : Nat} {F : D1X} {sd : DS}
theorem fncx_mk (D : Dfn K mg x st ps) (S : FnScope N ps (defScope st))
    (body : ∀ (f : Addr) (cdv : Value) (A : Around) (outer : List Env) (s : Shared) (H : Hp) (E : XK), Room k (A.deeper (envOfC x (defScope st) s.heap.objs.size f cdv)) → PDSs (wx E) (cxOf (L2.CX P wd) P wd K mg base N x (defScope st) f cdv A outer s H E) (defBody st) sd)
    (hF : ∀ ds Q QX, F ds Q QX → ds.length = ps.length ∧ sd (endsX Q QX) (startD N ds)) : FncX P wd K mg base (k + 1) x F := by
  obtain ⟨f, fd, Fn, h2, h3⟩ := D
  refine ⟨f, fd, ps, Fn.okX S (fun vs H Q E h => ?_) (fun cdv A outer s H vs Q E hr h => ?_), h2, Fn.kp, h3⟩
  · obtain ⟨G, ds, P', PX, hs, r, hf, _⟩ := h
    rw [r.len]; exact (hF ds P' PX hf).1
  · obtain ⟨G, ds, P', PX, hs, r, hf, q, qx⟩ := h
    obtain ⟨ts, t1, t2⟩ := body f cdv A outer s H E hr
    refine ⟨ts, t1, ?_⟩
    have k0 : Okw Wd.zero G H := ⟨hs, trivial, fun _ h => h.elim, fun _ h => h.elim⟩
    have nown : ∀ (i : Nat) es, (startD N ds)[i]? ≠ some (.own es) := fun i es h => by
      have z : Ent.own es ∈ startD N ds := List.mem_of_getElem? h
      unfold startD at z
      rcases List.mem_append.mp z with z | z
      · obtain ⟨d, _, e⟩ := List.mem_map.mp z
        cases e
      · rw [List.mem_replicate] at z
        cases z.2
    refine t2 G H G (start N vs) (startD N ds) H _ (endsX P' PX) k0.wish ⟨G, k0.stp.wish, Sub.rfl, sl_start r, fun i es h => absurd h (nown i es), fun i j es _ a h => absurd h (nown i es)⟩ (hF ds P' PX hf).2 ⟨fun σ ρ H' s' h' => ?_, fun v d G' H' s' r' h' => q v d G' H' s'.unwish r' h', fun _ _ _ _ h' => h'.elim, fun _ _ _ _ h' => h'.elim, fun y σ ρ H' s' h' => ?_⟩
    · obtain ⟨G', s'⟩ := s'.unwish
      exact q _ _ G' H' s'.stp .non h'
    · obtain ⟨G', s'⟩ := s'.unwish
      exact qx y G' H' s'.stp h'
end
end Z

set_option Elab.async false
set_option linter.all false
set_option maxRecDepth 100000
set_option maxHeartbeats 4000000
/-! enumerate over a tuple, any of ints, a list some times over, truth of lists and tuples -/
namespace PySem
theorem enumT_made (t : Addr) (xs : Array Value) (m : Nat) (od : Option Addr) (os : Array (Option Value)) :
    Meets (Builtin.«enumerate.__new__» ⟨[.type "enumerate", .ref t], []⟩) (fun _ R s => s.heap.get? t = some { cls := .type "tuple", dict := od, data := .seq xs m, slots := os } ∧
      R (.ok (.ret (.ref (s.heap.push { cls := .type "tuple_iterator", data := .fields #[.ref t, .int 0 0] }).objs.size)))
        { s with heap := (s.heap.push { cls := .type "tuple_iterator", data := .fields #[.ref t, .int 0 0] }).push { cls := .type "enumerate", data := .fields #[.none, .bool false, .ref s.heap.objs.size, rawInt 0, .none, .none] } }) :=
  .of_wp fun P w A R s hyp => by
    obtain ⟨hp, g, d, tk, zs⟩ := s
    obtain ⟨ht, hyp⟩ := hyp
    have e1 := sub_enumerate
    have e2 : Heap.IsTuple (Shared.heap ⟨hp, g, d, tk, zs⟩) t xs := ⟨_, ht, rfl, m, rfl⟩
    wp_walk using AutoSeq1.wpAny_loadPart' ht
    refine wpAny_stack_any fun below => wpAny_pure ?_
    split
    · rename_i c _ _ _ _ _
      cases (c == Value.type "enumerate") <;> (wp_walk using AutoSeq1.wpAny_loadPart' ht, wpAny_pyIter_tuple e2; exact ⟨_, rfl, hyp⟩)
    · wp_walk using AutoSeq1.wpAny_loadPart' ht, wpAny_pyIter_tuple e2
      exact ⟨_, rfl, hyp⟩
section
variable {prog : Program} {w : World} {A : Around} {E : Value → Shared → Prop} {s : Shared}
theorem enumT_call {t : Addr} {xs : Array Value} {Q : Value → Shared → Prop} (hT : s.heap.IsTuple t xs)
    (k : ∀ h2, IsEnum h2 (s.heap.objs.size + 1) s.heap.objs.size 0 .none → h2.IsTupleIter s.heap.objs.size t 0 → h2.objs.size = s.heap.objs.size + 2 → (∀ b o, s.heap.get? b = some o → h2.get? b = some o) → Q (.ref (s.heap.objs.size + 1)) { s with heap := h2 }) :
    wpAny (model prog w) A (call (.type "enumerate") [.ref t]) Q E s := by
  obtain ⟨⟨oc, od, dt, sl⟩, ht, hc, m, hd⟩ := hT
  have hc : oc = .type "tuple" := hc
  have hd : dt = .seq xs m := hd
  subst hc hd
  refine callType_new F.called_enumerate (by decide) (F.typeCall_enumerate_1 _) (F.newCall_enumerate_1 _) (fun obj => F.args_object_init_2 obj _) F.entry_enumerate_new (enumT_made t xs m od sl) ⟨ht, ?_⟩
  have z1 : (s.heap.push { cls := .type "tuple_iterator", data := .fields #[.ref t, .int 0 0] }).objs.size = s.heap.objs.size + 1 := Heap.size_push ..
  show _ ∧ _
  rw [z1]
  have he : IsEnum ((s.heap.push { cls := .type "tuple_iterator", data := .fields #[.ref t, .int 0 0] }).push { cls := .type "enumerate", data := .fields #[.none, .bool false, .ref s.heap.objs.size, rawInt 0, .none, .none] }) (s.heap.objs.size + 1) s.heap.objs.size 0 .none := by
    have q := Heap.get?_push_size (s.heap.push { cls := .type "tuple_iterator", data := .fields #[.ref t, .int 0 0] }) (o := { cls := .type "enumerate", data := .fields #[.none, .bool false, .ref s.heap.objs.size, rawInt 0, .none, .none] }) rfl
    rw [z1] at q; exact q
  exact ⟨⟨_, he, rfl⟩, k _ he ⟨_, Heap.get?_push_of_some _ (Heap.get?_push_size _ rfl), rfl, rfl⟩ (by rw [Heap.size_push, z1]) fun b o q => Heap.get?_push_of_some _ (Heap.get?_push_of_some _ q)⟩
end
end PySem
namespace Z
open PySem PySem.Spec PyProof.Rows L2
/-- the tuple at a, item by item, each in a new pair behind its number -/
def ItE (K : PySem.W.Frag) (a : Addr) : It :=
  ⟨fun i H => ∃ (xs : List V) (x : V), SqT K H a xs ∧ xs[i]? = some x, fun i H v H' => ∃ T x, v = .ref T ∧ H T = none ∧ H' = upd H T (.tup [.int (i : Nat), x]) ∧ ∀ xs, SqT K H a xs → xs[i]? = some x, fun i H => ∃ xs : List V, SqT K H a xs ∧ xs.length ≤ i⟩
theorem turn_enumT {P : Program} {w : World} {K : PySem.W.Frag} {elts : List Expr} {kk : Nat} {tpos : Pos} (a e it : Addr) :
    Turn P w K (.Tuple elts kk tpos) (ItE K a) [e, it] e (fun i h => (∃ old, IsEnum h e it ((i : Nat) : Int) old) ∧ h.IsTupleIter it a i ∧ e ≠ it ∧ a ≠ it ∧ a ≠ e) where
  mem := List.mem_cons_self
  obj := fun i h st b hb => by
    obtain ⟨⟨old, he⟩, ⟨o, ho, hc, hd⟩, _⟩ := st
    rcases List.mem_cons.mp hb with z | z
    · rw [z]; exact ⟨_, he, fun v q => nomatch q⟩
    · rw [List.mem_singleton.mp z]; exact ⟨o, ho, fun v q => by rw [hd] at q; cases q⟩
  keep := fun i h h' st k => let ⟨⟨old, he⟩, hi, r⟩ := st; ⟨⟨old, k e List.mem_cons_self _ he⟩, hi.at fun o q => k it (List.mem_cons_of_mem _ List.mem_cons_self) o q, r⟩
  item := by
    intro X hP hw hK hc i pins s σ H E I hf st hg
    subst hP hw hK
    obtain ⟨⟨old, he⟩, hit, hne, hai, hae⟩ := st
    obtain ⟨xs, x, hq, hx⟩ := hg
    obtain ⟨its, rv, p, hz⟩ := I.tuple hq
    obtain ⟨u, hu, ru⟩ := rv.get hx
    have hel : e < s.heap.objs.size := Heap.lt_size he
    have hil : it < s.heap.objs.size := by obtain ⟨_, q, _⟩ := hit; exact Heap.lt_size q
    have pt : s.heap.IsTuple a its.toArray := p
    have hlt : i < its.toArray.size := by
      have := (List.getElem?_eq_some_iff.mp hu).1
      simpa using this
    have hnf : e ∉ [it, a] := fun z => by
      rcases List.mem_cons.mp z with z | z
      · exact hne z
      · exact hae (List.mem_singleton.mp z).symm
    have D : Draws X.prog X.w X.A.in1 it [it, a] its.toArray.size (fun j v => its.toArray[j]? = some v) (fun j h => h.IsTupleIter it a j ∧ h.IsTuple a its.toArray) := Draws.tuple (A := X.A.in1) (I.ok.hd hc) it a hai its.toArray
    refine wpAny_pyNext_enum_itemD D he ⟨hit, pt⟩ hlt hne hnf fun v h' tk hv ho hit' hT hsz hk => ?_
    have ev : v = u := by
      have h1 : its[i]? = some v := by simpa using hv
      rw [hu] at h1
      exact (Option.some.inj h1).symm
    subst ev
    refine ⟨_, rfl, wpAny_letOwnedTupleGo_enum (s := { s with heap := h', toks := tk + 1 }) ho fun h'' he' sb => ?_⟩
    have hT2 : h''.get? s.heap.objs.size = some { cls := .type "tuple", data := .seq #[.int i tk, v] } := (sb.2 _ (Nat.ne_of_gt hel)).trans hT
    have new : ObjOk X.prog X.w (upd H s.heap.objs.size (.tup [.int (i : Nat), x])) h'' s.heap.objs.size (.tup [.int (i : Nat), x]) :=
      ⟨by show 2 ≤ sizeLine; decide, [.int i tk, v], .cons ⟨_, rfl⟩ (.cons ru .nil), ⟨_, hT2, rfl, _, rfl⟩⟩
    have I1 : Inv X pins σ (upd H s.heap.objs.size (.tup [.int (i : Nat), x])) { s with heap := h'', toks := tk + 1 } :=
      I.turnedNew (ch := [e, it]) (fun b ob hb q => (sb.2 b (fun z => hb (by simp [z]))).trans (hk b ob (fun z => hb (by simp [z])) (fun z => hb (by simp [z])) q)) hf (Nat.le_refl _) new
    refine ⟨.ref s.heap.objs.size, _, I1, rfl, ⟨_, x, rfl, I.hok.fresh (Nat.le_refl _), rfl, fun ys hy => by rw [I.tuple_inj hy hq]; exact hx⟩, ⟨⟨v, ?_⟩, hit'.1.at fun o q => (sb.2 it (Ne.symm hne)).trans q, hne, hai, hae⟩, fun b hb => ?_⟩
    · have e1 : ((i + 1 : Nat) : Int) = (i : Int) + 1 := by omega
      rw [e1]; exact he'
    · have hb' : b < s.heap.objs.size := by
        rcases List.mem_cons.mp hb with z | z
        · rw [z]; exact hel
        · rw [List.mem_singleton.mp z]; exact hil
      rw [upd_ne (Nat.ne_of_lt hb')]
      exact (hf b hb).1
  done := by
    intro X hP hw hK hc i pins s σ H E I hf st hg
    subst hP hw hK
    obtain ⟨⟨old, he⟩, hit, hne, hai, hae⟩ := st
    obtain ⟨xs, hq, hx⟩ := hg
    obtain ⟨its, rv, p, hz⟩ := I.tuple hq
    obtain ⟨f0, f1, f2, f3, f4, f5⟩ := hf it (by simp)
    have hl := rv.length
    have pt : s.heap.IsTuple a its.toArray := p
    have hT : s.TypeIs (.ref e) "enumerate" := ⟨_, he, rfl⟩
    unfold pyNext
    refine wpAny_bind (wpAny_attempt (wpAny_callSpecial?_slot (name := Str.ofString "__next__") hT F.slot_enumerate_next (wpAny_call_entry F.slot_enumerate_next hT F.entry_enumerate_next ?_ (F.args_enumerate_next_1 _))))
    show wpAny _ _ (field (.ref e) 2 >>= _) _ _ _
    refine wpAny_bind (wpAny_field he rfl (x := .ref it) rfl (wpAny_bind (wpAny_nextOf_tuple_end (I.ok.hd hc) hit pt (by simp; omega) fun h' y he' hy => ?_)))
    obtain ⟨o, ho, hcl⟩ := hy
    refine wpAny_bind (wpAny_isInstance (T := "StopIteration") (b := true) ⟨o, ho, hcl⟩ isSubtype_stop ?_)
    exact wpAny_pure ⟨rfl, I.turned (t' := s.toks) (fun b o hb q => he' b o hb q) f0 f1 f3 f4 f5⟩
  self := fun A i s Q E st h => let ⟨⟨_, he⟩, _⟩ := st; wpAny_pyIter_enum he h
def iEnumT (K : PySem.W.Frag) (ta : TA) : TI := fun σ H R => ta σ H fun vs H1 => ∃ a xs, vs = [.ref a] ∧ SqT K H1 a xs ∧ R (ItE K a) H1
theorem pi_enumT {X : Cx} {e : Expr} {ta : TA} {p pos tpos : Pos} {elts : List Expr} {kk : Nat} (hg : Gl X "enumerate") (hm : X.mg "enumerate" = none) (ha : PA X [e] ta) (hs : starEach [e] X.env = [(false, eval e X.env)] := by rfl) :
    PI X (.Tuple elts kk tpos) (.Call (.Name "enumerate" p) [e] [] pos) (iEnumT X.K ta) := by
  refine ⟨fun pins s σ H R I h => ?_⟩
  refine Call_ (ld_blt I hg hm boot_enumerate (PyProof.Rows.callWith_type1 (thn (ha.run pos pins s σ H _ I h) fun us s1 ⟨vs, H1, I1, r1, q1⟩ => ?_) hs rfl))
  obtain ⟨a, xs, ex, hq, q⟩ := q1
  subst ex
  cases r1 with
  | cons r rr =>
    cases rr
    cases r
    obtain ⟨its, rv, pt, hz⟩ := I1.tuple hq
    have hal : a < s1.heap.objs.size := by obtain ⟨_, z, _⟩ := pt; exact Heap.lt_size z
    refine enumT_call pt fun h' he hit hsz hk => wpAny_pyIter_enum he ?_
    refine ⟨s1.heap.objs.size + 1, [s1.heap.objs.size + 1, s1.heap.objs.size], _, _, H1, rfl, I1.kept (t' := s1.toks) hk, turn_enumT a (s1.heap.objs.size + 1) s1.heap.objs.size, ⟨⟨.none, he⟩, hit, Nat.succ_ne_self _, Nat.ne_of_lt hal, Nat.ne_of_lt (Nat.lt_succ_of_lt hal)⟩, fun b hb => ?_, q⟩
    have hle : s1.heap.objs.size ≤ b := by
      rcases List.mem_cons.mp hb with z | z
      · rw [z]; exact Nat.le_succ _
      · rw [List.mem_singleton.mp z]; exact Nat.le_refl _
    exact I1.fpOk hle (I1.hok.fresh hle)
/-! the same over data -/
def numbered : Nat → List DD → List DD
  | _, [] => []
  | n, d :: ds => .tuple [.int (n : Nat), d] :: numbered (n + 1) ds
theorem numbered_at : ∀ (ds : List DD) (n i : Nat) (d : DD), ds[i]? = some d → (numbered n ds)[i]? = some (.tuple [.int ((n + i : Nat) : Int), d])
  | [], _, _, _, h => by simp at h
  | c :: cs, n, 0, d, h => by
    have e := Option.some.inj h
    subst e
    rfl
  | c :: cs, n, i + 1, d, h => by
    have z := numbered_at cs (n + 1) i d h
    rw [show n + (i + 1) = n + 1 + i by omega]
    exact z
theorem numbered_len : ∀ (ds : List DD) (n : Nat), (numbered n ds).length = ds.length
  | [], _ => rfl
  | _ :: ds, n => congrArg (· + 1) (numbered_len ds (n + 1))
theorem wk_enumT {K : PySem.W.Frag} {B : Hp} {p : Addr} {xs : List V} {ds : List DD} (h : SqT K B p xs) (r : RpAll K B xs ds) : Wk K (ItE K p) (numbered 0 ds) B := by
  refine ⟨fun i H x H' => ∃ T y, x = .ref T ∧ H T = none ∧ H' = upd H T (.tup [.int (i : Nat), y]) ∧ xs[i]? = some y, ⟨fun i H hi hs => ?_, fun H hs => ⟨xs, hs.sqT h, by rw [r.len, numbered_len]; exact Nat.le_refl _⟩, fun i H x H' hi hs y => ?_⟩, fun i H x H' y => ?_⟩
  · have hi' : i < xs.length := by rw [r.len, ← numbered_len ds 0]; exact hi
    exact ⟨xs, xs[i], hs.sqT h, List.getElem?_eq_getElem hi'⟩
  · obtain ⟨T, z, e1, e2, e3, e4⟩ := y
    exact ⟨T, z, e1, e2, e3, e4 xs (hs.sqT h)⟩
  · obtain ⟨T, z, e1, e2, e3, e4⟩ := y
    obtain ⟨d, hd, rd⟩ := r.get e4
    have hn := numbered_at ds 0 i d hd
    rw [Nat.zero_add] at hn
    exact ⟨_, hn, .inr ⟨T, _, _, e2, e3, e1, .cons (.int _) (.cons rd .nil), rfl⟩⟩
section
variable {w : Wd} {X : Cx} {a b c e : Expr} {ta tb : DE} {p pos : Pos}
def dIe (ta : DE) : DA := fun ρ P => ta ρ fun d => match d with
  | .tuple ds => P (numbered 0 ds)
  | _ => False
theorem di_enum {elts : List Expr} {kk : Nat} {tpos : Pos} (hm : X.mg "enumerate" = none) (ha : PD w X a ta) (hg : Gl X "enumerate" := by rfl) (hs : starEach [a] X.env = (false, eval a X.env) :: starEach [] X.env := by rfl) (hs2 : starEach [a] X.env = [(false, eval a X.env)] := by rfl) : PDI w X (.Tuple elts kk tpos) (.Call (.Name "enumerate" p) [a] [] pos) (dIe ta) := by
  obtain ⟨ta', a1, a2⟩ := ha
  refine ⟨_, pi_enumT hg hm (pa_cons a1 pa_nil hs) hs2, fun σ ρ G H P R k s h q => ?_⟩
  refine a2 σ ρ G H _ _ k s h fun v d G1 H1 s1 r1 p1 => ?_
  cases r1 with
  | @tup t xs ds t1 q1 => exact ⟨t, xs, rfl, (s1.okw k).sub.sqT t1, q _ _ G1 H1 s1 (wk_enumT t1 q1) p1⟩
  | _ => exact p1.elim
/-! any of a list of ints -/
theorem truth_ints {prog : Program} {w : World} {A : Around} {ns : List Int} {its : List Value} (r : Vals (ns.map V.int) its) :
    TruthOf prog w A (fun i v => its.toArray[i]? = some v) (fun i => ns.getD i 0 != 0) := fun i v s Q E hv hq => by
  have hv' : its[i]? = some v := by simpa using hv
  have hi : i < (ns.map V.int).length := by rw [r.length]; exact (List.getElem?_eq_some_iff.mp hv').1
  obtain ⟨u, hu, ru⟩ := r.get (List.getElem?_eq_getElem hi)
  rw [hv'] at hu
  have e := Option.some.inj hu
  subst e
  rw [List.getElem_map] at ru
  obtain ⟨t, rfl⟩ := ru
  have hg : ns.getD i 0 = ns[i]'(by simpa using hi) := by rw [List.getD_eq_getElem?_getD, List.getElem?_eq_getElem (by simpa using hi)]; rfl
  have hq' : Q (ns.getD i 0 != 0) s := hq
  rw [hg] at hq'
  exact PySem.P.truthy_int hq'
theorem any_ints : ∀ ns : List Int, (List.range ns.length).any (fun i => ns.getD i 0 != 0) = ns.any (· != 0)
  | [] => rfl
  | n :: ns => by
    rw [List.length_cons, List.range_succ_eq_map, List.any_cons, List.any_map, List.any_cons, ← any_ints ns]
    rfl
def rAnyI (K : PySem.W.Frag) : List V → Hp → VK → Prop := fun vs H Q => ∃ (a : Addr) (ns : List Int), vs = [V.ref a] ∧ SqL K H a (ns.map V.int) ∧ Q (.bl (ns.any (· != 0))) H
theorem call_anyI (hc : X.calm = true) : CallR X (.builtin "any") (rAnyI X.K) := by
  intro pins s σ H vs us Q I r h
  obtain ⟨a, ns, rfl, hs, q⟩ := h
  obtain ⟨its, rv, hl, _⟩ := I.list hs
  rw [Vals.ref1 r]
  refine call_any_walk (iter_any hl.isList fun s₂ e2 st hne => ?_)
  subst e2
  refine ⟨_, _, _, _, _, _, _, rfl, Walks.list (A := X.A.in1) (I.ok.hd hc) _ a hne its.toArray, st, truth_ints rv, fun h' tk hk => ⟨.bl _, H, I.kept fun b o eo => hk b o (fun hmem => ?_) (Heap.get?_push_of_some _ eo), ?_, q⟩⟩
  · rcases List.mem_cons.mp hmem with e1 | hmem
    · exact absurd (e1 ▸ Heap.lt_size eo) (Nat.lt_irrefl _)
    · cases hmem
  · show Value.bool _ = Value.bool _
    rw [← any_ints, List.size_toArray, ← rv.length, List.length_map]
def gAnyI : DD → (DD → Prop) → Prop := fun d P => match d with
  | .list ds => match intsD ds with
    | some ns => P (.bool (ns.any (· != 0)))
    | none => False
  | _ => False
theorem cd_any (hc : X.calm = true := by rfl) : CallD w X (.builtin "any") (g1 gAnyI) := by
  refine ⟨_, call_anyI hc, fun vs ds G H P Q k r h q => ?_⟩
  obtain ⟨v, d, rfl, r1, h⟩ := one_of r h
  unfold gAnyI at h
  cases r1 with
  | @lst t xs es t1 q1 =>
    simp only at h
    cases h1 : intsD es with
    | none => rw [h1] at h; exact h.elim
    | some ns =>
      rw [h1] at h
      have e1 := intsD_eq h1
      subst e1
      have v1 := rp_ints q1
      subst v1
      exact ⟨t, ns, rfl, SqL.of (k.sub _ _ t1), q _ _ G H k.stp (.bl _) h⟩
  | _ => exact h.elim
theorem bt_any : bootBuiltins "any" = some (.builtin "any") := by decide +kernel
/-! [..] * n -/
def gRep : D2 := fun x y P => match x, y with
  | .list ds, .int n => ((-1000000 ≤ n ∧ n ≤ 1000000) ∧ ds.length * n.toNat ≤ 1000000) ∧ P (.list (List.replicate n.toNat ds).flatten)
  | _, _ => False
theorem rpAll_rep {K : PySem.W.Frag} {G : Hp} {xs : List V} {ds : List DD} (r : RpAll K G xs ds) : ∀ n : Nat, RpAll K G (List.replicate n xs).flatten (List.replicate n ds).flatten
  | 0 => .nil
  | n + 1 => by
    rw [List.replicate_succ, List.replicate_succ, List.flatten_cons, List.flatten_cons]
    exact r.append (rpAll_rep r n)
theorem od_rep : OpD w X (binaryOp .Mult) gRep := by
  refine ⟨_, op_rep, fun x y d e G H P Q k r1 r2 h q => ?_⟩
  cases r1 with
  | @lst l xs ds t1 q1 =>
    cases r2 with
    | int n =>
      obtain ⟨⟨h1, h2⟩, h3⟩ := h
      refine ⟨l, n, xs, rfl, rfl, k.sub _ _ t1, by omega, by omega, line_le (by rw [q1.len]; exact h2), fun p hp => ?_⟩
      exact q _ _ _ _ (Stp.new k hp) (.lst upd_same ((rpAll_rep q1 _).mono (Sub.new (k.g_none hp)))) h3
    | _ => exact h.elim
  | _ => cases r2 <;> exact h.elim
/-! not in -/
def ninD (x y : DD) : Option Bool := (inD x y).map (!·)
theorem od_notin : OpD w X (compareOp .NotIn) (gB ninD) := by
  refine ⟨_, op_notIn_seq, fun x y d e G H P Q k r1 r2 h q => ?_⟩
  unfold gB ninD inD at h
  have main : ∀ (p : Addr) (xs : List V) (ds : List DD), y = .ref p → (SqL X.K H p xs ∨ SqT X.K H p xs) → RpAll X.K G xs ds → flatD d = true → ds.all flatD = true → P (.bool (!(ds.any fun z => PyData.eqv z d))) → rIn X.K true x y H Q := by
    intro p xs ds ey hs ha fx fa hp
    refine ⟨p, xs, ey, hs, r1.flat fx, ha.flat fa, ?_⟩
    have z : (if true = true then !L2.inV x xs else L2.inV x xs) = !(ds.any fun z => PyData.eqv z d) := by
      rw [if_pos rfl]; exact congrArg _ (ha.inV r1 fx fa)
    rw [z]
    exact q _ _ G H k.stp (.bl _) hp
  cases r2 with
  | @lst a xs ds t a1 =>
    simp only [seqOf] at h
    split at h
    · rename_i b hb
      split at hb
      · rename_i hf
        have eb := Option.some.inj hb
        subst eb
        exact main a xs ds rfl (.inl (SqL.of (k.sub _ _ t))) a1 hf.1 hf.2 h
      · cases hb
    · exact h.elim
  | @tup a xs ds t a1 =>
    simp only [seqOf] at h
    split at h
    · rename_i b hb
      split at hb
      · rename_i hf
        have eb := Option.some.inj hb
        subst eb
        exact main a xs ds rfl (.inr (k.sub.sqT t)) a1 hf.1 hf.2 h
      · cases hb
    · exact h.elim
  | _ => exact h.elim
/-! truth of a list, a tuple -/
def dTr (ta : DE) : DT := fun ρ P => ta ρ fun d => match d with
  | .list ds => P (!ds.isEmpty)
  | .tuple ds => P (!ds.isEmpty)
  | _ => False
theorem RpAll.empty {K : PySem.W.Frag} {G : Hp} {xs : List V} {ds : List DD} (r : RpAll K G xs ds) : xs.isEmpty = ds.isEmpty := by
  cases r <;> rfl
theorem pt_tr (ha : PD w X a ta) (he : ∀ whole, isTrue a X.env whole = (do let v ← whole; standAt a.pos; holding [v] (truthy v)) := by intro _; rfl) : PDT w X a (dTr ta) := by
  obtain ⟨ta', a1, a2⟩ := ha
  refine ⟨_, pt_truth a1 he, fun σ ρ G H P Q k s h q => ?_⟩
  refine a2 σ ρ G H _ _ k s h fun v d G1 H1 s1 r1 p1 => ?_
  have k1 := s1.okw k
  cases r1 with
  | @lst t xs ds t1 q1 =>
    refine ⟨!ds.isEmpty, .inl ⟨xs, SqL.of (k1.sub _ _ t1), by rw [q1.empty]⟩, q _ G1 H1 s1 p1⟩
  | @tup t xs ds t1 q1 =>
    refine ⟨!ds.isEmpty, .inr (.inl ⟨xs, k1.sub.sqT t1, by rw [q1.empty]⟩), q _ G1 H1 s1 p1⟩
  | _ => exact p1.elim
/-! for i, (j, k) in .. -/
def tT2 (i j k : Nat) : DG := fun d ρ f => match d with
  | .tuple [d1, .tuple [d2, d3]] => f (((ρ.set i (.dat d1)).set j (.dat d2)).set k (.dat d3))
  | _ => False
theorem dg_t2 {i j k : Nat} {x y z : Str} {px py pz pp : Pos} {k1 k2 : Nat} (hN : X.N.Nodup) (hi : X.N[i]? = some x := by rfl) (hj : X.N[j]? = some y := by rfl) (hk : X.N[k]? = some z := by rfl)
    (hx : Loc X.env.scope x := by first | exact Or.inl rfl | exact Or.inr rfl) (hy : Loc X.env.scope y := by first | exact Or.inl rfl | exact Or.inr rfl) (hz : Loc X.env.scope z := by first | exact Or.inl rfl | exact Or.inr rfl)
    (fx : X.fn x = true ∨ X.env.scope.names.lookup x = some .local := by first | exact .inl rfl | exact .inr rfl | assumption) (fy : X.fn y = true ∨ X.env.scope.names.lookup y = some .local := by first | exact .inl rfl | exact .inr rfl | assumption) (fz : X.fn z = true ∨ X.env.scope.names.lookup z = some .local := by first | exact .inl rfl | exact .inr rfl | assumption)
    (hc : X.calm = true := by rfl) (n1 : (assignEach [.Name x px, .Tuple [.Name y py, .Name z pz] k1 pp] X.env).length = 2 := by rfl) (s1 : (assignEach [.Name x px, .Tuple [.Name y py, .Name z pz] k1 pp] X.env).findIdx? (·.1) = none := by rfl)
    (n2 : (assignEach [.Name y py, .Name z pz] X.env).length = 2 := by rfl) (s2 : (assignEach [.Name y py, .Name z pz] X.env).findIdx? (·.1) = none := by rfl)
    (m1 : (assignEach (.Name x px :: [.Tuple [.Name y py, .Name z pz] k1 pp]) X.env).map (·.2) = assign (.Name x px) X.env :: (assignEach [.Tuple [.Name y py, .Name z pz] k1 pp] X.env).map (·.2) := by rfl)
    (m2 : (assignEach (.Tuple [.Name y py, .Name z pz] k1 pp :: []) X.env).map (·.2) = assign (.Tuple [.Name y py, .Name z pz] k1 pp) X.env :: (assignEach [] X.env).map (·.2) := by rfl)
    (m3 : (assignEach (.Name y py :: [.Name z pz]) X.env).map (·.2) = assign (.Name y py) X.env :: (assignEach [.Name z pz] X.env).map (·.2) := by rfl) (m4 : (assignEach (.Name z pz :: []) X.env).map (·.2) = assign (.Name z pz) X.env :: (assignEach [] X.env).map (·.2) := by rfl) :
    PDG w X (.Tuple [.Name x px, .Tuple [.Name y py, .Name z pz] k1 pp] k2 pos) (tT2 i j k) := by
  refine ⟨_, pg_tup (n := 2) hc (pgs_cons (pg_name hN hi hx fx) (pgs_cons (pg_tup (n := 2) hc (pgs_cons (pg_name hN hj hy fy) (pgs_cons (pg_name hN hk hz fz) pgs_nil m4) m3) n2 s2) pgs_nil m2) m1) n1 s1, fun G0 H0 B σ ρ H G v d f Q s r h q => ?_⟩
  unfold tT2 at h
  split at h
  · rename_i d1 d2 d3
    cases r with
    | @tup t xs ds t1 r1 =>
      cases r1 with
      | cons ra rb =>
        cases rb with
        | cons rc rd =>
          cases rd
          cases rc with
          | @tup u ys es t2 r2 =>
            cases r2 with
            | cons re rf =>
              cases rf with
              | cons rg rh =>
                cases rh
                refine ⟨t, _, rfl, s.stp.sub.sqT t1, rfl, ?_⟩
                refine ⟨_, _, rfl, ?_⟩
                have s1 := s.set (i := i) ra
                refine ⟨_, _, rfl, ?_⟩
                refine ⟨u, _, rfl, s1.stp.sub.sqT t2, rfl, ?_⟩
                refine ⟨_, _, rfl, ?_⟩
                refine ⟨_, _, rfl, ?_⟩
                have s3 := (s1.set (i := j) re).set (i := k) rg
                exact ⟨rfl, ⟨rfl, q _ _ _ ⟨G, s3⟩ h⟩⟩
  · exact h.elim
/-- isinstance(error, a class of the language) -/
theorem pd_isET {a : Addr} {oe : Obj} {pn : List (Addr × Obj)} {y x z : Str} {i : Nat} {py pc : Pos} {b : Bool} {T : String} (C : ExcC X.K (He.ga X.K y)) (hz : Zc (.ref (He.ga X.K y)) none oe) (hf : ∃ vs, oe.data = .fields vs) (hm : X.mg "isinstance" = none) (hv : PE (X.suite a ((a, oe) :: pn)) (.Name z py) (tVar i)) (hm2 : X.mg x = none) (hv2 : bootBuiltins x = some (.type T))
    (hk : PySem.W.kitOne X.K (.ref (He.ga X.K y)) (.type T) = some b) (hg : Gl X "isinstance" := by rfl) (hgx : Gl X x := by rfl) (hnx : x ≠ "__name__" := by decide) (hdx : (x == ("__debug__" : Str)) = false := by decide) :
    PD w (X.suite a ((a, oe) :: pn)) (.Call (.Name "isinstance" p) [.Name z py, .Name x pc] [] pos) (dIsE i a b) := by
  refine ⟨_, pe_callB (call_isE C hz hf) hg hm (by decide +kernel) (pa_cons hv (pa_cons (pe_bltn (v := .ty T) hgx hm2 hv2 rfl hnx hdx) pa_nil)), fun σ ρ G H P Q k s h q => ?_⟩
  refine ⟨_, s.adr i a h.1, ?_⟩
  exact ⟨_, .type T, b, rfl, fun u e => e, hk, q _ _ G H k.stp (.bl b) h.2⟩
end
theorem bt_ValueError : bootBuiltins "ValueError" = some (.type "ValueError") := by decide +kernel
/-- what the text's own errors are -/
structure ErF (K : PySem.W.Frag) (mg : Str → Option Value) : Prop where
  x_DamagedData : ErC K mg "DamagedData"
  g_AnswerError : mg "AnswerError" = some (.ref (He.ga K "AnswerError"))
  g_DamagedData : mg "DamagedData" = some (.ref (He.ga K "DamagedData"))
  ct_AnswerError : ∀ y b, ctOne "DamagedData" y = some b → PySem.W.exmOne K (.ref (He.ga K y)) (.ref (He.ga K "AnswerError")) = some b
  isx : ExcC K (He.ga K "DamagedData")
  k_DamagedData : PySem.W.kitOne K (.ref (He.ga K "DamagedData")) (.ref (He.ga K "DamagedData")) = some true
  ve : mg "ValueError" = none
  kve : PySem.W.kitOne K (.ref (He.ga K "DamagedData")) (.type "ValueError") = some true
end Z

set_option Elab.async false
set_option linter.all false
set_option maxRecDepth 100000
set_option maxHeartbeats 4000000
/-! pages: what each def of the text is worth, over plain data -/
namespace Z
open PySem PySem.Spec PyProof.Rows L2
inductive Pg where
  | leaf (es : List (List Int × List DD))
  | inner (cs : List (List Int × Int))
def entD (e : List Int × List DD) : DD := .tuple [tD e.1, .tuple e.2]
def chlD (c : List Int × Int) : DD := .tuple [tD c.1, .int c.2]
def LEAFS : Str := Str.ofString "leaf"
def INNERS : Str := Str.ofString "inner"
def pgD : Pg → DD
  | .leaf es => .tuple [.str LEAFS, .tuple (es.map entD)]
  | .inner cs => .tuple [.str INNERS, .tuple (cs.map chlD)]
def cntI (k : List Int) : List Int := (k.length : Int) :: k
def entB (e : List Int × List DD) : List Int := cntI e.1 ++ cntI (keyI e.2)
def chlB (c : List Int × Int) : List Int := c.2 / 256 :: c.2 % 256 :: cntI c.1
def leafB (es : List (List Int × List DD)) : List Int := 0 :: (es.length : Int) :: es.flatMap entB
def innerB (cs : List (List Int × Int)) : List Int := 1 :: (cs.length : Int) :: cs.flatMap chlB
def pgB : Pg → List Int
  | .leaf es => leafB es
  | .inner cs => innerB cs
structure OkEnt (e : List Int × List DD) : Prop where
  kl : e.1.length ≤ 300
  kb : e.1.all isB = true
  vl : e.2.length ≤ 300
  vb : e.2.all okV = true
structure OkChl (c : List Int × Int) : Prop where
  kl : c.1.length ≤ 300
  kb : c.1.all isB = true
  n0 : 0 ≤ c.2
  n1 : c.2 < 65536
def OkPg : Pg → Prop
  | .leaf es => es.length ≤ 300 ∧ ∀ e ∈ es, OkEnt e
  | .inner cs => cs.length ≤ 300 ∧ (∀ c ∈ cs, OkChl c) ∧ ∀ c r, cs = c :: r → c.1 = []
def padI (l : List Int) : List Int := l ++ List.replicate (256 - l.length) 0
def wrD (p : Pg) : DD := if (pgB p).length ≤ 256 then .list (iD (padI (pgB p))) else .none
/-! the reading -/
def cntR : List Int → Option (List Int)
  | [] => none
  | n :: t => if n.toNat ≤ t.length then some (t.take n.toNat) else none
def ents : Nat → List Int → Option (List (List Int × List DD) × List Int)
  | 0, r => some ([], r)
  | n + 1, r => match cntR r with
    | none => none
    | some k => match cntR (r.drop (1 + k.length)) with
      | none => none
      | some v => match decode v.length v with
        | none => none
        | some vs => match ents n ((r.drop (1 + k.length)).drop (1 + v.length)) with
          | none => none
          | some (es, r') => some ((k, vs) :: es, r')
/-- b: nothing stands before it -/
def chls : Bool → Nat → List Int → Option (List (List Int × Int) × List Int)
  | _, 0, r => some ([], r)
  | b, n + 1, r => match cntR (r.drop 2) with
    | none => none
    | some k => if b = true ∧ k ≠ [] then none else match chls false n ((r.drop 2).drop (1 + k.length)) with
      | none => none
      | some (cs, r') => some ((k, r.getD 0 0 * 256 + r.getD 1 0) :: cs, r')
def rdP (cs : List Int) : Option Pg := if cs.length = 256 then match cs with
    | 0 :: n :: t => match ents n.toNat t with
      | some (es, r) => if r.any (· != 0) = true then none else some (.leaf es)
      | none => none
    | 1 :: n :: t => match chls true n.toNat t with
      | some (cs, r) => if r.any (· != 0) = true then none else some (.inner cs)
      | none => none
    | _ => none
  else none
def F_counted : D1 := fun ds P => match ds with
  | [.tuple es] => ∃ cs, es = iD cs ∧ cs.length ≤ 100000 ∧ P (.list (iD (cntI cs)))
  | _ => False
def F_leaf_bytes : D1 := fun ds P => match ds with
  | [.tuple es] => ∃ l : List (List Int × List DD), es = l.map entD ∧ l.length ≤ 300 ∧ (∀ e ∈ l, OkEnt e) ∧ P (.list (iD (leafB l)))
  | _ => False
def F_inner_bytes : D1 := fun ds P => match ds with
  | [.tuple es] => ∃ l : List (List Int × Int), es = l.map chlD ∧ l.length ≤ 300 ∧ (∀ c ∈ l, OkChl c) ∧ (∀ c r, l = c :: r → c.1 = []) ∧ P (.list (iD (innerB l)))
  | _ => False
def F_write_page : D1 := fun ds P => ∃ p, ds = [pgD p] ∧ OkPg p ∧ P (wrD p)
def F__law_page_bytes : D1 := F_write_page
def F_read_counted : D1X := fun ds P PX => match ds with
  | [.list es, .int i] => ∃ (cs : List Int) (j : Nat), es = iD cs ∧ i = (j : Nat) ∧ cs.length ≤ 100000 ∧ j ≤ 100000 ∧ cs.all isB = true ∧ match cntR (cs.drop j) with
    | some k => P (.tuple [tD k, .int ((j + (1 + k.length) : Nat) : Int)])
    | none => PX "DamagedData"
  | _ => False
def F_read_entries : D1X := fun ds P PX => match ds with
  | [.list es] => ∃ (cs : List Int) (n : Int), es = iD cs ∧ cs.length = 256 ∧ cs.all isB = true ∧ cs[1]? = some n ∧ match ents n.toNat (cs.drop 2) with
    | some (l, r) => P (.tuple [.tuple (l.map entD), .int ((256 - r.length : Nat) : Int)])
    | none => PX "DamagedData"
  | _ => False
def F_read_children : D1X := fun ds P PX => match ds with
  | [.list es] => ∃ (cs : List Int) (n : Int), es = iD cs ∧ cs.length = 256 ∧ cs.all isB = true ∧ cs[1]? = some n ∧ match chls true n.toNat (cs.drop 2) with
    | some (l, r) => P (.tuple [.tuple (l.map chlD), .int ((256 - r.length : Nat) : Int)])
    | none => PX "DamagedData"
  | _ => False
def F_read_page : D1X := fun ds P PX => match ds with
  | [.list es] => ∃ cs : List Int, es = iD cs ∧ cs.length ≤ 100000 ∧ cs.all isB = true ∧ match rdP cs with
    | some p => P (pgD p)
    | none => PX "DamagedData"
  | _ => False
def F__law_tried : D1 := fun ds P => match ds with
  | [.list es] => ∃ cs : List Int, es = iD cs ∧ cs.length ≤ 100000 ∧ cs.all isB = true ∧ P (.bool true)
  | _ => False
def F__law_key : D1 := fun ds P => ds = [] ∧ ∀ k : List Int, k.length ≤ 120 → k.all isB = true → P (tD k)
def F__law_page : D1 := fun ds P => ds = [] ∧ ∀ p, OkPg p → P (pgD p)
end Z

set_option Elab.async false
set_option linter.all false
set_option maxRecDepth 100000
set_option maxHeartbeats 4000000
/-! a list or a tuple gone through, a list taken apart, == in an except suite -/
namespace Z
open PySem PySem.Spec PyProof.Rows L2
section
variable {w : Wd} {X : Cx} {a tg : Expr} {es : List Expr} {ta : DE} {pos : Pos}
theorem od_eqU (hu : X.A.units + 64 < cLine) : OpD w X (compareOp .Eq) (gB eqD) := by
  refine ⟨_, opr_dat (g := eqD) fun pins s σ H d e x y v u k as bs Q I p1 p2 r1 r2 hg q => ?_, ro_dat⟩
  unfold eqD at hg
  split at hg
  · have ez := Option.some.inj hg
    subst ez
    exact SeqAt.eq_plain r1 r2 p1 p2 (by omega) q
  · cases hg
def iSeq (K : PySem.W.Frag) (tl : TE) : TI := fun σ H R => tl σ H fun x H1 => ∃ b, x = .ref b ∧ (((∃ xs, SqL K H1 b xs) ∧ R (Itl K b) H1) ∨ ((∃ xs, SqT K H1 b xs) ∧ R (Itt K b) H1))
theorem pi_seq {l : Expr} {tl : TE} (hl : PE X l tl) : PI X tg l (iSeq X.K tl) := by
  refine ⟨fun pins s σ H R I h => thn (hl.run pins s σ H _ I h) fun v s1 ⟨x, H1, I1, r1, q1⟩ => ?_⟩
  obtain ⟨b, e, q1⟩ := q1
  subst e
  cases r1
  have fp : ∀ b ∈ [s1.heap.objs.size], FpOk X pins H1 b := fun b hb => by
    rw [List.mem_singleton.mp hb]
    exact I1.fpOk (Nat.le_refl _) (I1.hok.fresh (Nat.le_refl _))
  rcases q1 with ⟨⟨xs, hq⟩, q⟩ | ⟨⟨xs, hq⟩, q⟩
  · obtain ⟨its, rv, p, hz⟩ := I1.list hq
    exact wpAny_pyIter_list p.isList ⟨s1.heap.objs.size, [s1.heap.objs.size], _, _, H1, rfl, I1.kept (t' := s1.toks) fun b o e => Heap.get?_push_of_some _ e, turn_list b _, ⟨_, Heap.get?_push_size _ rfl, rfl, rfl⟩, fp, q⟩
  · obtain ⟨its, rv, p, hz⟩ := I1.tuple hq
    exact wpAny_pyIter_tuple (show s1.heap.IsTuple b its.toArray from p) ⟨s1.heap.objs.size, [s1.heap.objs.size], _, _, H1, rfl, I1.kept (t' := s1.toks) fun b o e => Heap.get?_push_of_some _ e, turn_tuple b _, ⟨_, Heap.get?_push_size _ rfl, rfl, rfl⟩, fp, q⟩
def dIq (ta : DE) : DA := fun ρ P => ta ρ fun d => match d with
  | .list ds => P ds
  | .tuple ds => P ds
  | _ => False
theorem di_seq (ha : PD w X a ta) : PDI w X tg a (dIq ta) := by
  obtain ⟨ta', a1, a2⟩ := ha
  refine ⟨_, pi_seq a1, fun σ ρ G H P R k s h q => ?_⟩
  refine a2 σ ρ G H _ _ k s h fun v d G1 H1 s1 r1 p1 => ?_
  cases r1 with
  | @lst p xs ds t1 q1 => exact ⟨p, rfl, .inl ⟨⟨xs, SqL.of ((s1.okw k).sub _ _ t1)⟩, q _ ds G1 H1 s1 (wk_list t1 q1) p1⟩⟩
  | @tup p xs ds t1 q1 => exact ⟨p, rfl, .inr ⟨⟨xs, (s1.okw k).sub.sqT t1⟩, q _ ds G1 H1 s1 (wk_tup t1 q1) p1⟩⟩
  | _ => exact p1.elim
/-! a, b = a list -/
def tL (is : List Nat) : DG := fun d ρ k => match d with
  | .list ds => tNs is ds ρ k
  | _ => False
theorem tNs_len : ∀ (is : List Nat) (ds : List DD) (ρ : En) (k : En → Prop), tNs is ds ρ k → ds.length = is.length
  | [], [], _, _, _ => rfl
  | [], _ :: _, _, _, h => h.elim
  | _ :: _, [], _, _, h => h.elim
  | _ :: is, _ :: ds, _, k, h => congrArg (· + 1) (tNs_len is ds _ k h)
theorem dg_l {is : List Nat} {kx : Nat} (hr : PDGs w X es (tNs is)) (hl : es.length = is.length := by rfl) (hc : X.calm = true := by rfl) (hn : (assignEach es X.env).length = es.length := by rfl) (hst : (assignEach es X.env).findIdx? (·.1) = none := by rfl) : PDG w X (.Tuple es kx pos) (tL is) := by
  obtain ⟨g, h1, h2⟩ := hr
  refine ⟨_, pg_lst hc h1 hn hst, fun G0 H0 B σ ρ H G x d k Q s r h q => ?_⟩
  cases r with
  | @lst a xs ds t1 r1 => exact ⟨a, xs, rfl, SqL.of (s.stp.sub _ _ t1), by rw [r1.len, tNs_len is ds ρ k h, hl], h2 G0 H0 B σ ρ H G xs ds k Q s r1 h q⟩
  | _ => exact h.elim
end
/-! the other law of pages -/
def F__law_values : D1 := fun ds P => match ds with
  | [.tuple es] => ∃ cs, es = iD cs ∧ cs.length ≤ 255 ∧ cs.all isB = true ∧ P (decD cs)
  | _ => False
def rdD (cs : List Int) : DD := match rdP cs with
  | some p => pgD p
  | none => .none
def F__law_read40 : D1 := fun ds P => match ds with
  | [.list es] => ∃ cs, es = iD cs ∧ cs.length ≤ 100000 ∧ cs.all isB = true ∧ P (rdD cs)
  | _ => False
def F__law_told : D1 := fun ds P => match ds with
  | [.list es] => ∃ cs, es = iD cs ∧ cs.length ≤ 100000 ∧ cs.all isB = true ∧ P (.list [.bool true, rdD cs])
  | _ => False
def pgL : Pg → DD
  | .leaf es => .tuple [.str LEAFS, .list (es.map entD)]
  | .inner cs => .tuple [.str INNERS, .list (cs.map chlD)]
def F__law_page_bytes40 : D1 := fun ds P => ∃ p, (ds = [pgD p] ∨ ds = [pgL p]) ∧ OkPg p ∧ P (wrD p)
def F__law_page40 : D1 := fun ds P => ds = [] ∧ ∀ p, OkPg p → (pgB p).length ≤ 256 → P (pgD p)
end Z

set_option Elab.async false
set_option linter.all false
set_option maxRecDepth 100000
set_option maxHeartbeats 4000000
namespace Z1
open PySem PySem.Spec PyProof.Rows L2 Z
def topS (i : Nat) : Stmt := PySem.Challenge.pw_sameanswer_k40_pages_of_any_bytes.main.body.getD i (.Pass ⟨0, 0, 0, 0⟩)
section
variable {P : Program} {wd : World} {K : PySem.W.Frag} {mg : Str → Option Value} {base : Heap}
abbrev s_key_of : Stmt := topS 13
abbrev N_key_of : List Str := ["values", "key", "value"]
theorem S_key_of : FnScope N_key_of ["values"] (defScope s_key_of) := ⟨rfl, rfl, rfl, by decide +kernel, rfl, by decide +kernel, by decide +kernel⟩
def m_key_of : DS :=
    (sSeq (sSetN 1 dNil)
    (sSeq (sFor (dIt (dN 0)) (tN 2) (sExt 1 (dIf (dT (dIsi .str (dN 2))) (dCall F_text_bytes (dCons (dN 2) dNil)) (dCall F_integer_bytes (dCons (dN 2) dNil)))))
    (sRet (dCall (g1 gTuple) (dCons (dN 1) dNil)))))
theorem b_key_of {f : Addr} (B : Blt mg) (q_text_bytes : Fnc P wd K mg base 1 "text_bytes" F_text_bytes) (q_integer_bytes : Fnc P wd K mg base 1 "integer_bytes" F_integer_bytes) (cdv : Value) (A : Around) (outer : List Env) (s : Shared) (H : Hp) (E : XK) (hr : Room 1 (A.deeper (envOfC "key_of" (defScope s_key_of) s.heap.objs.size f cdv))) :
  PDSs Wd.zero (cxOf CX0 P wd K mg base N_key_of "key_of" (defScope s_key_of) f cdv A outer s H E).nox (defBody s_key_of) (m_key_of) :=
    have S := S_key_of
    (sds_cons (sd_setN (i := 1) S.nd (pn_lst da_nil))
    (sds_cons (sd_for (di_tup (pd_n 0)) (dg_n (i := 2) S.nd) (sds_one (sd_ext (i := 1) (pv 1) (pd_if (pt_v (pd_isi .str B.isinstance B.str bt_str (pd_n 2))) (pd_f q_text_bytes hr (da_cons (pd_n 2) da_nil)) (pd_f q_integer_bytes hr (da_cons (pd_n 2) da_nil))))))
    (sds_one (sd_ret (pd_ct cd_tuple B.tuple bt_tuple (da_cons (pd_n 1) da_nil))))))
abbrev s_integer_bytes : Stmt := topS 14
abbrev N_integer_bytes : List Str := ["number", "shifted", "bits"]
theorem S_integer_bytes : FnScope N_integer_bytes ["number"] (defScope s_integer_bytes) := ⟨rfl, rfl, rfl, by decide +kernel, rfl, by decide +kernel, by decide +kernel⟩
def m_integer_bytes : DS :=
    (sSeq (sSet 1 (dOp gAdd (dN 0) (dC (.int 549755813888))))
    (sRet (dOp gAdd (dLst (dCons (dC (.int 1)) dNil)) (dLc (dIt (dTup (dCons (dC (.int 32)) (dCons (dC (.int 24)) (dCons (dC (.int 16)) (dCons (dC (.int 8)) (dCons (dC (.int 0)) dNil))))))) 2 dYes (dOp (gI0 Builtin.bitAnd) (dOp (gI (fun _ j => 0 ≤ j) fun i j => i / 2 ^ j.toNat) (dN 1) (dN 2)) (dC (.int 255)))))))
theorem b_integer_bytes {f : Addr} (B : Blt mg) (c_SHIFT : Cst mg "SHIFT" (.int 549755813888)) (c_INTEGER : Cst mg "INTEGER" (.int 1)) (cdv : Value) (A : Around) (outer : List Env) (s : Shared) (H : Hp) (E : XK) (hr : Room 0 (A.deeper (envOfC "integer_bytes" (defScope s_integer_bytes) s.heap.objs.size f cdv))) :
  PDSs Wd.zero (cxOf CX0 P wd K mg base N_integer_bytes "integer_bytes" (defScope s_integer_bytes) f cdv A outer s H E).nox (defBody s_integer_bytes) (m_integer_bytes) :=
    have S := S_integer_bytes
    (sds_cons (sd_set (i := 1) S.nd (pd_op od_add (pd_n 0) (pd_gI c_SHIFT)))
    (sds_one (sd_ret (pd_op od_add (pd_lst (da_cons (pd_gI c_INTEGER) da_nil)) (pd_lc (x := "bits") (j := 2) S.nd (blkOk_by (N := N_integer_bytes) (sc := defScope s_integer_bytes) (by decide +kernel)) (di_tup (pd_tup (da_cons pd_int (da_cons pd_int (da_cons pd_int (da_cons pd_int (da_cons pd_int da_nil))))))) (fun _ _ _ _ _ => pg_name (i := 2) S.nd rfl (Or.inl rfl)) (fun _ _ _ _ _ => dts_nil) (fun _ _ _ _ _ => (pd_op od_and (pd_op od_shr (pd_n 1) (pd_n 2)) pd_int)))))))
abbrev s_text_bytes : Stmt := topS 15
abbrev N_text_bytes : List Str := ["text", "character"]
theorem S_text_bytes : FnScope N_text_bytes ["text"] (defScope s_text_bytes) := ⟨rfl, rfl, rfl, by decide +kernel, rfl, by decide +kernel, by decide +kernel⟩
def m_text_bytes : DS :=
    (sRet (dOp gAdd (dOp gAdd (dLst (dCons (dC (.int 2)) dNil)) (dLc (dIs (dN 0)) 1 dYes (dCall (g1 gOrd) (dCons (dN 1) dNil)))) (dLst (dCons (dC (.int 0)) dNil))))
theorem b_text_bytes {f : Addr} (B : Blt mg) (c_TEXT : Cst mg "TEXT" (.int 2)) (cdv : Value) (A : Around) (outer : List Env) (s : Shared) (H : Hp) (E : XK) (hr : Room 0 (A.deeper (envOfC "text_bytes" (defScope s_text_bytes) s.heap.objs.size f cdv))) :
  PDSs Wd.zero (cxOf CX0 P wd K mg base N_text_bytes "text_bytes" (defScope s_text_bytes) f cdv A outer s H E).nox (defBody s_text_bytes) (m_text_bytes) :=
    have S := S_text_bytes
    (sds_one (sd_ret (pd_op od_add (pd_op od_add (pd_lst (da_cons (pd_gI c_TEXT) da_nil)) (pd_lc (x := "character") (j := 1) S.nd (blkOk_by (N := N_text_bytes) (sc := defScope s_text_bytes) (by decide +kernel)) (di_str (pd_n 0)) (fun _ _ _ _ _ => pg_name (i := 1) S.nd rfl (Or.inl rfl)) (fun _ _ _ _ _ => dts_nil) (fun _ _ _ _ _ => (pd_cb cd_ord B.ord bt_ord (da_cons (pd_n 1) da_nil))))) (pd_lst (da_cons pd_int da_nil)))))
abbrev s_values_of : Stmt := topS 16
abbrev N_values_of : List Str := ["key", "values", "at", "value"]
theorem S_values_of : FnScope N_values_of ["key"] (defScope s_values_of) := ⟨rfl, rfl, rfl, by decide +kernel, rfl, by decide +kernel, by decide +kernel⟩
def m_values_of : DS :=
    (sSeq (sSetN 1 dNil)
    (sSeq (sSet 2 (dC (.int 0)))
    (sSeq (sWh (dT (dOp (gB ltD) (dN 2) (dCall (g1 gLen) (dCons (dN 0) dNil)))) (sSeq (sAsg (dCall F_value_at (dCons (dN 0) (dCons (dN 2) dNil))) (tT [3, 2]))
    (sSeq (sIf (dT (dOp gIsN (dN 3) (dC .none))) (sRet (dC .none)) sNx)
    (sApp 1 (dN 3)))))
    (sRet (dCall (g1 gTuple) (dCons (dN 1) dNil))))))
theorem b_values_of {f : Addr} (B : Blt mg) (q_value_at : Fnc P wd K mg base 3 "value_at" F_value_at) (cdv : Value) (A : Around) (outer : List Env) (s : Shared) (H : Hp) (E : XK) (hr : Room 3 (A.deeper (envOfC "values_of" (defScope s_values_of) s.heap.objs.size f cdv))) :
  PDSs Wd.zero (cxOf CX0 P wd K mg base N_values_of "values_of" (defScope s_values_of) f cdv A outer s H E).nox (defBody s_values_of) (m_values_of) :=
    have S := S_values_of
    (sds_cons (sd_setN (i := 1) S.nd (pn_lst da_nil))
    (sds_cons (sd_set (i := 2) S.nd pd_int)
    (sds_cons (sd_wh (pt_cm (od_lt hr) (pd_n 2) (pd_cb cd_len B.len bt_len (da_cons (pd_n 0) da_nil))) (sds_cons (sd_asg (pd_f q_value_at hr (da_cons (pd_n 0) (da_cons (pd_n 2) da_nil))) (dg_t (is := [3, 2]) (dgs_n (i := 3) S.nd (dgs_n (i := 2) S.nd dgs_nil))))
    (sds_cons (sd_if (pt_cm od_isN (pd_n 3) pd_non) (sds_one (sd_ret pd_non)) sds_nil)
    (sds_one (sd_app (i := 1) (pv 1) (pd_n 3))))))
    (sds_one (sd_ret (pd_ct cd_tuple B.tuple bt_tuple (da_cons (pd_n 1) da_nil)))))))
abbrev s_value_at : Stmt := topS 17
abbrev N_value_at : List Str := ["key", "at", "end"]
theorem S_value_at : FnScope N_value_at ["key", "at"] (defScope s_value_at) := ⟨rfl, rfl, rfl, by decide +kernel, rfl, by decide +kernel, by decide +kernel⟩
def m_value_at : DS :=
    (sSeq (sIf (dT (dOp (gB eqD) (dOp gIx (dN 0) (dN 1)) (dC (.int 1)))) (sRet (dTup (dCons (dCall F_integer_of (dCons (dSl (dN 0) (dSo (dOp gAdd (dN 1) (dC (.int 1)))) (dSo (dOp gAdd (dN 1) (dC (.int 6))))) dNil)) (dCons (dOp gAdd (dN 1) (dC (.int 6))) dNil)))) sNx)
    (sSeq (sIf (dT (dOp (gB eqD) (dOp gIx (dN 0) (dN 1)) (dC (.int 2)))) (sSeq (sSet 2 (dOp gAdd (dN 1) (dC (.int 1))))
    (sSeq (sWh (dAnd (dT (dOp (gB ltD) (dN 2) (dCall (g1 gLen) (dCons (dN 0) dNil)))) (dT (dOp (gB neD) (dOp gIx (dN 0) (dN 2)) (dC (.int 0))))) (sAug 2 (dC (.int 1))))
    (sIf (dT (dOp (gB ltD) (dN 2) (dCall (g1 gLen) (dCons (dN 0) dNil)))) (sRet (dTup (dCons (dCall F_text_of (dCons (dSl (dN 0) (dSo (dOp gAdd (dN 1) (dC (.int 1)))) (dSo (dN 2))) dNil)) (dCons (dOp gAdd (dN 2) (dC (.int 1))) dNil)))) sNx))) sNx)
    (sRet (dTup (dCons (dC .none) (dCons (dN 1) dNil))))))
theorem b_value_at {f : Addr} (B : Blt mg) (c_INTEGER : Cst mg "INTEGER" (.int 1)) (q_integer_of : Fnc P wd K mg base 1 "integer_of" F_integer_of) (c_TEXT : Cst mg "TEXT" (.int 2)) (q_text_of : Fnc P wd K mg base 2 "text_of" F_text_of) (cdv : Value) (A : Around) (outer : List Env) (s : Shared) (H : Hp) (E : XK) (hr : Room 2 (A.deeper (envOfC "value_at" (defScope s_value_at) s.heap.objs.size f cdv))) :
  PDSs Wd.zero (cxOf CX0 P wd K mg base N_value_at "value_at" (defScope s_value_at) f cdv A outer s H E).nox (defBody s_value_at) (m_value_at) :=
    have S := S_value_at
    (sds_cons (sd_if (pt_cm (od_eq hr) (pd_ix (pd_n 0) (pd_n 1)) (pd_gI c_INTEGER)) (sds_one (sd_ret (pd_tup (da_cons (pd_f q_integer_of hr (da_cons (pd_sl (pd_n 0) (do_so (pd_op od_add (pd_n 1) pd_int)) (do_so (pd_op od_add (pd_n 1) pd_int))) da_nil)) (da_cons (pd_op od_add (pd_n 1) pd_int) da_nil))))) sds_nil)
    (sds_cons (sd_if (pt_cm (od_eq hr) (pd_ix (pd_n 0) (pd_n 1)) (pd_gI c_TEXT)) (sds_cons (sd_set (i := 2) S.nd (pd_op od_add (pd_n 1) pd_int))
    (sds_cons (sd_wh (PDW.t (pw_a (pt_cm (od_lt hr) (pd_n 2) (pd_cb cd_len B.len bt_len (da_cons (pd_n 0) da_nil))) (pw_a1 (pt_cm (od_ne hr) (pd_ix (pd_n 0) (pd_n 2)) pd_int)))) (sds_one (sd_aug (i := 2) S.nd pd_int)))
    (sds_one (sd_if (pt_cm (od_lt hr) (pd_n 2) (pd_cb cd_len B.len bt_len (da_cons (pd_n 0) da_nil))) (sds_one (sd_ret (pd_tup (da_cons (pd_f q_text_of hr (da_cons (pd_sl (pd_n 0) (do_so (pd_op od_add (pd_n 1) pd_int)) (do_so (pd_n 2))) da_nil)) (da_cons (pd_op od_add (pd_n 2) pd_int) da_nil))))) sds_nil)))) sds_nil)
    (sds_one (sd_ret (pd_tup (da_cons pd_non (da_cons (pd_n 1) da_nil)))))))
abbrev s_integer_of : Stmt := topS 18
abbrev N_integer_of : List Str := ["digits", "shifted", "digit", "number"]
theorem S_integer_of : FnScope N_integer_of ["digits"] (defScope s_integer_of) := ⟨rfl, rfl, rfl, by decide +kernel, rfl, by decide +kernel, by decide +kernel⟩
def m_integer_of : DS :=
    (sSeq (sIf (dOr (dT (dOp (gB ltD) (dCall (g1 gLen) (dCons (dN 0) dNil)) (dC (.int 5)))) (dOr (dT (dOp (gB ltD) (dCall (g1 (gM1 false)) (dCons (dN 0) dNil)) (dC (.int 0)))) (dT (dOp (gB gtD) (dCall (g1 (gM1 true)) (dCons (dN 0) dNil)) (dC (.int 255)))))) (sRet (dC .none)) sNx)
    (sSeq (sSet 1 (dC (.int 0)))
    (sSeq (sFor (dIt (dN 0)) (tN 2) (sSet 1 (dOp gAdd (dOp (gI CMul (· * ·)) (dN 1) (dC (.int 256))) (dN 2))))
    (sSeq (sSet 3 (dOp (gI0 (· - ·)) (dN 1) (dC (.int 549755813888))))
    (sRet (dIf (dT (dCh gLe gLe (dUn gNeg (dC (.int 1000000000))) (dN 3) (dC (.int 1000000000)))) (dN 3) (dC .none)))))))
theorem b_integer_of {f : Addr} (B : Blt mg) (c_SHIFT : Cst mg "SHIFT" (.int 549755813888)) (c_BOUND : Cst mg "BOUND" (.int 1000000000)) (cdv : Value) (A : Around) (outer : List Env) (s : Shared) (H : Hp) (E : XK) (hr : Room 0 (A.deeper (envOfC "integer_of" (defScope s_integer_of) s.heap.objs.size f cdv))) :
  PDSs Wd.zero (cxOf CX0 P wd K mg base N_integer_of "integer_of" (defScope s_integer_of) f cdv A outer s H E).nox (defBody s_integer_of) (m_integer_of) :=
    have S := S_integer_of
    (sds_cons (sd_if (PDW.t (pw_o (pt_cm (od_lt hr) (pd_cb cd_len B.len bt_len (da_cons (pd_n 0) da_nil)) pd_int) (pw_o (pt_cm (od_lt hr) (pd_cb (cd_min1 hr) B.min bt_min (da_cons (pd_n 0) da_nil)) pd_int) (pw_o1 (pt_cm (od_gt hr) (pd_cb (cd_max1 hr) B.max bt_max (da_cons (pd_n 0) da_nil)) pd_int))))) (sds_one (sd_ret pd_non)) sds_nil)
    (sds_cons (sd_set (i := 1) S.nd pd_int)
    (sds_cons (sd_for (di_tup (pd_n 0)) (dg_n (i := 2) S.nd) (sds_one (sd_set (i := 1) S.nd (pd_op od_add (pd_op od_mul (pd_n 1) pd_int) (pd_n 2)))))
    (sds_cons (sd_set (i := 3) S.nd (pd_op od_sub (pd_n 1) (pd_gI c_SHIFT)))
    (sds_one (sd_ret (pd_if (pt_ch (od_le hr) (od_le hr) (pd_neg (pd_gI c_BOUND)) (pd_n 3) (pd_gI c_BOUND)) (pd_n 3) pd_non)))))))
abbrev s_text_of : Stmt := topS 19
abbrev N_text_of : List Str := ["codes", "characters", "code"]
theorem S_text_of : FnScope N_text_of ["codes"] (defScope s_text_of) := ⟨rfl, rfl, rfl, by decide +kernel, rfl, by decide +kernel, by decide +kernel⟩
def m_text_of : DS :=
    (sSeq (sSet 1 (dLc (dIt (dN 0)) 2 dYes (dCall F_character_of (dCons (dN 2) dNil))))
    (sSeq (sIf (dOr (dT (dOp (gB gtD) (dCall (g1 gLen) (dCons (dN 1) dNil)) (dC (.int 6)))) (dT (dOp (gB inD) (dC .none) (dN 1)))) (sRet (dC .none)) sNx)
    (sRet (dM1 gJoin (dC (.str (Str.ofString ""))) (dN 1)))))
theorem b_text_of {f : Addr} (B : Blt mg) (q_character_of : Fnc P wd K mg base 1 "character_of" F_character_of) (c_LONGEST_TEXT : Cst mg "LONGEST_TEXT" (.int 6)) (cdv : Value) (A : Around) (outer : List Env) (s : Shared) (H : Hp) (E : XK) (hr : Room 1 (A.deeper (envOfC "text_of" (defScope s_text_of) s.heap.objs.size f cdv))) :
  PDSs Wd.zero (cxOf CX0 P wd K mg base N_text_of "text_of" (defScope s_text_of) f cdv A outer s H E).nox (defBody s_text_of) (m_text_of) :=
    have S := S_text_of
    (sds_cons (sd_lc (x := "code") (i := 1) (j := 2) S.nd rfl (blkOk_by (N := N_text_of) (sc := defScope s_text_of) (by decide +kernel)) (di_tup (pd_n 0)) (fun _ _ _ _ _ => pg_name (i := 2) S.nd rfl (Or.inl rfl)) (fun _ _ _ _ _ => dts_nil) (fun _ _ _ _ _ => (pd_f q_character_of hr (da_cons (pd_n 2) da_nil))) (sw_true rfl rfl rfl (by decide +kernel)))
    (sds_cons (sd_if (PDW.t (pw_o (pt_cm (od_gt hr) (pd_cb cd_len B.len bt_len (da_cons (pd_n 1) da_nil)) (pd_gI c_LONGEST_TEXT)) (pw_o1 (pt_cm od_in pd_non (pd_n 1))))) (sds_one (sd_ret pd_non)) sds_nil)
    (sds_one (sd_ret (pd_join pd_str (pd_n 1))))))
abbrev s_character_of : Stmt := topS 20
abbrev N_character_of : List Str := ["code", "left_out"]
theorem S_character_of : FnScope N_character_of ["code"] (defScope s_character_of) := ⟨rfl, rfl, rfl, by decide +kernel, rfl, by decide +kernel, by decide +kernel⟩
def m_character_of : DS :=
    (sSeq (sIf (dOr (dT (dOp (gB ltD) (dN 0) (dC (.int 32)))) (dOr (dT (dOp (gB gtD) (dN 0) (dC (.int 126)))) (dT (dOp (gB eqD) (dN 0) (dC (.int 37)))))) (sRet (dC .none)) sNx)
    (sSeq (sSet 1 (dIf (dT (dOp (gB gtD) (dN 0) (dC (.int 37)))) (dC (.int 1)) (dC (.int 0))))
    (sRet (dOp gIx (dC (.str CH)) (dOp (gI0 (· - ·)) (dOp (gI0 (· - ·)) (dN 0) (dC (.int 32))) (dN 1))))))
theorem b_character_of {f : Addr} (B : Blt mg) (c_SPACE_CODE : Cst mg "SPACE_CODE" (.int 32)) (c_TILDE_CODE : Cst mg "TILDE_CODE" (.int 126)) (c_PERCENT_CODE : Cst mg "PERCENT_CODE" (.int 37)) (c_CHARACTERS : Cst mg "CHARACTERS" (.str CH)) (cdv : Value) (A : Around) (outer : List Env) (s : Shared) (H : Hp) (E : XK) (hr : Room 0 (A.deeper (envOfC "character_of" (defScope s_character_of) s.heap.objs.size f cdv))) :
  PDSs Wd.zero (cxOf CX0 P wd K mg base N_character_of "character_of" (defScope s_character_of) f cdv A outer s H E).nox (defBody s_character_of) (m_character_of) :=
    have S := S_character_of
    (sds_cons (sd_if (PDW.t (pw_o (pt_cm (od_lt hr) (pd_n 0) (pd_gI c_SPACE_CODE)) (pw_o (pt_cm (od_gt hr) (pd_n 0) (pd_gI c_TILDE_CODE)) (pw_o1 (pt_cm (od_eq hr) (pd_n 0) (pd_gI c_PERCENT_CODE)))))) (sds_one (sd_ret pd_non)) sds_nil)
    (sds_cons (sd_set (i := 1) S.nd (pd_if (pt_cm (od_gt hr) (pd_n 0) (pd_gI c_PERCENT_CODE)) pd_int pd_int))
    (sds_one (sd_ret (pd_ix (pd_gS c_CHARACTERS) (pd_op od_sub (pd_op od_sub (pd_n 0) (pd_gI c_SPACE_CODE)) (pd_n 1)))))))
abbrev s_write_page : Stmt := topS 25
abbrev N_write_page : List Str := ["page", "kind", "parts", "data"]
theorem S_write_page : FnScope N_write_page ["page"] (defScope s_write_page) := ⟨rfl, rfl, rfl, by decide +kernel, rfl, by decide +kernel, by decide +kernel⟩
def m_write_page : DS :=
    (sSeq (sAsg (dN 0) (tT [1, 2]))
    (sSeq (sSet 3 (dIf (dT (dOp (gB eqD) (dN 1) (dC (.str (Str.ofString "leaf"))))) (dCall F_leaf_bytes (dCons (dN 2) dNil)) (dCall F_inner_bytes (dCons (dN 2) dNil))))
    (sSeq (sIf (dOr (dT (dOp (gB gtD) (dCall (g1 gLen) (dCons (dN 3) dNil)) (dC (.int 256)))) (dT (dOp (gB gtD) (dCall (g1 (gM1 true)) (dCons (dN 3) dNil)) (dC (.int 255))))) (sRet (dC .none)) sNx)
    (sRet (dOp gAdd (dN 3) (dOp gRep (dLst (dCons (dC (.int 0)) dNil)) (dOp (gI0 (· - ·)) (dC (.int 256)) (dCall (g1 gLen) (dCons (dN 3) dNil)))))))))
theorem b_write_page {f : Addr} (B : Blt mg) (q_leaf_bytes : Fnc P wd K mg base 3 "leaf_bytes" F_leaf_bytes) (q_inner_bytes : Fnc P wd K mg base 2 "inner_bytes" F_inner_bytes) (c_PAGE_SIZE : Cst mg "PAGE_SIZE" (.int 256)) (cdv : Value) (A : Around) (outer : List Env) (s : Shared) (H : Hp) (E : XK) (hr : Room 3 (A.deeper (envOfC "write_page" (defScope s_write_page) s.heap.objs.size f cdv))) :
  PDSs Wd.zero (cxOf CX0 P wd K mg base N_write_page "write_page" (defScope s_write_page) f cdv A outer s H E).nox (defBody s_write_page) (m_write_page) :=
    have S := S_write_page
    (sds_cons (sd_asg (pd_n 0) (dg_t (is := [1, 2]) (dgs_n (i := 1) S.nd (dgs_n (i := 2) S.nd dgs_nil))))
    (sds_cons (sd_set (i := 3) S.nd (pd_if (pt_cm (od_eq hr) (pd_n 1) pd_str) (pd_f q_leaf_bytes hr (da_cons (pd_n 2) da_nil)) (pd_f q_inner_bytes hr (da_cons (pd_n 2) da_nil))))
    (sds_cons (sd_if (PDW.t (pw_o (pt_cm (od_gt hr) (pd_cb cd_len B.len bt_len (da_cons (pd_n 3) da_nil)) (pd_gI c_PAGE_SIZE)) (pw_o1 (pt_cm (od_gt hr) (pd_cb (cd_max1 hr) B.max bt_max (da_cons (pd_n 3) da_nil)) pd_int)))) (sds_one (sd_ret pd_non)) sds_nil)
    (sds_one (sd_ret (pd_op od_add (pd_n 3) (pd_op od_rep (pd_lst (da_cons pd_int da_nil)) (pd_op od_sub (pd_gI c_PAGE_SIZE) (pd_cb cd_len B.len bt_len (da_cons (pd_n 3) da_nil))))))))))
abbrev s_leaf_bytes : Stmt := topS 26
abbrev N_leaf_bytes : List Str := ["entries", "data", "key", "value"]
theorem S_leaf_bytes : FnScope N_leaf_bytes ["entries"] (defScope s_leaf_bytes) := ⟨rfl, rfl, rfl, by decide +kernel, rfl, by decide +kernel, by decide +kernel⟩
def m_leaf_bytes : DS :=
    (sSeq (sSetN 1 (dCons (dC (.int 0)) (dCons (dCall (g1 gLen) (dCons (dN 0) dNil)) dNil)))
    (sSeq (sFor (dIt (dN 0)) (tT [2, 3]) (sSeq (sExt 1 (dCall F_counted (dCons (dN 2) dNil)))
    (sExt 1 (dCall F_counted (dCons (dCall F_key_of (dCons (dN 3) dNil)) dNil)))))
    (sRet (dN 1))))
theorem b_leaf_bytes {f : Addr} (B : Blt mg) (c_LEAF : Cst mg "LEAF" (.int 0)) (q_counted : Fnc P wd K mg base 1 "counted" F_counted) (q_key_of : Fnc P wd K mg base 2 "key_of" F_key_of) (cdv : Value) (A : Around) (outer : List Env) (s : Shared) (H : Hp) (E : XK) (hr : Room 2 (A.deeper (envOfC "leaf_bytes" (defScope s_leaf_bytes) s.heap.objs.size f cdv))) :
  PDSs Wd.zero (cxOf CX0 P wd K mg base N_leaf_bytes "leaf_bytes" (defScope s_leaf_bytes) f cdv A outer s H E).nox (defBody s_leaf_bytes) (m_leaf_bytes) :=
    have S := S_leaf_bytes
    (sds_cons (sd_setN (i := 1) S.nd (pn_lst (da_cons (pd_gI c_LEAF) (da_cons (pd_cb cd_len B.len bt_len (da_cons (pd_n 0) da_nil)) da_nil))))
    (sds_cons (sd_for (di_tup (pd_n 0)) (dg_t (is := [2, 3]) (dgs_n (i := 2) S.nd (dgs_n (i := 3) S.nd dgs_nil))) (sds_cons (sd_ext (i := 1) (pv 1) (pd_f q_counted hr (da_cons (pd_n 2) da_nil)))
    (sds_one (sd_ext (i := 1) (pv 1) (pd_f q_counted hr (da_cons (pd_f q_key_of hr (da_cons (pd_n 3) da_nil)) da_nil))))))
    (sds_one (sd_ret (pd_n 1)))))
abbrev s_inner_bytes : Stmt := topS 27
abbrev N_inner_bytes : List Str := ["children", "data", "place", "first_key", "number"]
theorem S_inner_bytes : FnScope N_inner_bytes ["children"] (defScope s_inner_bytes) := ⟨rfl, rfl, rfl, by decide +kernel, rfl, by decide +kernel, by decide +kernel⟩
def m_inner_bytes : DS :=
    (sSeq (sSetN 1 (dCons (dC (.int 1)) (dCons (dCall (g1 gLen) (dCons (dN 0) dNil)) dNil)))
    (sSeq (sFor (dIe (dN 0)) (tT2 2 3 4) (sSeq (sExt 1 (dLst (dCons (dOp (gI (fun _ j => 0 ≤ j) fun i j => i / 2 ^ j.toNat) (dN 4) (dC (.int 8))) (dCons (dOp (gI0 Builtin.bitAnd) (dN 4) (dC (.int 255))) dNil))))
    (sExt 1 (dCall F_counted (dCons (dIf (dT (dOp (gB gtD) (dN 2) (dC (.int 0)))) (dN 3) (dTup dNil)) dNil)))))
    (sRet (dN 1))))
theorem b_inner_bytes {f : Addr} (B : Blt mg) (c_INNER : Cst mg "INNER" (.int 1)) (q_counted : Fnc P wd K mg base 1 "counted" F_counted) (cdv : Value) (A : Around) (outer : List Env) (s : Shared) (H : Hp) (E : XK) (hr : Room 1 (A.deeper (envOfC "inner_bytes" (defScope s_inner_bytes) s.heap.objs.size f cdv))) :
  PDSs Wd.zero (cxOf CX0 P wd K mg base N_inner_bytes "inner_bytes" (defScope s_inner_bytes) f cdv A outer s H E).nox (defBody s_inner_bytes) (m_inner_bytes) :=
    have S := S_inner_bytes
    (sds_cons (sd_setN (i := 1) S.nd (pn_lst (da_cons (pd_gI c_INNER) (da_cons (pd_cb cd_len B.len bt_len (da_cons (pd_n 0) da_nil)) da_nil))))
    (sds_cons (sd_for (di_enum B.enumerate (pd_n 0)) (dg_t2 (i := 2) (j := 3) (k := 4) S.nd) (sds_cons (sd_ext (i := 1) (pv 1) (pd_lst (da_cons (pd_op od_shr (pd_n 4) pd_int) (da_cons (pd_op od_and (pd_n 4) pd_int) da_nil))))
    (sds_one (sd_ext (i := 1) (pv 1) (pd_f q_counted hr (da_cons (pd_if (pt_cm (od_gt hr) (pd_n 2) pd_int) (pd_n 3) (pd_tup da_nil)) da_nil))))))
    (sds_one (sd_ret (pd_n 1)))))
abbrev s_counted : Stmt := topS 28
abbrev N_counted : List Str := ["part"]
theorem S_counted : FnScope N_counted ["part"] (defScope s_counted) := ⟨rfl, rfl, rfl, by decide +kernel, rfl, by decide +kernel, by decide +kernel⟩
def m_counted : DS :=
    (sRet (dOp gAdd (dLst (dCons (dCall (g1 gLen) (dCons (dN 0) dNil)) dNil)) (dCall (g1 gList) (dCons (dN 0) dNil))))
theorem b_counted {f : Addr} (B : Blt mg) (cdv : Value) (A : Around) (outer : List Env) (s : Shared) (H : Hp) (E : XK) (hr : Room 0 (A.deeper (envOfC "counted" (defScope s_counted) s.heap.objs.size f cdv))) :
  PDSs Wd.zero (cxOf CX0 P wd K mg base N_counted "counted" (defScope s_counted) f cdv A outer s H E).nox (defBody s_counted) (m_counted) :=
    have S := S_counted
    (sds_one (sd_ret (pd_op od_add (pd_lst (da_cons (pd_cb cd_len B.len bt_len (da_cons (pd_n 0) da_nil)) da_nil)) (pd_ct cd_list B.list bt_list (da_cons (pd_n 0) da_nil)))))
abbrev s_read_page : Stmt := topS 29
abbrev N_read_page : List Str := ["data", "kind", "parts", "end"]
theorem S_read_page : FnScope N_read_page ["data"] (defScope s_read_page) := ⟨rfl, rfl, rfl, by decide +kernel, rfl, by decide +kernel, by decide +kernel⟩
def m_read_page : DS :=
    (sSeq (sIf (dOr (dT (dOp (gB neD) (dCall (g1 gLen) (dCons (dN 0) dNil)) (dC (.int 256)))) (dOr (dT (dOp (gB ltD) (dCall (g1 (gM1 false)) (dCons (dN 0) dNil)) (dC (.int 0)))) (dT (dOp (gB gtD) (dCall (g1 (gM1 true)) (dCons (dN 0) dNil)) (dC (.int 255)))))) (sRaise "DamagedData") sNx)
    (sSeq (sIf (dT (dOp (gB eqD) (dOp gIx (dN 0) (dC (.int 0))) (dC (.int 0)))) (sSeq (sSet 1 (dC (.str (Str.ofString "leaf"))))
    (sAsgX (dCallX F_read_entries (dCons (dN 0) dNil)) (tT [2, 3]))) (sIf (dT (dOp (gB eqD) (dOp gIx (dN 0) (dC (.int 0))) (dC (.int 1)))) (sSeq (sSet 1 (dC (.str (Str.ofString "inner"))))
    (sAsgX (dCallX F_read_children (dCons (dN 0) dNil)) (tT [2, 3]))) (sRaise "DamagedData")))
    (sSeq (sIf (dT (dCall (g1 gAnyI) (dCons (dSl (dN 0) (dSo (dN 3)) dNo) dNil))) (sRaise "DamagedData") sNx)
    (sRet (dTup (dCons (dN 1) (dCons (dN 2) dNil)))))))
theorem b_read_page {f : Addr} (B : Blt mg) (c_PAGE_SIZE : Cst mg "PAGE_SIZE" (.int 256)) (EF : ErF K mg) (c_LEAF : Cst mg "LEAF" (.int 0)) (q_read_entries : FncX P wd K mg base 5 "read_entries" F_read_entries) (c_INNER : Cst mg "INNER" (.int 1)) (q_read_children : FncX P wd K mg base 2 "read_children" F_read_children) (cdv : Value) (A : Around) (outer : List Env) (s : Shared) (H : Hp) (E : XK) (hr : Room 5 (A.deeper (envOfC "read_page" (defScope s_read_page) s.heap.objs.size f cdv))) :
  PDSs (wx E) (cxOf (L2.CX P wd) P wd K mg base N_read_page "read_page" (defScope s_read_page) f cdv A outer s H E) (defBody s_read_page) (m_read_page) :=
    have S := S_read_page
    have tk := takes_of rfl rfl rfl rfl
    (sds_cons (sd_if (PDW.t (pw_o (pt_cm (od_ne hr) (pd_cb cd_len B.len bt_len (da_cons (pd_n 0) da_nil)) (pd_gI c_PAGE_SIZE)) (pw_o (pt_cm (od_lt hr) (pd_cb (cd_min1 hr) B.min bt_min (da_cons (pd_n 0) da_nil)) pd_int) (pw_o1 (pt_cm (od_gt hr) (pd_cb (cd_max1 hr) B.max bt_max (da_cons (pd_n 0) da_nil)) pd_int))))) (sds_one (sd_raise EF.x_DamagedData tk)) sds_nil)
    (sds_cons (sd_if (pt_cm (od_eq hr) (pd_ix (pd_n 0) pd_int) (pd_gI c_LEAF)) (sds_cons (sd_set (i := 1) S.nd pd_str)
    (sds_one (sd_asgX (pdx_f q_read_entries tk hr (da_cons (pd_n 0) da_nil)) (dg_t (is := [2, 3]) (dgs_n (i := 2) S.nd (dgs_n (i := 3) S.nd dgs_nil)))))) (sds_one (sd_if (pt_cm (od_eq hr) (pd_ix (pd_n 0) pd_int) (pd_gI c_INNER)) (sds_cons (sd_set (i := 1) S.nd pd_str)
    (sds_one (sd_asgX (pdx_f q_read_children tk hr (da_cons (pd_n 0) da_nil)) (dg_t (is := [2, 3]) (dgs_n (i := 2) S.nd (dgs_n (i := 3) S.nd dgs_nil)))))) (sds_one (sd_raise EF.x_DamagedData tk)))))
    (sds_cons (sd_if (pt_v (pd_cb cd_any B.any bt_any (da_cons (pd_sl (pd_n 0) (do_so (pd_n 3)) do_no) da_nil))) (sds_one (sd_raise EF.x_DamagedData tk)) sds_nil)
    (sds_one (sd_ret (pd_tup (da_cons (pd_n 1) (da_cons (pd_n 2) da_nil))))))))
abbrev s_read_entries : Stmt := topS 30
abbrev N_read_entries : List Str := ["data", "entries", "at", "_", "key", "value_key", "value"]
theorem S_read_entries : FnScope N_read_entries ["data"] (defScope s_read_entries) := ⟨rfl, rfl, rfl, by decide +kernel, rfl, by decide +kernel, by decide +kernel⟩
def m_read_entries : DS :=
    (sSeq (sSetN 1 dNil)
    (sSeq (sSet 2 (dC (.int 2)))
    (sSeq (sFor (dIr (dOp gIx (dN 0) (dC (.int 1)))) (tN 3) (sSeq (sAsgX (dCallX F_read_counted (dCons (dN 0) (dCons (dN 2) dNil))) (tT [4, 2]))
    (sSeq (sAsgX (dCallX F_read_counted (dCons (dN 0) (dCons (dN 2) dNil))) (tT [5, 2]))
    (sSeq (sSet 6 (dCall F_values_of (dCons (dN 5) dNil)))
    (sSeq (sIf (dT (dOp gIsN (dN 6) (dC .none))) (sRaise "DamagedData") sNx)
    (sApp 1 (dTup (dCons (dN 4) (dCons (dN 6) dNil)))))))))
    (sRet (dTup (dCons (dCall (g1 gTuple) (dCons (dN 1) dNil)) (dCons (dN 2) dNil)))))))
theorem b_read_entries {f : Addr} (B : Blt mg) (q_read_counted : FncX P wd K mg base 1 "read_counted" F_read_counted) (q_values_of : Fnc P wd K mg base 4 "values_of" F_values_of) (EF : ErF K mg) (cdv : Value) (A : Around) (outer : List Env) (s : Shared) (H : Hp) (E : XK) (hr : Room 4 (A.deeper (envOfC "read_entries" (defScope s_read_entries) s.heap.objs.size f cdv))) :
  PDSs (wx E) (cxOf (L2.CX P wd) P wd K mg base N_read_entries "read_entries" (defScope s_read_entries) f cdv A outer s H E) (defBody s_read_entries) (m_read_entries) :=
    have S := S_read_entries
    have tk := takes_of rfl rfl rfl rfl
    (sds_cons (sd_setN (i := 1) S.nd (pn_lst da_nil))
    (sds_cons (sd_set (i := 2) S.nd pd_int)
    (sds_cons (sd_for (di_range B.range (pd_ix (pd_n 0) pd_int)) (dg_n (i := 3) S.nd) (sds_cons (sd_asgX (pdx_f q_read_counted tk hr (da_cons (pd_n 0) (da_cons (pd_n 2) da_nil))) (dg_t (is := [4, 2]) (dgs_n (i := 4) S.nd (dgs_n (i := 2) S.nd dgs_nil))))
    (sds_cons (sd_asgX (pdx_f q_read_counted tk hr (da_cons (pd_n 0) (da_cons (pd_n 2) da_nil))) (dg_t (is := [5, 2]) (dgs_n (i := 5) S.nd (dgs_n (i := 2) S.nd dgs_nil))))
    (sds_cons (sd_set (i := 6) S.nd (pd_f q_values_of hr (da_cons (pd_n 5) da_nil)))
    (sds_cons (sd_if (pt_cm od_isN (pd_n 6) pd_non) (sds_one (sd_raise EF.x_DamagedData tk)) sds_nil)
    (sds_one (sd_app (i := 1) (pv 1) (pd_tup (da_cons (pd_n 4) (da_cons (pd_n 6) da_nil))))))))) (hp := passes_of rfl))
    (sds_one (sd_ret (pd_tup (da_cons (pd_ct cd_tuple B.tuple bt_tuple (da_cons (pd_n 1) da_nil)) (da_cons (pd_n 2) da_nil))))))))
abbrev s_read_children : Stmt := topS 31
abbrev N_read_children : List Str := ["data", "children", "at", "_", "first_key", "end"]
theorem S_read_children : FnScope N_read_children ["data"] (defScope s_read_children) := ⟨rfl, rfl, rfl, by decide +kernel, rfl, by decide +kernel, by decide +kernel⟩
def m_read_children : DS :=
    (sSeq (sSetN 1 dNil)
    (sSeq (sSet 2 (dC (.int 2)))
    (sSeq (sFor (dIr (dOp gIx (dN 0) (dC (.int 1)))) (tN 3) (sSeq (sAsgX (dCallX F_read_counted (dCons (dN 0) (dCons (dOp gAdd (dN 2) (dC (.int 2))) dNil))) (tT [4, 5]))
    (sSeq (sIf (dAnd (dTr (dN 4)) (dNot (dTr (dN 1)))) (sRaise "DamagedData") sNx)
    (sSeq (sApp 1 (dTup (dCons (dN 4) (dCons (dOp gAdd (dOp (gI CMul (· * ·)) (dOp gIx (dN 0) (dN 2)) (dC (.int 256))) (dOp gIx (dN 0) (dOp gAdd (dN 2) (dC (.int 1))))) dNil))))
    (sSet 2 (dN 5))))))
    (sRet (dTup (dCons (dCall (g1 gTuple) (dCons (dN 1) dNil)) (dCons (dN 2) dNil)))))))
theorem b_read_children {f : Addr} (B : Blt mg) (q_read_counted : FncX P wd K mg base 1 "read_counted" F_read_counted) (EF : ErF K mg) (cdv : Value) (A : Around) (outer : List Env) (s : Shared) (H : Hp) (E : XK) (hr : Room 1 (A.deeper (envOfC "read_children" (defScope s_read_children) s.heap.objs.size f cdv))) :
  PDSs (wx E) (cxOf (L2.CX P wd) P wd K mg base N_read_children "read_children" (defScope s_read_children) f cdv A outer s H E) (defBody s_read_children) (m_read_children) :=
    have S := S_read_children
    have tk := takes_of rfl rfl rfl rfl
    (sds_cons (sd_setN (i := 1) S.nd (pn_lst da_nil))
    (sds_cons (sd_set (i := 2) S.nd pd_int)
    (sds_cons (sd_for (di_range B.range (pd_ix (pd_n 0) pd_int)) (dg_n (i := 3) S.nd) (sds_cons (sd_asgX (pdx_f q_read_counted tk hr (da_cons (pd_n 0) (da_cons (pd_op od_add (pd_n 2) pd_int) da_nil))) (dg_t (is := [4, 5]) (dgs_n (i := 4) S.nd (dgs_n (i := 5) S.nd dgs_nil))))
    (sds_cons (sd_if (PDW.t (pw_a (pt_tr (pd_n 4)) (pw_a1 (pt_no (pt_tr (pd_n 1)))))) (sds_one (sd_raise EF.x_DamagedData tk)) sds_nil)
    (sds_cons (sd_app (i := 1) (pv 1) (pd_tup (da_cons (pd_n 4) (da_cons (pd_op od_add (pd_op od_mul (pd_ix (pd_n 0) (pd_n 2)) pd_int) (pd_ix (pd_n 0) (pd_op od_add (pd_n 2) pd_int))) da_nil))))
    (sds_one (sd_set (i := 2) S.nd (pd_n 5)))))) (hp := passes_of rfl))
    (sds_one (sd_ret (pd_tup (da_cons (pd_ct cd_tuple B.tuple bt_tuple (da_cons (pd_n 1) da_nil)) (da_cons (pd_n 2) da_nil))))))))
abbrev s_read_counted : Stmt := topS 32
abbrev N_read_counted : List Str := ["data", "at", "end"]
theorem S_read_counted : FnScope N_read_counted ["data", "at"] (defScope s_read_counted) := ⟨rfl, rfl, rfl, by decide +kernel, rfl, by decide +kernel, by decide +kernel⟩
def m_read_counted : DS :=
    (sSeq (sIf (dOr (dT (dOp gGe (dN 1) (dCall (g1 gLen) (dCons (dN 0) dNil)))) (dT (dOp (gB gtD) (dOp gAdd (dOp gAdd (dN 1) (dC (.int 1))) (dOp gIx (dN 0) (dN 1))) (dCall (g1 gLen) (dCons (dN 0) dNil))))) (sRaise "DamagedData") sNx)
    (sSeq (sSet 2 (dOp gAdd (dOp gAdd (dN 1) (dC (.int 1))) (dOp gIx (dN 0) (dN 1))))
    (sRet (dTup (dCons (dCall (g1 gTuple) (dCons (dSl (dN 0) (dSo (dOp gAdd (dN 1) (dC (.int 1)))) (dSo (dN 2))) dNil)) (dCons (dN 2) dNil))))))
theorem b_read_counted {f : Addr} (B : Blt mg) (EF : ErF K mg) (cdv : Value) (A : Around) (outer : List Env) (s : Shared) (H : Hp) (E : XK) (hr : Room 0 (A.deeper (envOfC "read_counted" (defScope s_read_counted) s.heap.objs.size f cdv))) :
  PDSs (wx E) (cxOf (L2.CX P wd) P wd K mg base N_read_counted "read_counted" (defScope s_read_counted) f cdv A outer s H E) (defBody s_read_counted) (m_read_counted) :=
    have S := S_read_counted
    have tk := takes_of rfl rfl rfl rfl
    (sds_cons (sd_if (PDW.t (pw_o (pt_cm od_ge (pd_n 1) (pd_cb cd_len B.len bt_len (da_cons (pd_n 0) da_nil))) (pw_o1 (pt_cm (od_gt hr) (pd_op od_add (pd_op od_add (pd_n 1) pd_int) (pd_ix (pd_n 0) (pd_n 1))) (pd_cb cd_len B.len bt_len (da_cons (pd_n 0) da_nil)))))) (sds_one (sd_raise EF.x_DamagedData tk)) sds_nil)
    (sds_cons (sd_set (i := 2) S.nd (pd_op od_add (pd_op od_add (pd_n 1) pd_int) (pd_ix (pd_n 0) (pd_n 1))))
    (sds_one (sd_ret (pd_tup (da_cons (pd_ct cd_tuple B.tuple bt_tuple (da_cons (pd_sl (pd_n 0) (do_so (pd_op od_add (pd_n 1) pd_int)) (do_so (pd_n 2))) da_nil)) (da_cons (pd_n 2) da_nil)))))))
abbrev s__law_same : Stmt := topS 35
abbrev N__law_same : List Str := ["actual", "expected", "k"]
theorem S__law_same : FnScope N__law_same ["actual", "expected"] (defScope s__law_same) := ⟨rfl, rfl, rfl, by decide +kernel, rfl, by decide +kernel, by decide +kernel⟩
def m__law_same (F : D1) : DS :=
    (sSeq (sIf (dT (dOp gIsN (dN 1) (dC .none))) (sRet (dOp gIsN (dN 0) (dC .none))) sNx)
    (sSeq (sIf (dT (dIsi .bool (dN 1))) (sRet (dAndV (dIsi .bool (dN 0)) (dOp (gB eqD) (dN 0) (dN 1)))) sNx)
    (sSeq (sIf (dT (dIsi .int (dN 1))) (sRet (dAndV (dIsi .int (dN 0)) (dAndV (dNotV (dIsi .bool (dN 0))) (dOp (gB eqD) (dN 0) (dN 1))))) sNx)
    (sSeq (sIf (dT (dIsi .str (dN 1))) (sRet (dAndV (dIsi .str (dN 0)) (dOp (gB eqD) (dN 0) (dN 1)))) sNx)
    (sSeq (sIf (dAnd (dT (dIsi .tuple (dN 1))) (dNot (dT (dIsi .tuple (dN 0))))) (sRet (dC (.bool false))) sNx)
    (sSeq (sIf (dAnd (dT (dIsi .list (dN 1))) (dNot (dT (dIsi .list (dN 0))))) (sRet (dC (.bool false))) sNx)
    (sSeq (sIf (dT (dOp (gB neD) (dCall (g1 gLen) (dCons (dN 0) dNil)) (dCall (g1 gLen) (dCons (dN 1) dNil)))) (sRet (dC (.bool false))) sNx)
    (sSeq (sFor (dIr (dCall (g1 gLen) (dCons (dN 1) dNil))) (tN 2) (sIf (dNot (dT (dCall F (dCons (dOp gIx (dN 0) (dN 2)) (dCons (dOp gIx (dN 1) (dN 2)) dNil))))) (sRet (dC (.bool false))) sNx))
    (sRet (dC (.bool true)))))))))))
theorem b__law_same {f : Addr} (B : Blt mg) {kf lv : Nat} {F : D1} (hle : kf ≤ lv) (q__law_same : Fnc P wd K mg base kf "_law_same" F) (cdv : Value) (A : Around) (outer : List Env) (s : Shared) (H : Hp) (E : XK) (hr : Room lv (A.deeper (envOfC "_law_same" (defScope s__law_same) s.heap.objs.size f cdv))) :
  PDSs Wd.zero (cxOf CX0 P wd K mg base N__law_same "_law_same" (defScope s__law_same) f cdv A outer s H E).nox (defBody s__law_same) (m__law_same F) :=
    have S := S__law_same
    (sds_cons (sd_if (pt_cm od_isN (pd_n 1) pd_non) (sds_one (sd_ret (pd_cmp od_isN (pd_n 0) pd_non))) sds_nil)
    (sds_cons (sd_if (pt_v (pd_isi .bool B.isinstance B.bool bt_bool (pd_n 1))) (sds_one (sd_ret (pd_and (pd_isi .bool B.isinstance B.bool bt_bool (pd_n 0)) (pd_one (pd_cmp (od_eq hr) (pd_n 0) (pd_n 1)))))) sds_nil)
    (sds_cons (sd_if (pt_v (pd_isi .int B.isinstance B.int bt_int (pd_n 1))) (sds_one (sd_ret (pd_and (pd_isi .int B.isinstance B.int bt_int (pd_n 0)) (pd_and (pd_not (pd_isi .bool B.isinstance B.bool bt_bool (pd_n 0))) (pd_one (pd_cmp (od_eq hr) (pd_n 0) (pd_n 1))))))) sds_nil)
    (sds_cons (sd_if (pt_v (pd_isi .str B.isinstance B.str bt_str (pd_n 1))) (sds_one (sd_ret (pd_and (pd_isi .str B.isinstance B.str bt_str (pd_n 0)) (pd_one (pd_cmp (od_eq hr) (pd_n 0) (pd_n 1)))))) sds_nil)
    (sds_cons (sd_if (PDW.t (pw_a (pt_v (pd_isi .tuple B.isinstance B.tuple bt_tuple (pd_n 1))) (pw_a1 (pt_no (pt_v (pd_isi .tuple B.isinstance B.tuple bt_tuple (pd_n 0))))))) (sds_one (sd_ret pd_bl)) sds_nil)
    (sds_cons (sd_if (PDW.t (pw_a (pt_v (pd_isi .list B.isinstance B.list bt_list (pd_n 1))) (pw_a1 (pt_no (pt_v (pd_isi .list B.isinstance B.list bt_list (pd_n 0))))))) (sds_one (sd_ret pd_bl)) sds_nil)
    (sds_cons (sd_if (pt_cm (od_ne hr) (pd_cb cd_len B.len bt_len (da_cons (pd_n 0) da_nil)) (pd_cb cd_len B.len bt_len (da_cons (pd_n 1) da_nil))) (sds_one (sd_ret pd_bl)) sds_nil)
    (sds_cons (sd_for (di_range B.range (pd_cb cd_len B.len bt_len (da_cons (pd_n 1) da_nil))) (dg_n (i := 2) S.nd) (sds_one (sd_if (pt_no (pt_v (pd_f (hj := hle) q__law_same hr (da_cons (pd_ix (pd_n 0) (pd_n 2)) (da_cons (pd_ix (pd_n 1) (pd_n 2)) da_nil))))) (sds_one (sd_ret pd_bl)) sds_nil)))
    (sds_one (sd_ret pd_bl))))))))))
abbrev s__law_value : Stmt := topS 36
abbrev N__law_value : List Str := ["state", "pick", "start", "step", "j"]
theorem S__law_value : FnScope N__law_value ["state"] (defScope s__law_value) := ⟨rfl, rfl, rfl, by decide +kernel, rfl, by decide +kernel, by decide +kernel⟩
def m__law_value (a : Addr) : DS :=
    (sSeq (sSet 1 (dSt a 0 F__law_next (dCons (dC (.int 12)) dNil)))
    (sSeq (sIf (dT (dOp (gB ltD) (dN 1) (dC (.int 5)))) (sRet (dOp gIx (dLst (dCons (dC (.int 0)) (dCons (dC (.int 1)) (dCons (dC (.int 2)) (dCons (dUn gNeg (dC (.int 1))) (dCons (dC (.int 7)) dNil)))))) (dN 1))) sNx)
    (sSeq (sIf (dT (dOp (gB eqD) (dN 1) (dC (.int 5)))) (sRet (dOp (gI CMul (· * ·)) (dOp (gI0 (· - ·)) (dC (.int 1)) (dOp (gI CMul (· * ·)) (dC (.int 2)) (dSt a 0 F__law_next (dCons (dC (.int 2)) dNil)))) (dOp (gI0 (· - ·)) (dOp (gI CPow fun i j => i ^ j.toNat) (dC (.int 10)) (dC (.int 9))) (dSt a 0 F__law_next (dCons (dC (.int 3)) dNil))))) sNx)
    (sSeq (sIf (dT (dOp (gB eqD) (dN 1) (dC (.int 6)))) (sRet (dOp (gI0 (· - ·)) (dSt a 0 F__law_next (dCons (dOp gAdd (dOp (gI CMul (· * ·)) (dC (.int 2)) (dOp (gI CPow fun i j => i ^ j.toNat) (dC (.int 10)) (dC (.int 9)))) (dC (.int 1))) dNil)) (dOp (gI CPow fun i j => i ^ j.toNat) (dC (.int 10)) (dC (.int 9))))) sNx)
    (sSeq (sIf (dT (dOp (gB ltD) (dN 1) (dC (.int 10)))) (sRet (dOp gIx (dLst (dCons (dC (.str (Str.ofString ""))) (dCons (dC (.str (Str.ofString "a"))) (dCons (dC (.str (Str.ofString "ab"))) (dCons (dC (.str (Str.ofString "z~ 9!#"))) dNil))))) (dOp gAdd (dOp (gI0 (· - ·)) (dN 1) (dC (.int 7))) (dOp (gI CMul (· * ·)) (dCall (g1 gInt) (dCons (dOp (gB eqD) (dSt a 0 F__law_next (dCons (dC (.int 9)) dNil)) (dC (.int 0))) dNil)) (dOp gAdd (dOp (gI0 (· - ·)) (dC (.int 9)) (dN 1)) (dC (.int 1))))))) sNx)
    (sSeq (sSet 2 (dSt a 0 F__law_next (dCons (dC (.int 94)) dNil)))
    (sSeq (sSet 3 (dSt a 0 F__law_next (dCons (dC (.int 94)) dNil)))
    (sRet (dM1 gJoin (dC (.str (Str.ofString ""))) (dLc (dIr (dSt a 0 F__law_next (dCons (dC (.int 7)) dNil))) 4 dYes (dOp gIx (fun _ P => F__law_characters [] P) (dOp (gI (fun _ j => 0 < j) (· % ·)) (dOp gAdd (dN 2) (dOp (gI CMul (· * ·)) (dN 3) (dN 4))) (dC (.int 94))))))))))))))
theorem b__law_value {f : Addr} (B : Blt mg) (q__law_next : Sfn P wd K mg base 1 "_law_next" F__law_next) (q__law_characters : Fnc P wd K mg base 1 "_law_characters" F__law_characters) (a l : Addr) (ns : List Int) (cdv : Value) (A : Around) (outer : List Env) (s : Shared) (H : Hp) (E : XK) (hr : Room 1 (A.deeper (envOfC "_law_value" (defScope s__law_value) s.heap.objs.size f cdv))) :
  PDSs (wst a l ns) (cxOf CX0 P wd K mg base N__law_value "_law_value" (defScope s__law_value) f cdv A outer s H E).nox (defBody s__law_value) (m__law_value a) :=
    have S := S__law_value
    (sds_cons (sd_set (i := 1) S.nd (pd_s q__law_next hr (pv 0) (da_cons pd_int da_nil)))
    (sds_cons (sd_if (pt_cm (od_lt hr) (pd_n 1) pd_int) (sds_one (sd_ret (pd_ix (pd_lst (da_cons pd_int (da_cons pd_int (da_cons pd_int (da_cons (pd_neg pd_int) (da_cons pd_int da_nil)))))) (pd_n 1)))) sds_nil)
    (sds_cons (sd_if (pt_cm (od_eq hr) (pd_n 1) pd_int) (sds_one (sd_ret (pd_op od_mul (pd_op od_sub pd_int (pd_op od_mul pd_int (pd_s q__law_next hr (pv 0) (da_cons pd_int da_nil)))) (pd_op od_sub (pd_op od_pow pd_int pd_int) (pd_s q__law_next hr (pv 0) (da_cons pd_int da_nil)))))) sds_nil)
    (sds_cons (sd_if (pt_cm (od_eq hr) (pd_n 1) pd_int) (sds_one (sd_ret (pd_op od_sub (pd_s q__law_next hr (pv 0) (da_cons (pd_op od_add (pd_op od_mul pd_int (pd_op od_pow pd_int pd_int)) pd_int) da_nil)) (pd_op od_pow pd_int pd_int)))) sds_nil)
    (sds_cons (sd_if (pt_cm (od_lt hr) (pd_n 1) pd_int) (sds_one (sd_ret (pd_ix (pd_lst (da_cons pd_str (da_cons pd_str (da_cons pd_str (da_cons pd_str da_nil))))) (pd_op od_add (pd_op od_sub (pd_n 1) pd_int) (pd_op od_mul (pd_ct cd_int B.int bt_int (da_cons (pd_cmp (od_eq hr) (pd_s q__law_next hr (pv 0) (da_cons pd_int da_nil)) pd_int) da_nil)) (pd_op od_add (pd_op od_sub pd_int (pd_n 1)) pd_int)))))) sds_nil)
    (sds_cons (sd_set (i := 2) S.nd (pd_s q__law_next hr (pv 0) (da_cons pd_int da_nil)))
    (sds_cons (sd_set (i := 3) S.nd (pd_s q__law_next hr (pv 0) (da_cons pd_int da_nil)))
    (sds_one (sd_ret (pd_join pd_str (pd_lc (x := "j") (j := 4) S.nd (blkOk_by (N := N__law_value) (sc := defScope s__law_value) (by decide +kernel)) (di_range B.range (pd_s q__law_next hr (pv 0) (da_cons pd_int da_nil))) (fun _ _ _ _ _ => pg_name (i := 4) S.nd rfl (Or.inl rfl)) (fun _ _ _ _ _ => dts_nil) (fun _ _ _ _ _ => (pd_ix (pd_f0 q__law_characters hr) (pd_op od_mod (pd_op od_add (pd_n 2) (pd_op od_mul (pd_n 3) (pd_n 4))) pd_int))))))))))))))
abbrev s__law_characters : Stmt := topS 37
abbrev N__law_characters : List Str := []
theorem S__law_characters : FnScope N__law_characters [] (defScope s__law_characters) := ⟨rfl, rfl, rfl, by decide +kernel, rfl, by decide +kernel, by decide +kernel⟩
def m__law_characters : DS :=
    (sRet (dC (.str (Str.ofString " !\"#$&'()*+,-./0123456789:;<=>?@ABCDEFGHIJKLMNOPQRSTUVWXYZ[\\]^_`abcdefghijklmnopqrstuvwxyz{|}~"))))
theorem b__law_characters {f : Addr} (B : Blt mg) (cdv : Value) (A : Around) (outer : List Env) (s : Shared) (H : Hp) (E : XK) (hr : Room 0 (A.deeper (envOfC "_law_characters" (defScope s__law_characters) s.heap.objs.size f cdv))) :
  PDSs Wd.zero (cxOf CX0 P wd K mg base N__law_characters "_law_characters" (defScope s__law_characters) f cdv A outer s H E).nox (defBody s__law_characters) (m__law_characters) :=
    have S := S__law_characters
    (sds_one (sd_ret pd_str))
abbrev s__law_bytes : Stmt := topS 38
abbrev N__law_bytes : List Str := ["values", "data", "value", "chars", "number", "five", "k", "each"]
theorem S__law_bytes : FnScope N__law_bytes ["values"] (defScope s__law_bytes) := ⟨rfl, rfl, rfl, by decide +kernel, rfl, by decide +kernel, by decide +kernel⟩
def m__law_bytes : DS :=
    (sSeq (sSet 1 (dLst dNil))
    (sSeq (sFor (dIt (dN 0)) (tN 2) (sIf (dT (dIsi .str (dN 2))) (sSeq (sSet 3 (fun _ P => F__law_characters [] P))
    (sSet 1 (dOp gAdd (dOp gAdd (dOp gAdd (dN 1) (dLst (dCons (dC (.int 2)) dNil))) (dLc (dIs (dN 2)) 7 dYes (dOp gAdd (dOp gAdd (dC (.int 32)) (dM1 gSix (dN 3) (dN 7))) (dCall (g1 gInt) (dCons (dOp (gB gtD) (dM1 gSix (dN 3) (dN 7)) (dC (.int 4))) dNil))))) (dLst (dCons (dC (.int 0)) dNil))))) (sSeq (sSet 4 (dOp gAdd (dN 2) (dC (.int 549755813888))))
    (sSeq (sSet 5 (dLst dNil))
    (sSeq (sFor (dIr (dC (.int 5))) (tN 6) (sSeq (sSet 5 (dOp gAdd (dLst (dCons (dOp (gI (fun _ j => 0 < j) (· % ·)) (dCall (g1 gInt) (dCons (dN 4) dNil)) (dC (.int 256))) dNil)) (dN 5)))
    (sSet 4 (dOp (gI CDivW (· / ·)) (dN 4) (dC (.int 256))))))
    (sSet 1 (dOp gAdd (dOp gAdd (dN 1) (dLst (dCons (dC (.int 1)) dNil))) (dN 5))))))))
    (sRet (dCall (g1 gTuple) (dCons (dN 1) dNil)))))
theorem b__law_bytes {f : Addr} (B : Blt mg) (q__law_characters : Fnc P wd K mg base 1 "_law_characters" F__law_characters) (cdv : Value) (A : Around) (outer : List Env) (s : Shared) (H : Hp) (E : XK) (hr : Room 1 (A.deeper (envOfC "_law_bytes" (defScope s__law_bytes) s.heap.objs.size f cdv))) :
  PDSs Wd.zero (cxOf CX0 P wd K mg base N__law_bytes "_law_bytes" (defScope s__law_bytes) f cdv A outer s H E).nox (defBody s__law_bytes) (m__law_bytes) :=
    have S := S__law_bytes
    (sds_cons (sd_set (i := 1) S.nd (pd_lst da_nil))
    (sds_cons (sd_for (di_tup (pd_n 0)) (dg_n (i := 2) S.nd) (sds_one (sd_if (pt_v (pd_isi .str B.isinstance B.str bt_str (pd_n 2))) (sds_cons (sd_set (i := 3) S.nd (pd_f0 q__law_characters hr))
    (sds_one (sd_set (i := 1) S.nd (pd_op od_add (pd_op od_add (pd_op od_add (pd_n 1) (pd_lst (da_cons pd_int da_nil))) (pd_lc (x := "each") (j := 7) S.nd (blkOk_by (N := N__law_bytes) (sc := defScope s__law_bytes) (by decide +kernel)) (di_str (pd_n 2)) (fun _ _ _ _ _ => pg_name (i := 7) S.nd rfl (Or.inl rfl)) (fun _ _ _ _ _ => dts_nil) (fun _ _ _ _ _ => (pd_op od_add (pd_op od_add pd_int (pd_six (pd_n 3) (pd_n 7))) (pd_ct cd_int B.int bt_int (da_cons (pd_cmp (od_gt hr) (pd_six (pd_n 3) (pd_n 7)) pd_int) da_nil)))))) (pd_lst (da_cons pd_int da_nil)))))) (sds_cons (sd_set (i := 4) S.nd (pd_op od_add (pd_n 2) pd_int))
    (sds_cons (sd_set (i := 5) S.nd (pd_lst da_nil))
    (sds_cons (sd_for (di_range B.range pd_int) (dg_n (i := 6) S.nd) (sds_cons (sd_set (i := 5) S.nd (pd_op od_add (pd_lst (da_cons (pd_op od_mod (pd_ct cd_int B.int bt_int (da_cons (pd_n 4) da_nil)) pd_int) da_nil)) (pd_n 5)))
    (sds_one (sd_set (i := 4) S.nd (pd_op od_div (pd_n 4) pd_int)))))
    (sds_one (sd_set (i := 1) S.nd (pd_op od_add (pd_op od_add (pd_n 1) (pd_lst (da_cons pd_int da_nil))) (pd_n 5))))))))))
    (sds_one (sd_ret (pd_ct cd_tuple B.tuple bt_tuple (da_cons (pd_n 1) da_nil))))))
abbrev s__law_page_bytes : Stmt := topS 39
abbrev N__law_page_bytes : List Str := ["page", "data", "key", "what", "value"]
theorem S__law_page_bytes : FnScope N__law_page_bytes ["page"] (defScope s__law_page_bytes) := ⟨rfl, rfl, rfl, by decide +kernel, rfl, by decide +kernel, by decide +kernel⟩
def m__law_page_bytes : DS :=
    (sSeq (sSet 1 (dLst (dCons (dCall (g1 gInt) (dCons (dOp (gB eqD) (dOp gIx (dN 0) (dC (.int 0))) (dC (.str (Str.ofString "inner")))) dNil)) (dCons (dCall (g1 gLen) (dCons (dOp gIx (dN 0) (dC (.int 1))) dNil)) dNil))))
    (sSeq (sFor (dIq (dOp gIx (dN 0) (dC (.int 1)))) (tT [2, 3]) (sIf (dT (dOp (gB eqD) (dOp gIx (dN 0) (dC (.int 0))) (dC (.str (Str.ofString "inner"))))) (sSet 1 (dOp gAdd (dOp gAdd (dN 1) (dLst (dCons (dOp (gI CDivW (· / ·)) (dN 3) (dC (.int 256))) (dCons (dOp (gI (fun _ j => 0 < j) (· % ·)) (dN 3) (dC (.int 256))) (dCons (dCall (g1 gLen) (dCons (dN 2) dNil)) dNil))))) (dCall (g1 gList) (dCons (dN 2) dNil)))) (sSeq (sSet 4 (dCall (g1 gList) (dCons (dCall F__law_bytes (dCons (dN 3) dNil)) dNil)))
    (sSet 1 (dOp gAdd (dOp gAdd (dOp gAdd (dOp gAdd (dN 1) (dLst (dCons (dCall (g1 gLen) (dCons (dN 2) dNil)) dNil))) (dCall (g1 gList) (dCons (dN 2) dNil))) (dLst (dCons (dCall (g1 gLen) (dCons (dN 4) dNil)) dNil))) (dN 4))))))
    (sSeq (sIf (dT (dOp (gB gtD) (dCall (g1 gLen) (dCons (dN 1) dNil)) (dC (.int 256)))) (sRet (dC .none)) sNx)
    (sRet (dOp gAdd (dN 1) (dOp gRep (dLst (dCons (dC (.int 0)) dNil)) (dOp (gI0 (· - ·)) (dC (.int 256)) (dCall (g1 gLen) (dCons (dN 1) dNil)))))))))
theorem b__law_page_bytes {f : Addr} (B : Blt mg) (q__law_bytes : Fnc P wd K mg base 2 "_law_bytes" F__law_bytes) (cdv : Value) (A : Around) (outer : List Env) (s : Shared) (H : Hp) (E : XK) (hr : Room 2 (A.deeper (envOfC "_law_page_bytes" (defScope s__law_page_bytes) s.heap.objs.size f cdv))) :
  PDSs Wd.zero (cxOf CX0 P wd K mg base N__law_page_bytes "_law_page_bytes" (defScope s__law_page_bytes) f cdv A outer s H E).nox (defBody s__law_page_bytes) (m__law_page_bytes) :=
    have S := S__law_page_bytes
    (sds_cons (sd_set (i := 1) S.nd (pd_lst (da_cons (pd_ct cd_int B.int bt_int (da_cons (pd_cmp (od_eq hr) (pd_ix (pd_n 0) pd_int) pd_str) da_nil)) (da_cons (pd_cb cd_len B.len bt_len (da_cons (pd_ix (pd_n 0) pd_int) da_nil)) da_nil))))
    (sds_cons (sd_for (di_seq (pd_ix (pd_n 0) pd_int)) (dg_t (is := [2, 3]) (dgs_n (i := 2) S.nd (dgs_n (i := 3) S.nd dgs_nil))) (sds_one (sd_if (pt_cm (od_eq hr) (pd_ix (pd_n 0) pd_int) pd_str) (sds_one (sd_set (i := 1) S.nd (pd_op od_add (pd_op od_add (pd_n 1) (pd_lst (da_cons (pd_op od_div (pd_n 3) pd_int) (da_cons (pd_op od_mod (pd_n 3) pd_int) (da_cons (pd_cb cd_len B.len bt_len (da_cons (pd_n 2) da_nil)) da_nil))))) (pd_ct cd_list B.list bt_list (da_cons (pd_n 2) da_nil))))) (sds_cons (sd_set (i := 4) S.nd (pd_ct cd_list B.list bt_list (da_cons (pd_f q__law_bytes hr (da_cons (pd_n 3) da_nil)) da_nil)))
    (sds_one (sd_set (i := 1) S.nd (pd_op od_add (pd_op od_add (pd_op od_add (pd_op od_add (pd_n 1) (pd_lst (da_cons (pd_cb cd_len B.len bt_len (da_cons (pd_n 2) da_nil)) da_nil))) (pd_ct cd_list B.list bt_list (da_cons (pd_n 2) da_nil))) (pd_lst (da_cons (pd_cb cd_len B.len bt_len (da_cons (pd_n 4) da_nil)) da_nil))) (pd_n 4))))))))
    (sds_cons (sd_if (pt_cm (od_gt hr) (pd_cb cd_len B.len bt_len (da_cons (pd_n 1) da_nil)) pd_int) (sds_one (sd_ret pd_non)) sds_nil)
    (sds_one (sd_ret (pd_op od_add (pd_n 1) (pd_op od_rep (pd_lst (da_cons pd_int da_nil)) (pd_op od_sub pd_int (pd_cb cd_len B.len bt_len (da_cons (pd_n 1) da_nil))))))))))
abbrev s__law_values : Stmt := topS 40
abbrev N__law_values : List Str := ["data", "values", "at", "turn", "number", "byte", "end", "signs", "code"]
theorem S__law_values : FnScope N__law_values ["data"] (defScope s__law_values) := ⟨rfl, rfl, rfl, by decide +kernel, rfl, by decide +kernel, by decide +kernel⟩
def m__law_values : DS :=
    (sSeq (sSetN 1 dNil)
    (sSeq (sSet 2 (dC (.int 0)))
    (sSeq (sFor (dIr (dC (.int 256))) (tN 3) (sSeq (sIf (dT (dOp (gB eqD) (dN 2) (dCall (g1 gLen) (dCons (dN 0) dNil)))) (sRet (dCall (g1 gTuple) (dCons (dN 1) dNil))) sNx)
    (sIf (dAnd (dT (dOp (gB eqD) (dOp gIx (dN 0) (dN 2)) (dC (.int 1)))) (dT (dOp gLe (dOp gAdd (dN 2) (dC (.int 6))) (dCall (g1 gLen) (dCons (dN 0) dNil))))) (sSeq (sSet 4 (dC (.int 0)))
    (sSeq (sFor (dIt (dSl (dN 0) (dSo (dOp gAdd (dN 2) (dC (.int 1)))) (dSo (dOp gAdd (dN 2) (dC (.int 6)))))) (tN 5) (sSet 4 (dOp gAdd (dOp (gI CMul (· * ·)) (dC (.int 256)) (dN 4)) (dN 5))))
    (sSeq (sSet 4 (dOp (gI0 (· - ·)) (dN 4) (dC (.int 549755813888))))
    (sSeq (sIf (dNot (dT (dCh gLe gLe (dUn gNeg (dOp (gI CPow fun i j => i ^ j.toNat) (dC (.int 10)) (dC (.int 9)))) (dN 4) (dOp (gI CPow fun i j => i ^ j.toNat) (dC (.int 10)) (dC (.int 9)))))) (sRet (dC .none)) sNx)
    (sSeq (sApp 1 (dN 4))
    (sAug 2 (dC (.int 6)))))))) (sIf (dAnd (dT (dOp (gB eqD) (dOp gIx (dN 0) (dN 2)) (dC (.int 2)))) (dT (dOp (gB inD) (dC (.int 0)) (dSl (dN 0) (dSo (dOp gAdd (dN 2) (dC (.int 1)))) (dSo (dOp gAdd (dN 2) (dC (.int 8)))))))) (sSeq (sSet 6 (dOp gAdd (dOp gAdd (dN 2) (dC (.int 1))) (dLix (dCall (g1 gList) (dCons (dSl (dN 0) (dSo (dOp gAdd (dN 2) (dC (.int 1)))) (dSo (dOp gAdd (dN 2) (dC (.int 8))))) dNil)) (dC (.int 0)))))
    (sSeq (sSet 7 (dSl (dN 0) (dSo (dOp gAdd (dN 2) (dC (.int 1)))) (dSo (dN 6))))
    (sSeq (sIf (dT (dOp (gB neD) (dLc (dIt (dN 7)) 8 (dOr (dNot (dT (dCh gLe gLe (dC (.int 32)) (dN 8) (dC (.int 126))))) (dT (dOp (gB eqD) (dN 8) (dC (.int 37))))) (dN 8)) (dLst dNil))) (sRet (dC .none)) sNx)
    (sSeq (sApp 1 (dM1 gJoin (dC (.str (Str.ofString ""))) (dLc (dIt (dN 7)) 8 dYes (dOp gIx (fun _ P => F__law_characters [] P) (dOp (gI0 (· - ·)) (dOp (gI0 (· - ·)) (dN 8) (dC (.int 32))) (dCall (g1 gInt) (dCons (dOp (gB gtD) (dN 8) (dC (.int 37))) dNil)))))))
    (sSet 2 (dOp gAdd (dN 6) (dC (.int 1)))))))) (sRet (dC .none))))))
    (sRet (dC .none)))))
theorem b__law_values {f : Addr} (B : Blt mg) (q__law_characters : Fnc P wd K mg base 1 "_law_characters" F__law_characters) (cdv : Value) (A : Around) (outer : List Env) (s : Shared) (H : Hp) (E : XK) (hr : Room 1 (A.deeper (envOfC "_law_values" (defScope s__law_values) s.heap.objs.size f cdv))) :
  PDSs Wd.zero (cxOf CX0 P wd K mg base N__law_values "_law_values" (defScope s__law_values) f cdv A outer s H E).nox (defBody s__law_values) (m__law_values) :=
    have S := S__law_values
    (sds_cons (sd_setN (i := 1) S.nd (pn_lst da_nil))
    (sds_cons (sd_set (i := 2) S.nd pd_int)
    (sds_cons (sd_for (di_range B.range pd_int) (dg_n (i := 3) S.nd) (sds_cons (sd_if (pt_cm (od_eq hr) (pd_n 2) (pd_cb cd_len B.len bt_len (da_cons (pd_n 0) da_nil))) (sds_one (sd_ret (pd_ct cd_tuple B.tuple bt_tuple (da_cons (pd_n 1) da_nil)))) sds_nil)
    (sds_one (sd_if (PDW.t (pw_a (pt_cm (od_eq hr) (pd_ix (pd_n 0) (pd_n 2)) pd_int) (pw_a1 (pt_cm (od_le hr) (pd_op od_add (pd_n 2) pd_int) (pd_cb cd_len B.len bt_len (da_cons (pd_n 0) da_nil)))))) (sds_cons (sd_set (i := 4) S.nd pd_int)
    (sds_cons (sd_for (di_tup (pd_sl (pd_n 0) (do_so (pd_op od_add (pd_n 2) pd_int)) (do_so (pd_op od_add (pd_n 2) pd_int)))) (dg_n (i := 5) S.nd) (sds_one (sd_set (i := 4) S.nd (pd_op od_add (pd_op od_mul pd_int (pd_n 4)) (pd_n 5)))))
    (sds_cons (sd_set (i := 4) S.nd (pd_op od_sub (pd_n 4) pd_int))
    (sds_cons (sd_if (pt_no (pt_ch (od_le hr) (od_le hr) (pd_neg (pd_op od_pow pd_int pd_int)) (pd_n 4) (pd_op od_pow pd_int pd_int))) (sds_one (sd_ret pd_non)) sds_nil)
    (sds_cons (sd_app (i := 1) (pv 1) (pd_n 4))
    (sds_one (sd_aug (i := 2) S.nd pd_int))))))) (sds_one (sd_if (PDW.t (pw_a (pt_cm (od_eq hr) (pd_ix (pd_n 0) (pd_n 2)) pd_int) (pw_a1 (pt_cm od_in pd_int (pd_sl (pd_n 0) (do_so (pd_op od_add (pd_n 2) pd_int)) (do_so (pd_op od_add (pd_n 2) pd_int))))))) (sds_cons (sd_set (i := 6) S.nd (pd_op od_add (pd_op od_add (pd_n 2) pd_int) (pd_lix (pd_ct cd_list B.list bt_list (da_cons (pd_sl (pd_n 0) (do_so (pd_op od_add (pd_n 2) pd_int)) (do_so (pd_op od_add (pd_n 2) pd_int))) da_nil)) pd_int)))
    (sds_cons (sd_set (i := 7) S.nd (pd_sl (pd_n 0) (do_so (pd_op od_add (pd_n 2) pd_int)) (do_so (pd_n 6))))
    (sds_cons (sd_if (pt_cm (od_ne hr) (pd_lc (x := "code") (j := 8) S.nd (blkOk_by (N := N__law_values) (sc := defScope s__law_values) (by decide +kernel)) (di_tup (pd_n 7)) (fun _ _ _ _ _ => pg_name (i := 8) S.nd rfl (Or.inl rfl)) (fun _ _ _ _ _ => dts_one (PDW.t (pw_o (pt_no (pt_ch (od_le hr) (od_le hr) pd_int (pd_n 8) pd_int)) (pw_o1 (pt_cm (od_eq hr) (pd_n 8) pd_int))))) (fun _ _ _ _ _ => (pd_n 8))) (pd_lst da_nil)) (sds_one (sd_ret pd_non)) sds_nil)
    (sds_cons (sd_app (i := 1) (pv 1) (pd_join pd_str (pd_lc (x := "code") (j := 8) S.nd (blkOk_by (N := N__law_values) (sc := defScope s__law_values) (by decide +kernel)) (di_tup (pd_n 7)) (fun _ _ _ _ _ => pg_name (i := 8) S.nd rfl (Or.inl rfl)) (fun _ _ _ _ _ => dts_nil) (fun _ _ _ _ _ => (pd_ix (pd_f0 q__law_characters hr) (pd_op od_sub (pd_op od_sub (pd_n 8) pd_int) (pd_ct cd_int B.int bt_int (da_cons (pd_cmp (od_gt hr) (pd_n 8) pd_int) da_nil))))))))
    (sds_one (sd_set (i := 2) S.nd (pd_op od_add (pd_n 6) pd_int))))))) (sds_one (sd_ret pd_non))))))))
    (sds_one (sd_ret pd_non)))))
abbrev s__law_read : Stmt := topS 41
abbrev N__law_read : List Str := ["data", "at", "parts", "k", "number", "key", "byte"]
theorem S__law_read : FnScope N__law_read ["data"] (defScope s__law_read) := ⟨rfl, rfl, rfl, by decide +kernel, rfl, by decide +kernel, by decide +kernel⟩
def m__law_read : DS :=
    (sSeq (sIf (dOr (dT (dOp (gB neD) (dCall (g1 gLen) (dCons (dN 0) dNil)) (dC (.int 256)))) (dT (dOp (gB gtD) (dOp gIx (dN 0) (dC (.int 0))) (dC (.int 1))))) (sRet (dC .none)) sNx)
    (sSeq (sSet 1 (dC (.int 2)))
    (sSeq (sSetN 2 dNil)
    (sSeq (sFor (dIr (dOp gIx (dN 0) (dC (.int 1)))) (tN 3) (sSeq (sSet 4 (dC (.int 0)))
    (sSeq (sIf (dT (dOp (gB eqD) (dOp gIx (dN 0) (dC (.int 0))) (dC (.int 1)))) (sSeq (sSet 4 (dOp gAdd (dOp (gI CMul (· * ·)) (dC (.int 256)) (dOp gIx (dOp gAdd (dN 0) (dLst (dCons (dC (.int 0)) (dCons (dC (.int 0)) dNil)))) (dN 1))) (dOp gIx (dOp gAdd (dN 0) (dLst (dCons (dC (.int 0)) (dCons (dC (.int 0)) dNil)))) (dOp gAdd (dN 1) (dC (.int 1))))))
    (sAug 1 (dC (.int 2)))) sNx)
    (sSeq (sIf (dOr (dT (dOp gGe (dN 1) (dC (.int 256)))) (dT (dOp (gB gtD) (dOp gAdd (dOp gAdd (dN 1) (dC (.int 1))) (dOp gIx (dN 0) (dN 1))) (dC (.int 256))))) (sRet (dC .none)) sNx)
    (sSeq (sSet 5 (dCall (g1 gTuple) (dCons (dSl (dN 0) (dSo (dOp gAdd (dN 1) (dC (.int 1)))) (dSo (dOp gAdd (dOp gAdd (dN 1) (dC (.int 1))) (dOp gIx (dN 0) (dN 1))))) dNil)))
    (sSeq (sAug 1 (dOp gAdd (dC (.int 1)) (dOp gIx (dN 0) (dN 1))))
    (sIf (dT (dOp (gB eqD) (dOp gIx (dN 0) (dC (.int 0))) (dC (.int 1)))) (sApp 2 (dTup (dCons (dN 5) (dCons (dN 4) dNil)))) (sSeq (sIf (dOr (dT (dOp gGe (dN 1) (dC (.int 256)))) (dT (dOp (gB gtD) (dOp gAdd (dOp gAdd (dN 1) (dC (.int 1))) (dOp gIx (dN 0) (dN 1))) (dC (.int 256))))) (sRet (dC .none)) sNx)
    (sSeq (sApp 2 (dTup (dCons (dN 5) (dCons (dCall F__law_values (dCons (dCall (g1 gTuple) (dCons (dSl (dN 0) (dSo (dOp gAdd (dN 1) (dC (.int 1)))) (dSo (dOp gAdd (dOp gAdd (dN 1) (dC (.int 1))) (dOp gIx (dN 0) (dN 1))))) dNil)) dNil)) dNil))))
    (sSeq (sAug 1 (dOp gAdd (dC (.int 1)) (dOp gIx (dN 0) (dN 1))))
    (sIf (dT (dOp gIsN (dOp gIx (dOp gIx (dN 2) (dUn gNeg (dC (.int 1)))) (dC (.int 1))) (dC .none))) (sRet (dC .none)) sNx)))))))))))
    (sSeq (sIf (dOr (dAnd (dT (dOp (gB eqD) (dOp gIx (dN 0) (dC (.int 0))) (dC (.int 1)))) (dAnd (dT (dOp (gB neD) (dN 2) (dLst dNil))) (dT (dOp (gB neD) (dOp gIx (dOp gIx (dN 2) (dC (.int 0))) (dC (.int 0))) (dTup dNil))))) (dT (dOp (gB neD) (dLc (dIl (dSl (dN 0) (dSo (dN 1)) dNo)) 6 (dT (dOp (gB neD) (dN 6) (dC (.int 0)))) (dN 6)) (dLst dNil)))) (sRet (dC .none)) sNx)
    (sRet (dTup (dCons (dOp gIx (dLst (dCons (dC (.str (Str.ofString "leaf"))) (dCons (dC (.str (Str.ofString "inner"))) dNil))) (dOp gIx (dN 0) (dC (.int 0)))) (dCons (dCall (g1 gTuple) (dCons (dN 2) dNil)) dNil)))))))))
theorem b__law_read {f : Addr} (B : Blt mg) (q__law_values : Fnc P wd K mg base 2 "_law_values" F__law_values) (cdv : Value) (A : Around) (outer : List Env) (s : Shared) (H : Hp) (E : XK) (hr : Room 2 (A.deeper (envOfC "_law_read" (defScope s__law_read) s.heap.objs.size f cdv))) :
  PDSs Wd.zero (cxOf CX0 P wd K mg base N__law_read "_law_read" (defScope s__law_read) f cdv A outer s H E).nox (defBody s__law_read) (m__law_read) :=
    have S := S__law_read
    (sds_cons (sd_if (PDW.t (pw_o (pt_cm (od_ne hr) (pd_cb cd_len B.len bt_len (da_cons (pd_n 0) da_nil)) pd_int) (pw_o1 (pt_cm (od_gt hr) (pd_ix (pd_n 0) pd_int) pd_int)))) (sds_one (sd_ret pd_non)) sds_nil)
    (sds_cons (sd_set (i := 1) S.nd pd_int)
    (sds_cons (sd_setN (i := 2) S.nd (pn_lst da_nil))
    (sds_cons (sd_for (di_range B.range (pd_ix (pd_n 0) pd_int)) (dg_n (i := 3) S.nd) (sds_cons (sd_set (i := 4) S.nd pd_int)
    (sds_cons (sd_if (pt_cm (od_eq hr) (pd_ix (pd_n 0) pd_int) pd_int) (sds_cons (sd_set (i := 4) S.nd (pd_op od_add (pd_op od_mul pd_int (pd_ix (pd_op od_add (pd_n 0) (pd_lst (da_cons pd_int (da_cons pd_int da_nil)))) (pd_n 1))) (pd_ix (pd_op od_add (pd_n 0) (pd_lst (da_cons pd_int (da_cons pd_int da_nil)))) (pd_op od_add (pd_n 1) pd_int))))
    (sds_one (sd_aug (i := 1) S.nd pd_int))) sds_nil)
    (sds_cons (sd_if (PDW.t (pw_o (pt_cm od_ge (pd_n 1) pd_int) (pw_o1 (pt_cm (od_gt hr) (pd_op od_add (pd_op od_add (pd_n 1) pd_int) (pd_ix (pd_n 0) (pd_n 1))) pd_int)))) (sds_one (sd_ret pd_non)) sds_nil)
    (sds_cons (sd_set (i := 5) S.nd (pd_ct cd_tuple B.tuple bt_tuple (da_cons (pd_sl (pd_n 0) (do_so (pd_op od_add (pd_n 1) pd_int)) (do_so (pd_op od_add (pd_op od_add (pd_n 1) pd_int) (pd_ix (pd_n 0) (pd_n 1))))) da_nil)))
    (sds_cons (sd_aug (i := 1) S.nd (pd_op od_add pd_int (pd_ix (pd_n 0) (pd_n 1))))
    (sds_one (sd_if (pt_cm (od_eq hr) (pd_ix (pd_n 0) pd_int) pd_int) (sds_one (sd_app (i := 2) (pv 2) (pd_tup (da_cons (pd_n 5) (da_cons (pd_n 4) da_nil))))) (sds_cons (sd_if (PDW.t (pw_o (pt_cm od_ge (pd_n 1) pd_int) (pw_o1 (pt_cm (od_gt hr) (pd_op od_add (pd_op od_add (pd_n 1) pd_int) (pd_ix (pd_n 0) (pd_n 1))) pd_int)))) (sds_one (sd_ret pd_non)) sds_nil)
    (sds_cons (sd_app (i := 2) (pv 2) (pd_tup (da_cons (pd_n 5) (da_cons (pd_f q__law_values hr (da_cons (pd_ct cd_tuple B.tuple bt_tuple (da_cons (pd_sl (pd_n 0) (do_so (pd_op od_add (pd_n 1) pd_int)) (do_so (pd_op od_add (pd_op od_add (pd_n 1) pd_int) (pd_ix (pd_n 0) (pd_n 1))))) da_nil)) da_nil)) da_nil))))
    (sds_cons (sd_aug (i := 1) S.nd (pd_op od_add pd_int (pd_ix (pd_n 0) (pd_n 1))))
    (sds_one (sd_if (pt_cm od_isN (pd_ix (pd_ix (pd_n 2) (pd_neg pd_int)) pd_int) pd_non) (sds_one (sd_ret pd_non)) sds_nil)))))))))))))
    (sds_cons (sd_if (PDW.t (pw_o (PDW.t (pw_a (pt_cm (od_eq hr) (pd_ix (pd_n 0) pd_int) pd_int) (pw_a (pt_cm (od_ne hr) (pd_n 2) (pd_lst da_nil)) (pw_a1 (pt_cm (od_ne hr) (pd_ix (pd_ix (pd_n 2) pd_int) pd_int) (pd_tup da_nil)))))) (pw_o1 (pt_cm (od_ne hr) (pd_lc (x := "byte") (j := 6) S.nd (blkOk_by (N := N__law_read) (sc := defScope s__law_read) (by decide +kernel)) (di_list (pd_sl (pd_n 0) (do_so (pd_n 1)) do_no)) (fun _ _ _ _ _ => pg_name (i := 6) S.nd rfl (Or.inl rfl)) (fun _ _ _ _ _ => dts_one (pt_cm (od_ne hr) (pd_n 6) pd_int)) (fun _ _ _ _ _ => (pd_n 6))) (pd_lst da_nil))))) (sds_one (sd_ret pd_non)) sds_nil)
    (sds_one (sd_ret (pd_tup (da_cons (pd_ix (pd_lst (da_cons pd_str (da_cons pd_str da_nil))) (pd_ix (pd_n 0) pd_int)) (da_cons (pd_ct cd_tuple B.tuple bt_tuple (da_cons (pd_n 2) da_nil)) da_nil))))))))))
abbrev s__law_told : Stmt := topS 42
abbrev N__law_told : List Str := ["data", "passed", "page", "e"]
theorem S__law_told : FnScope N__law_told ["data"] (defScope s__law_told) := ⟨rfl, rfl, rfl, by decide +kernel, rfl, by decide +kernel, by decide +kernel⟩
def m__law_told : DS :=
    (sSeq (sSet 1 (dCall (g1 gList) (dCons (dN 0) dNil)))
    (sSeq (sTry (ctOne "DamagedData") 3 (sSetX 2 (dCallX F_read_page (dCons (dN 1) dNil))) (fun _ ea => (sRet (dLst (dCons (dAndV (dOp (gB eqD) (dN 1) (dN 0)) (dAndV (dIsE 3 ea true) (dIsE 3 ea true))) (dCons (dC .none) dNil))))))
    (sRet (dLst (dCons (dOp (gB eqD) (dN 1) (dN 0)) (dCons (dN 2) dNil))))))
theorem b__law_told {f : Addr} (B : Blt mg) (EF : ErF K mg) (q_read_page : FncX P wd K mg base 6 "read_page" F_read_page) (cdv : Value) (A : Around) (outer : List Env) (s : Shared) (H : Hp) (E : XK) (hr : Room 6 (A.deeper (envOfC "_law_told" (defScope s__law_told) s.heap.objs.size f cdv))) :
  PDSs Wd.zero (cxOf CX0 P wd K mg base N__law_told "_law_told" (defScope s__law_told) f cdv A outer s H E).nox (defBody s__law_told) (m__law_told) :=
    have S := S__law_told
    (sds_cons (sd_set (i := 1) S.nd (pd_ct cd_list B.list bt_list (da_cons (pd_n 0) da_nil)))
    (sds_cons (sd_try (x := "AnswerError") (n := "e") (i := 3) S.nd ⟨rfl, by decide, .inl EF.g_AnswerError⟩ takes0 EF.ct_AnswerError (fun W pn xe tk pa => (sds_one (sd_setX (i := 2) S.nd (pdx_f q_read_page tk hr (da_cons (pd_n 1) da_nil))))) (fun y hy ea oe pn hz hf => by obtain ⟨rfl, _⟩ := ctOne_eq hy; exact (sds_one (sd_ret (pd_lst (da_cons (pd_and (pd_cmp (od_eqU hr.units) (pd_n 1) (pd_n 0)) (pd_and (pd_isE (y := "DamagedData") EF.isx hz hf B.isinstance (pv 3) (hx := EF.g_DamagedData) (hk := EF.k_DamagedData)) (pd_one (pd_isET (y := "DamagedData") EF.isx hz hf B.isinstance (pv 3) EF.ve bt_ValueError EF.kve)))) (da_cons pd_non da_nil)))))))
    (sds_one (sd_ret (pd_lst (da_cons (pd_cmp (od_eq hr) (pd_n 1) (pd_n 0)) (da_cons (pd_n 2) da_nil)))))))
abbrev s__law_tried : Stmt := topS 43
abbrev N__law_tried : List Str := ["data", "due", "right", "page"]
theorem S__law_tried : FnScope N__law_tried ["data"] (defScope s__law_tried) := ⟨rfl, rfl, rfl, by decide +kernel, rfl, by decide +kernel, by decide +kernel⟩
def m__law_tried : DS :=
    (sSeq (sSet 1 (dCall F__law_read40 (dCons (dN 0) dNil)))
    (sSeq (sAsg (dCall F__law_told (dCons (dN 0) dNil)) (tL [2, 3]))
    (sSeq (sIf (dOr (dNot (dT (dN 2))) (dNot (dT (dCall F__law_same (dCons (dN 3) (dCons (dN 1) dNil)))))) (sRet (dC (.bool false))) sNx)
    (sRet (dOrV (dOp gIsN (dN 1) (dC .none)) (dCall F__law_same (dCons (dCall F_write_page (dCons (dN 3) dNil)) (dCons (dN 0) dNil))))))))
theorem b__law_tried {f : Addr} (B : Blt mg) (q__law_read : Fnc P wd K mg base 3 "_law_read" F__law_read40) (q__law_told : Fnc P wd K mg base 7 "_law_told" F__law_told) (q__law_same : Fnc P wd K mg base 5 "_law_same" F__law_same) (q_write_page : Fnc P wd K mg base 4 "write_page" F_write_page) (cdv : Value) (A : Around) (outer : List Env) (s : Shared) (H : Hp) (E : XK) (hr : Room 7 (A.deeper (envOfC "_law_tried" (defScope s__law_tried) s.heap.objs.size f cdv))) :
  PDSs Wd.zero (cxOf CX0 P wd K mg base N__law_tried "_law_tried" (defScope s__law_tried) f cdv A outer s H E).nox (defBody s__law_tried) (m__law_tried) :=
    have S := S__law_tried
    (sds_cons (sd_set (i := 1) S.nd (pd_f q__law_read hr (da_cons (pd_n 0) da_nil)))
    (sds_cons (sd_asg (pd_f q__law_told hr (da_cons (pd_n 0) da_nil)) (dg_l (is := [2, 3]) (dgs_n (i := 2) S.nd (dgs_n (i := 3) S.nd dgs_nil))))
    (sds_cons (sd_if (PDW.t (pw_o (pt_no (pt_v (pd_n 2))) (pw_o1 (pt_no (pt_v (pd_f q__law_same hr (da_cons (pd_n 3) (da_cons (pd_n 1) da_nil)))))))) (sds_one (sd_ret pd_bl)) sds_nil)
    (sds_one (sd_ret (pd_or (pd_cmp od_isN (pd_n 1) pd_non) (pd_one (pd_f q__law_same hr (da_cons (pd_f q_write_page hr (da_cons (pd_n 3) da_nil)) (da_cons (pd_n 0) da_nil))))))))))
abbrev s__law_key : Stmt := topS 44
abbrev N__law_key : List Str := ["state", "start", "step", "j"]
theorem S__law_key : FnScope N__law_key ["state"] (defScope s__law_key) := ⟨rfl, rfl, rfl, by decide +kernel, rfl, by decide +kernel, by decide +kernel⟩
def m__law_key (a : Addr) : DS :=
    (sSeq (sIf (dT (dOp (gB eqD) (dSt a 0 F__law_next (dCons (dC (.int 2)) dNil)) (dC (.int 0)))) (sRet (dCall F__law_bytes (dCons (dCall (g1 gTuple) (dCons (dLc (dIr (dSt a 0 F__law_next (dCons (dC (.int 5)) dNil))) 3 dYes (dSt a 0 F__law_value dNil)) dNil)) dNil))) sNx)
    (sSeq (sSet 1 (dSt a 0 F__law_next (dCons (dC (.int 256)) dNil)))
    (sSeq (sSet 2 (dSt a 0 F__law_next (dCons (dC (.int 256)) dNil)))
    (sRet (dCall (g1 gTuple) (dCons (dLc (dIr (dSt a 0 F__law_next (dCons (dOp gIx (dLst (dCons (dC (.int 9)) (dCons (dC (.int 101)) dNil))) (dSt a 0 F__law_next (dCons (dC (.int 2)) dNil))) dNil))) 3 dYes (dOp (gI (fun _ j => 0 < j) (· % ·)) (dOp gAdd (dN 1) (dOp (gI CMul (· * ·)) (dN 2) (dN 3))) (dC (.int 256)))) dNil))))))
theorem b__law_key {f : Addr} (B : Blt mg) (q__law_next : Sfn P wd K mg base 1 "_law_next" F__law_next) (q__law_bytes : Fnc P wd K mg base 2 "_law_bytes" F__law_bytes) (q__law_value : Sfn P wd K mg base 2 "_law_value" F__law_value) (a l : Addr) (ns : List Int) (cdv : Value) (A : Around) (outer : List Env) (s : Shared) (H : Hp) (E : XK) (hr : Room 2 (A.deeper (envOfC "_law_key" (defScope s__law_key) s.heap.objs.size f cdv))) :
  PDSs (wst a l ns) (cxOf CX0 P wd K mg base N__law_key "_law_key" (defScope s__law_key) f cdv A outer s H E).nox (defBody s__law_key) (m__law_key a) :=
    have S := S__law_key
    (sds_cons (sd_if (pt_cm (od_eq hr) (pd_s q__law_next hr (pv 0) (da_cons pd_int da_nil)) pd_int) (sds_one (sd_ret (pd_f q__law_bytes hr (da_cons (pd_ct cd_tuple B.tuple bt_tuple (da_cons (pd_lc (x := "j") (j := 3) S.nd (blkOk_by (N := N__law_key) (sc := defScope s__law_key) (by decide +kernel)) (di_range B.range (pd_s q__law_next hr (pv 0) (da_cons pd_int da_nil))) (fun _ _ _ _ _ => pg_name (i := 3) S.nd rfl (Or.inl rfl)) (fun _ _ _ _ _ => dts_nil) (fun _ _ _ _ _ => (pd_s q__law_value hr (pv 0) da_nil))) da_nil)) da_nil)))) sds_nil)
    (sds_cons (sd_set (i := 1) S.nd (pd_s q__law_next hr (pv 0) (da_cons pd_int da_nil)))
    (sds_cons (sd_set (i := 2) S.nd (pd_s q__law_next hr (pv 0) (da_cons pd_int da_nil)))
    (sds_one (sd_ret (pd_ct cd_tuple B.tuple bt_tuple (da_cons (pd_lc (x := "j") (j := 3) S.nd (blkOk_by (N := N__law_key) (sc := defScope s__law_key) (by decide +kernel)) (di_range B.range (pd_s q__law_next hr (pv 0) (da_cons (pd_ix (pd_lst (da_cons pd_int (da_cons pd_int da_nil))) (pd_s q__law_next hr (pv 0) (da_cons pd_int da_nil))) da_nil))) (fun _ _ _ _ _ => pg_name (i := 3) S.nd rfl (Or.inl rfl)) (fun _ _ _ _ _ => dts_nil) (fun _ _ _ _ _ => (pd_op od_mod (pd_op od_add (pd_n 1) (pd_op od_mul (pd_n 2) (pd_n 3))) pd_int))) da_nil)))))))
abbrev s__law_page : Stmt := topS 45
abbrev N__law_page : List Str := ["state", "leaf", "parts", "k", "key", "part", "j"]
theorem S__law_page : FnScope N__law_page ["state"] (defScope s__law_page) := ⟨rfl, rfl, rfl, by decide +kernel, rfl, by decide +kernel, by decide +kernel⟩
def m__law_page (a : Addr) : DS :=
    (sSeq (sSet 1 (dOp (gB eqD) (dSt a 0 F__law_next (dCons (dC (.int 2)) dNil)) (dC (.int 0))))
    (sSeq (sSetN 2 dNil)
    (sSeq (sFor (dIr (dSt a 0 F__law_next (dCons (dC (.int 9)) dNil))) (tN 3) (sSeq (sSet 4 (dSt a 0 F__law_key dNil))
    (sSeq (sSet 5 (dTup (dCons (dOp gIx (dLst (dCons (dN 4) (dCons (dTup dNil) dNil))) (dCall (g1 gInt) (dCons (dOp (gB eqD) (dN 3) (dC (.int 0))) dNil))) (dCons (dSt a 0 F__law_next (dCons (dOp gIx (dLst (dCons (dC (.int 300)) (dCons (dC (.int 65536)) dNil))) (dSt a 0 F__law_next (dCons (dC (.int 2)) dNil))) dNil)) dNil))))
    (sSeq (sIf (dT (dN 1)) (sSet 5 (dTup (dCons (dN 4) (dCons (dCall (g1 gTuple) (dCons (dLc (dIr (dSt a 0 F__law_next (dCons (dOp gIx (dLst (dCons (dC (.int 4)) (dCons (dC (.int 13)) dNil))) (dSt a 0 F__law_next (dCons (dC (.int 2)) dNil))) dNil))) 6 dYes (dSt a 0 F__law_value dNil)) dNil)) dNil)))) sNx)
    (sIf (dT (dOp gNotN (dCall F__law_page_bytes40 (dCons (dTup (dCons (dOp gIx (dLst (dCons (dC (.str (Str.ofString "inner"))) (dCons (dC (.str (Str.ofString "leaf"))) dNil))) (dCall (g1 gInt) (dCons (dN 1) dNil))) (dCons (dOp gAdd (dN 2) (dLst (dCons (dN 5) dNil))) dNil))) dNil)) (dC .none))) (sApp 2 (dN 5)) sNx)))))
    (sRet (dTup (dCons (dOp gIx (dLst (dCons (dC (.str (Str.ofString "inner"))) (dCons (dC (.str (Str.ofString "leaf"))) dNil))) (dCall (g1 gInt) (dCons (dN 1) dNil))) (dCons (dCall (g1 gTuple) (dCons (dN 2) dNil)) dNil)))))))
theorem b__law_page {f : Addr} (B : Blt mg) (q__law_next : Sfn P wd K mg base 1 "_law_next" F__law_next) (q__law_key : Sfn P wd K mg base 3 "_law_key" F__law_key) (q__law_value : Sfn P wd K mg base 2 "_law_value" F__law_value) (q__law_page_bytes : Fnc P wd K mg base 3 "_law_page_bytes" F__law_page_bytes40) (a l : Addr) (ns : List Int) (cdv : Value) (A : Around) (outer : List Env) (s : Shared) (H : Hp) (E : XK) (hr : Room 3 (A.deeper (envOfC "_law_page" (defScope s__law_page) s.heap.objs.size f cdv))) :
  PDSs (wst a l ns) (cxOf CX0 P wd K mg base N__law_page "_law_page" (defScope s__law_page) f cdv A outer s H E).nox (defBody s__law_page) (m__law_page a) :=
    have S := S__law_page
    (sds_cons (sd_set (i := 1) S.nd (pd_cmp (od_eq hr) (pd_s q__law_next hr (pv 0) (da_cons pd_int da_nil)) pd_int))
    (sds_cons (sd_setN (i := 2) S.nd (pn_lst da_nil))
    (sds_cons (sd_for (di_range B.range (pd_s q__law_next hr (pv 0) (da_cons pd_int da_nil))) (dg_n (i := 3) S.nd) (sds_cons (sd_set (i := 4) S.nd (pd_s q__law_key hr (pv 0) da_nil))
    (sds_cons (sd_set (i := 5) S.nd (pd_tup (da_cons (pd_ix (pd_lst (da_cons (pd_n 4) (da_cons (pd_tup da_nil) da_nil))) (pd_ct cd_int B.int bt_int (da_cons (pd_cmp (od_eq hr) (pd_n 3) pd_int) da_nil))) (da_cons (pd_s q__law_next hr (pv 0) (da_cons (pd_ix (pd_lst (da_cons pd_int (da_cons pd_int da_nil))) (pd_s q__law_next hr (pv 0) (da_cons pd_int da_nil))) da_nil)) da_nil))))
    (sds_cons (sd_if (pt_v (pd_n 1)) (sds_one (sd_set (i := 5) S.nd (pd_tup (da_cons (pd_n 4) (da_cons (pd_ct cd_tuple B.tuple bt_tuple (da_cons (pd_lc (x := "j") (j := 6) S.nd (blkOk_by (N := N__law_page) (sc := defScope s__law_page) (by decide +kernel)) (di_range B.range (pd_s q__law_next hr (pv 0) (da_cons (pd_ix (pd_lst (da_cons pd_int (da_cons pd_int da_nil))) (pd_s q__law_next hr (pv 0) (da_cons pd_int da_nil))) da_nil))) (fun _ _ _ _ _ => pg_name (i := 6) S.nd rfl (Or.inl rfl)) (fun _ _ _ _ _ => dts_nil) (fun _ _ _ _ _ => (pd_s q__law_value hr (pv 0) da_nil))) da_nil)) da_nil))))) sds_nil)
    (sds_one (sd_if (pt_cm od_notN (pd_f q__law_page_bytes hr (da_cons (pd_tup (da_cons (pd_ix (pd_lst (da_cons pd_str (da_cons pd_str da_nil))) (pd_ct cd_int B.int bt_int (da_cons (pd_n 1) da_nil))) (da_cons (pd_op od_add (pd_n 2) (pd_lst (da_cons (pd_n 5) da_nil))) da_nil))) da_nil)) pd_non) (sds_one (sd_app (i := 2) (pv 2) (pd_n 5))) sds_nil))))))
    (sds_one (sd_ret (pd_tup (da_cons (pd_ix (pd_lst (da_cons pd_str (da_cons pd_str da_nil))) (pd_ct cd_int B.int bt_int (da_cons (pd_n 1) da_nil))) (da_cons (pd_ct cd_tuple B.tuple bt_tuple (da_cons (pd_n 2) da_nil)) da_nil))))))))
abbrev s_law : Stmt := topS 46
abbrev N_law : List Str := ["script", "state", "k", "page", "due", "at", "byte", "data", "drawn", "j"]
theorem S_law : FnScope N_law ["script"] (defScope s_law) := ⟨rfl, rfl, rfl, by decide +kernel, rfl, by decide +kernel, by decide +kernel⟩
def m_law (a : Addr) : DS :=
    (sSeq (sFor (dIr (dC (.int 3))) (tN 2) (sSeq (sSet 3 (dSt a 1 F__law_page40 dNil))
    (sSeq (sSet 4 (dCall F__law_page_bytes40 (dCons (dN 3) dNil)))
    (sSeq (sIf (dOr (dNot (dT (dCall F__law_same (dCons (dCall F_write_page (dCons (dN 3) dNil)) (dCons (dN 4) dNil))))) (dNot (dT (dCall F__law_same (dCons (dCall (noX F_read_page) (dCons (dCall (g1 gList) (dCons (dN 4) dNil)) dNil)) (dCons (dN 3) dNil)))))) (sRet (dC (.bool false))) sNx)
    (sSeq (sSet 5 (dSt a 1 F__law_next (dCons (dOp gIx (dLst (dCons (dC (.int 12)) (dCons (dC (.int 256)) dNil))) (dSt a 1 F__law_next (dCons (dC (.int 2)) dNil))) dNil)))
    (sSeq (sSet 6 (dOp gIx (dLst (dCons (dSt a 1 F__law_next (dCons (dC (.int 256)) dNil)) (dCons (dSt a 1 F__law_next (dCons (dC (.int 4)) dNil)) dNil))) (dSt a 1 F__law_next (dCons (dC (.int 2)) dNil))))
    (sFor (dIl (dLst (dCons (dN 4) (dCons (dOp gAdd (dOp gAdd (dSl (dN 4) dNo (dSo (dN 5))) (dLst (dCons (dN 6) dNil))) (dSl (dN 4) (dSo (dOp gAdd (dN 5) (dC (.int 1)))) dNo)) (dCons (dOp gAdd (dOp gAdd (dSl (dN 4) dNo (dSo (dN 5))) (dSl (dN 4) (dSo (dOp gAdd (dN 5) (dC (.int 1)))) dNo)) (dLst (dCons (dC (.int 0)) dNil))) (dCons (dOp gAdd (dOp gAdd (dSl (dN 4) dNo (dSo (dN 5))) (dLst (dCons (dN 6) dNil))) (dSl (dN 4) (dSo (dN 5)) (dSo (dC (.int 255))))) dNil)))))) (tN 7) (sIf (dNot (dT (dCall F__law_tried (dCons (dN 7) dNil)))) (sRet (dC (.bool false))) sNx))))))))
    (sSeq (sSet 8 (dLc (dIr (dSt a 1 F__law_next (dCons (dC (.int 40)) dNil))) 9 dYes (dOp gIx (dLst (dCons (dSt a 1 F__law_next (dCons (dC (.int 256)) dNil)) (dCons (dSt a 1 F__law_next (dCons (dC (.int 3)) dNil)) dNil))) (dSt a 1 F__law_next (dCons (dC (.int 2)) dNil)))))
    (sRet (dAndV (dCall F__law_tried (dCons (dOp gAdd (dN 8) (dOp gRep (dLst (dCons (dC (.int 0)) dNil)) (dOp (gI0 (· - ·)) (dC (.int 256)) (dCall (g1 gLen) (dCons (dN 8) dNil))))) dNil)) (dCall F__law_tried (dCons (dN 8) dNil))))))
theorem b_law {f : Addr} (B : Blt mg) (q__law_page : Sfn P wd K mg base 4 "_law_page" F__law_page40) (q__law_page_bytes : Fnc P wd K mg base 3 "_law_page_bytes" F__law_page_bytes40) (q__law_same : Fnc P wd K mg base 5 "_law_same" F__law_same) (q_write_page : Fnc P wd K mg base 4 "write_page" F_write_page) (q_read_page : FncX P wd K mg base 6 "read_page" F_read_page) (q__law_next : Sfn P wd K mg base 1 "_law_next" F__law_next) (q__law_tried : Fnc P wd K mg base 8 "_law_tried" F__law_tried) (a l : Addr) (ns : List Int) (cdv : Value) (A : Around) (outer : List Env) (s : Shared) (H : Hp) (E : XK) (hr : Room 8 (A.deeper (envOfC "law" (defScope s_law) s.heap.objs.size f cdv))) :
  PDSs (wst a l ns) (cxOf CX0 P wd K mg base N_law "law" (defScope s_law) f cdv A outer s H E).nox ((defBody s_law).drop 1) (m_law a) :=
    have S := S_law
    (sds_cons (sd_for (di_range B.range pd_int) (dg_n (i := 2) S.nd) (sds_cons (sd_set (i := 3) S.nd (pd_s q__law_page hr (pv 1) da_nil))
    (sds_cons (sd_set (i := 4) S.nd (pd_f q__law_page_bytes hr (da_cons (pd_n 3) da_nil)))
    (sds_cons (sd_if (PDW.t (pw_o (pt_no (pt_v (pd_f q__law_same hr (da_cons (pd_f q_write_page hr (da_cons (pd_n 3) da_nil)) (da_cons (pd_n 4) da_nil))))) (pw_o1 (pt_no (pt_v (pd_f q__law_same hr (da_cons (pd_fx q_read_page hr (da_cons (pd_ct cd_list B.list bt_list (da_cons (pd_n 4) da_nil)) da_nil)) (da_cons (pd_n 3) da_nil)))))))) (sds_one (sd_ret pd_bl)) sds_nil)
    (sds_cons (sd_set (i := 5) S.nd (pd_s q__law_next hr (pv 1) (da_cons (pd_ix (pd_lst (da_cons pd_int (da_cons pd_int da_nil))) (pd_s q__law_next hr (pv 1) (da_cons pd_int da_nil))) da_nil)))
    (sds_cons (sd_set (i := 6) S.nd (pd_ix (pd_lst (da_cons (pd_s q__law_next hr (pv 1) (da_cons pd_int da_nil)) (da_cons (pd_s q__law_next hr (pv 1) (da_cons pd_int da_nil)) da_nil))) (pd_s q__law_next hr (pv 1) (da_cons pd_int da_nil))))
    (sds_one (sd_for (di_list (pd_lst (da_cons (pd_n 4) (da_cons (pd_op od_add (pd_op od_add (pd_sl (pd_n 4) do_no (do_so (pd_n 5))) (pd_lst (da_cons (pd_n 6) da_nil))) (pd_sl (pd_n 4) (do_so (pd_op od_add (pd_n 5) pd_int)) do_no)) (da_cons (pd_op od_add (pd_op od_add (pd_sl (pd_n 4) do_no (do_so (pd_n 5))) (pd_sl (pd_n 4) (do_so (pd_op od_add (pd_n 5) pd_int)) do_no)) (pd_lst (da_cons pd_int da_nil))) (da_cons (pd_op od_add (pd_op od_add (pd_sl (pd_n 4) do_no (do_so (pd_n 5))) (pd_lst (da_cons (pd_n 6) da_nil))) (pd_sl (pd_n 4) (do_so (pd_n 5)) (do_so pd_int))) da_nil)))))) (dg_n (i := 7) S.nd) (sds_one (sd_if (pt_no (pt_v (pd_f q__law_tried hr (da_cons (pd_n 7) da_nil)))) (sds_one (sd_ret pd_bl)) sds_nil))))))))))
    (sds_cons (sd_lc (x := "j") (i := 8) (j := 9) S.nd rfl (blkOk_by (N := N_law) (sc := defScope s_law) (by decide +kernel)) (di_range B.range (pd_s q__law_next hr (pv 1) (da_cons pd_int da_nil))) (fun _ _ _ _ _ => pg_name (i := 9) S.nd rfl (Or.inl rfl)) (fun _ _ _ _ _ => dts_nil) (fun _ _ _ _ _ => (pd_ix (pd_lst (da_cons (pd_s q__law_next hr (pv 1) (da_cons pd_int da_nil)) (da_cons (pd_s q__law_next hr (pv 1) (da_cons pd_int da_nil)) da_nil))) (pd_s q__law_next hr (pv 1) (da_cons pd_int da_nil)))) (sw_true rfl rfl rfl (by decide +kernel)))
    (sds_one (sd_ret (pd_and (pd_f q__law_tried hr (da_cons (pd_op od_add (pd_n 8) (pd_op od_rep (pd_lst (da_cons pd_int da_nil)) (pd_op od_sub pd_int (pd_cb cd_len B.len bt_len (da_cons (pd_n 8) da_nil))))) da_nil)) (pd_one (pd_f q__law_tried hr (da_cons (pd_n 8) da_nil))))))))
end
end Z1

set_option Elab.async false
set_option linter.all false
set_option maxRecDepth 100000
set_option maxHeartbeats 4000000
namespace Z1
open PySem PySem.Spec PyProof.Rows L2 Z
local macro_rules | `(tactic| walk_at "zs") => `(tactic| simp only [sSeq, sIf, sSet, sRet, sNx, sAsg, tN, dOr, dAnd, dNot, dT, dOp, dC, asB, dIf, dCall, dCons, dNil, dTup, dLst, dLc, dIt, dIl, dIs, g1, e_lt, e_gt, e_eq, e_ne, e_le, e_ge, e_add, e_addL, e_addT, e_I0, e_I, e_isN, e_isI, e_isS, e_isB, e_isT, e_isL, e_ixL, e_ixT, e_ixS, e_n0, e_n1, e_n2, e_n3, e_n4, e_n5, e_n6, e_n7, f_nil, f_dat, f_un, f_own, f_adr, rt_ends, nx_ends, List.set_cons_zero, List.set_cons_succ, gLen, gOrd, gTuple, gList, gInt, gNeg, dUn])
local macro_rules | `(tactic| walk_at "zk") => `(tactic| (show _ ∧ _; refine ⟨by first | decide | (simp; done) | omega, ?_⟩))
theorem ch_at : ∀ n : Nat, n < 127 → okC n = true → atI CH.cps.toList ((n : Int) - 32 - (if 37 < (n : Int) then 1 else 0)) = some n := by decide +kernel
theorem h_integer_bytes : ∀ ds Q, F_integer_bytes ds Q → ds.length = 1 ∧ m_integer_bytes (endsD Q) (startD N_integer_bytes ds) := by
  intro ds Q h
  match ds, h with
  | [.int n], ⟨h1, h2⟩ =>
    refine ⟨rfl, ?_⟩
    show m_integer_bytes (endsD Q) [.dat (.int n), .un, .un]
    unfold m_integer_bytes
    walk_at "zs"
    refine comp_map (f := fun d => match d with | .int b => .int (Builtin.bitAnd ((n + 549755813888) / 2 ^ b.toNat) 255) | _ => .none) (fun x hx Q' hq => ?_) (by decide) ⟨by simp, ?_⟩
    · simp only [List.mem_cons, List.not_mem_nil, or_false] at hx
      rcases hx with rfl | rfl | rfl | rfl | rfl <;> (walk_at "zs"; exact ⟨by decide, hq⟩)
    · refine mv (Q := Q) h2 ?_
      simp only [iD, bytesV, be5, List.map_cons, List.map_nil, bitAnd_m8]
      have e0 : (n + 549755813888) / 2 ^ Int.toNat 0 = n + 549755813888 := by
        rw [show Int.toNat 0 = 0 from rfl, Int.pow_zero, Int.ediv_one]
      rw [e0]
      rfl
theorem chars_ok {z : Str} {x : DD} (hx : x ∈ chars z) : ∃ c ∈ z.cps.toList, x = .str ⟨#[c]⟩ := by
  unfold chars at hx
  obtain ⟨c, hc, e⟩ := List.mem_map.mp hx
  exact ⟨c, hc, e.symm⟩
theorem h_text_bytes : ∀ ds Q, F_text_bytes ds Q → ds.length = 1 ∧ m_text_bytes (endsD Q) (startD N_text_bytes ds) := by
  intro ds Q h
  match ds, h with
  | [.str z], ⟨h1, h2⟩ =>
    refine ⟨rfl, ?_⟩
    show m_text_bytes (endsD Q) [.dat (.str z), .un]
    unfold m_text_bytes
    have hl : (chars z).length ≤ 6 := by
      simp only [okV, Bool.and_eq_true, decide_eq_true_eq] at h1
      simp [chars, h1.1]
    walk_at "zs"
    refine comp_map (f := fun d => match d with | .str w => .int (w.cps.getD 0 0 : Nat) | _ => .none) (fun x hx Q' hq => ?_) (by simp; omega) ⟨?_, ?_, ?_⟩
    · obtain ⟨c, _, rfl⟩ := chars_ok hx
      walk_at "zs"
      exact ⟨rfl, hq⟩
    · simp; omega
    · simp; omega
    · refine mv (Q := Q) h2 ?_
      simp [iD, bytesV, chars, List.map_map, Function.comp_def]
theorem loop_key (all : List DD) (Q : DD → Prop) : ∀ (vs : List DD) (acc : List Int) (e : Ent), vs.all okV = true → acc.length + 8 * vs.length ≤ 10000 → Q (tD (acc ++ keyI vs)) →
    loop (tN 2) (sExt 1 (dIf (dT (dIsi .str (dN 2))) (dCall F_text_bytes (dCons (dN 2) dNil)) (dCall F_integer_bytes (dCons (dN 2) dNil))))
      ⟨fun ρ' => sRet (dCall (g1 gTuple) (dCons (dN 1) dNil)) (endsD Q) ρ', Q, fun _ => False, fun _ => False, fun _ _ => False⟩ vs [.dat (.tuple all), .own (iD acc), e]
  | [], acc, e, _, _, h => by
    show sRet (dCall (g1 gTuple) (dCons (dN 1) dNil)) (endsD Q) [.dat (.tuple all), .own (iD acc), e]
    rw [keyI, List.flatMap_nil, List.append_nil] at h
    cases e <;> exact h
  | v :: vs, acc, e, hv, hl, h => by
    rw [List.all_cons, Bool.and_eq_true] at hv
    rw [List.length_cons] at hl
    have bl : (bytesV v).length ≤ 8 := by
      cases v with
      | int n => exact Nat.le_of_lt (by decide : 6 < 8)
      | str z =>
        have h1 := hv.1
        simp only [okV, Bool.and_eq_true, decide_eq_true_eq] at h1
        simp [bytesV, h1.1]
      | _ => exact Nat.zero_le _
    have ih := loop_key all Q vs (acc ++ bytesV v) (.dat v) hv.2 (by rw [List.length_append]; omega) (by rw [List.append_assoc]; exact h)
    have fin : ∀ es, es = iD (bytesV v) → ((iD acc).length + es.length ≤ 1000000 ∧ loop (tN 2) (sExt 1 (dIf (dT (dIsi .str (dN 2))) (dCall F_text_bytes (dCons (dN 2) dNil)) (dCall F_integer_bytes (dCons (dN 2) dNil))))
      ⟨fun ρ' => sRet (dCall (g1 gTuple) (dCons (dN 1) dNil)) (endsD Q) ρ', Q, fun _ => False, fun _ => False, fun _ _ => False⟩ vs [.dat (.tuple all), .own (iD acc ++ es), .dat v]) := by
      rintro es rfl
      refine ⟨by simp only [iD, List.length_map]; omega, ?_⟩
      have e1 : iD acc ++ iD (bytesV v) = iD (acc ++ bytesV v) := by simp [iD]
      rw [e1]; exact ih
    cases v with
    | int n => exact ⟨hv.1, fin _ rfl⟩
    | str z => exact ⟨hv.1, fin _ rfl⟩
    | _ => simp [okV] at hv
theorem h_key_of : ∀ ds Q, F_key_of ds Q → ds.length = 1 ∧ m_key_of (endsD Q) (startD N_key_of ds) := by
  intro ds Q h
  match ds, h with
  | [.tuple vs], ⟨h1, h2⟩ =>
    refine ⟨rfl, ?_⟩
    show loop _ _ _ vs [.dat (.tuple vs), .own (iD []), .un]
    exact loop_key vs Q vs [] .un h1.2 (by rw [List.length_nil]; omega) h2
theorem h_character_of : ∀ ds Q, F_character_of ds Q → ds.length = 1 ∧ m_character_of (endsD Q) (startD N_character_of ds) := by
  intro ds Q h
  match ds, h with
  | [.int c], h =>
    refine ⟨rfl, ?_⟩
    show m_character_of (endsD Q) [.dat (.int c), .un]
    have hq : Q (chD c) := h
    unfold chD at hq
    unfold m_character_of
    walk_at "zs"
    by_cases h0 : 32 ≤ c ∧ c ≤ 126 ∧ c ≠ 37
    · rw [if_pos h0] at hq
      have a1 : decide (c < 32) = false := by simp; omega
      have a2 : decide (126 < c) = false := by simp; omega
      have a3 : (c == 37) = false := by simp; omega
      rw [a1, a2, a3]
      simp only [Bool.false_eq_true, if_false]
      have hc := ch_at c.toNat (by omega) (by simp only [okC, decide_eq_true_eq]; omega)
      have ec : ((c.toNat : Nat) : Int) = c := by omega
      rw [ec] at hc
      by_cases h7 : 37 < c
      · rw [if_pos h7] at hc
        have a4 : decide (37 < c) = true := by simp; omega
        rw [a4]
        simp only [if_true]
        refine ⟨by decide +kernel, ?_⟩
        rw [hc]; exact hq
      · rw [if_neg h7] at hc
        have a4 : decide (37 < c) = false := by simp; omega
        rw [a4]
        simp only [Bool.false_eq_true, if_false]
        refine ⟨by decide +kernel, ?_⟩
        rw [hc]; exact hq
    · rw [if_neg h0] at hq
      by_cases b1 : c < 32
      · rw [decide_eq_true b1]; simp only [if_true]; exact hq
      · rw [decide_eq_false b1]
        by_cases b2 : 126 < c
        · rw [decide_eq_true b2]; simp only [Bool.false_eq_true, if_false, if_true]; exact hq
        · rw [decide_eq_false b2]
          have b3 : c = 37 := by omega
          subst b3
          simp only [Bool.false_eq_true, if_false, beq_self_eq_true, if_true]; exact hq
theorem eqv_none : ∀ d : DD, PyData.eqv d .none = match d with | .none => true | _ => false := by
  intro d; cases d <;> rfl
theorem chD_flat (c : Int) : flatD (chD c) = true := by unfold chD; split <;> rfl
theorem any_none : ∀ cs : List Int, ((cs.map chD).any fun z => PyData.eqv z .none) = !(cs.all fun c => decide (32 ≤ c ∧ c ≤ 126 ∧ c ≠ 37))
  | [] => rfl
  | c :: cs => by
    rw [List.map_cons, List.any_cons, List.all_cons, any_none cs, eqv_none]
    unfold chD
    by_cases h : 32 ≤ c ∧ c ≤ 126 ∧ c ≠ 37
    · rw [if_pos h, decide_eq_true h]; simp
    · rw [if_neg h, decide_eq_false h]; simp
theorem strs_of : ∀ cs : List Int, (cs.all fun c => decide (32 ≤ c ∧ c ≤ 126 ∧ c ≠ 37)) = true → strsD (cs.map chD) = some (cs.map fun c => (⟨#[c.toNat]⟩ : Str))
  | [], _ => rfl
  | c :: cs, h => by
    rw [List.all_cons, Bool.and_eq_true, decide_eq_true_eq] at h
    rw [List.map_cons, chD, if_pos h.1, strsD, strs_of cs h.2]
    rfl
theorem app_l (x y : Str) : (x ++ y).cps.toList = x.cps.toList ++ y.cps.toList := by
  show (x.cps ++ y.cps).toList = _
  simp
theorem join_l : ∀ cs : List Nat, (Str.join ⟨#[]⟩ (cs.map fun c => (⟨#[c]⟩ : Str))).cps.toList = cs
  | [] => rfl
  | [c] => rfl
  | c :: d :: r => by
    show ((⟨#[c]⟩ : Str) ++ ⟨#[]⟩ ++ Str.join ⟨#[]⟩ ((d :: r).map fun c => (⟨#[c]⟩ : Str))).cps.toList = _
    rw [app_l, app_l, join_l (d :: r)]
    rfl
theorem str_ext {x y : Str} (h : x.cps.toList = y.cps.toList) : x = y := by
  cases x; cases y
  simp only at h
  congr
  exact Array.toList_inj.mp h
theorem join_ch (cs : List Nat) : Txt.join ⟨#[]⟩ (cs.map fun c => (⟨#[c]⟩ : Str)) = ⟨cs.toArray⟩ := by
  rw [TL.join_eq]
  exact str_ext (by rw [join_l])
theorem sum_one (cs : List Int) : ((cs.map fun c => (⟨#[c.toNat]⟩ : Str)).map (·.length)).sum = cs.length := by
  induction cs with
  | nil => rfl
  | cons c cs ih =>
    rw [List.map_cons, List.map_cons, List.sum_cons, ih, List.length_cons]
    show 1 + cs.length = _
    omega
theorem iD_in {cs : List Int} {x : DD} (h : x ∈ iD cs) : ∃ c ∈ cs, x = .int c := by
  unfold iD at h
  obtain ⟨c, hc, e⟩ := List.mem_map.mp h
  exact ⟨c, hc, e.symm⟩
def chOf : DD → DD
  | .int c => chD c
  | _ => .none
theorem chOf_map (cs : List Int) : (iD cs).map chOf = cs.map chD := by simp [iD, chOf, Function.comp_def]
theorem h_text_of : ∀ ds Q, F_text_of ds Q → ds.length = 1 ∧ m_text_of (endsD Q) (startD N_text_of ds) := by
  intro ds Q h
  match ds, h with
  | [.tuple es], ⟨cs, he, h1, h2⟩ =>
    subst he
    refine ⟨rfl, ?_⟩
    show m_text_of (endsD Q) [.dat (.tuple (iD cs)), .un, .un]
    unfold m_text_of
    walk_at "zs"
    refine comp_map (f := chOf) (fun x hx Q' hq => ?_) (by simp only [iD, List.length_nil, List.length_map]; omega) ?_
    · obtain ⟨c, _, rfl⟩ := iD_in hx
      exact hq
    · rw [chOf_map, List.nil_append]
      walk_at "zs"
      have e1 : inD PyData.none (.list (cs.map chD)) = some (!(cs.all fun c => decide (32 ≤ c ∧ c ≤ 126 ∧ c ≠ 37))) := by
        unfold inD
        simp only [seqOf]
        rw [if_pos ⟨rfl, by simp only [List.all_map, List.all_eq_true, Function.comp_def]; intro c _; exact chD_flat c⟩, any_none]
      have e2 : ∀ P, gB inD PyData.none (.list (cs.map chD)) P = P (.bool (!(cs.all fun c => decide (32 ≤ c ∧ c ≤ 126 ∧ c ≠ 37)))) := fun P => by
        simp only [gB, e1]
      rw [e2]
      unfold textD at h2
      rw [List.length_map]
      by_cases l6 : cs.length ≤ 6
      · have a1 : decide (6 < (cs.length : Int)) = false := by simp; omega
        rw [a1]
        simp only [Bool.false_eq_true, if_false]
        cases hc : cs.all fun c => decide (32 ≤ c ∧ c ≤ 126 ∧ c ≠ 37) with
        | false =>
          rw [hc, if_neg (by simp)] at h2
          exact h2
        | true =>
          rw [hc, if_pos ⟨l6, rfl⟩] at h2
          simp only [Bool.not_true, Bool.false_eq_true, if_false]
          show gJoin (.str (Str.ofString "")) (.list (cs.map chD)) Q
          simp only [gJoin]
          rw [strs_of cs hc]
          show _ ∧ _
          refine ⟨by rw [sum_one, List.length_map]; show cs.length + cs.length * 0 ≤ _; omega, ?_⟩
          have e3 : Txt.join (Str.ofString "") (cs.map fun c => (⟨#[c.toNat]⟩ : Str)) = ⟨(cs.map Int.toNat).toArray⟩ := by
            have := join_ch (cs.map Int.toNat)
            rw [List.map_map] at this
            exact this
          rw [e3]
          exact h2
      · rw [if_neg (fun z => l6 z.1)] at h2
        have a1 : decide (6 < (cs.length : Int)) = true := by simp; omega
        rw [a1]
        simp only [if_true]
        exact h2
theorem fold_val : ∀ (cs : List Int) (ρ0 : Ent) (a : Int) (e2 e3 : Ent) (k : En → Prop) (Q : DD → Prop), (∀ e, k [ρ0, .dat (.int (cs.foldl (fun a d => a * 256 + d) a)), e, e3]) → (∀ c ∈ cs, 0 ≤ c ∧ c ≤ 255) → (0 ≤ a ∧ a * 256 ^ cs.length + 256 ^ cs.length < 256 ^ 7) →
    loop (tN 2) (sSet 1 (dOp gAdd (dOp (gI CMul (· * ·)) (dN 1) (dC (.int 256))) (dN 2))) ⟨k, Q, fun _ => False, fun _ => False, fun _ _ => False⟩ (iD cs) [ρ0, .dat (.int a), e2, e3]
  | [], ρ0, a, e2, e3, k, Q, h, _, _ => h e2
  | c :: cs, ρ0, a, e2, e3, k, Q, h, hb, ha => by
    have hc := hb c List.mem_cons_self
    have ih := fold_val cs ρ0 (a * 256 + c) (.dat (.int c)) e3 k Q h (fun d hd => hb d (List.mem_cons_of_mem _ hd)) (by
      have e : (256 : Int) ^ (c :: cs).length = 256 ^ cs.length * 256 := by rw [List.length_cons, Int.pow_succ]
      rw [e] at ha
      have p : (0 : Int) < 256 ^ cs.length := Int.pow_pos (by decide)
      refine ⟨by omega, ?_⟩
      have m1 : c * 256 ^ cs.length ≤ 255 * 256 ^ cs.length := Int.mul_le_mul_of_nonneg_right hc.2 (Int.le_of_lt p)
      have e2 : (a * 256 + c) * 256 ^ cs.length = a * (256 ^ cs.length * 256) + c * 256 ^ cs.length := by
        rw [Int.add_mul, Int.mul_assoc, Int.mul_comm 256]
      rw [e2]
      omega)
    exact ⟨.inr ⟨by decide, by decide⟩, ih⟩
theorem best_min : ∀ (ns : List Int) (n : Int), (∀ c ∈ n :: ns, 0 ≤ c ∧ c ≤ 255) → 0 ≤ bestI false n ns ∧ bestI false n ns ≤ 255
  | [], n, h => h n List.mem_cons_self
  | m :: ns, n, h => by
    show 0 ≤ bestI false (if m < n then m else n) ns ∧ bestI false (if m < n then m else n) ns ≤ 255
    refine best_min ns _ fun c hc => ?_
    rcases List.mem_cons.mp hc with rfl | hc
    · split
      · exact h m (by simp)
      · exact h n (by simp)
    · exact h c (by simp [hc])
theorem best_max : ∀ (ns : List Int) (n : Int), (∀ c ∈ n :: ns, 0 ≤ c ∧ c ≤ 255) → 0 ≤ bestI true n ns ∧ bestI true n ns ≤ 255
  | [], n, h => h n List.mem_cons_self
  | m :: ns, n, h => by
    show 0 ≤ bestI true (if n < m then m else n) ns ∧ bestI true (if n < m then m else n) ns ≤ 255
    refine best_max ns _ fun c hc => ?_
    rcases List.mem_cons.mp hc with rfl | hc
    · split
      · exact h m (by simp)
      · exact h n (by simp)
    · exact h c (by simp [hc])
theorem e_ch (a b c : Int) (P : DD → Prop) : gLe (.int a) (.int b) (asB fun t => if t = true then gLe (.int b) (.int c) P else P (.bool false)) = P (.bool (decide (a ≤ b) && decide (b ≤ c))) := by
  rw [e_le]
  simp only [asB]
  cases decide (a ≤ b) with
  | true => rw [if_pos rfl, e_le]; rfl
  | false => rw [if_neg Bool.false_ne_true]; rfl
theorem h_integer_of : ∀ ds Q, F_integer_of ds Q → ds.length = 1 ∧ m_integer_of (endsD Q) (startD N_integer_of ds) := by
  intro ds Q h
  match ds, h with
  | [.tuple es], ⟨cs, he, h1, hb, h2⟩ =>
    subst he
    refine ⟨rfl, ?_⟩
    have hb' : ∀ c ∈ cs, 0 ≤ c ∧ c ≤ 255 := fun c hc => by simpa [isB] using List.all_eq_true.mp hb c hc
    show m_integer_of (endsD Q) [.dat (.tuple (iD cs)), .un, .un, .un]
    unfold m_integer_of
    walk_at "zs"
    have hl : (iD cs).length = cs.length := by simp [iD]
    rw [hl]
    unfold intB at h2
    by_cases l5 : cs.length < 5
    · rw [if_pos l5] at h2
      have a1 : decide ((cs.length : Int) < 5) = true := by simp; omega
      rw [a1]
      simp only [if_true]
      exact h2
    · rw [if_neg l5] at h2
      have a1 : decide ((cs.length : Int) < 5) = false := by simp; omega
      rw [a1]
      simp only [Bool.false_eq_true, if_false]
      cases cs with
      | nil => exact absurd (by decide) l5
      | cons n ns =>
        have m1 : ∀ b P, gM1 b (.tuple (iD (n :: ns))) P = P (.int (bestI b n ns)) := fun b P => by
          simp only [gM1, seqOf, iD, intsD_map]
        rw [m1]
        walk_at "zs"
        have b1 := best_min ns n hb'
        have a2 : decide (bestI false n ns < 0) = false := by simp; omega
        rw [a2]
        simp only [Bool.false_eq_true, if_false]
        rw [m1]
        walk_at "zs"
        have b2 := best_max ns n hb'
        have a3 : decide (255 < bestI true n ns) = false := by simp; omega
        rw [a3]
        simp only [Bool.false_eq_true, if_false]
        unfold sFor
        walk_at "zs"
        refine fold_val (n :: ns) _ 0 _ _ _ _ (fun e => ?_) hb' ⟨Int.le_refl 0, ?_⟩
        · show gLe (.int (-1000000000)) (.int (val5 (n :: ns) - 549755813888)) (asB fun t => if t = true then gLe (.int (val5 (n :: ns) - 549755813888)) (.int 1000000000) (asB fun c => if c = true then Q (.int (val5 (n :: ns) - 549755813888)) else Q .none) else (asB fun c => if c = true then Q (.int (val5 (n :: ns) - 549755813888)) else Q .none) (.bool false))
          rw [e_ch]
          show if (decide (-1000000000 ≤ val5 (n :: ns) - 549755813888) && decide (val5 (n :: ns) - 549755813888 ≤ 1000000000)) = true then _ else _
          by_cases hz : -1000000000 ≤ val5 (n :: ns) - 549755813888 ∧ val5 (n :: ns) - 549755813888 ≤ 1000000000
          · rw [if_pos hz] at h2
            rw [if_pos (by simpa using hz)]; exact h2
          · rw [if_neg hz] at h2
            rw [if_neg (by simpa using hz)]; exact h2
        · have h5 : (n :: ns).length = 5 := by omega
          rw [h5]; decide
theorem sIx_at (n i : Nat) : HT.sIx n 0 (some ((i : Nat) : Int)) = min i n := HT.sIx_nat n 0 i
theorem cut_at (cs : List Int) (a b : Nat) (h : a ≤ cs.length) : cutZ (iD cs) (some (a : Int)) (some (b : Int)) = iD ((cs.drop a).take (b - a)) := by
  unfold cutZ iD
  rw [HT.sIx_nat, HT.sIx_nat, List.length_map, Nat.min_eq_left h, ← List.map_drop, ← List.map_take]
  congr 1
  by_cases hb : b ≤ cs.length
  · rw [Nat.min_eq_left hb]
  · rw [Nat.min_eq_right (by omega)]
    rw [List.take_of_length_le (by rw [List.length_drop]; omega), List.take_of_length_le (by rw [List.length_drop]; omega)]
theorem at_iD {cs : List Int} {j : Nat} (h : j < cs.length) : atI (iD cs) ((j : Nat) : Int) = some (.int cs[j]) := atI_nat (by simp [iD, h])
abbrev scanT : DT := dAnd (dT (dOp (gB ltD) (dN 2) (dCall (g1 gLen) (dCons (dN 0) dNil)))) (dT (dOp (gB neD) (dOp gIx (dN 0) (dN 2)) (dC (.int 0))))
theorem len_iD (cs : List Int) : (iD cs).length = cs.length := by simp [iD]
theorem scan (cs : List Int) (j : Int) (E : DEn) : ∀ (n e : Nat), e ≤ cs.length → cs.length - e < n →
    (∀ e' : Nat, e ≤ e' → e' ≤ cs.length → (∀ m, e ≤ m → m < e' → cs[m]? ≠ some 0) → (e' < cs.length → cs[e']? = some 0) → E.nx [.dat (.tuple (iD cs)), .dat (.int j), .dat (.int (e' : Nat))]) →
    turns scanT (sAug 2 (dC (.int 1))) E n [.dat (.tuple (iD cs)), .dat (.int j), .dat (.int (e : Nat))]
  | 0, e, _, h, _ => absurd h (Nat.not_lt_zero _)
  | n + 1, e, he, hn, k => by
    unfold turns
    show dAnd _ _ [.dat (.tuple (iD cs)), .dat (.int j), .dat (.int (e : Nat))] _
    walk_at "zs"
    rw [len_iD]
    by_cases hlt : e < cs.length
    · rw [decide_eq_true (by omega : (e : Int) < (cs.length : Int))]
      simp only [if_true]
      rw [at_iD hlt]
      show gB neD (.int cs[e]) (.int 0) _
      rw [e_ne]
      by_cases hz : cs[e] = 0
      · have : (!(cs[e] == 0)) = false := by simp [hz]
        rw [this]
        show E.nx _
        refine k e (Nat.le_refl _) he (fun m h1 h2 => absurd h2 (by omega)) fun _ => ?_
        rw [List.getElem?_eq_getElem hlt, hz]
      · have : (!(cs[e] == 0)) = true := by simp [hz]
        rw [this]
        have ih := scan cs j E n (e + 1) hlt (by omega) (fun e' h1 h2 h3 h4 => k e' (by omega) h2 (fun m m1 m2 => by
          rcases Nat.eq_or_lt_of_le m1 with z | z
          · subst z
            rw [List.getElem?_eq_getElem hlt]
            exact fun q => hz (Option.some.inj q)
          · exact h3 m z m2) h4)
        exact ih
    · rw [decide_eq_false (by omega : ¬ (e : Int) < (cs.length : Int))]
      show E.nx _
      exact k e (Nat.le_refl _) he (fun m h1 h2 => absurd h2 (by omega)) fun h => absurd h hlt
theorem isB_all {cs : List Int} (h : cs.all isB = true) (n : Nat) : (cs.take n).all isB = true := List.all_eq_true.mpr fun x hx => List.all_eq_true.mp h x (List.mem_of_mem_take hx)
theorem isB_drop {cs : List Int} (h : cs.all isB = true) (n : Nat) : (cs.drop n).all isB = true := List.all_eq_true.mpr fun x hx => List.all_eq_true.mp h x (List.mem_of_mem_drop hx)
theorem h_value_at : ∀ ds Q, F_value_at ds Q → ds.length = 2 ∧ m_value_at (endsD Q) (startD N_value_at ds) := by
  intro ds Q h
  match ds, h with
  | [.tuple es, .int i], ⟨cs, j, he, hi, h1, hb, hj, h2⟩ =>
    subst he hi
    refine ⟨rfl, ?_⟩
    show m_value_at (endsD Q) [.dat (.tuple (iD cs)), .dat (.int (j : Nat)), .un]
    have hd : cs.drop j = cs[j] :: cs.drop (j + 1) := List.drop_eq_getElem_cons hj
    have c1 : ((j : Nat) : Int) + 1 = ((j + 1 : Nat) : Int) := by omega
    have c6 : ((j : Nat) : Int) + 6 = ((j + 6 : Nat) : Int) := by omega
    have hd2 : (cs.drop (j + 1)).length ≤ 100000 := by rw [List.length_drop]; omega
    unfold m_value_at
    walk_at "zs"
    rw [at_iD hj]
    show gB eqD (.int cs[j]) (.int 1) _
    rw [e_eq]
    by_cases o1 : cs[j] = 1
    · rw [o1] at hd ⊢
      rw [hd] at h2
      show F_integer_of [.tuple (cutZ (iD cs) (some ((j : Int) + 1)) (some ((j : Int) + 6)))] fun x => Q (.tuple [x, .int ((j : Int) + 6)])
      rw [c1, c6, cut_at cs (j + 1) (j + 6) hj, show j + 6 - (j + 1) = 5 by omega]
      refine ⟨_, rfl, by rw [List.length_take]; omega, isB_all (isB_drop hb _) 5, ?_⟩
      exact h2
    · have z1 : (cs[j] == 1) = false := by simpa using o1
      rw [z1]
      simp only [asB, Bool.false_eq_true, if_false]
      show gB eqD (.int cs[j]) (.int 2) _
      rw [e_eq]
      by_cases o2 : cs[j] = 2
      · rw [o2] at hd ⊢
        rw [hd] at h2
        simp only [beq_self_eq_true, if_true]
        unfold sWh
        refine ⟨cs.length + 1, ?_⟩
        show turns scanT (sAug 2 (dC (.int 1))) _ _ [.dat (.tuple (iD cs)), .dat (.int (j : Nat)), .dat (.int ((j : Int) + 1))]
        rw [c1]
        refine scan cs (j : Nat) _ (cs.length + 1) (j + 1) hj (by omega) fun e' e1 e2 e3 e4 => ?_
        walk_at "zs"
        rw [len_iD]
        by_cases hlt : e' < cs.length
        · rw [decide_eq_true (by omega : (e' : Int) < (cs.length : Int))]
          simp only [if_true]
          have hf : (cs.drop (j + 1)).findIdx? (· == 0) = some (e' - (j + 1)) := by
            rw [List.findIdx?_eq_some_iff_getElem]
            refine ⟨by rw [List.length_drop]; omega, ?_, fun m hm => ?_⟩
            · rw [List.getElem_drop]
              have := e4 hlt
              rw [List.getElem?_eq_getElem hlt] at this
              have q := Option.some.inj this
              have ei : j + 1 + (e' - (j + 1)) = e' := by omega
              simp only [ei, q]; rfl
            · rw [List.getElem_drop]
              have := e3 (j + 1 + m) (by omega) (by omega)
              rw [List.getElem?_eq_getElem (by omega)] at this
              simpa using this
          show F_text_of [.tuple (cutZ (iD cs) (some ((j : Int) + 1)) (some ((e' : Nat) : Int)))] fun x => Q (.tuple [x, .int ((e' : Int) + 1)])
          rw [c1, cut_at cs (j + 1) e' hj]
          refine ⟨_, rfl, by rw [List.length_take]; omega, ?_⟩
          have q : first (2 :: cs.drop (j + 1)) = (textD ((cs.drop (j + 1)).take (e' - (j + 1))), e' - (j + 1) + 2) := by
            simp only [first, hf]
          rw [q] at h2
          have ee : ((j + (e' - (j + 1) + 2) : Nat) : Int) = (e' : Int) + 1 := by omega
          simp only [ee] at h2
          exact h2
        · rw [decide_eq_false (by omega : ¬ (e' : Int) < (cs.length : Int))]
          simp only [Bool.false_eq_true, if_false]
          have hf : (cs.drop (j + 1)).findIdx? (· == 0) = none := by
            rw [List.findIdx?_eq_none_iff]
            intro x hx
            obtain ⟨m, hm, rfl⟩ := List.getElem_of_mem hx
            rw [List.length_drop] at hm
            rw [List.getElem_drop]
            have := e3 (j + 1 + m) (by omega) (by omega)
            rw [List.getElem?_eq_getElem (by omega)] at this
            simpa using this
          have q : first (2 :: cs.drop (j + 1)) = (.none, 0) := by
            simp only [first, hf]
          rw [q] at h2
          exact h2
      · have z2 : (cs[j] == 2) = false := by simpa using o2
        rw [z2]
        have q : first (cs.drop j) = (.none, 0) := by
          rw [hd]
          unfold first
          split
          · rename_i h'; exact absurd (List.cons.inj h').1 o1
          · rename_i h'; exact absurd (List.cons.inj h').1 o2
          · rfl
        rw [q] at h2
        exact h2
theorem first_cases (r : List Int) : (first r).1 = .none ∨ ((first r).1 ≠ .none ∧ gIsN (first r).1 .none = fun P => P (.bool false)) := by
  cases h : (first r).1 with
  | none => exact .inl rfl
  | int i => exact .inr ⟨by simp, rfl⟩
  | str i => exact .inr ⟨by simp, rfl⟩
  | bool i => exact .inr ⟨by simp, rfl⟩
  | list i => exact .inr ⟨by simp, rfl⟩
  | tuple i => exact .inr ⟨by simp, rfl⟩
  | dict i => exact .inr ⟨by simp, rfl⟩
theorem intB_dict (l : List Int) (x : List (DD × DD)) : intB l ≠ .dict x := by
  unfold intB; split
  · simp
  · split <;> simp
theorem textD_dict (l : List Int) (x : List (DD × DD)) : textD l ≠ .dict x := by
  unfold textD; split <;> simp
theorem first_pos {r : List Int} (h : (first r).1 ≠ .none) : 0 < (first r).2 := by
  unfold first at h ⊢
  split at h
  · exact Nat.zero_lt_succ _
  · rename_i t
    split at h
    · exact Nat.zero_lt_succ _
    · exact absurd rfl h
  · exact absurd rfl h
theorem decode_none (n : Nat) (r : List Int) (h : r ≠ []) (hz : (first r).1 = .none) : decode (n + 1) r = none := by
  cases r with
  | nil => exact absurd rfl h
  | cons x t =>
    rw [decode]
    cases hf : first (x :: t) with
    | mk v k =>
      rw [hf] at hz
      simp only at hz
      subst hz
      rfl
theorem decode_some (n : Nat) (r : List Int) (h : r ≠ []) (hz : (first r).1 ≠ .none) : decode (n + 1) r = (decode n (r.drop (first r).2)).map ((first r).1 :: ·) := by
  cases r with
  | nil => exact absurd rfl h
  | cons x t =>
    rw [decode]
    cases hf : first (x :: t) with
    | mk v k =>
      rw [hf] at hz
      simp only at hz
      cases v <;> first | rfl | exact absurd rfl hz
abbrev valB : DS := sSeq (sAsg (dCall F_value_at (dCons (dN 0) (dCons (dN 2) dNil))) (tT [3, 2])) (sSeq (sIf (dT (dOp gIsN (dN 3) (dC .none))) (sRet (dC .none)) sNx) (sApp 1 (dN 3)))
theorem val_loop (cs : List Int) (hb : cs.all isB = true) (h1 : cs.length ≤ 100000) (Q : DD → Prop) : ∀ (n j : Nat) (acc : List DD) (e : Ent), acc.length ≤ j → (cs.drop j).length ≤ n →
    (match decode n (cs.drop j) with | some vs => Q (.tuple (acc ++ vs)) | none => Q .none) →
    turns (dT (dOp (gB ltD) (dN 2) (dCall (g1 gLen) (dCons (dN 0) dNil)))) valB ⟨fun ρ' => sRet (dCall (g1 gTuple) (dCons (dN 1) dNil)) (endsD Q) ρ', Q, fun _ => False, fun _ => False, fun _ _ => False⟩ (n + 1)
      [.dat (.tuple (iD cs)), .own acc, .dat (.int (j : Nat)), e] := by
  intro n
  induction n with
  | zero =>
    intro j acc e ha hn hq
    have hj : cs.length ≤ j := by rw [List.length_drop] at hn; omega
    rw [List.drop_of_length_le hj] at hq
    have hq : Q (.tuple (acc ++ [])) := hq
    rw [List.append_nil] at hq
    unfold turns
    show dT _ (full [.dat (.tuple (iD cs)), .own acc, .dat (.int (j : Nat)), e]) _
    walk_at "zs"
    rw [len_iD, decide_eq_false (by omega : ¬ (j : Int) < (cs.length : Int))]
    simp only [Bool.false_eq_true, if_false]
    exact hq
  | succ n ih =>
    intro j acc e ha hn hq
    unfold turns
    show dT _ (full [.dat (.tuple (iD cs)), .own acc, .dat (.int (j : Nat)), e]) _
    walk_at "zs"
    rw [len_iD]
    by_cases hlt : j < cs.length
    · rw [decide_eq_true (by omega : (j : Int) < (cs.length : Int))]
      simp only [if_true]
      refine ⟨cs, j, rfl, rfl, h1, hb, hlt, ?_⟩
      have hd : cs.drop j = cs[j] :: cs.drop (j + 1) := List.drop_eq_getElem_cons hlt
      simp only [tT, tNs]
      walk_at "zs"
      rcases first_cases (cs.drop j) with hz | ⟨hz, hi⟩
      · rw [decode_none n (cs.drop j) (by rw [hd]; exact List.cons_ne_nil _ _) hz] at hq
        rw [hz]
        exact hq
      · rw [hi]
        have hk := first_pos hz
        rw [decode_some n (cs.drop j) (by rw [hd]; exact List.cons_ne_nil _ _) hz, List.drop_drop] at hq
        refine ⟨by omega, ?_⟩
        refine ih (j + (first (cs.drop j)).2) (acc ++ [(first (cs.drop j)).1]) _ (by rw [List.length_append, List.length_singleton]; omega) (by rw [List.length_drop] at hn ⊢; omega) ?_
        cases hdec : decode n (cs.drop (j + (first (cs.drop j)).2)) with
        | none => rw [hdec] at hq; exact hq
        | some vs =>
          rw [hdec] at hq
          show Q (.tuple (acc ++ [(first (cs.drop j)).1] ++ vs))
          rw [List.append_assoc]
          exact hq
    · rw [decide_eq_false (by omega : ¬ (j : Int) < (cs.length : Int))]
      simp only [Bool.false_eq_true, if_false]
      rw [List.drop_of_length_le (by omega)] at hq
      have hq : Q (.tuple (acc ++ [])) := by cases n <;> exact hq
      rw [List.append_nil] at hq
      exact hq
theorem h_values_of : ∀ ds Q, F_values_of ds Q → ds.length = 1 ∧ m_values_of (endsD Q) (startD N_values_of ds) := by
  intro ds Q h
  match ds, h with
  | [.tuple es], ⟨cs, he, h1, hb, h2⟩ =>
    subst he
    refine ⟨rfl, ?_⟩
    show sWh _ _ _ [.dat (.tuple (iD cs)), .own [], .dat (.int ((0 : Nat) : Int)), .un]
    refine ⟨cs.length + 1, val_loop cs hb h1 Q cs.length 0 [] .un (Nat.le_refl _) (by rw [List.drop_zero]; exact Nat.le_refl _) ?_⟩
    rw [List.drop_zero]
    unfold decD at h2
    split <;> rename_i hx <;> rw [hx] at h2 <;> exact h2
end Z1

set_option Elab.async false
set_option linter.all false
set_option maxRecDepth 100000
set_option maxHeartbeats 4000000
namespace Z1
open PySem PySem.Spec PyProof.Rows L2 Z
local macro_rules | `(tactic| walk_at "zs") => `(tactic| simp only [sSeq, sIf, sSet, sRet, sNx, sAsg, tN, dOr, dAnd, dNot, dT, dOp, dC, asB, dIf, dCall, dCons, dNil, dTup, dLst, dLc, dIt, dIl, dIs, g1, e_lt, e_gt, e_eq, e_ne, e_le, e_ge, e_add, e_addL, e_addT, e_I0, e_I, e_isN, e_isI, e_isS, e_isB, e_isT, e_isL, e_ixL, e_ixT, e_ixS, e_n0, e_n1, e_n2, e_n3, e_n4, e_n5, e_n6, e_n7, f_nil, f_dat, f_un, f_own, f_adr, rt_ends, nx_ends, List.set_cons_zero, List.set_cons_succ, gLen, gOrd, gTuple, gList, gInt, gNeg, dUn])
local macro_rules | `(tactic| walk_at "zk") => `(tactic| (show _ ∧ _; refine ⟨by first | decide | (simp; done) | omega, ?_⟩))
theorem h__law_characters : ∀ ds Q, F__law_characters ds Q → ds.length = 0 ∧ m__law_characters (endsD Q) (startD N__law_characters ds) := by
  rintro ds Q ⟨rfl, h⟩
  exact ⟨rfl, h⟩
def ixOk (n : Nat) : Bool := match Builtin.Str.occurrences CH ⟨#[n]⟩ 0 CH.length 1 with
  | i :: _ => decide (32 + (i : Int) + (if 4 < i then 1 else 0) = (n : Int))
  | [] => false
theorem ix_at : ∀ n : Nat, n < 127 → okC n = true → ixOk n = true := by decide +kernel
theorem ix_get {n : Nat} (h : okC n = true) : ∃ (i : Nat) (r : List Nat), Builtin.Str.occurrences CH ⟨#[n]⟩ 0 CH.length 1 = i :: r ∧ 32 + (i : Int) + (if 4 < i then 1 else 0) = (n : Int) := by
  have h1 := h
  simp only [okC, decide_eq_true_eq] at h1
  have := ix_at n (by omega) h
  unfold ixOk at this
  split at this
  · rename_i i r e
    exact ⟨i, r, e, of_decide_eq_true this⟩
  · cases this
theorem upto_drop (n : Int) (i : Nat) (h : i < n.toNat) : (upto n).drop i = .int (i : Nat) :: (upto n).drop (i + 1) := by
  have hl : (upto n).length = n.toNat := by simp [upto]
  rw [List.drop_eq_getElem_cons (by rw [hl]; exact h)]
  simp [upto]
theorem upto_end (n : Int) (i : Nat) (h : n.toNat ≤ i) : (upto n).drop i = [] := List.drop_of_length_le (by simp only [upto, List.length_map, List.length_range]; exact h)
abbrev lbB : DS := sIf (dT (dIsi .str (dN 2))) (sSeq (sSet 3 (fun _ P => F__law_characters [] P))
    (sSet 1 (dOp gAdd (dOp gAdd (dOp gAdd (dN 1) (dLst (dCons (dC (.int 2)) dNil))) (dLc (dIs (dN 2)) 7 dYes (dOp gAdd (dOp gAdd (dC (.int 32)) (dM1 gSix (dN 3) (dN 7))) (dCall (g1 gInt) (dCons (dOp (gB gtD) (dM1 gSix (dN 3) (dN 7)) (dC (.int 4))) dNil))))) (dLst (dCons (dC (.int 0)) dNil))))) (sSeq (sSet 4 (dOp gAdd (dN 2) (dC (.int 549755813888))))
    (sSeq (sSet 5 (dLst dNil))
    (sSeq (sFor (dIr (dC (.int 5))) (tN 6) (sSeq (sSet 5 (dOp gAdd (dLst (dCons (dOp (gI (fun _ j => 0 < j) (· % ·)) (dCall (g1 gInt) (dCons (dN 4) dNil)) (dC (.int 256))) dNil)) (dN 5)))
    (sSet 4 (dOp (gI CDivW (· / ·)) (dN 4) (dC (.int 256))))))
    (sSet 1 (dOp gAdd (dOp gAdd (dN 1) (dLst (dCons (dC (.int 1)) dNil))) (dN 5))))))
theorem bl_of {v : DD} (hv : okV v = true) : (bytesV v).length ≤ 8 := by
  cases v with
  | int n => exact Nat.le_of_lt (by decide : 6 < 8)
  | str z =>
    simp only [okV, Bool.and_eq_true, decide_eq_true_eq] at hv
    simp [bytesV, hv.1]
  | _ => exact Nat.zero_le _
theorem ch_elt {z : Str} (hz : okV (.str z) = true) (a b c e f g : Ent) : ∀ x ∈ chars z, ∀ Q' : DD → Prop, Q' (match x with | .str w => .int (w.cps.getD 0 0 : Nat) | _ => .none) →
    dOp gAdd (dOp gAdd (dC (.int 32)) (dM1 gSix (dN 3) (dN 7))) (dCall (g1 gInt) (dCons (dOp (gB gtD) (dM1 gSix (dN 3) (dN 7)) (dC (.int 4))) dNil)) [a, b, c, .dat (.str CH), e, f, g, .dat x] Q' := by
  intro x hx Q' hq
  obtain ⟨n, hn, rfl⟩ := chars_ok hx
  simp only [okV, Bool.and_eq_true, decide_eq_true_eq, List.all_eq_true] at hz
  obtain ⟨i, r, e1, e2⟩ := ix_get (hz.2 n hn)
  have s6 : ∀ P, gSix (.str CH) (.str ⟨#[n]⟩) P = P (.int (i : Nat)) := fun P => by
    simp only [gSix, e1]
  have hq : Q' (.int ((n : Nat) : Int)) := hq
  walk_at "zs"
  simp only [dM1]
  walk_at "zs"
  rw [s6]
  walk_at "zs"
  rw [s6]
  walk_at "zs"
  have e3 : 32 + (i : Int) + (if decide (4 < (i : Int)) = true then 1 else 0) = (n : Int) := by
    rw [← e2]
    by_cases h4 : 4 < i
    · rw [if_pos h4, if_pos (decide_eq_true (by omega))]
    · rw [if_neg h4, if_neg (by simp; omega)]
  rw [e3]
  exact hq
abbrev fiveB : DS := sSeq (sSet 5 (dOp gAdd (dLst (dCons (dOp (gI (fun _ j => 0 < j) (· % ·)) (dCall (g1 gInt) (dCons (dN 4) dNil)) (dC (.int 256))) dNil)) (dN 5))) (sSet 4 (dOp (gI CDivW (· / ·)) (dN 4) (dC (.int 256))))
theorem cdw (m : Int) : CDivW m 256 := ⟨by decide, by decide⟩
def dig : Nat → Int → List Int
  | 0, _ => []
  | n + 1, m => dig n (m / 256) ++ [m % 256]
theorem dig5 (m : Int) : dig 5 m = be5 m := by
  simp only [dig, be5, List.nil_append, List.cons_append]
  have a1 : m / 256 / 256 / 256 / 256 = m / 2 ^ 32 := by omega
  have a2 : m / 256 / 256 / 256 = m / 2 ^ 24 := by omega
  have a3 : m / 256 / 256 = m / 2 ^ 16 := by omega
  have a4 : m / 256 = m / 2 ^ 8 := by omega
  rw [a1, a2, a3, a4]
theorem five_loop (a b c d e7 : Ent) (k : En → Prop) (R : DD → Prop) : ∀ (items : List DD) (m : Int) (fs : List Int) (e6 : Ent), items.length + fs.length ≤ 10 →
    (∀ m' e6', k [a, b, c, d, .dat (.int m'), .dat (.list (iD (dig items.length m ++ fs))), e6', e7]) →
    loop (tN 6) fiveB ⟨k, R, fun _ => False, fun _ => False, fun _ _ => False⟩ items [a, b, c, d, .dat (.int m), .dat (.list (iD fs)), e6, e7]
  | [], m, fs, e6, _, h => h m e6
  | x :: xs, m, fs, e6, hl, h => by
    rw [List.length_cons] at hl
    have ih := five_loop a b c d e7 k R xs (m / 256) (m % 256 :: fs) (.dat x) (by rw [List.length_cons]; omega) (fun m' e6' => by
      have := h m' e6'
      rw [List.length_cons, dig, List.append_assoc] at this
      exact this)
    refine ⟨show (0 : Int) < 256 by decide, ?_, cdw m, ih⟩
    show 1 + (iD fs).length ≤ 1000000
    rw [len_iD]; omega
theorem loop_lb (all : List DD) (Q : DD → Prop) : ∀ (vs : List DD) (acc : List Int) (e2 e3 e4 e5 e6 e7 : Ent), vs.all okV = true → acc.length + 8 * vs.length ≤ 10000 → Q (tD (acc ++ keyI vs)) →
    loop (tN 2) lbB ⟨fun ρ' => sRet (dCall (g1 gTuple) (dCons (dN 1) dNil)) (endsD Q) ρ', Q, fun _ => False, fun _ => False, fun _ _ => False⟩ vs [.dat (.tuple all), .dat (.list (iD acc)), e2, e3, e4, e5, e6, e7]
  | [], acc, e2, e3, e4, e5, e6, e7, _, _, h => by
    rw [keyI, List.flatMap_nil, List.append_nil] at h
    exact h
  | v :: vs, acc, e2, e3, e4, e5, e6, e7, hv, hl, h => by
    rw [List.all_cons, Bool.and_eq_true] at hv
    rw [List.length_cons] at hl
    have bl := bl_of hv.1
    have ih := fun e3 e4 e5 e6 e7 => loop_lb all Q vs (acc ++ bytesV v) (.dat v) e3 e4 e5 e6 e7 hv.2 (by rw [List.length_append]; omega) (by rw [List.append_assoc]; exact h)
    have e1 : iD (acc ++ bytesV v) = iD acc ++ iD (bytesV v) := by simp [iD]
    rw [e1] at ih
    have la : (iD acc).length = acc.length := len_iD acc
    cases v with
    | int n =>
      have e8 : iD (bytesV (.int n)) = [.int 1] ++ iD (be5 (n + 549755813888)) := rfl
      rw [e8, ← List.append_assoc] at ih
      show (-1000000 ≤ (5 : Int) ∧ (5 : Int) ≤ 1000000) ∧ loop (tN 6) fiveB _ (upto 5) [.dat (.tuple all), .dat (.list (iD acc)), .dat (.int n), e3, .dat (.int (n + 549755813888)), .dat (.list (iD [])), e6, e7]
      refine ⟨by decide, five_loop _ _ _ _ _ _ _ (upto 5) _ [] e6 (by decide) fun m' e6' => ?_⟩
      have el : (upto 5).length = 5 := by decide
      rw [el, List.append_nil, dig5]
      have lb : (iD (be5 (n + 549755813888))).length = 5 := rfl
      refine ⟨by rw [la]; show _ + 1 ≤ _; omega, by rw [List.length_append, la, lb]; show _ + 1 + 5 ≤ _; omega, ih _ _ _ _ _⟩
    | str z =>
      have e8 : iD (bytesV (.str z)) = [.int 2] ++ ((chars z).map fun x => match x with | .str w => PyData.int (w.cps.getD 0 0 : Nat) | _ => .none) ++ [.int 0] := by
        simp [iD, bytesV, chars, List.map_map, Function.comp_def]
      rw [e8, ← List.append_assoc, ← List.append_assoc] at ih
      have hc : (chars z).length ≤ 6 := by
        have h1 := hv.1
        simp only [okV, Bool.and_eq_true, decide_eq_true_eq] at h1
        simp [chars, h1.1]
      refine ⟨rfl, ?_⟩
      show _ ∧ _
      refine ⟨by rw [la]; simp; omega, ?_⟩
      refine comp_map (f := fun x => match x with | .str w => PyData.int (w.cps.getD 0 0 : Nat) | _ => .none) (ch_elt hv.1 _ _ _ _ _ _) (by simp; omega) ?_
      show _ ∧ _
      refine ⟨by simp only [List.length_append, la, List.length_map, List.length_nil, List.length_singleton]; omega, ?_⟩
      show _ ∧ _
      refine ⟨by simp only [List.length_append, la, List.length_map, List.length_nil, List.length_singleton]; omega, ?_⟩
      exact ih _ _ _ _ _
    | _ => simp [okV] at hv
theorem h__law_bytes : ∀ ds Q, F__law_bytes ds Q → ds.length = 1 ∧ m__law_bytes (endsD Q) (startD N__law_bytes ds) := by
  intro ds Q h
  match ds, h with
  | [.tuple vs], ⟨h1, h2⟩ =>
    refine ⟨rfl, ?_⟩
    exact loop_lb vs Q vs [] .un .un .un .un .un .un h1.2 (by rw [List.length_nil]; omega) h2
end Z1

set_option Elab.async false
set_option linter.all false
set_option maxRecDepth 100000
set_option maxHeartbeats 4000000
namespace Z1
open PySem PySem.Spec PyProof.Rows L2 Z
local macro_rules | `(tactic| walk_at "zs") => `(tactic| simp only [sSeq, sIf, sSet, sRet, sNx, sAsg, tN, dOr, dAnd, dNot, dT, dOp, dC, asB, dIf, dCall, dCons, dNil, dTup, dLst, dLc, dIt, dIl, dIs, g1, e_lt, e_gt, e_eq, e_ne, e_le, e_ge, e_add, e_addL, e_addT, e_I0, e_I, e_isN, e_isI, e_isS, e_isB, e_isT, e_isL, e_ixL, e_ixT, e_ixS, e_n0, e_n1, e_n2, e_n3, e_n4, e_n5, e_n6, e_n7, f_nil, f_dat, f_un, f_own, f_adr, rt_ends, nx_ends, List.set_cons_zero, List.set_cons_succ, gLen, gOrd, gTuple, gList, gInt, gNeg, dUn])
local macro_rules | `(tactic| walk_at "zk") => `(tactic| (show _ ∧ _; refine ⟨by first | decide | (simp; done) | omega, ?_⟩))
theorem at_L {ds : List DD} {j : Nat} (h : j < ds.length) : atI ds ((j : Nat) : Int) = some ds[j] := atI_nat (by simp [h])
theorem cm2 (x : Int) (h : 0 ≤ x ∧ x ≤ 2 ^ 40) : CMul 2 x := .inl ⟨by decide, by decide⟩
end Z1
namespace Z
open PySem PySem.Spec PyProof.Rows L2
/-! ### the law's comparison, place by place -/
def FS (n : Nat) : D1 := fun ds P => match ds with
  | [d, e] => d = e ∧ okS n e = true ∧ P (.bool true)
  | _ => False
def FSm : Nat → D1
  | 0 => fun _ _ => False
  | n + 1 => FS n
end Z
namespace Z1
open PySem PySem.Spec PyProof.Rows L2 Z
theorem eqD_self (d : DD) (h : d.depth ≤ 60) (hp : d.plain = true) (P : DD → Prop) : gB eqD d d P = P (.bool true) := by
  have e : eqD d d = some true := by
    unfold eqD
    rw [if_pos (by rw [Nat.min_self]; exact h), SeqAt.eqv_refl_plain d hp]
  simp only [gB, e]
theorem same_loop (n : Nat) (ds : List DD) (dd ee : DD) (hd : ∀ (i : Nat) (h : i < ds.length) P, gIx dd (.int (i : Nat)) P = P ds[i]) (he : ∀ (i : Nat) (h : i < ds.length) P, gIx ee (.int (i : Nat)) P = P ds[i]) (hk : ds.all (okS n) = true) (E : DEn) (hE : ∀ e2, E.nx [.dat dd, .dat ee, e2]) : ∀ (r i : Nat) (e2 : Ent), ds.length - i = r → i ≤ ds.length →
    loop (tN 2) (sIf (dNot (dT (dCall (FS n) (dCons (dOp gIx (dN 0) (dN 2)) (dCons (dOp gIx (dN 1) (dN 2)) dNil))))) (sRet (dC (.bool false))) sNx) E ((upto ((ds.length : Nat) : Int)).drop i) [.dat dd, .dat ee, e2] := by
  intro r
  induction r with
  | zero =>
    intro i e2 hr hi
    rw [upto_end _ _ (by omega)]
    exact hE _
  | succ r ih =>
    intro i e2 hr hi
    rw [upto_drop _ _ (by omega)]
    have hlt : i < ds.length := by omega
    show gIx dd (.int (i : Nat)) fun x => gIx ee (.int (i : Nat)) fun y => _
    rw [hd i hlt]
    show gIx ee (.int (i : Nat)) fun y => _
    rw [he i hlt]
    exact ⟨rfl, List.all_eq_true.mp hk _ (List.getElem_mem hlt), ih (i + 1) _ (by omega) (by omega)⟩
theorem h__law_same (n : Nat) : ∀ ds Q, FS n ds Q → ds.length = 2 ∧ m__law_same (FSm n) (endsD Q) (startD N__law_same ds) := by
  intro ds Q h
  match ds, h with
  | [d, e], ⟨he, hk, hq⟩ =>
    subst he
    refine ⟨rfl, ?_⟩
    show m__law_same (FSm n) (endsD Q) [.dat d, .dat d, .un]
    cases d with
    | none => exact hq
    | bool b =>
      show gB eqD (.bool b) (.bool b) Q
      rw [eqD_self _ (Nat.zero_le _) rfl]; exact hq
    | int b =>
      show gB eqD (.int b) (.int b) Q
      rw [eqD_self _ (Nat.zero_le _) rfl]; exact hq
    | str b =>
      show gB eqD (.str b) (.str b) Q
      rw [eqD_self _ (Nat.zero_le _) rfl]; exact hq
    | tuple es =>
      cases n with
      | zero => simp [okS] at hk
      | succ n =>
        rw [okS, Bool.and_eq_true, decide_eq_true_eq] at hk
        show if (!(((es.length : Nat) : Int) == ((es.length : Nat) : Int))) = true then _ else _
        rw [show (!(((es.length : Nat) : Int) == ((es.length : Nat) : Int))) = false by simp]
        show (-1000000 ≤ ((es.length : Nat) : Int) ∧ ((es.length : Nat) : Int) ≤ 1000000) ∧ loop _ _ _ (upto ((es.length : Nat) : Int)) [.dat (.tuple es), .dat (.tuple es), .un]
        refine ⟨by omega, ?_⟩
        exact same_loop n es _ _ (fun i h P => by rw [e_ixT, at_L h]) (fun i h P => by rw [e_ixT, at_L h]) hk.2 _ (fun e2 => hq) es.length 0 .un (Nat.sub_zero _) (Nat.zero_le _)
    | list es =>
      cases n with
      | zero => simp [okS] at hk
      | succ n =>
        rw [okS, Bool.and_eq_true, decide_eq_true_eq] at hk
        show if (!(((es.length : Nat) : Int) == ((es.length : Nat) : Int))) = true then _ else _
        rw [show (!(((es.length : Nat) : Int) == ((es.length : Nat) : Int))) = false by simp]
        show (-1000000 ≤ ((es.length : Nat) : Int) ∧ ((es.length : Nat) : Int) ≤ 1000000) ∧ loop _ _ _ (upto ((es.length : Nat) : Int)) [.dat (.list es), .dat (.list es), .un]
        refine ⟨by omega, ?_⟩
        exact same_loop n es _ _ (fun i h P => by rw [e_ixL, at_L h]) (fun i h P => by rw [e_ixL, at_L h]) hk.2 _ (fun e2 => hq) es.length 0 .un (Nat.sub_zero _) (Nat.zero_le _)
    | dict x => cases n <;> simp [okS] at hk
section
variable {P : Program} {wd : World} {K : PySem.W.Frag} {mg : Str → Option Value} {base : Heap}
theorem same_rec (D : Dfn K mg "_law_same" s__law_same ["actual", "expected"]) (B : Blt mg) : ∀ n : Nat, Fnc P wd K mg base n "_law_same" (FSm n)
  | 0 => by
    obtain ⟨f, fd, Fn, h2, h3⟩ := D
    refine ⟨f, fd, _, ⟨fun vs H Q E h => ?_, fun A outer s H args us vs Q E _ _ _ _ h => ?_⟩, h2, Fn.kp, h3⟩
    · obtain ⟨_, _, _, _, _, h, _⟩ := h; exact h.elim
    · obtain ⟨_, _, _, _, _, h, _⟩ := h; exact h.elim
  | n + 1 => fnc_mk D S__law_same (fun f cdv A outer s H E hr => b__law_same B (Nat.le_refl n) (same_rec D B n) cdv A outer s H E hr) (h__law_same n)
end
end Z1

set_option Elab.async false
set_option linter.all false
set_option maxRecDepth 100000
set_option maxHeartbeats 4000000
namespace Z
open PySem PySem.Spec PyProof.Rows L2
/-! ### the draw -/
def tGetL (K : PySem.W.Frag) : V → V → Hp → VK → Prop := fun o i H Q => ∃ p xs k v, o = .ref p ∧ i = .int k ∧ SqL K H p xs ∧ 0 ≤ k ∧ k < 2 ^ 62 ∧ xs[k.toNat]? = some v ∧ Q v H
theorem get_listZ {X : Cx} : PGet X (tGetL X.K) := by
  intro pins s σ H o i ov iv Q I ro ri h
  obtain ⟨p, xs, k, v, rfl, rfl, hs, h0, h1, hv, q⟩ := h
  cases ro
  obtain ⟨t, rfl⟩ := ri
  obtain ⟨its, r, ⟨ob, n, e, c, _, d⟩, _⟩ := I.list hs
  obtain ⟨u, hu, ru⟩ := r.get hv
  exact wpAny_getItem_list ⟨ob, e, c, n, d⟩ h0 (by omega) (by simpa using hu) ⟨v, H, I, ru, q⟩
def cells (l : Addr) (i v s : Int) : List V := [.ref l, .int i, .int v, .int s]
theorem next_stp {a l : Addr} {ns : List Int} {G H : Hp} (k : Okw (wst a l ns) G H) {i : Nat} {v s : Int} (h1 : i ≤ ns.length) (h2 : 0 ≤ v) (h3 : 0 ≤ s) (h4 : s < 2147483647) : Stp (wst a l ns) G H G (upd H a (.lst (cells l i v s))) := by
  obtain ⟨w1, w2, _⟩ := k.wd
  have ga : G a = none := k.out a rfl
  refine ⟨fun b o e => ?_, Sub.rfl, fun b o n e => ?_, fun b e => ?_, fun _ _ e => e, ⟨?_, w2, i, v, s, upd_same, h1, h2, h3, h4⟩⟩
  · rw [upd_ne (ne_of_none e ga)]; exact k.sub b o e
  · rw [upd_ne (show b ≠ a from n)]; exact e
  · by_cases z : b = a
    · subst z; rw [upd_same]; exact fun z => nomatch z
    · rw [upd_ne z]; exact e
  · rw [upd_ne w2]; exact w1
end Z
namespace Z1
open PySem PySem.Spec PyProof.Rows L2 Z
abbrev s__law_next : Stmt := topS 34
abbrev N__law_next : List Str := ["state", "limit", "cell", "value"]
theorem S__law_next : FnScope N__law_next ["state", "limit"] (defScope s__law_next) := ⟨rfl, rfl, rfl, by decide +kernel, rfl, by decide +kernel, by decide +kernel⟩
theorem at0 {l : Addr} {i v s : Int} : atI (cells l i v s) 0 = some (.ref l) := rfl
theorem at1 {l : Addr} {i v s : Int} : atI (cells l i v s) 1 = some (.int i) := rfl
theorem at2 {l : Addr} {i v s : Int} : atI (cells l i v s) 2 = some (.int v) := rfl
theorem at3 {l : Addr} {i v s : Int} : atI (cells l i v s) 3 = some (.int s) := rfl
section
variable {P : Program} {wd : World} {K : PySem.W.Frag} {mg : Str → Option Value} {base : Heap}
theorem next_ok (D : Dfn K mg "_law_next" s__law_next ["state", "limit"]) (B : Blt mg) : Sfn P wd K mg base 1 "_law_next" F__law_next := by
  obtain ⟨f, fd, Fn, h2, h3⟩ := D
  refine ⟨f, fd, _, ?_, h2, Fn.kp, h3⟩
  refine Fn.ok S__law_next (fun vs H Q E h => ?_) (fun cdv A outer s H vs Q E hr h => ?_)
  · obtain ⟨a, l, ns, G, us, ds, P', rfl, hs, r, hf, _⟩ := h
    match ds, r, hf with
    | [.int n], .cons _ .nil, _ => rfl
  obtain ⟨a, l, ns, G, us, ds, P', rfl, k, r, hf, q⟩ := h
  have S := S__law_next
  obtain ⟨n, rfl, rfl⟩ : ∃ n : Int, us = [.int n] ∧ ds = [.int n] := by
    match ds, r, hf with
    | [.int n], .cons (.int _) .nil, _ => exact ⟨n, rfl, rfl⟩
  obtain ⟨⟨n0, n64⟩, hP⟩ := hf
  refine ⟨_, pss_cons (ps_if (PW.pt (pw_and (pt_cmpR op_eq (pe_ix ix_list (pv 0) pe_int (fun _ _ => rfl)) pe_int (nomark _))
        (pw_and1 (pt_cmpR op_lt (pe_ix ix_list (pv 0) pe_int (fun _ _ => rfl)) (pe_callB call_len_seq (by rfl) B.len bt_len (pa_cons (pe_ix ix_list (pv 0) pe_int (fun _ _ => rfl)) pa_nil)) (nomark _)))))
      (pss_cons (ps_set (i := 2) S.nd rfl (.inl rfl) (pe_ix ix_list (pe_ix ix_list (pv 0) pe_int (fun _ _ => rfl)) (pe_ix ix_list (pv 0) pe_int (fun _ _ => rfl)) (fun _ _ => rfl)))
      (pss_cons (ps_augS (pv 0) pe_int get_listZ pe_int ip_add set_list (by intros; rfl))
      (pss_one (ps_if (pt_cmpR op_ge (pv 2) (pe_op op_pow pe_int pe_int) (nomark _))
        (pss_one (ps_asg (pv 2) (pg_sub (pv 0) pe_int set_list)))
        (pss_one (ps_asg (pe_op op_mod (pe_callTy call_int1 (by rfl) B.int bt_int (pa_cons (pe_op op_add (pe_op op_add (pe_op op_mul (pe_ix ix_list (pv 0) pe_int (fun _ _ => rfl)) pe_int) (pe_op op_mod (pe_callTy call_int1 (by rfl) B.int bt_int (pa_cons (pv 2) pa_nil)) pe_int)) pe_int) pa_nil)) pe_int) (pg_sub (pv 0) pe_int set_list)))))))
      pss_nil)
    (pss_cons (ps_if (pt_cmpR op_gt (pe_ix ix_list (pv 0) pe_int (fun _ _ => rfl)) pe_int (nomark _))
      (pss_cons (ps_set (i := 3) S.nd rfl (.inl rfl) (pe_op op_mod (pe_callTy call_int1 (by rfl) B.int bt_int (pa_cons (pe_ix ix_list (pv 0) pe_int (fun _ _ => rfl)) pa_nil)) (pv 1)))
      (pss_cons (ps_asg (pe_op op_fdivW (pe_ix ix_list (pv 0) pe_int (fun _ _ => rfl)) (pv 1)) (pg_sub (pv 0) pe_int set_list))
      (pss_one (ps_ret (pv 3)))))
      pss_nil)
    (pss_cons (ps_asg (pe_op op_mod (pe_callTy call_int1 (by rfl) B.int bt_int (pa_cons (pe_op op_add (pe_op op_mul (pe_ix ix_list (pv 0) pe_int (fun _ _ => rfl)) pe_int) pe_int) pa_nil)) pe_int) (pg_sub (pv 0) pe_int set_list))
    (pss_one (ps_ret (pe_op op_mod (pe_callTy call_int1 (by rfl) B.int bt_int (pa_cons (pe_op op_fdivW (pe_ix ix_list (pv 0) pe_int (fun _ _ => rfl)) pe_int) pa_nil)) (pv 1)))))), ?_⟩
  -- what comes behind the first if
  have rest : ∀ (i : Nat) (v s : Int) (e2 e3 : Option V) (D : Ends), (∀ x H', D.rt x H' ↔ Q x H') → i ≤ ns.length → 0 ≤ v → 0 ≤ s → s < 2147483647 →
      (tSeq (tIfS (tTest (tOp (rI0 fun i j => .bl (decide (j < i))) (tOp (rIxL K) (tVar 0) (tC (.int 2))) (tC (.int 0))))
        (tSeq (tAsg (tOp (rI (fun _ j => 0 < j) fun i j => .int (i % j)) (tCB (fun xs H Q => (∃ i, xs = [.int i] ∧ Q (.int i) H) ∨ ∃ k, xs = [.bl k] ∧ Q (.int (if k then 1 else 0)) H) (tCons (tOp (rIxL K) (tVar 0) (tC (.int 2))) L2.tNil)) (tVar 1)) (gName 3))
        (tSeq (tAsg (tOp (rI CDivW fun i j => .int (i / j)) (tOp (rIxL K) (tVar 0) (tC (.int 2))) (tVar 1)) (gSub (tVar 0) (tC (.int 2)) rSetL)) (tRet (tVar 3)))) tNext)
      (tSeq (tAsg (tOp (rI (fun _ j => 0 < j) fun i j => .int (i % j)) (tCB (fun xs H Q => (∃ i, xs = [.int i] ∧ Q (.int i) H) ∨ ∃ k, xs = [.bl k] ∧ Q (.int (if k then 1 else 0)) H) (tCons (tOp (rI0 fun i j => .int (i + j)) (tOp (rI CMul fun i j => .int (i * j)) (tOp (rIxL K) (tVar 0) (tC (.int 3))) (tC (.int 69621))) (tC (.int 12345))) L2.tNil)) (tC (.int 2147483647))) (gSub (tVar 0) (tC (.int 3)) rSetL))
      (tRet (tOp (rI (fun _ j => 0 < j) fun i j => .int (i % j)) (tCB (fun xs H Q => (∃ i, xs = [.int i] ∧ Q (.int i) H) ∨ ∃ k, xs = [.bl k] ∧ Q (.int (if k then 1 else 0)) H) (tCons (tOp (rI CDivW fun i j => .int (i / j)) (tOp (rIxL K) (tVar 0) (tC (.int 3))) (tC (.int 7))) L2.tNil)) (tVar 1))))) D [some (.ref a), some (.int n), e2, e3] (upd H a (.lst (cells l i v s))) := by
    intro i v s e2 e3 D hD hi hv hs0 hs1
    have hst : ∀ {i v s : Int}, SqL K (upd H a (.lst (cells l i v s))) a (cells l i v s) := .inl (.inl upd_same)
    have up : ∀ {i v s i' v' s' : Int}, upd (upd H a (.lst (cells l i v s))) a (.lst (cells l i' v' s')) = upd H a (.lst (cells l i' v' s')) := upd_upd
    refine ⟨_, rfl, a, _, _, _, rfl, rfl, hst, at2, _, _, rfl, rfl, _, rfl, ?_⟩
    refine ite2 (fun c => ?_) (fun c => ?_)
    · have c' : 0 < v := of_decide_eq_true c
      refine ⟨_, rfl, a, _, _, _, rfl, rfl, hst, at2, .inl ⟨_, rfl, _, rfl, _, _, rfl, rfl, n0, ?_⟩⟩
      refine ⟨_, rfl, a, _, _, _, rfl, rfl, hst, at2, _, rfl, _, _, rfl, rfl, ⟨n0, ?_⟩, ?_⟩
      · exact (wide_div (i := v) (j := n) (b := 64) n0 (by omega) (by decide) (by decide)).2
      · refine ⟨_, rfl, a, _, _, 2, rfl, rfl, upd_same, rfl, ?_⟩
        refine ⟨_, rfl, (hD _ _).mpr ?_⟩
        have e : (cells l i v s).set 2 (.int (v / n)) = cells l i (v / n) s := rfl
        rw [e, up]
        exact q _ _ _ _ (next_stp k hi (Int.ediv_nonneg hv (Int.le_of_lt n0)) hs0 hs1) (.int _) (hP _ (Int.emod_nonneg _ (by omega)) (Int.emod_lt_of_pos _ n0))
    · refine ⟨_, rfl, a, _, _, _, rfl, rfl, hst, at3, s, 69621, rfl, rfl, .inr ⟨by decide, by decide⟩, _, _, rfl, rfl, .inl ⟨_, rfl, _, _, rfl, rfl, (show (0 : Int) < 2147483647 by decide), ?_⟩⟩
      refine ⟨_, rfl, a, _, _, 3, rfl, rfl, upd_same, rfl, ?_⟩
      have e : ∀ z : Int, (cells l i v s).set 3 (.int z) = cells l i v z := fun _ => rfl
      rw [e, up]
      refine ⟨_, rfl, a, _, _, _, rfl, rfl, hst, at3, _, _, rfl, rfl, ⟨by decide, by decide⟩, .inl ⟨_, rfl, _, rfl, _, _, rfl, rfl, n0, (hD _ _).mpr ?_⟩⟩
      exact q _ _ _ _ (next_stp k hi hv (Int.emod_nonneg _ (by decide)) (Int.emod_lt_of_pos _ (by decide))) (.int _) (hP _ (Int.emod_nonneg _ (by omega)) (Int.emod_lt_of_pos _ n0))
  obtain ⟨w1, w2, i, v, s', w3, w4, w5, w6, w7⟩ := k.wd
  have hH : H = upd H a (.lst (cells l i v s')) := by
    funext b
    by_cases z : b = a
    · subst z; rw [upd_same]; exact w3
    · rw [upd_ne z]
  have hL : SqL K H a (cells l i v s') := .inl (.inl w3)
  have hl : SqL K H l (ns.map V.int) := .inl (.inl w1)
  refine ⟨_, rfl, a, _, _, _, rfl, rfl, hL, at2, rfl, _, rfl, ?_⟩
  refine ite2 (fun c => ?_) (fun c => ?_)
  · refine ⟨_, rfl, a, _, _, _, rfl, rfl, hL, at1, _, rfl, a, _, _, _, rfl, rfl, hL, at0, l, _, rfl, .inl hl, _, _, rfl, rfl, _, rfl, ?_⟩
    refine ite2 (fun c2 => ?_) (fun c2 => ?_)
    · have ci : (i : Int) < (((ns.map V.int).length : Nat) : Int) := of_decide_eq_true c2
      have hi : i < ns.length := by rw [List.length_map] at ci; omega
      refine ⟨_, rfl, a, _, _, _, rfl, rfl, hL, at0, _, rfl, a, _, _, _, rfl, rfl, hL, at1, l, _, _, .int ns[i], rfl, rfl, hl, atI_nat (by simp [hi]), ?_⟩
      refine ⟨_, rfl, a, _, 1, _, rfl, rfl, hL, by decide, by decide, rfl, _, _, rfl, rfl, a, _, 1, 1, rfl, rfl, w3, rfl, ?_⟩
      have e : (cells l i v s').set 1 (.int ((i : Int) + 1)) = cells l ((i + 1 : Nat) : Int) v s' := rfl
      have e' : ([.ref l, .int i, .int v, .int s'] : List V).set 1 (.int ((i : Int) + 1)) = cells l ((i + 1 : Nat) : Int) v s' := rfl
      rw [e']
      have up : ∀ {i v s i' v' s' : Int}, upd (upd H a (.lst (cells l i v s))) a (.lst (cells l i' v' s')) = upd H a (.lst (cells l i' v' s')) := upd_upd
      refine ⟨_, rfl, _, _, rfl, rfl, ⟨by decide, by decide, by decide⟩, _, _, rfl, rfl, _, rfl, ?_⟩
      refine ite2 (fun c3 => ?_) (fun c3 => ?_)
      · have g3 : (10 : Int) ^ (18 : Int).toNat ≤ ns[i] := of_decide_eq_true c3
        have p18 : (0 : Int) ≤ (10 : Int) ^ (18 : Int).toNat := by decide
        refine ⟨_, rfl, _, rfl, a, _, _, 2, rfl, rfl, upd_same, rfl, ?_⟩
        have e2 : (cells l ((i + 1 : Nat) : Int) v s').set 2 (.int ns[i]) = cells l ((i + 1 : Nat) : Int) ns[i] s' := rfl
        rw [e2, up]
        exact rest (i + 1) ns[i] s' _ _ _ (fun _ _ => Iff.rfl) hi (by omega) w6 w7
      · refine ⟨_, rfl, a, _, _, _, rfl, rfl, .inl (.inl upd_same), at3, s', 48271, rfl, rfl, .inr ⟨by decide, by decide⟩, _, rfl, .inl ⟨_, rfl, _, _, rfl, rfl, (show (0 : Int) < 2147483647 by decide), _, _, rfl, rfl, _, _, rfl, rfl, .inl ⟨_, rfl, _, _, rfl, rfl, (show (0 : Int) < 2147483647 by decide), ?_⟩⟩⟩
        refine ⟨_, rfl, a, _, _, 3, rfl, rfl, upd_same, rfl, ?_⟩
        have e2 : ∀ z : Int, (cells l ((i + 1 : Nat) : Int) v s').set 3 (.int z) = cells l ((i + 1 : Nat) : Int) v z := fun _ => rfl
        rw [e2, up]
        exact rest (i + 1) v _ _ _ _ (fun _ _ => Iff.rfl) hi w5 (Int.emod_nonneg _ (by decide)) (Int.emod_lt_of_pos _ (by decide))
    · rw [hH]
      exact rest i v s' _ _ _ (fun _ _ => Iff.rfl) w4 w5 w6 w7
  · rw [hH]
    exact rest i v s' _ _ _ (fun _ _ => Iff.rfl) w4 w5 w6 w7
end
end Z1

set_option Elab.async false
set_option linter.all false
set_option maxRecDepth 100000
set_option maxHeartbeats 4000000
namespace Z1
open PySem PySem.Spec PyProof.Rows L2 Z
local macro_rules | `(tactic| walk_at "zs") => `(tactic| simp only [sSeq, sIf, sSet, sRet, sNx, sAsg, tN, dOr, dAnd, dNot, dT, dOp, dC, asB, dIf, dCall, dCons, dNil, dTup, dLst, dLc, dIt, dIl, dIs, g1, e_lt, e_gt, e_eq, e_ne, e_le, e_ge, e_add, e_addL, e_addT, e_I0, e_I, e_isN, e_isI, e_isS, e_isB, e_isT, e_isL, e_ixL, e_ixT, e_ixS, e_n0, e_n1, e_n2, e_n3, e_n4, e_n5, e_n6, e_n7, f_nil, f_dat, f_un, f_own, f_adr, rt_ends, nx_ends, List.set_cons_zero, List.set_cons_succ, gLen, gOrd, gTuple, gList, gInt, gNeg, dUn])
local macro_rules | `(tactic| walk_at "zk") => `(tactic| (show _ ∧ _; refine ⟨by first | decide | (simp; done) | omega, ?_⟩))
theorem iD_app (a b : List Int) : iD (a ++ b) = iD a ++ iD b := List.map_append ..
theorem tD_app1 (a : List Int) (n : Int) : PyData.tuple (iD a ++ [.int n]) = tD (a ++ [n]) := by
  unfold tD; rw [iD_app]; rfl
theorem ch_all : ∀ n : Nat, n < 94 → (match CH.cps.toList[n]? with | some c => okC c | none => false) = true := by decide +kernel
theorem ch_get {n : Nat} (h : n < 94) : ∃ c, CH.cps.toList[n]? = some c ∧ okC c = true := by
  have := ch_all n h
  split at this
  · rename_i c e; exact ⟨c, e, this⟩
  · cases this
theorem ch_len : CH.length ≤ 1000000 := by decide +kernel
theorem strs_nat : ∀ cs : List Nat, strsD (cs.map fun c => PyData.str ⟨#[c]⟩) = some (cs.map fun c => (⟨#[c]⟩ : Str))
  | [] => rfl
  | c :: cs => by rw [List.map_cons, strsD, strs_nat cs]; rfl
theorem sum_nat (cs : List Nat) : ((cs.map fun c => (⟨#[c]⟩ : Str)).map (·.length)).sum = cs.length := by
  induction cs with
  | nil => rfl
  | cons c cs ih =>
    rw [List.map_cons, List.map_cons, List.sum_cons, ih, List.length_cons]
    show 1 + cs.length = _
    omega
theorem chars_of : ∀ ds : List DD, (∀ d ∈ ds, ∃ c : Nat, okC c = true ∧ d = .str ⟨#[c]⟩) → ∃ cs : List Nat, ds = cs.map (fun c => PyData.str ⟨#[c]⟩) ∧ cs.all okC = true
  | [], _ => ⟨[], rfl, rfl⟩
  | d :: ds, h => by
    obtain ⟨c, h1, rfl⟩ := h d List.mem_cons_self
    obtain ⟨cs, rfl, h2⟩ := chars_of ds fun e he => h e (List.mem_cons_of_mem _ he)
    exact ⟨c :: cs, rfl, by rw [List.all_cons, h1, h2]; rfl⟩
theorem join_at (ds : List DD) (hl : ds.length ≤ 6) (h : ∀ d ∈ ds, ∃ c : Nat, okC c = true ∧ d = .str ⟨#[c]⟩) (P : DD → Prop) (hP : ∀ v, okV v = true → P v) : gJoin (.str (Str.ofString "")) (.list ds) P := by
  obtain ⟨cs, rfl, hc⟩ := chars_of ds h
  rw [List.length_map] at hl
  simp only [gJoin]
  rw [strs_nat]
  show _ ∧ _
  refine ⟨by rw [sum_nat, List.length_map]; show cs.length + cs.length * 0 ≤ _; omega, ?_⟩
  rw [show Txt.join (Str.ofString "") (cs.map fun c => (⟨#[c]⟩ : Str)) = ⟨cs.toArray⟩ from join_ch cs]
  refine hP _ ?_
  show (decide (cs.toArray.size ≤ 6) && cs.toArray.toList.all okC) = true
  rw [Bool.and_eq_true]
  exact ⟨decide_eq_true (by simpa using hl), by simpa using hc⟩
theorem upto_len (n : Int) : (upto n).length = n.toNat := by simp [upto]
theorem upto_mem {n : Int} {x : DD} (h : x ∈ upto n) : ∃ i : Nat, (i : Int) < n ∧ x = .int (i : Nat) := by
  unfold upto at h
  obtain ⟨i, hi, rfl⟩ := List.mem_map.mp h
  exact ⟨i, by have := List.mem_range.mp hi; omega, rfl⟩
theorem h__law_value : ∀ a ds Q, F__law_value ds Q → ds.length + 1 = 1 ∧ m__law_value a (endsD Q) (startS a N__law_value ds) := by
  rintro a ds Q ⟨rfl, h⟩
  refine ⟨rfl, ?_⟩
  refine ⟨rfl, ⟨by decide, by decide⟩, fun p p0 p1 => ?_⟩
  have c5 : p < 5 ∨ p = 5 ∨ p = 6 ∨ (7 ≤ p ∧ p < 10) ∨ 10 ≤ p := by omega
  rcases c5 with c | rfl | rfl | ⟨c1, c2⟩ | c
  · have : p = 0 ∨ p = 1 ∨ p = 2 ∨ p = 3 ∨ p = 4 := by omega
    rcases this with rfl | rfl | rfl | rfl | rfl
    · exact h (.int 0) rfl
    · exact h (.int 1) rfl
    · exact h (.int 2) rfl
    · exact h (.int (-1)) rfl
    · exact h (.int 7) rfl
  · refine ⟨rfl, ⟨by decide, by decide⟩, fun r r0 r1 => ⟨cm2 _ ⟨by omega, by omega⟩, ⟨by decide, by decide, by decide⟩, rfl, ⟨by decide, by decide⟩, fun t t0 t1 => ?_⟩⟩
    have hr : r = 0 ∨ r = 1 := by omega
    have ht : t = 0 ∨ t = 1 ∨ t = 2 := by omega
    rcases hr with rfl | rfl <;> rcases ht with rfl | rfl | rfl <;> exact ⟨by first | exact .inl ⟨by decide, by decide⟩ | exact .inr ⟨by decide, by decide⟩, h _ (by decide +kernel)⟩
  · refine ⟨rfl, ⟨by decide, by decide, by decide⟩, .inl ⟨by decide, by decide⟩, ⟨by decide, by decide⟩, fun r r0 r1 => ⟨⟨by decide, by decide, by decide⟩, ?_⟩⟩
    have e : (2 : Int) * 10 ^ (9 : Int).toNat + 1 = 2000000001 := by decide
    have r1 : r < 2 * 10 ^ (9 : Int).toNat + 1 := r1
    rw [e] at r1
    refine h (.int (r - 10 ^ (9 : Int).toNat)) ?_
    have e9 : (10 : Int) ^ (9 : Int).toNat = 1000000000 := by decide
    rw [e9]
    simp only [okV, decide_eq_true_eq]
    omega
  · have hp : p = 7 ∨ p = 8 ∨ p = 9 := by omega
    rcases hp with rfl | rfl | rfl
    all_goals
      refine ⟨rfl, ⟨by decide, by decide⟩, fun r r0 r1 => ?_⟩
      have hr : r = 0 ∨ r = 1 ∨ r = 2 ∨ r = 3 ∨ r = 4 ∨ r = 5 ∨ r = 6 ∨ r = 7 ∨ r = 8 := by omega
      rcases hr with rfl | rfl | rfl | rfl | rfl | rfl | rfl | rfl | rfl <;> exact ⟨by first | exact .inl ⟨by decide, by decide⟩ | exact .inr ⟨by decide, by decide⟩, h _ (by decide +kernel)⟩
  · have z1 : decide (p < 5) = false := decide_eq_false (by omega)
    have z2 : (p == 5) = false := by simp; omega
    have z3 : (p == 6) = false := by simp; omega
    have z4 : decide (p < 10) = false := decide_eq_false (by omega)
    show if decide (p < 5) = true then _ else if (p == 5) = true then _ else if (p == 6) = true then _ else if decide (p < 10) = true then _ else _
    rw [z1, z2, z3, z4]
    refine ⟨rfl, ⟨by decide, by decide⟩, fun s s0 s1 => ⟨rfl, ⟨by decide, by decide⟩, fun t t0 t1 => ⟨rfl, ⟨by decide, by decide⟩, fun n n0 n1 => ?_⟩⟩⟩
    refine ⟨⟨by omega, by omega⟩, comp_all (fun d => ∃ c : Nat, okC c = true ∧ d = .str ⟨#[c]⟩) (fun x hx Q' hQ => ?_) (by rw [upto_len]; show 0 + _ ≤ _; omega) fun ds h1 h2 => join_at _ (by rw [List.nil_append, h1, upto_len]; omega) (by rw [List.nil_append]; exact h2) _ h⟩
    obtain ⟨i, hi, rfl⟩ := upto_mem hx
    have m0 : 0 ≤ (s + t * (i : Int)) % 94 := Int.emod_nonneg _ (by decide)
    have m1 : (s + t * (i : Int)) % 94 < 94 := Int.emod_lt_of_pos _ (by decide)
    obtain ⟨c, g1', g2⟩ := ch_get (n := ((s + t * (i : Int)) % 94).toNat) (by omega)
    refine ⟨rfl, .inl ⟨by omega, by omega⟩, show (0 : Int) < 94 by decide, ch_len, ?_⟩
    have e : atI CH.cps.toList ((s + t * (i : Int)) % 94) = some c := by
      have := atI_nat g1'
      rwa [Int.toNat_of_nonneg m0] at this
    rw [e]
    exact hQ _ ⟨c, g2, rfl⟩
theorem val_be (m : Int) (h0 : 0 ≤ m) (h1 : m < 2 ^ 40) : val5 (be5 m) = m := by
  simp only [val5, be5, List.foldl_cons, List.foldl_nil]
  omega
theorem okV_str {z : Str} (h : okV (.str z) = true) : ∀ c ∈ z.cps.toList, 1 ≤ c := by
  simp only [okV, Bool.and_eq_true, List.all_eq_true] at h
  intro c hc
  have := h.2 c hc
  simp only [okC, decide_eq_true_eq] at this
  omega
theorem okV_int {n : Int} (h : okV (.int n) = true) : -1000000000 ≤ n ∧ n ≤ 1000000000 := by simpa [okV] using h
theorem str_cps {n m : Str} : n = m ↔ n.cps.toList = m.cps.toList := ⟨fun e => by rw [e], str_ext⟩
theorem bytes_ne {v : DD} (hv : okV v = true) : ∃ x r, bytesV v = x :: r ∧ x < 3 := by
  cases v with
  | int n => exact ⟨1, _, rfl, by decide⟩
  | str n => exact ⟨2, _, rfl, by decide⟩
  | _ => simp [okV] at hv
theorem key_cons (v : DD) (vs : List DD) : keyI (v :: vs) = bytesV v ++ keyI vs := List.flatMap_cons ..
theorem first_int {n : Int} (h : okV (.int n) = true) (r : List Int) : first (bytesV (.int n) ++ r) = (.int n, 6) := by
  have a := okV_int h
  have e : first (bytesV (.int n) ++ r) = (intB ((be5 (n + 549755813888) ++ r).take 5), 6) := rfl
  have e2 : (be5 (n + 549755813888) ++ r).take 5 = be5 (n + 549755813888) := rfl
  rw [e, e2]
  unfold intB
  have l5 : (be5 (n + 549755813888)).length = 5 := rfl
  rw [if_neg (by omega), val_be _ (by omega) (by omega)]
  have e3 : n + 549755813888 - 549755813888 = n := by omega
  rw [e3, if_pos a]
theorem first_str {z : Str} (h : okV (.str z) = true) (r : List Int) : first (bytesV (.str z) ++ r) = (.str z, z.cps.toList.length + 2) := by
  have h1 := okV_str h
  have e : bytesV (.str z) ++ r = 2 :: ((z.cps.toList.map fun (c : Nat) => (c : Int)) ++ 0 :: r) := by
    simp only [bytesV, List.cons_append, List.append_assoc, List.nil_append]
  rw [e]
  have f : ((z.cps.toList.map fun (c : Nat) => (c : Int)) ++ 0 :: r).findIdx? (· == 0) = some z.cps.toList.length := by
    rw [List.findIdx?_append]
    have n : (z.cps.toList.map fun (c : Nat) => (c : Int)).findIdx? (· == 0) = none := by
      rw [List.findIdx?_eq_none_iff]
      intro x hx
      obtain ⟨c, hc, rfl⟩ := List.mem_map.mp hx
      have := h1 c hc
      simp; omega
    rw [n, List.findIdx?_cons]
    simp
  simp only [first, f]
  have t : ((z.cps.toList.map fun (c : Nat) => (c : Int)) ++ 0 :: r).take z.cps.toList.length = z.cps.toList.map fun (c : Nat) => (c : Int) := by
    rw [List.take_append_of_le_length (by rw [List.length_map]; exact Nat.le_refl _), List.take_of_length_le (by rw [List.length_map]; exact Nat.le_refl _)]
  rw [t]
  simp only [okV, Bool.and_eq_true, decide_eq_true_eq, List.all_eq_true] at h
  unfold textD
  rw [if_pos ⟨by rw [List.length_map]; simpa using h.1, by
    rw [List.all_eq_true]
    intro x hx
    obtain ⟨c, hc, rfl⟩ := List.mem_map.mp hx
    have := h.2 c hc
    simp only [okC, decide_eq_true_eq] at this
    exact decide_eq_true (by omega)⟩]
  congr 1
  congr 1
  apply str_ext
  simp [List.map_map, Function.comp_def]
theorem first_at {v : DD} (hv : okV v = true) (r : List Int) : (first (bytesV v ++ r)).1 = v ∧ (bytesV v ++ r).drop (first (bytesV v ++ r)).2 = r := by
  cases v with
  | int n => rw [first_int hv]; exact ⟨rfl, rfl⟩
  | str z =>
    rw [first_str hv]
    refine ⟨rfl, ?_⟩
    have e : bytesV (.str z) ++ r = (2 :: ((z.cps.toList.map fun (c : Nat) => (c : Int)) ++ [0])) ++ r := rfl
    rw [e]
    exact List.drop_left' (by simp)
  | _ => simp [okV] at hv
theorem okV_none {v : DD} (h : okV v = true) : v ≠ .none := by rintro rfl; cases h
theorem decode_key : ∀ (vs : List DD) (n : Nat), vs.all okV = true → vs.length ≤ n → decode n (keyI vs) = some vs
  | [], n, _, _ => by cases n <;> rfl
  | v :: vs, 0, _, h => absurd h (Nat.not_succ_le_zero _)
  | v :: vs, n + 1, h, hn => by
    rw [List.all_cons, Bool.and_eq_true] at h
    obtain ⟨x, r, e, _⟩ := bytes_ne h.1
    obtain ⟨f1, f2⟩ := first_at h.1 (keyI vs)
    rw [key_cons, decode_some n _ (by rw [e]; exact List.cons_ne_nil _ _) (by rw [f1]; exact okV_none h.1), f1, f2, decode_key vs n h.2 (by rw [List.length_cons] at hn; omega)]
    rfl
theorem key_len : ∀ (vs : List DD), vs.all okV = true → vs.length ≤ (keyI vs).length ∧ (keyI vs).length ≤ 8 * vs.length
  | [], _ => ⟨Nat.le_refl _, Nat.le_refl _⟩
  | v :: vs, h => by
    rw [List.all_cons, Bool.and_eq_true] at h
    obtain ⟨x, r, e, _⟩ := bytes_ne h.1
    have b := bl_of h.1
    have ih := key_len vs h.2
    have p : 1 ≤ (bytesV v).length := by rw [e, List.length_cons]; omega
    rw [key_cons, List.length_append, List.length_cons]
    omega
theorem dec_key (vs : List DD) (h : vs.all okV = true) : decD (keyI vs) = .tuple vs := by
  unfold decD
  rw [decode_key vs _ h (key_len vs h).1]
theorem bytes_B {v : DD} (hv : okV v = true) : (bytesV v).all isB = true := by
  cases v with
  | int n =>
    simp only [bytesV, be5, List.all_cons, List.all_nil, isB, Bool.and_true, Bool.and_eq_true, decide_eq_true_eq]
    omega
  | str z =>
    simp only [okV, Bool.and_eq_true, decide_eq_true_eq, List.all_eq_true] at hv
    rw [List.all_eq_true]
    intro x hx
    have hx : x = 2 ∨ (∃ c ∈ z.cps.toList, x = ((c : Nat) : Int)) ∨ x = 0 := by
      simp only [bytesV, List.mem_cons, List.mem_append, List.mem_map, List.cons_append, List.not_mem_nil, or_false] at hx
      rcases hx with h | ⟨c, h1, h2⟩ | h
      · exact .inl h
      · exact .inr (.inl ⟨c, h1, h2.symm⟩)
      · exact .inr (.inr h)
    rcases hx with rfl | ⟨c, hc, rfl⟩ | rfl
    · rfl
    · have := hv.2 c hc
      simp only [okC, decide_eq_true_eq] at this
      exact decide_eq_true (by omega)
    · rfl
  | _ => rfl
theorem key_B : ∀ (vs : List DD), vs.all okV = true → (keyI vs).all isB = true
  | [], _ => rfl
  | v :: vs, h => by
    rw [List.all_cons, Bool.and_eq_true] at h
    rw [key_cons, List.all_append, bytes_B h.1, key_B vs h.2]; rfl
theorem loop_inv {gd : DG} {sb : DS} {E : DEn} (p : DD → Prop) (I : Nat → En → Prop) (hE : ∀ ρ, I 0 ρ → E.nx ρ) (step : ∀ x r ρ k, p x → I (r + 1) ρ → (∀ ρ', I r ρ' → k ρ') → gd x ρ fun ρ1 => sb ⟨k, E.rt, E.nx, k, E.ex⟩ ρ1) : ∀ (items : List DD) (ρ : En), (∀ x ∈ items, p x) → I items.length ρ → loop gd sb E items ρ
  | [], ρ, _, h => hE ρ h
  | x :: xs, ρ, hp, h => step x xs.length ρ _ (hp x List.mem_cons_self) h fun ρ' h' => loop_inv p I hE step xs ρ' (fun y hy => hp y (List.mem_cons_of_mem _ hy)) h'
theorem okS_ints (n : Nat) : ∀ l : List Int, (iD l).all (okS n) = true
  | [] => rfl
  | c :: l => by
    show (okS n (.int c) && (iD l).all (okS n)) = true
    rw [okS_ints n l]
    cases n <;> rfl
theorem okS_tD {l : List Int} (h : l.length ≤ 100000) (n : Nat) : okS (n + 1) (tD l) = true := by
  show (decide ((iD l).length ≤ 100000) && (iD l).all (okS n)) = true
  rw [okS_ints, len_iD, decide_eq_true h]; rfl
theorem okS_flat {v : DD} (h : okV v = true) (n : Nat) : okS n v = true := by
  cases v with
  | int i => cases n <;> rfl
  | str i => cases n <;> rfl
  | _ => simp [okV] at h
theorem okS_row {vs : List DD} (h : vs.all okV = true) (hl : vs.length ≤ 100000) (n : Nat) : okS (n + 1) (.tuple vs) = true := by
  show (decide (vs.length ≤ 100000) && vs.all (okS n)) = true
  rw [decide_eq_true hl, Bool.true_and, List.all_eq_true]
  exact fun x hx => okS_flat (List.all_eq_true.mp h x hx) n
theorem ne_same {x y : Bool} (h : x = y) {P : DD → Prop} (hp : P (.bool false)) : gB neD (.bool x) (.bool y) P := by
  subst h
  show match neD (.bool x) (.bool x) with | some k => P (.bool k) | none => False
  have e : neD (.bool x) (.bool x) = some false := by cases x <;> rfl
  rw [e]; exact hp
theorem cut_to (us : List DD) (n : Nat) : cutZ us none (some (n : Int)) = us.take n := by
  unfold cutZ
  rw [HT.sIx_none, HT.sIx_nat, List.drop_zero, Nat.sub_zero]
  rcases Nat.le_total n us.length with h | h
  · rw [Nat.min_eq_left h]
  · rw [Nat.min_eq_right h, List.take_length, List.take_of_length_le h]
theorem cut_some {cs : List Int} (hb : cs.all isB = true) (lo hi : Option Int) : ∃ es, cutZ (iD cs) lo hi = iD es ∧ es.length ≤ cs.length ∧ es.all isB = true := by
  refine ⟨(cs.drop (HT.sIx (iD cs).length 0 lo)).take (HT.sIx (iD cs).length (iD cs).length hi - HT.sIx (iD cs).length 0 lo), ?_, ?_, isB_all (isB_drop hb _) _⟩
  · unfold cutZ iD
    rw [← List.map_drop, ← List.map_take]
  · rw [List.length_take, List.length_drop]; omega
theorem byte_of (x y : Int) (hx : isB x = true) (hy : isB y = true) (s : Int) (s0 : 0 ≤ s) (s1 : s < 2) {P : DD → Prop} (hp : ∀ b, isB b = true → P (.int b)) : gIx (.list [.int x, .int y]) (.int s) P := by
  have : s = 0 ∨ s = 1 := by omega
  rcases this with rfl | rfl
  · exact hp x hx
  · exact hp y hy
theorem bytes_of : ∀ ds : List DD, (∀ d ∈ ds, ∃ b, isB b = true ∧ d = .int b) → ∃ bs, ds = iD bs ∧ bs.all isB = true
  | [], _ => ⟨[], rfl, rfl⟩
  | d :: ds, h => by
    obtain ⟨b, h1, rfl⟩ := h d List.mem_cons_self
    obtain ⟨bs, rfl, h2⟩ := bytes_of ds fun e he => h e (List.mem_cons_of_mem _ he)
    exact ⟨b :: bs, rfl, by rw [List.all_cons, h1, h2]; rfl⟩
theorem isB_of {b : Int} (h0 : 0 ≤ b) (h1 : b < 256) : isB b = true := decide_eq_true (by omega)
theorem put_i {n : Nat} {k : Nat → Prop} (h : 1 < n) (hk : k 1) : (match ixN n 1 with | some j => k j | none => False) := by
  have e : ixN n 1 = some 1 := by
    unfold ixN
    rw [if_pos (by decide), if_pos (by omega)]; rfl
  rw [e]; exact hk
theorem nol_row : ∀ {vs : List DD}, vs.all okV = true → nolAll vs = true
  | [], _ => rfl
  | v :: vs, h => by
    rw [List.all_cons, Bool.and_eq_true] at h
    rw [nolAll, nol_row h.2, Bool.and_true]
    cases v with
    | int i => rfl
    | str i => rfl
    | _ => simp [okV] at h
theorem gt_i {a b : Int} {P : DD → Prop} (h : P (.bool (decide (b < a)))) : gB gtD (.int a) (.int b) P := h
theorem byteA_ok (a : Addr) (n : Int) (hn : n = 3 ∨ n = 4) (ρ : En) (hρ : ρ[1]? = some (.adr a)) (P : DD → Prop) (hp : ∀ b, isB b = true → P (.int b)) :
    dOp gIx (dLst (dCons (dSt a 1 F__law_next (dCons (dC (.int 256)) dNil)) (dCons (dSt a 1 F__law_next (dCons (dC (.int n)) dNil)) dNil))) (dSt a 1 F__law_next (dCons (dC (.int 2)) dNil)) ρ P := by
  refine ⟨hρ, ⟨by decide, by decide⟩, fun x x0 x1 => ⟨hρ, ⟨by omega, by omega⟩, fun y y0 y1 => ⟨hρ, ⟨by decide, by decide⟩, fun s s0 s1 => ?_⟩⟩⟩
  exact byte_of x y (isB_of x0 x1) (isB_of y0 (by omega)) s s0 s1 hp
end Z1

set_option Elab.async false
set_option linter.all false
set_option maxRecDepth 100000
set_option maxHeartbeats 1000000
/-! pages and bytes: mathematics -/
namespace Z1
open PySem PySem.Spec PyProof.Rows L2 Z
theorem cnt_cons (k r : List Int) : cntR (cntI k ++ r) = some k := by
  show (if (k.length : Int).toNat ≤ (k ++ r).length then some ((k ++ r).take (k.length : Int).toNat) else none) = some k
  rw [Int.toNat_natCast, if_pos (by rw [List.length_append]; omega), List.take_left]
theorem drop_cnt (k r : List Int) : (cntI k ++ r).drop (1 + k.length) = r := by
  rw [Nat.add_comm]
  show (k ++ r).drop k.length = r
  exact List.drop_left
/-- what was read is what stood there -/
theorem cnt_is {r k : List Int} (hb : r.all isB = true) (h : cntR r = some k) : r = cntI k ++ r.drop (1 + k.length) ∧ k.all isB = true := by
  cases r with
  | nil => cases h
  | cons n t =>
    have h : (if n.toNat ≤ t.length then some (t.take n.toNat) else none) = some k := h
    split at h
    · rename_i c
      have e := Option.some.inj h
      subst e
      rw [List.all_cons, Bool.and_eq_true] at hb
      have n0 : 0 ≤ n := by
        have := hb.1
        unfold isB at this
        have := of_decide_eq_true this
        omega
      have hl : (t.take n.toNat).length = n.toNat := by rw [List.length_take]; omega
      refine ⟨?_, isB_all hb.2 _⟩
      rw [hl, Nat.add_comm]
      show n :: t = ((t.take n.toNat).length : Int) :: (t.take n.toNat ++ t.drop n.toNat)
      rw [hl, List.take_append_drop, Int.toNat_of_nonneg n0]
    · cases h
/-! values and their bytes, the other way -/
theorem be_val (a b c d e : Int) (ha : isB a = true) (hb : isB b = true) (hc : isB c = true) (hd : isB d = true) (he : isB e = true) : be5 (val5 [a, b, c, d, e]) = [a, b, c, d, e] := by
  have f : ∀ x, isB x = true → 0 ≤ x ∧ x ≤ 255 := fun x h => by unfold isB at h; exact of_decide_eq_true h
  have := f a ha; have := f b hb; have := f c hc; have := f d hd; have := f e he
  simp only [be5, val5, List.foldl_cons, List.foldl_nil, List.cons.injEq, and_true]
  refine ⟨?_, ?_, ?_, ?_, ?_⟩ <;> omega
theorem first_is {r : List Int} (hb : r.all isB = true) (h : (first r).1 ≠ .none) : okV (first r).1 = true ∧ r = bytesV (first r).1 ++ r.drop (first r).2 := by
  unfold first at h ⊢
  split at h
  · rename_i t
    rw [List.all_cons, Bool.and_eq_true] at hb
    have hb := hb.2
    simp only at h ⊢
    unfold intB at h ⊢
    split at h
    · exact absurd rfl h
    · rename_i hl
      split at h
      · rename_i hr
        rw [if_neg hl, if_pos hr]
        have l5 : 5 ≤ t.length := by rw [List.length_take] at hl; omega
        obtain ⟨a, b, c, d, e, u, rfl⟩ : ∃ a b c d e u, t = a :: b :: c :: d :: e :: u := by
          match t, l5 with
          | a :: b :: c :: d :: e :: u, _ => exact ⟨a, b, c, d, e, u, rfl⟩
        simp only [List.all_cons, Bool.and_eq_true] at hb
        have ev := be_val a b c d e hb.1 hb.2.1 hb.2.2.1 hb.2.2.2.1 hb.2.2.2.2.1
        have et : (a :: b :: c :: d :: e :: u).take 5 = [a, b, c, d, e] := rfl
        rw [et] at hr ⊢
        refine ⟨by simp only [okV, decide_eq_true_eq]; omega, ?_⟩
        show _ = (1 :: be5 (val5 [a, b, c, d, e] - 549755813888 + 549755813888)) ++ u
        rw [Int.sub_add_cancel, ev]; rfl
      · exact absurd rfl h
  · rename_i t
    rw [List.all_cons, Bool.and_eq_true] at hb
    have hb := hb.2
    split at h
    · rename_i j hj
      simp only at h ⊢
      unfold textD at h ⊢
      split at h
      · rename_i hc
        rw [if_pos hc]
        obtain ⟨hjl, hz, hbef⟩ := List.findIdx?_eq_some_iff_getElem.mp hj
        have hz : t[j] = 0 := by simpa using hz
        have hall : ∀ x ∈ t.take j, 32 ≤ x ∧ x ≤ 126 ∧ x ≠ 37 := fun x hx => by
          have := List.all_eq_true.mp hc.2 x hx
          exact of_decide_eq_true this
        have em : ∀ l : List Int, (∀ x ∈ l, 32 ≤ x ∧ x ≤ 126 ∧ x ≠ 37) → (l.map Int.toNat).map (fun (c : Nat) => (c : Int)) = l := fun l hl => by
          rw [List.map_map]
          conv => rhs; rw [← List.map_id l]
          refine List.map_congr_left fun x hx => ?_
          have := hl x hx
          show ((x.toNat : Nat) : Int) = x
          omega
        refine ⟨?_, ?_⟩
        · show (decide (((t.take j).map Int.toNat).toArray.size ≤ 6) && ((t.take j).map Int.toNat).toArray.toList.all okC) = true
          rw [Bool.and_eq_true]
          refine ⟨decide_eq_true (by simpa using hc.1), ?_⟩
          rw [List.all_eq_true]
          intro x hx
          obtain ⟨y, hy, rfl⟩ := List.mem_map.mp (show x ∈ (t.take j).map Int.toNat by simpa using hx)
          have := hall y hy
          unfold okC
          exact decide_eq_true (by omega)
        · show 2 :: t = 2 :: ((((t.take j).map Int.toNat).toArray.toList.map fun (c : Nat) => (c : Int)) ++ [0]) ++ t.drop (j + 1)
          have e1 : (((t.take j).map Int.toNat).toArray.toList.map fun (c : Nat) => (c : Int)) = t.take j := em _ hall
          rw [e1]
          show 2 :: t = 2 :: (t.take j ++ [0] ++ t.drop (j + 1))
          rw [List.append_assoc, List.singleton_append, ← hz, List.getElem_cons_drop, List.take_append_drop]
      · exact absurd rfl h
    · exact absurd rfl h
  · exact absurd rfl h
theorem decode_is : ∀ (n : Nat) (r : List Int) (vs : List DD), r.all isB = true → decode n r = some vs → vs.all okV = true ∧ keyI vs = r ∧ vs.length ≤ n
  | n, [], vs, _, h => by
    have : vs = [] := by cases n <;> (injection h with h; exact h.symm)
    subst this
    exact ⟨rfl, rfl, Nat.zero_le _⟩
  | 0, _ :: _, vs, _, h => by cases h
  | n + 1, x :: t, vs, hb, h => by
    by_cases hz : (first (x :: t)).1 = .none
    · rw [decode_none n _ (List.cons_ne_nil _ _) hz] at h; cases h
    · rw [decode_some n _ (List.cons_ne_nil _ _) hz] at h
      obtain ⟨ho, he⟩ := first_is hb hz
      cases hd : decode n ((x :: t).drop (first (x :: t)).2) with
      | none => rw [hd] at h; cases h
      | some us =>
        rw [hd] at h
        injection h with h
        subst h
        obtain ⟨a, b, c⟩ := decode_is n _ us (isB_drop hb _) hd
        refine ⟨by rw [List.all_cons, ho, a]; rfl, ?_, by rw [List.length_cons]; omega⟩
        rw [key_cons, b]; exact he.symm
/-! entries, children -/
theorem ents_is : ∀ (n : Nat) (r : List Int) (es : List (List Int × List DD)) (r' : List Int), r.all isB = true → r.length ≤ 300 → ents n r = some (es, r') → es.length = n ∧ (∀ e ∈ es, OkEnt e) ∧ r = es.flatMap entB ++ r'
  | 0, r, es, r', hb, hl, h => by
    injection h with h
    injection h with h1 h2
    subst h1 h2
    exact ⟨rfl, fun _ h => (by cases h), rfl⟩
  | n + 1, r, es, r', hb, hl, h => by
    unfold ents at h
    split at h
    · cases h
    · rename_i k hk
      split at h
      · cases h
      · rename_i v hv
        split at h
        · cases h
        · rename_i vs hvs
          split at h
          · cases h
          · rename_i fs s hr
            injection h with h
            injection h with h1 h2
            subst h1 h2
            obtain ⟨e1, b1⟩ := cnt_is hb hk
            have hb2 := isB_drop hb (1 + k.length)
            obtain ⟨e2, b2⟩ := cnt_is hb2 hv
            obtain ⟨o3, e3, l3⟩ := decode_is _ _ _ b2 hvs
            have hb4 := isB_drop hb2 (1 + v.length)
            obtain ⟨l4, o4, e4⟩ := ents_is n _ fs _ hb4 (by rw [List.length_drop, List.length_drop]; omega) hr
            have lk : k.length ≤ r.length := by
              have := congrArg List.length e1
              rw [List.length_append] at this
              have z : (cntI k).length = k.length + 1 := rfl
              omega
            have lv : v.length ≤ r.length := by
              have := congrArg List.length e2
              rw [List.length_append, List.length_drop] at this
              have z : (cntI v).length = v.length + 1 := rfl
              omega
            refine ⟨by rw [List.length_cons, l4], fun e he => ?_, ?_⟩
            · rcases List.mem_cons.mp he with rfl | he
              · exact ⟨by show k.length ≤ 300; omega, b1, by show vs.length ≤ 300; omega, o3⟩
              · exact o4 e he
            · show r = (cntI k ++ cntI (keyI vs)) ++ fs.flatMap entB ++ s
              rw [e3, List.append_assoc, List.append_assoc, ← e4, ← e2]
              exact e1
theorem ents_of : ∀ (es : List (List Int × List DD)) (r : List Int), (∀ e ∈ es, OkEnt e) → ents es.length (es.flatMap entB ++ r) = some (es, r)
  | [], r, _ => rfl
  | (k, vs) :: es, r, ho => by
    have o := ho _ List.mem_cons_self
    have eq0 : ((k, vs) :: es).flatMap entB ++ r = cntI k ++ (cntI (keyI vs) ++ (es.flatMap entB ++ r)) := by
      show (cntI k ++ cntI (keyI vs)) ++ es.flatMap entB ++ r = _
      simp only [List.append_assoc]
    rw [eq0]
    show (match cntR (cntI k ++ (cntI (keyI vs) ++ (es.flatMap entB ++ r))) with
      | none => none
      | some k' => match cntR ((cntI k ++ (cntI (keyI vs) ++ (es.flatMap entB ++ r))).drop (1 + k'.length)) with
        | none => none
        | some v => match decode v.length v with
          | none => none
          | some us => match ents es.length (((cntI k ++ (cntI (keyI vs) ++ (es.flatMap entB ++ r))).drop (1 + k'.length)).drop (1 + v.length)) with
            | none => none
            | some (fs, r') => some ((k', us) :: fs, r')) = _
    rw [cnt_cons]
    simp only
    rw [drop_cnt, cnt_cons]
    simp only
    rw [decode_key vs _ o.vb (key_len vs o.vb).1]
    simp only
    rw [drop_cnt, ents_of es r fun e he => ho e (List.mem_cons_of_mem _ he)]
theorem chls_is : ∀ (n : Nat) (b : Bool) (r : List Int) (cs : List (List Int × Int)) (r' : List Int), r.all isB = true → r.length ≤ 300 → chls b n r = some (cs, r') →
    cs.length = n ∧ (∀ c ∈ cs, OkChl c) ∧ (b = true → ∀ c l, cs = c :: l → c.1 = []) ∧ r = cs.flatMap chlB ++ r'
  | 0, b, r, cs, r', hb, hl, h => by
    have h : some (([] : List (List Int × Int)), r) = some (cs, r') := by cases b <;> exact h
    injection h with h
    injection h with h1 h2
    subst h1 h2
    exact ⟨rfl, fun _ h => (by cases h), fun _ c l h => (by cases h), rfl⟩
  | n + 1, b, r, cs, r', hb, hl, h => by
    unfold chls at h
    split at h
    · cases h
    · rename_i k hk
      split at h
      · cases h
      · rename_i hne
        split at h
        · cases h
        · rename_i ds s hr
          injection h with h
          injection h with h1 h2
          subst h1 h2
          have hb2 := isB_drop hb 2
          obtain ⟨e1, b1⟩ := cnt_is hb2 hk
          have hb3 := isB_drop hb2 (1 + k.length)
          obtain ⟨l4, o4, _, e4⟩ := chls_is n false _ ds _ hb3 (by rw [List.length_drop, List.length_drop]; omega) hr
          have lk : k.length + 1 ≤ (r.drop 2).length := by
            have := congrArg List.length e1
            rw [List.length_append] at this
            have z : (cntI k).length = k.length + 1 := rfl
            omega
          rw [List.length_drop] at lk
          obtain ⟨x, y, t, rfl⟩ : ∃ x y t, r = x :: y :: t := by
            match r, lk with
            | x :: y :: t, _ => exact ⟨x, y, t, rfl⟩
          simp only [List.all_cons, Bool.and_eq_true] at hb
          have bx : 0 ≤ x ∧ x ≤ 255 := of_decide_eq_true hb.1
          have by' : 0 ≤ y ∧ y ≤ 255 := of_decide_eq_true hb.2.1
          rw [List.length_cons, List.length_cons] at lk hl
          refine ⟨by rw [List.length_cons, l4], fun c hc => ?_, fun eb c l e => ?_, ?_⟩
          · rcases List.mem_cons.mp hc with rfl | hc
            · exact ⟨by show k.length ≤ 300; omega, b1, by show 0 ≤ x * 256 + y; omega, by show x * 256 + y < 65536; omega⟩
            · exact o4 c hc
          · injection e with e _
            subst e
            by_cases z : k = []
            · exact z
            · exact absurd ⟨eb, z⟩ hne
          · show x :: y :: t = ((x * 256 + y) / 256 :: (x * 256 + y) % 256 :: cntI k) ++ ds.flatMap chlB ++ s
            have d1 : (x * 256 + y) / 256 = x := by omega
            have d2 : (x * 256 + y) % 256 = y := by omega
            rw [d1, d2]
            show x :: y :: t = x :: y :: (cntI k ++ ds.flatMap chlB ++ s)
            rw [List.append_assoc, ← e4]
            exact congrArg (fun z => x :: y :: z) e1
theorem chls_of : ∀ (cs : List (List Int × Int)) (b : Bool) (r : List Int), (∀ c ∈ cs, OkChl c) → (b = true → ∀ c l, cs = c :: l → c.1 = []) → chls b cs.length (cs.flatMap chlB ++ r) = some (cs, r)
  | [], b, r, _, _ => by cases b <;> rfl
  | (k, n) :: cs, b, r, ho, hf => by
    have o := ho _ List.mem_cons_self
    have n0 := o.n0
    have n1 := o.n1
    simp only at n0 n1
    have eq0 : ((k, n) :: cs).flatMap chlB ++ r = n / 256 :: n % 256 :: (cntI k ++ (cs.flatMap chlB ++ r)) := by
      show (n / 256 :: n % 256 :: cntI k) ++ cs.flatMap chlB ++ r = _
      simp only [List.cons_append, List.append_assoc]
    rw [eq0]
    show (match cntR (cntI k ++ (cs.flatMap chlB ++ r)) with
      | none => none
      | some k' => if b = true ∧ k' ≠ [] then none else match chls false cs.length ((cntI k ++ (cs.flatMap chlB ++ r)).drop (1 + k'.length)) with
        | none => none
        | some (ds, r') => some ((k', n / 256 * 256 + n % 256) :: ds, r')) = _
    rw [cnt_cons]
    simp only
    have hk : ¬ (b = true ∧ k ≠ []) := fun z => z.2 (hf z.1 _ _ rfl)
    rw [if_neg hk, drop_cnt, chls_of cs false r (fun c hc => ho c (List.mem_cons_of_mem _ hc)) (fun z => by cases z)]
    have e : n / 256 * 256 + n % 256 = n := by omega
    rw [e]
/-! pages -/
theorem all_zero : ∀ r : List Int, ¬ (r.any (· != 0) = true) → r = List.replicate r.length 0
  | [], _ => rfl
  | x :: r, h => by
    rw [List.any_cons, Bool.or_eq_true, not_or] at h
    have hx : x = 0 := by simpa using h.1
    rw [List.length_cons, List.replicate_succ, ← all_zero r h.2, hx]
theorem zero_any (n : Nat) : (List.replicate n (0 : Int)).any (· != 0) = false := by
  induction n with
  | zero => rfl
  | succ n ih => rw [List.replicate_succ, List.any_cons, ih]; rfl
theorem rd_is {cs : List Int} {p : Pg} (hb : cs.all isB = true) (h : rdP cs = some p) : OkPg p ∧ (pgB p).length ≤ 256 ∧ padI (pgB p) = cs := by
  unfold rdP at h
  split at h
  · rename_i hl
    match cs, h with
    | 0 :: n :: t, h =>
      simp only at h
      split at h
      · rename_i es r he
        split at h
        · cases h
        · rename_i hz
          have e := Option.some.inj h
          subst e
          simp only [List.all_cons, Bool.and_eq_true] at hb
          have bn : 0 ≤ n ∧ n ≤ 255 := of_decide_eq_true hb.2.1
          rw [List.length_cons, List.length_cons] at hl
          obtain ⟨l1, o1, e1⟩ := ents_is _ _ _ _ hb.2.2 (by omega) he
          have hr := all_zero r hz
          have en : (es.length : Int) = n := by rw [l1]; omega
          have el : leafB es ++ r = 0 :: n :: t := by
            show 0 :: (es.length : Int) :: (es.flatMap entB ++ r) = _
            rw [en, ← e1]
          have ll := congrArg List.length el
          rw [List.length_append, List.length_cons, List.length_cons] at ll
          refine ⟨⟨by omega, o1⟩, by show (leafB es).length ≤ 256; omega, ?_⟩
          show leafB es ++ List.replicate (256 - (leafB es).length) 0 = _
          have : 256 - (leafB es).length = r.length := by omega
          rw [this, ← hr, el]
      · cases h
    | 1 :: n :: t, h =>
      simp only at h
      split at h
      · rename_i es r he
        split at h
        · cases h
        · rename_i hz
          have e := Option.some.inj h
          subst e
          simp only [List.all_cons, Bool.and_eq_true] at hb
          have bn : 0 ≤ n ∧ n ≤ 255 := of_decide_eq_true hb.2.1
          rw [List.length_cons, List.length_cons] at hl
          obtain ⟨l1, o1, f1, e1⟩ := chls_is _ _ _ _ _ hb.2.2 (by omega) he
          have hr := all_zero r hz
          have en : (es.length : Int) = n := by rw [l1]; omega
          have el : innerB es ++ r = 1 :: n :: t := by
            show 1 :: (es.length : Int) :: (es.flatMap chlB ++ r) = _
            rw [en, ← e1]
          have ll := congrArg List.length el
          rw [List.length_append, List.length_cons, List.length_cons] at ll
          refine ⟨⟨by omega, o1, f1 rfl⟩, by show (innerB es).length ≤ 256; omega, ?_⟩
          show innerB es ++ List.replicate (256 - (innerB es).length) 0 = _
          have : 256 - (innerB es).length = r.length := by omega
          rw [this, ← hr, el]
      · cases h
  · cases h
theorem rd_of {p : Pg} (ho : OkPg p) (hl : (pgB p).length ≤ 256) : rdP (padI (pgB p)) = some p := by
  have l256 : (padI (pgB p)).length = 256 := by unfold padI; rw [List.length_append, List.length_replicate]; omega
  unfold rdP
  rw [if_pos l256]
  cases p with
  | leaf es =>
    show (match ents ((es.length : Int)).toNat (es.flatMap entB ++ List.replicate (256 - (leafB es).length) 0) with
      | some (es, r) => if r.any (· != 0) = true then none else some (Pg.leaf es)
      | none => none) = _
    rw [Int.toNat_natCast, ents_of es _ ho.2]
    simp only
    rw [zero_any]; rfl
  | inner cs =>
    show (match chls true ((cs.length : Int)).toNat (cs.flatMap chlB ++ List.replicate (256 - (innerB cs).length) 0) with
      | some (cs, r) => if r.any (· != 0) = true then none else some (Pg.inner cs)
      | none => none) = _
    rw [Int.toNat_natCast, chls_of cs true _ ho.2.1 fun _ => ho.2.2]
    simp only
    rw [zero_any]; rfl
theorem cntI_len (k : List Int) : (cntI k).length = k.length + 1 := rfl
theorem cntI_B {k : List Int} (h : k.length ≤ 255) (hb : k.all isB = true) : (cntI k).all isB = true := by
  show (isB (k.length : Int) && k.all isB) = true
  rw [hb, Bool.and_true]
  exact decide_eq_true (by omega)
/-- a page that fits has bytes alone -/
theorem flat_len {α : Type} (f : α → List Int) : ∀ (l : List α) (x : α), x ∈ l → (f x).length ≤ (l.flatMap f).length
  | y :: l, x, h => by
    rw [List.flatMap_cons, List.length_append]
    rcases List.mem_cons.mp h with rfl | h
    · omega
    · have := flat_len f l x h; omega
theorem pg_B {p : Pg} (ho : OkPg p) (hl : (pgB p).length ≤ 256) : (pgB p).all isB = true := by
  cases p with
  | leaf es =>
    have hl : (es.flatMap entB).length + 1 + 1 ≤ 256 := hl
    have h2 : ∀ l : List (List Int × List DD), l.length ≤ (l.flatMap entB).length := fun l => by
      induction l with
      | nil => exact Nat.le_refl _
      | cons e l ih =>
        rw [List.flatMap_cons, List.length_append, List.length_cons]
        have : 1 ≤ (entB e).length := by unfold entB; rw [List.length_append, cntI_len]; omega
        omega
    have := h2 es
    show (isB 0 && (isB (es.length : Int) && (es.flatMap entB).all isB)) = true
    have a1 : isB (es.length : Int) = true := decide_eq_true (by omega)
    rw [a1, Bool.true_and, show isB 0 = true from rfl, Bool.true_and, List.all_eq_true]
    intro x hx
    obtain ⟨e, he, hx⟩ := List.mem_flatMap.mp hx
    have o := ho.2 e he
    have le : (cntI e.1 ++ cntI (keyI e.2)).length ≤ (es.flatMap entB).length := flat_len entB es e he
    have hx : x ∈ cntI e.1 ++ cntI (keyI e.2) := hx
    rw [List.length_append, cntI_len, cntI_len] at le
    rcases List.mem_append.mp hx with hx | hx
    · exact List.all_eq_true.mp (cntI_B (by omega) o.kb) x hx
    · exact List.all_eq_true.mp (cntI_B (by omega) (key_B _ o.vb)) x hx
  | inner cs =>
    have hl : (cs.flatMap chlB).length + 1 + 1 ≤ 256 := hl
    have h2 : ∀ l : List (List Int × Int), l.length ≤ (l.flatMap chlB).length := fun l => by
      induction l with
      | nil => exact Nat.le_refl _
      | cons e l ih =>
        rw [List.flatMap_cons, List.length_append, List.length_cons]
        have : 1 ≤ (chlB e).length := by unfold chlB; rw [List.length_cons]; omega
        omega
    have := h2 cs
    show (isB 1 && (isB (cs.length : Int) && (cs.flatMap chlB).all isB)) = true
    have a1 : isB (cs.length : Int) = true := decide_eq_true (by omega)
    rw [a1, Bool.true_and, show isB 1 = true from rfl, Bool.true_and, List.all_eq_true]
    intro x hx
    obtain ⟨e, he, hx⟩ := List.mem_flatMap.mp hx
    have o := ho.2.1 e he
    have le : (e.2 / 256 :: e.2 % 256 :: cntI e.1).length ≤ (cs.flatMap chlB).length := flat_len chlB cs e he
    have hx : x ∈ e.2 / 256 :: e.2 % 256 :: cntI e.1 := hx
    have n0 := o.n0
    have n1 := o.n1
    rw [List.length_cons, List.length_cons, cntI_len] at le
    rcases List.mem_cons.mp hx with rfl | hx
    · exact decide_eq_true (by omega)
    · rcases List.mem_cons.mp hx with rfl | hx
      · exact decide_eq_true (by omega)
      · exact List.all_eq_true.mp (cntI_B (by omega) o.kb) x hx
theorem pad_B {l : List Int} (h : l.all isB = true) : (padI l).all isB = true := by
  unfold padI
  rw [List.all_append, h, Bool.true_and, List.all_eq_true]
  intro x hx
  rw [(List.mem_replicate.mp hx).2]; rfl
end Z1

set_option Elab.async false
set_option linter.all false
set_option maxRecDepth 100000
set_option maxHeartbeats 1000000
namespace Z1
open PySem PySem.Spec PyProof.Rows L2 Z
theorem e_eqS (a b : Str) (P : DD → Prop) : gB eqD (.str a) (.str b) P = P (.bool (decide (a = b))) := by
  have e : eqD (.str a) (.str b) = some (PyData.eqv (.str a) (.str b)) := rfl
  have e2 : PyData.eqv (.str a) (.str b) = decide (a = b) := by
    rw [PyData.eqv]
    by_cases h : a = b
    · subst h; simp
    · simp [h]
  simp only [gB, e, e2]
theorem dN_at {ρ : En} {i : Nat} {d : DD} (h : ρ[i]? = some (.dat d)) (P : DD → Prop) : dN i ρ P = P d := by
  unfold dN; rw [h]
theorem t_eqS {ρ : En} {i : Nat} {a b : Str} {P : Bool → Prop} (h : ρ[i]? = some (.dat (.str a))) (hp : P (decide (a = b))) : dT (dOp (gB eqD) (dN i) (dC (.str b))) ρ P := by
  show dN i ρ fun x => gB eqD x (.str b) (asB P)
  rw [dN_at h, e_eqS]; exact hp
theorem dif_eqS {ρ : En} {i : Nat} {a b : Str} {ta tb : DE} {P : DD → Prop} (h : ρ[i]? = some (.dat (.str a))) (hp : if a = b then ta ρ P else tb ρ P) : dIf (dT (dOp (gB eqD) (dN i) (dC (.str b)))) ta tb ρ P := by
  refine t_eqS (P := fun c => if c = true then ta ρ P else tb ρ P) h ?_
  by_cases c : a = b
  · rw [if_pos c] at hp
    rw [decide_eq_true c, if_pos rfl]; exact hp
  · rw [if_neg c] at hp
    rw [decide_eq_false c, if_neg Bool.false_ne_true]; exact hp
theorem h_counted : ∀ ds Q, F_counted ds Q → ds.length = 1 ∧ m_counted (endsD Q) (startD N_counted ds) := by
  intro ds Q h
  match ds, h with
  | [.tuple es], ⟨cs, he, h1, h2⟩ =>
    subst he
    refine ⟨rfl, ?_⟩
    show 1 + (iD cs).length ≤ 1000000 ∧ Q (.list ([.int ((iD cs).length : Nat)] ++ iD cs))
    refine ⟨by rw [len_iD]; omega, mv (Q := Q) h2 ?_⟩
    rw [len_iD]; rfl
abbrev lfB : DS := sSeq (sExt 1 (dCall F_counted (dCons (dN 2) dNil))) (sExt 1 (dCall F_counted (dCons (dCall F_key_of (dCons (dN 3) dNil)) dNil)))
theorem leaf_loop (d0 : Ent) (E : DEn) : ∀ (l : List (List Int × List DD)) (acc : List Int) (e2 e3 : Ent), (∀ e ∈ l, OkEnt e) → acc.length + 3000 * l.length ≤ 999000 → (∀ e2 e3, E.nx [d0, .own (iD (acc ++ l.flatMap entB)), e2, e3]) →
    loop (tT [2, 3]) lfB E (l.map entD) [d0, .own (iD acc), e2, e3]
  | [], acc, e2, e3, _, _, h => by
    have := h e2 e3
    rw [List.flatMap_nil, List.append_nil] at this
    exact this
  | (k, vs) :: l, acc, e2, e3, ho, hl, h => by
    have o := ho _ List.mem_cons_self
    have kl : k.length ≤ 300 := o.kl
    have vl : vs.length ≤ 300 := o.vl
    have vb : vs.all okV = true := o.vb
    have kk := (key_len vs vb).2
    rw [List.length_cons] at hl
    have l1 : (iD acc).length = acc.length := len_iD acc
    have l2 : (iD (cntI k)).length = k.length + 1 := len_iD _
    have l3 : (iD (cntI (keyI vs))).length = (keyI vs).length + 1 := len_iD _
    refine ⟨k, rfl, by omega, ⟨by omega, ?_⟩⟩
    refine ⟨⟨by show vs.length ≤ 1000; omega, vb⟩, ⟨keyI vs, rfl, by omega, ⟨by rw [List.length_append]; omega, ?_⟩⟩⟩
    show loop (tT [2, 3]) lfB E (l.map entD) [d0, .own (iD acc ++ iD (cntI k) ++ iD (cntI (keyI vs))), .dat (tD k), .dat (.tuple vs)]
    have e : iD acc ++ iD (cntI k) ++ iD (cntI (keyI vs)) = iD (acc ++ entB (k, vs)) := by
      unfold entB
      rw [iD_app, iD_app, List.append_assoc]
    rw [e]
    refine leaf_loop d0 E l _ _ _ (fun x hx => ho x (List.mem_cons_of_mem _ hx)) ?_ fun e2 e3 => ?_
    · unfold entB
      rw [List.length_append, List.length_append, cntI_len, cntI_len]
      show acc.length + (k.length + 1 + ((keyI vs).length + 1)) + _ ≤ _
      omega
    · have := h e2 e3
      rw [List.flatMap_cons, ← List.append_assoc] at this
      exact this
theorem h_leaf_bytes : ∀ ds Q, F_leaf_bytes ds Q → ds.length = 1 ∧ m_leaf_bytes (endsD Q) (startD N_leaf_bytes ds) := by
  intro ds Q h
  match ds, h with
  | [.tuple es], ⟨l, he, h1, h2, h3⟩ =>
    subst he
    refine ⟨rfl, ?_⟩
    have el : [PyData.int 0, .int ((l.map entD).length : Nat)] = iD [0, (l.length : Int)] := by rw [List.length_map]; rfl
    show loop (tT [2, 3]) lfB _ (l.map entD) [.dat (.tuple (l.map entD)), .own [PyData.int 0, .int ((l.map entD).length : Nat)], .un, .un]
    rw [el]
    exact leaf_loop _ _ l [0, (l.length : Int)] .un .un h2 (by show 2 + _ ≤ _; omega) fun _ _ => h3
abbrev inB : DS := sSeq (sExt 1 (dLst (dCons (dOp (gI (fun _ j => 0 ≤ j) fun i j => i / 2 ^ j.toNat) (dN 4) (dC (.int 8))) (dCons (dOp (gI0 Builtin.bitAnd) (dN 4) (dC (.int 255))) dNil))))
    (sExt 1 (dCall F_counted (dCons (dIf (dT (dOp (gB gtD) (dN 2) (dC (.int 0)))) (dN 3) (dTup dNil)) dNil)))
theorem and255 (n : Int) (h0 : 0 ≤ n) : Builtin.bitAnd n 255 = n % 256 := by
  obtain ⟨m, rfl⟩ : ∃ m : Nat, n = (m : Int) := ⟨n.toNat, by omega⟩
  show ((m &&& 255 : Nat) : Int) = _
  have : m &&& 255 = m % 2 ^ 8 := Nat.and_two_pow_sub_one_eq_mod m 8
  rw [this]; rfl
theorem inner_loop (d0 : Ent) (E : DEn) : ∀ (l : List (List Int × Int)) (m : Nat) (acc : List Int) (e2 e3 e4 : Ent), (∀ c ∈ l, OkChl c) → (m = 0 → ∀ c r, l = c :: r → c.1 = []) → acc.length + 3000 * l.length ≤ 999000 →
    (∀ e2 e3 e4, E.nx [d0, .own (iD (acc ++ l.flatMap chlB)), e2, e3, e4]) → loop (tT2 2 3 4) inB E (numbered m (l.map chlD)) [d0, .own (iD acc), e2, e3, e4]
  | [], m, acc, e2, e3, e4, _, _, _, h => by
    have := h e2 e3 e4
    rw [List.flatMap_nil, List.append_nil] at this
    exact this
  | (k, n) :: l, m, acc, e2, e3, e4, ho, hf, hl, h => by
    have o := ho _ List.mem_cons_self
    have kl : k.length ≤ 300 := o.kl
    have n0 : 0 ≤ n := o.n0
    have n1 : n < 65536 := o.n1
    rw [List.length_cons] at hl
    have l1 : (iD acc).length = acc.length := len_iD acc
    have l2 : (iD (cntI k)).length = k.length + 1 := len_iD _
    refine ⟨(show (0 : Int) ≤ 8 by decide), by show (iD acc).length + 2 ≤ _; omega, ?_⟩
    have key : ∀ P : DD → Prop, P (tD k) → (dIf (dT (dOp (gB gtD) (dN 2) (dC (.int 0)))) (dN 3) (dTup dNil)) [d0, .own (iD acc ++ [.int (n / 2 ^ (8 : Int).toNat), .int (Builtin.bitAnd n 255)]), .dat (.int (m : Nat)), .dat (tD k), .dat (.int n)] P := by
      intro P hp
      show if decide ((0 : Int) < (m : Nat)) = true then P (tD k) else P (.tuple [])
      by_cases hm : m = 0
      · have hk := hf hm _ _ rfl
        simp only at hk
        rw [if_neg (by rw [hm]; decide)]
        rw [hk] at hp
        exact hp
      · rw [if_pos (decide_eq_true (by omega))]; exact hp
    refine key _ ?_
    refine ⟨k, rfl, by omega, ⟨by rw [List.length_append]; show (iD acc).length + 2 + (iD (cntI k)).length ≤ _; omega, ?_⟩⟩
    show loop (tT2 2 3 4) inB E (numbered (m + 1) (l.map chlD)) [d0, .own (iD acc ++ [.int (n / 2 ^ (8 : Int).toNat), .int (Builtin.bitAnd n 255)] ++ iD (cntI k)), .dat (.int (m : Nat)), .dat (tD k), .dat (.int n)]
    have e : iD acc ++ [PyData.int (n / 2 ^ (8 : Int).toNat), .int (Builtin.bitAnd n 255)] ++ iD (cntI k) = iD (acc ++ chlB (k, n)) := by
      rw [and255 n n0]
      show iD acc ++ iD [n / 256, n % 256] ++ iD (cntI k) = _
      rw [← iD_app, ← iD_app, List.append_assoc]; rfl
    rw [e]
    refine inner_loop d0 E l (m + 1) _ _ _ _ (fun x hx => ho x (List.mem_cons_of_mem _ hx)) (fun z => by omega) ?_ fun e2 e3 e4 => ?_
    · have z : (chlB (k, n)).length = k.length + 3 := rfl
      rw [List.length_append, z]; omega
    · have := h e2 e3 e4
      rw [List.flatMap_cons, ← List.append_assoc] at this
      exact this
theorem h_inner_bytes : ∀ ds Q, F_inner_bytes ds Q → ds.length = 1 ∧ m_inner_bytes (endsD Q) (startD N_inner_bytes ds) := by
  intro ds Q h
  match ds, h with
  | [.tuple es], ⟨l, he, h1, h2, h3, h4⟩ =>
    subst he
    refine ⟨rfl, ?_⟩
    have el : [PyData.int 1, .int ((l.map chlD).length : Nat)] = iD [1, (l.length : Int)] := by rw [List.length_map]; rfl
    show loop (tT2 2 3 4) inB _ (numbered 0 (l.map chlD)) [.dat (.tuple (l.map chlD)), .own [PyData.int 1, .int ((l.map chlD).length : Nat)], .un, .un, .un]
    rw [el]
    exact inner_loop _ _ l 0 [1, (l.length : Int)] .un .un .un h2 (fun _ => h3) (by show 2 + _ ≤ _; omega) fun _ _ _ => h4
/-! a page is written -/
theorem rep_zero : ∀ n : Nat, (List.replicate n [PyData.int 0]).flatten = iD (List.replicate n 0)
  | 0 => rfl
  | n + 1 => by
    rw [List.replicate_succ, List.replicate_succ, List.flatten_cons, rep_zero n]; rfl
theorem pad_ret (l : List Int) (h : l.length ≤ 256) (P : DD → Prop) (hp : P (.list (iD (padI l)))) : gRep (.list [.int 0]) (.int (256 - ((iD l).length : Nat))) fun y => gAdd (.list (iD l)) y P := by
  have ll := len_iD l
  refine ⟨⟨⟨by omega, by omega⟩, by show 1 * _ ≤ _; omega⟩, ?_⟩
  rw [rep_zero]
  show (iD l).length + (iD _).length ≤ 1000000 ∧ P (.list (iD l ++ iD _))
  have e : (256 - ((iD l).length : Nat) : Int).toNat = 256 - l.length := by omega
  rw [e, len_iD, len_iD, List.length_replicate]
  refine ⟨by omega, ?_⟩
  rw [← iD_app]; exact hp
theorem max_at (l : List Int) (hl : l ≠ []) (hb : l.all isB = true) (P : DD → Prop) (hp : ∀ n, 0 ≤ n → n ≤ 255 → P (.int n)) : g1 (gM1 true) [.list (iD l)] P := by
  obtain ⟨n, ns, rfl⟩ := List.exists_cons_of_ne_nil hl
  show match intsD (iD (n :: ns)) with
    | some (n :: ns) => P (.int (bestI true n ns))
    | _ => False
  rw [show intsD (iD (n :: ns)) = some (n :: ns) from intsD_map _]
  have := best_max ns n fun c hc => of_decide_eq_true (List.all_eq_true.mp hb c hc)
  exact hp _ this.1 this.2
theorem min_at (l : List Int) (hl : l ≠ []) (hb : l.all isB = true) (P : DD → Prop) (hp : ∀ n, 0 ≤ n → n ≤ 255 → P (.int n)) : g1 (gM1 false) [.list (iD l)] P := by
  obtain ⟨n, ns, rfl⟩ := List.exists_cons_of_ne_nil hl
  show match intsD (iD (n :: ns)) with
    | some (n :: ns) => P (.int (bestI false n ns))
    | _ => False
  rw [show intsD (iD (n :: ns)) = some (n :: ns) from intsD_map _]
  have := best_min ns n fun c hc => of_decide_eq_true (List.all_eq_true.mp hb c hc)
  exact hp _ this.1 this.2
theorem t_max {e0 e1 e2 : Ent} {l : List Int} {P : Bool → Prop} (hl : l ≠ []) (hb : l.all isB = true) (hp : P false) : dT (dOp (gB gtD) (dCall (g1 (gM1 true)) (dCons (dN 3) dNil)) (dC (.int 255))) (full [e0, e1, e2, .dat (.list (iD l))]) P :=
  max_at l hl hb (fun z => gB gtD z (.int 255) (asB P)) fun n n0 n1 => by
    show P (decide ((255 : Int) < n))
    rw [decide_eq_false (by omega)]; exact hp
abbrev wpT : DS := (sSeq (sIf (dOr (dT (dOp (gB gtD) (dCall (g1 gLen) (dCons (dN 3) dNil)) (dC (.int 256)))) (dT (dOp (gB gtD) (dCall (g1 (gM1 true)) (dCons (dN 3) dNil)) (dC (.int 255))))) (sRet (dC .none)) sNx)
    (sRet (dOp gAdd (dN 3) (dOp gRep (dLst (dCons (dC (.int 0)) dNil)) (dOp (gI0 (· - ·)) (dC (.int 256)) (dCall (g1 gLen) (dCons (dN 3) dNil)))))))
theorem wp_tail (l : List Int) (hne : l ≠ []) (hB : l.length ≤ 256 → l.all isB = true) (Q : DD → Prop) (h : Q (if l.length ≤ 256 then .list (iD (padI l)) else .none)) (e0 e1 e2 : Ent) : wpT (endsD Q) [e0, e1, e2, .dat (.list (iD l))] := by
  have ll := len_iD l
  show if decide ((256 : Int) < ((iD l).length : Nat)) = true then (if true = true then _ else _) else _
  by_cases c : l.length ≤ 256
  · rw [if_neg (by simp; omega)]
    rw [if_pos c] at h
    refine t_max hne (hB c) ?_
    rw [if_neg Bool.false_ne_true]
    exact pad_ret l c Q h
  · rw [if_pos (decide_eq_true (by omega)), if_pos rfl]
    rw [if_neg c] at h
    exact h
theorem h_write_page : ∀ ds Q, F_write_page ds Q → ds.length = 1 ∧ m_write_page (endsD Q) (startD N_write_page ds) := by
  rintro ds Q ⟨p, rfl, ho, h⟩
  refine ⟨rfl, ?_⟩
  cases p with
  | leaf es =>
    show dIf (dT (dOp (gB eqD) (dN 1) (dC (.str (Str.ofString "leaf"))))) (dCall F_leaf_bytes (dCons (dN 2) dNil)) (dCall F_inner_bytes (dCons (dN 2) dNil)) [.dat (pgD (.leaf es)), .dat (.str LEAFS), .dat (.tuple (es.map entD)), .un] fun d => wpT (endsD Q) [.dat (pgD (.leaf es)), .dat (.str LEAFS), .dat (.tuple (es.map entD)), .dat d]
    refine dif_eqS (a := LEAFS) rfl ?_
    rw [if_pos (show LEAFS = Str.ofString "leaf" from rfl)]
    exact ⟨es, rfl, ho.1, ho.2, wp_tail _ (show leafB es ≠ [] by unfold leafB; exact List.cons_ne_nil _ _) (fun hl => pg_B (p := .leaf es) ho hl) Q h _ _ _⟩
  | inner cs =>
    show dIf (dT (dOp (gB eqD) (dN 1) (dC (.str (Str.ofString "leaf"))))) (dCall F_leaf_bytes (dCons (dN 2) dNil)) (dCall F_inner_bytes (dCons (dN 2) dNil)) [.dat (pgD (.inner cs)), .dat (.str INNERS), .dat (.tuple (cs.map chlD)), .un] fun d => wpT (endsD Q) [.dat (pgD (.inner cs)), .dat (.str INNERS), .dat (.tuple (cs.map chlD)), .dat d]
    refine dif_eqS (a := INNERS) rfl ?_
    rw [if_neg (show ¬ INNERS = Str.ofString "leaf" by decide)]
    exact ⟨cs, rfl, ho.1, ho.2.1, ho.2.2, wp_tail _ (show innerB cs ≠ [] by unfold innerB; exact List.cons_ne_nil _ _) (fun hl => pg_B (p := .inner cs) ho hl) Q h _ _ _⟩
end Z1

set_option Elab.async false
set_option linter.all false
set_option maxRecDepth 100000
set_option maxHeartbeats 1000000
namespace Z1
open PySem PySem.Spec PyProof.Rows L2 Z
theorem byte_0 {cs : List Int} (hb : cs.all isB = true) {j : Nat} (h : j < cs.length) : 0 ≤ cs[j] ∧ cs[j] ≤ 255 := of_decide_eq_true (List.all_eq_true.mp hb _ (List.getElem_mem h))
theorem ix_L {cs : List Int} {j : Nat} (h : j < cs.length) {P : DD → Prop} (hp : P (.int cs[j])) : gIx (.list (iD cs)) (.int (j : Nat)) P := by
  rw [e_ixL, at_iD h]; exact hp
abbrev rcT : DS := (sSeq (sSet 2 (dOp gAdd (dOp gAdd (dN 1) (dC (.int 1))) (dOp gIx (dN 0) (dN 1))))
    (sRet (dTup (dCons (dCall (g1 gTuple) (dCons (dSl (dN 0) (dSo (dOp gAdd (dN 1) (dC (.int 1)))) (dSo (dN 2))) dNil)) (dCons (dN 2) dNil)))))
theorem h_read_counted : ∀ ds Q QX, F_read_counted ds Q QX → ds.length = 2 ∧ m_read_counted (endsX Q QX) (startD N_read_counted ds) := by
  intro ds Q QX h
  match ds, h with
  | [.list es, .int i], ⟨cs, j, he, hi, h1, h2, hb, h3⟩ =>
    subst he hi
    refine ⟨rfl, ?_⟩
    have hl := len_iD cs
    show if decide ((((iD cs).length : Nat) : Int) ≤ (j : Nat)) = true then (if true = true then _ else _) else _
    by_cases c : cs.length ≤ j
    · rw [if_pos (decide_eq_true (by omega)), if_pos rfl]
      have e : cs.drop j = [] := List.drop_eq_nil_of_le c
      rw [e] at h3
      exact h3
    · rw [if_neg (by simp; omega)]
      have hj : j < cs.length := by omega
      have hn := byte_0 hb hj
      have ed : cs.drop j = cs[j] :: cs.drop (j + 1) := List.drop_eq_getElem_cons hj
      rw [ed] at h3
      have h3 : match (if cs[j].toNat ≤ (cs.drop (j + 1)).length then some ((cs.drop (j + 1)).take cs[j].toNat) else none) with
        | some k => Q (.tuple [tD k, .int ((j + (1 + k.length) : Nat) : Int)])
        | none => QX "DamagedData" := h3
      have ld : (cs.drop (j + 1)).length = cs.length - (j + 1) := List.length_drop
      refine ix_L hj ?_
      show if decide ((((iD cs).length : Nat) : Int) < ((j : Nat) : Int) + 1 + cs[j]) = true then _ else _
      by_cases c2 : cs[j].toNat ≤ (cs.drop (j + 1)).length
      · rw [if_pos c2] at h3
        rw [if_neg (by simp; omega)]
        refine ix_L hj ?_
        have lt : ((cs.drop (j + 1)).take cs[j].toNat).length = cs[j].toNat := by rw [List.length_take]; omega
        refine mv (Q := Q) h3 ?_
        have e1 : ((j : Nat) : Int) + 1 = ((j + 1 : Nat) : Int) := by omega
        have e2 : ((j : Nat) : Int) + 1 + cs[j] = ((j + 1 + cs[j].toNat : Nat) : Int) := by omega
        show PyData.tuple [tD _, _] = PyData.tuple [.tuple (cutZ (iD cs) (some (((j : Nat) : Int) + 1)) (some (((j : Nat) : Int) + 1 + cs[j]))), .int (((j : Nat) : Int) + 1 + cs[j])]
        rw [e2, e1, cut_at cs _ _ (by omega), lt]
        have e3 : j + 1 + cs[j].toNat - (j + 1) = cs[j].toNat := by omega
        have e4 : j + (1 + cs[j].toNat) = j + 1 + cs[j].toNat := by omega
        rw [e3, e4]; rfl
      · rw [if_neg c2] at h3
        rw [if_pos (decide_eq_true (by omega))]
        exact h3
theorem dec_none {v : List Int} (h : decode v.length v = none) : decD v = .none := by unfold decD; rw [h]
theorem dec_some {v : List Int} {vs : List DD} (h : decode v.length v = some vs) : decD v = .tuple vs := by unfold decD; rw [h]
theorem cnt_len {r k : List Int} (hb : r.all isB = true) (h : cntR r = some k) : k.length + 1 ≤ r.length := by
  have := congrArg List.length (cnt_is hb h).1
  rw [List.length_append, cntI_len] at this
  omega
abbrev reB : DS := (sSeq (sAsgX (dCallX F_read_counted (dCons (dN 0) (dCons (dN 2) dNil))) (tT [4, 2]))
    (sSeq (sAsgX (dCallX F_read_counted (dCons (dN 0) (dCons (dN 2) dNil))) (tT [5, 2]))
    (sSeq (sSet 6 (dCall F_values_of (dCons (dN 5) dNil)))
    (sSeq (sIf (dT (dOp gIsN (dN 6) (dC .none))) (sRaise "DamagedData") sNx)
    (sApp 1 (dTup (dCons (dN 4) (dCons (dN 6) dNil))))))))
theorem ent_loop (cs : List Int) (hb : cs.all isB = true) (h1 : cs.length = 256) (E : DEn) : ∀ (items : List DD) (acc : List DD) (j : Nat) (e3 e4 e5 e6 : Ent), acc.length + items.length ≤ 1000 → j ≤ 256 →
    (match ents items.length (cs.drop j) with
      | some (l, r) => ∀ e3 e4 e5 e6, E.nx [.dat (.list (iD cs)), .own (acc ++ l.map entD), .dat (.int ((256 - r.length : Nat) : Int)), e3, e4, e5, e6]
      | none => ∀ ρ, E.ex "DamagedData" ρ) →
    loop (tN 3) reB E items [.dat (.list (iD cs)), .own acc, .dat (.int (j : Nat)), e3, e4, e5, e6]
  | [], acc, j, e3, e4, e5, e6, _, hj, h => by
    have h : ∀ e3 e4 e5 e6, E.nx [.dat (.list (iD cs)), .own (acc ++ []), .dat (.int ((256 - (cs.drop j).length : Nat) : Int)), e3, e4, e5, e6] := h
    rw [List.length_drop, h1, List.append_nil, show 256 - (256 - j) = j by omega] at h
    exact h e3 e4 e5 e6
  | x :: items, acc, j, e3, e4, e5, e6, hl, hj, h => by
    rw [List.length_cons] at hl h
    have hb1 := isB_drop hb j
    have ld : (cs.drop j).length = 256 - j := by rw [List.length_drop, h1]
    refine ⟨cs, j, rfl, rfl, by omega, by omega, hb, ?_⟩
    unfold ents at h
    cases hk : cntR (cs.drop j) with
    | none =>
      rw [hk] at h
      exact h _
    | some k =>
      rw [hk] at h
      simp only at h
      have lk := cnt_len hb1 hk
      rw [List.drop_drop] at h
      have hb2 := isB_drop hb (j + (1 + k.length))
      have ld2 : (cs.drop (j + (1 + k.length))).length = 256 - (j + (1 + k.length)) := by rw [List.length_drop, h1]
      refine ⟨cs, j + (1 + k.length), rfl, rfl, by omega, by omega, hb, ?_⟩
      cases hv : cntR (cs.drop (j + (1 + k.length))) with
      | none =>
        rw [hv] at h
        exact h _
      | some v =>
        rw [hv] at h
        simp only at h
        have lv := cnt_len hb2 hv
        have bv := (cnt_is hb2 hv).2
        rw [List.drop_drop] at h
        refine ⟨v, rfl, by omega, bv, ?_⟩
        cases hd : decode v.length v with
        | none =>
          rw [hd] at h
          rw [dec_none hd]
          show E.ex "DamagedData" _
          exact h _
        | some vs =>
          rw [hd] at h
          simp only at h
          rw [dec_some hd]
          refine ⟨by omega, ?_⟩
          show loop (tN 3) reB E items [.dat (.list (iD cs)), .own (acc ++ [entD (k, vs)]), .dat (.int ((j + (1 + k.length) + (1 + v.length) : Nat) : Int)), .dat x, .dat (tD k), .dat (tD v), .dat (.tuple vs)]
          refine ent_loop cs hb h1 E items _ _ _ _ _ _ (by rw [List.length_append]; show acc.length + 1 + _ ≤ _; omega) (by omega) ?_
          cases hr : ents items.length (cs.drop (j + (1 + k.length) + (1 + v.length))) with
          | none => rw [hr] at h; exact h
          | some q =>
            obtain ⟨l, r⟩ := q
            rw [hr] at h
            intro e3 e4 e5 e6
            have := h e3 e4 e5 e6
            rw [List.map_cons] at this
            rw [List.append_assoc]; exact this
theorem h_read_entries : ∀ ds Q QX, F_read_entries ds Q QX → ds.length = 1 ∧ m_read_entries (endsX Q QX) (startD N_read_entries ds) := by
  intro ds Q QX h
  match ds, h with
  | [.list es], ⟨cs, n, he, h1, hb, hn, h3⟩ =>
    subst he
    refine ⟨rfl, ?_⟩
    have h1l : 1 < cs.length := by omega
    have en : cs[1] = n := by
      rw [List.getElem?_eq_getElem h1l] at hn
      exact Option.some.inj hn
    have bn := byte_0 hb h1l
    show gIx (.list (iD cs)) (.int ((1 : Nat) : Int)) fun d => match d with
      | .int m => (-1000000 ≤ m ∧ m ≤ 1000000) ∧ loop (tN 3) reB _ (upto m) [.dat (.list (iD cs)), .own [], .dat (.int ((2 : Nat) : Int)), .un, .un, .un, .un]
      | _ => False
    refine ix_L h1l ?_
    refine ⟨by omega, ?_⟩
    refine ent_loop cs hb h1 _ _ _ 2 _ _ _ _ (by rw [upto_len]; show 0 + _ ≤ _; omega) (by omega) ?_
    rw [upto_len, en]
    cases hr : ents n.toNat (cs.drop 2) with
    | none => rw [hr] at h3; exact fun _ => h3
    | some q =>
      obtain ⟨l, r⟩ := q
      rw [hr] at h3
      exact fun _ _ _ _ => h3
end Z1

set_option Elab.async false
set_option linter.all false
set_option maxRecDepth 100000
set_option maxHeartbeats 1000000
namespace Z1
open PySem PySem.Spec PyProof.Rows L2 Z
abbrev rkB : DS := (sSeq (sAsgX (dCallX F_read_counted (dCons (dN 0) (dCons (dOp gAdd (dN 2) (dC (.int 2))) dNil))) (tT [4, 5]))
    (sSeq (sIf (dAnd (dTr (dN 4)) (dNot (dTr (dN 1)))) (sRaise "DamagedData") sNx)
    (sSeq (sApp 1 (dTup (dCons (dN 4) (dCons (dOp gAdd (dOp (gI CMul (· * ·)) (dOp gIx (dN 0) (dN 2)) (dC (.int 256))) (dOp gIx (dN 0) (dOp gAdd (dN 2) (dC (.int 1))))) dNil))))
    (sSet 2 (dN 5)))))
theorem getD_drop (cs : List Int) (j i : Nat) (h : j + i < cs.length) : (cs.drop j).getD i 0 = cs[j + i] := by
  rw [List.getD_eq_getElem?_getD, List.getElem?_drop, List.getElem?_eq_getElem h]; rfl
theorem emp_iD (k : List Int) : (!(iD k).isEmpty) = !k.isEmpty := by cases k <;> rfl
theorem chl_loop (cs : List Int) (hb : cs.all isB = true) (h1 : cs.length = 256) (E : DEn) : ∀ (items : List DD) (acc : List DD) (j : Nat) (e3 e4 e5 : Ent), acc.length + items.length ≤ 1000 → j ≤ 256 →
    (match chls acc.isEmpty items.length (cs.drop j) with
      | some (l, r) => ∀ e3 e4 e5, E.nx [.dat (.list (iD cs)), .own (acc ++ l.map chlD), .dat (.int ((256 - r.length : Nat) : Int)), e3, e4, e5]
      | none => ∀ ρ, E.ex "DamagedData" ρ) →
    loop (tN 3) rkB E items [.dat (.list (iD cs)), .own acc, .dat (.int (j : Nat)), e3, e4, e5]
  | [], acc, j, e3, e4, e5, _, hj, h => by
    have ez : chls acc.isEmpty 0 (cs.drop j) = some ([], cs.drop j) := by cases acc.isEmpty <;> rfl
    have h : match chls acc.isEmpty 0 (cs.drop j) with
      | some (l, r) => ∀ e3 e4 e5, E.nx [.dat (.list (iD cs)), .own (acc ++ l.map chlD), .dat (.int ((256 - r.length : Nat) : Int)), e3, e4, e5]
      | none => ∀ ρ, E.ex "DamagedData" ρ := h
    rw [ez] at h
    have h : ∀ e3 e4 e5, E.nx [.dat (.list (iD cs)), .own (acc ++ []), .dat (.int ((256 - (cs.drop j).length : Nat) : Int)), e3, e4, e5] := h
    rw [List.length_drop, h1, List.append_nil, show 256 - (256 - j) = j by omega] at h
    exact h e3 e4 e5
  | x :: items, acc, j, e3, e4, e5, hl, hj, h => by
    rw [List.length_cons] at hl h
    unfold chls at h
    rw [List.drop_drop] at h
    have hb2 := isB_drop hb (j + 2)
    refine ⟨cs, j + 2, rfl, rfl, by omega, by omega, hb, ?_⟩
    cases hk : cntR (cs.drop (j + 2)) with
    | none =>
      rw [hk] at h
      exact h _
    | some k =>
      rw [hk] at h
      simp only at h
      have lk := cnt_len hb2 hk
      rw [List.length_drop, h1] at lk
      show if (!(iD k).isEmpty) = true then (if (!(!acc.isEmpty)) = true then _ else _) else _
      rw [emp_iD, Bool.not_not]
      have rest : ∀ (hn : ¬ (acc.isEmpty = true ∧ k ≠ [])), sSeq (sApp 1 (dTup (dCons (dN 4) (dCons (dOp gAdd (dOp (gI CMul (· * ·)) (dOp gIx (dN 0) (dN 2)) (dC (.int 256))) (dOp gIx (dN 0) (dOp gAdd (dN 2) (dC (.int 1))))) dNil)))) (sSet 2 (dN 5))
          ⟨loop (tN 3) rkB E items, E.rt, E.nx, loop (tN 3) rkB E items, E.ex⟩ [.dat (.list (iD cs)), .own acc, .dat (.int (j : Nat)), .dat x, .dat (tD k), .dat (.int ((j + 2 + (1 + k.length) : Nat) : Int))] := by
        intro hn
        rw [if_neg hn] at h
        have j0 : j < cs.length := by omega
        have j1 : j + 1 < cs.length := by omega
        have b0 := byte_0 hb j0
        have b1 := byte_0 hb j1
        refine ix_L j0 ?_
        refine ⟨.inr ⟨by decide, by decide⟩, ?_⟩
        refine ix_L j1 ?_
        refine ⟨by omega, ?_⟩
        show loop (tN 3) rkB E items [.dat (.list (iD cs)), .own (acc ++ [chlD (k, cs[j] * 256 + cs[j + 1])]), .dat (.int ((j + 2 + (1 + k.length) : Nat) : Int)), .dat x, .dat (tD k), .dat (.int ((j + 2 + (1 + k.length) : Nat) : Int))]
        refine chl_loop cs hb h1 E items _ _ _ _ _ (by rw [List.length_append]; show acc.length + 1 + _ ≤ _; omega) (by omega) ?_
        have ee : (acc ++ [chlD (k, cs[j] * 256 + cs[j + 1])]).isEmpty = false := by cases acc <;> rfl
        rw [ee]
        rw [List.drop_drop] at h
        have g0 : (cs.drop j).getD 0 0 = cs[j] := getD_drop cs j 0 j0
        have g1 : (cs.drop j).getD 1 0 = cs[j + 1] := getD_drop cs j 1 j1
        rw [g0, g1] at h
        cases hr : chls false items.length (cs.drop (j + 2 + (1 + k.length))) with
        | none => rw [hr] at h; exact h
        | some q =>
          obtain ⟨l, r⟩ := q
          rw [hr] at h
          intro e3 e4 e5
          have := h e3 e4 e5
          rw [List.map_cons] at this
          rw [List.append_assoc]; exact this
      cases k with
      | nil =>
        rw [if_neg (by decide)]
        exact rest fun z => z.2 rfl
      | cons c k =>
        rw [if_pos (by rfl)]
        cases ha : acc.isEmpty with
        | true =>
          rw [if_pos rfl]
          rw [if_pos ⟨ha, List.cons_ne_nil _ _⟩] at h
          exact h _
        | false =>
          rw [if_neg Bool.false_ne_true]
          exact rest fun z => by rw [ha] at z; cases z.1
theorem h_read_children : ∀ ds Q QX, F_read_children ds Q QX → ds.length = 1 ∧ m_read_children (endsX Q QX) (startD N_read_children ds) := by
  intro ds Q QX h
  match ds, h with
  | [.list es], ⟨cs, n, he, h1, hb, hn, h3⟩ =>
    subst he
    refine ⟨rfl, ?_⟩
    have h1l : 1 < cs.length := by omega
    have en : cs[1] = n := by
      rw [List.getElem?_eq_getElem h1l] at hn
      exact Option.some.inj hn
    have bn := byte_0 hb h1l
    show gIx (.list (iD cs)) (.int ((1 : Nat) : Int)) fun d => match d with
      | .int m => (-1000000 ≤ m ∧ m ≤ 1000000) ∧ loop (tN 3) rkB _ (upto m) [.dat (.list (iD cs)), .own [], .dat (.int ((2 : Nat) : Int)), .un, .un, .un]
      | _ => False
    refine ix_L h1l ?_
    refine ⟨by omega, ?_⟩
    refine chl_loop cs hb h1 _ _ _ 2 _ _ _ (by rw [upto_len]; show 0 + _ ≤ _; omega) (by omega) ?_
    rw [upto_len, en]
    show match chls true n.toNat (cs.drop 2) with | some (l, r) => _ | none => _
    cases hr : chls true n.toNat (cs.drop 2) with
    | none => rw [hr] at h3; exact fun _ => h3
    | some q =>
      obtain ⟨l, r⟩ := q
      rw [hr] at h3
      exact fun _ _ _ => h3
end Z1

set_option Elab.async false
set_option linter.all false
set_option maxRecDepth 100000
set_option maxHeartbeats 1000000
namespace Z1
open PySem PySem.Spec PyProof.Rows L2 Z
theorem cut_from (cs : List Int) (i : Nat) (h : i ≤ cs.length) : cutZ (iD cs) (some (i : Int)) none = iD (cs.drop i) := by
  have hl := len_iD cs
  unfold cutZ
  rw [HT.sIx_none, HT.sIx_nat, Nat.min_eq_left (by rw [hl]; exact h), List.take_of_length_le (by rw [List.length_drop]; exact Nat.le_refl _)]
  unfold iD
  rw [List.map_drop]
theorem any_at (r : List Int) (P : DD → Prop) (hp : P (.bool (r.any (· != 0)))) : g1 gAnyI [.list (iD r)] P := by
  show match intsD (iD r) with
    | some ns => P (.bool (ns.any (· != 0)))
    | none => False
  rw [show intsD (iD r) = some r from intsD_map _]
  exact hp
abbrev rpT : DS := (sSeq (sIf (dT (dCall (g1 gAnyI) (dCons (dSl (dN 0) (dSo (dN 3)) dNo) dNil))) (sRaise "DamagedData") sNx)
    (sRet (dTup (dCons (dN 1) (dCons (dN 2) dNil)))))
theorem t_any {cs : List Int} {i : Nat} (h : i ≤ cs.length) {e1 e2 : Ent} {P : Bool → Prop} (hp : P ((cs.drop i).any (· != 0))) : dT (dCall (g1 gAnyI) (dCons (dSl (dN 0) (dSo (dN 3)) dNo) dNil)) (full [.dat (.list (iD cs)), e1, e2, .dat (.int (i : Nat))]) P := by
  show g1 gAnyI [.list (cutZ (iD cs) (some (i : Int)) none)] (asB P)
  rw [cut_from cs i h]
  exact any_at _ _ hp
theorem rp_tail (cs r : List Int) (hl : cs.length = 256) (hr : cs.drop (256 - r.length) = r) (kd pd : DD) (Q : DD → Prop) (QX : Str → Prop) (h : if r.any (· != 0) = true then QX "DamagedData" else Q (.tuple [kd, pd])) :
    rpT (endsX Q QX) [.dat (.list (iD cs)), .dat kd, .dat pd, .dat (.int ((256 - r.length : Nat) : Int))] := by
  refine t_any (e1 := .dat kd) (e2 := .dat pd) (P := fun c => if c = true then _ else _) (by omega) ?_
  rw [hr]
  cases hz : r.any (· != 0) with
  | true => rw [hz, if_pos rfl] at h; exact h
  | false => rw [hz, if_neg Bool.false_ne_true] at h; exact h
theorem rp_test {cs : List Int} (hb : cs.all isB = true) (c : cs.length = 256) {e1 e2 e3 : Ent} {P : Bool → Prop} (hp : P false) :
    dOr (dT (dOp (gB neD) (dCall (g1 gLen) (dCons (dN 0) dNil)) (dC (.int 256)))) (dOr (dT (dOp (gB ltD) (dCall (g1 (gM1 false)) (dCons (dN 0) dNil)) (dC (.int 0)))) (dT (dOp (gB gtD) (dCall (g1 (gM1 true)) (dCons (dN 0) dNil)) (dC (.int 255))))) (full [.dat (.list (iD cs)), e1, e2, e3]) P := by
  have hl := len_iD cs
  have hne : cs ≠ [] := by rintro rfl; cases c
  show gB neD (.int (((iD cs).length : Nat) : Int)) (.int 256) (asB fun c => if c = true then P true else dOr (dT (dOp (gB ltD) (dCall (g1 (gM1 false)) (dCons (dN 0) dNil)) (dC (.int 0)))) (dT (dOp (gB gtD) (dCall (g1 (gM1 true)) (dCons (dN 0) dNil)) (dC (.int 255)))) (full [.dat (.list (iD cs)), e1, e2, e3]) P)
  rw [hl, c]
  show g1 (gM1 false) [.list (iD cs)] fun z => gB ltD z (.int 0) (asB fun c => if c = true then P true else dT (dOp (gB gtD) (dCall (g1 (gM1 true)) (dCons (dN 0) dNil)) (dC (.int 255))) (full [.dat (.list (iD cs)), e1, e2, e3]) P)
  refine min_at cs hne hb _ fun n n0 n1 => ?_
  show if decide (n < (0 : Int)) = true then P true else g1 (gM1 true) [.list (iD cs)] fun z => gB gtD z (.int 255) (asB P)
  rw [decide_eq_false (by omega), if_neg Bool.false_ne_true]
  refine max_at cs hne hb _ fun m m0 m1 => ?_
  show P (decide ((255 : Int) < m))
  rw [decide_eq_false (by omega)]; exact hp
theorem rp_test2 {cs : List Int} (c : cs.length ≠ 256) {e1 e2 e3 : Ent} {t : DT} {P : Bool → Prop} (hp : P true) :
    dOr (dT (dOp (gB neD) (dCall (g1 gLen) (dCons (dN 0) dNil)) (dC (.int 256)))) t (full [.dat (.list (iD cs)), e1, e2, e3]) P := by
  have hl := len_iD cs
  show if (!((((iD cs).length : Nat) : Int) == 256)) = true then P true else _
  rw [if_pos (by simp; omega)]; exact hp
theorem t_ix0 {cs : List Int} (h : 0 < cs.length) {n : Int} {e1 e2 e3 : Ent} {P : Bool → Prop} (hp : P (cs[0] == n)) : dT (dOp (gB eqD) (dOp gIx (dN 0) (dC (.int 0))) (dC (.int n))) (full [.dat (.list (iD cs)), e1, e2, e3]) P := by
  show gIx (.list (iD cs)) (.int ((0 : Nat) : Int)) fun x => gB eqD x (.int n) (asB P)
  exact ix_L h hp
theorem suffix_drop (a r : List Int) (h : (a ++ r).length = 256) : (a ++ r).drop (256 - r.length) = r := by
  rw [List.length_append] at h
  rw [show 256 - r.length = a.length by omega, List.drop_left]
theorem rd_other {n0 n1 : Int} {t : List Int} (z0 : ¬ n0 = 0) (z1 : ¬ n0 = 1) : rdP (n0 :: n1 :: t) = none := by
  unfold rdP
  split
  · split
    · rename_i e; exact absurd (List.cons.inj e).1 z0
    · rename_i e; exact absurd (List.cons.inj e).1 z1
    · rfl
  · rfl
theorem h_read_page : ∀ ds Q QX, F_read_page ds Q QX → ds.length = 1 ∧ m_read_page (endsX Q QX) (startD N_read_page ds) := by
  intro ds Q QX h
  match ds, h with
  | [.list es], ⟨cs, he, h1, hb, h3⟩ =>
    subst he
    refine ⟨rfl, ?_⟩
    have h4 := h3
    unfold rdP at h3
    by_cases c : cs.length = 256
    · rw [if_pos c] at h3
      refine rp_test (e1 := .un) (e2 := .un) (e3 := .un) (P := fun c => if c = true then _ else _) hb c ?_
      rw [if_neg Bool.false_ne_true]
      have c0 : 0 < cs.length := by omega
      obtain ⟨n0, n1, t, rfl⟩ : ∃ n0 n1 t, cs = n0 :: n1 :: t := by
        match cs, c with
        | n0 :: n1 :: t, _ => exact ⟨n0, n1, t, rfl⟩
      have bt : t.all isB = true := by
        simp only [List.all_cons, Bool.and_eq_true] at hb
        exact hb.2.2
      have lt : t.length ≤ 300 := by rw [List.length_cons, List.length_cons] at c; omega
      refine t_ix0 (e1 := .un) (e2 := .un) (e3 := .un) (P := fun c => if c = true then _ else _) c0 ?_
      show if (n0 == 0) = true then _ else _
      by_cases z0 : n0 = 0
      · subst z0
        rw [if_pos (show ((0 : Int) == 0) = true from rfl)]
        simp only at h3
        show F_read_entries [.list (iD (0 :: n1 :: t))] (fun d => tT [2, 3] d [.dat (.list (iD (0 :: n1 :: t))), .dat (.str LEAFS), .un, .un] (rpT (endsX Q QX))) fun x => QX x
        refine ⟨_, n1, rfl, c, hb, rfl, ?_⟩
        show match ents n1.toNat t with
          | some (l, r) => _
          | none => _
        cases hr : ents n1.toNat t with
        | none => rw [hr] at h3; exact h3
        | some q =>
          obtain ⟨l, r⟩ := q
          rw [hr] at h3
          simp only at h3
          have e1 := (ents_is _ _ _ _ bt lt hr).2.2
          have e2 : 0 :: n1 :: t = (0 :: n1 :: l.flatMap entB) ++ r := by rw [e1]; rfl
          refine rp_tail _ r c (by rw [e2] at c ⊢; exact suffix_drop _ _ c) (.str LEAFS) (.tuple (l.map entD)) Q QX ?_
          cases hz : r.any (· != 0) with
          | true => rw [hz, if_pos rfl] at h3; rw [if_pos rfl]; exact h3
          | false => rw [hz, if_neg Bool.false_ne_true] at h3; rw [if_neg Bool.false_ne_true]; exact h3
      · rw [if_neg (by simpa using z0)]
        refine t_ix0 (e1 := .un) (e2 := .un) (e3 := .un) (P := fun c => if c = true then _ else _) c0 ?_
        show if (n0 == 1) = true then _ else _
        by_cases z1 : n0 = 1
        · subst z1
          rw [if_pos (show ((1 : Int) == 1) = true from rfl)]
          simp only at h3
          show F_read_children [.list (iD (1 :: n1 :: t))] (fun d => tT [2, 3] d [.dat (.list (iD (1 :: n1 :: t))), .dat (.str INNERS), .un, .un] (rpT (endsX Q QX))) fun x => QX x
          refine ⟨_, n1, rfl, c, hb, rfl, ?_⟩
          show match chls true n1.toNat t with
            | some (l, r) => _
            | none => _
          cases hr : chls true n1.toNat t with
          | none => rw [hr] at h3; exact h3
          | some q =>
            obtain ⟨l, r⟩ := q
            rw [hr] at h3
            simp only at h3
            have e1 := (chls_is _ _ _ _ _ bt lt hr).2.2.2
            have e2 : 1 :: n1 :: t = (1 :: n1 :: l.flatMap chlB) ++ r := by rw [e1]; rfl
            refine rp_tail _ r c (by rw [e2] at c ⊢; exact suffix_drop _ _ c) (.str INNERS) (.tuple (l.map chlD)) Q QX ?_
            cases hz : r.any (· != 0) with
            | true => rw [hz, if_pos rfl] at h3; rw [if_pos rfl]; exact h3
            | false => rw [hz, if_neg Bool.false_ne_true] at h3; rw [if_neg Bool.false_ne_true]; exact h3
        · rw [if_neg (by simpa using z1)]
          rw [rd_other z0 z1] at h4
          exact h4
    · rw [if_neg c] at h3
      refine rp_test2 (e1 := .un) (e2 := .un) (e3 := .un) (P := fun c => if c = true then _ else _) c ?_
      rw [if_pos rfl]
      exact h3
end Z1

set_option Elab.async false
set_option linter.all false
set_option maxRecDepth 100000
set_option maxHeartbeats 1000000
namespace Z1
open PySem PySem.Spec PyProof.Rows L2 Z
local macro_rules | `(tactic| walk_at "zs") => `(tactic| simp only [sSeq, sIf, sSet, sRet, sNx, sAsg, tN, dOr, dAnd, dNot, dT, dOp, dC, asB, dIf, dCall, dCons, dNil, dTup, dLst, dLc, dIt, dIl, dIs, g1, e_lt, e_gt, e_eq, e_ne, e_le, e_ge, e_add, e_addL, e_addT, e_I0, e_I, e_isN, e_isI, e_isS, e_isB, e_isT, e_isL, e_ixL, e_ixT, e_ixS, e_n0, e_n1, e_n2, e_n3, e_n4, e_n5, e_n6, e_n7, f_nil, f_dat, f_un, f_own, f_adr, rt_ends, nx_ends, List.set_cons_zero, List.set_cons_succ, gLen, gOrd, gTuple, gList, gInt, gNeg, dUn])
theorem full_dat (d : DD) : (Ent.dat d).full = .dat d := rfl
theorem f_any (e : Ent) (r : En) : full (e :: r) = e.full :: full r := rfl
theorem eqv_z (c : Int) : PyData.eqv (.int c) (.int 0) = (c == 0) := rfl
theorem any_z : ∀ l : List Int, ((iD l).any fun z => PyData.eqv z (.int 0)) = l.any (· == 0)
  | [] => rfl
  | c :: l => by
    show (PyData.eqv (.int c) (.int 0) || _) = _
    rw [List.any_cons, eqv_z]
    congr 1
    exact any_z l
theorem all_flat : ∀ l : List Int, (iD l).all flatD = true
  | [] => rfl
  | c :: l => by show (true && _) = true; rw [Bool.true_and]; exact all_flat l
theorem in_z (l : List Int) : inD (.int 0) (.tuple (iD l)) = some (l.any (· == 0)) := by
  unfold inD
  simp only [seqOf]
  rw [if_pos ⟨rfl, all_flat l⟩, any_z]
theorem idx_z (l : List Int) : (iD l).findIdx? (fun z => PyData.eqv z (.int 0)) = l.findIdx? (· == 0) := by
  unfold iD
  rw [List.findIdx?_map]
  rfl
def badB : DD → Bool
  | .int c => !decide (32 ≤ c ∧ c ≤ 126 ∧ c ≠ 37)
  | _ => false
theorem filt : ∀ cs : List Int, ((iD cs).filter badB).isEmpty = (cs.all fun c => decide (32 ≤ c ∧ c ≤ 126 ∧ c ≠ 37))
  | [] => rfl
  | c :: cs => by
    show (List.filter badB (.int c :: iD cs)).isEmpty = _
    rw [List.filter_cons, List.all_cons]
    cases h : decide (32 ≤ c ∧ c ≤ 126 ∧ c ≠ 37) with
    | true =>
      have : badB (.int c) = false := by simp only [badB, h]; rfl
      rw [this, if_neg Bool.false_ne_true, Bool.true_and]; exact filt cs
    | false =>
      have : badB (.int c) = true := by simp only [badB, h]; rfl
      rw [this, if_pos rfl]; rfl
theorem ne_nil (l : List DD) (P : DD → Prop) : gB neD (.list l) (.list []) P = P (.bool (!l.isEmpty)) := by
  have e : neD (.list l) (.list []) = some (!l.isEmpty) := by
    unfold neD
    rw [if_pos (Nat.le_trans (Nat.min_le_right _ _) (by decide))]
    cases l <;> simp [PyData.eqv, PyData.eqvAll]
  simp only [gB, e]
abbrev vaA : DS := (sSeq (sSet 4 (dC (.int 0)))
    (sSeq (sFor (dIt (dSl (dN 0) (dSo (dOp gAdd (dN 2) (dC (.int 1)))) (dSo (dOp gAdd (dN 2) (dC (.int 6)))))) (tN 5) (sSet 4 (dOp gAdd (dOp (gI CMul (· * ·)) (dC (.int 256)) (dN 4)) (dN 5))))
    (sSeq (sSet 4 (dOp (gI0 (· - ·)) (dN 4) (dC (.int 549755813888))))
    (sSeq (sIf (dNot (dT (dCh gLe gLe (dUn gNeg (dOp (gI CPow fun i j => i ^ j.toNat) (dC (.int 10)) (dC (.int 9)))) (dN 4) (dOp (gI CPow fun i j => i ^ j.toNat) (dC (.int 10)) (dC (.int 9)))))) (sRet (dC .none)) sNx)
    (sSeq (sApp 1 (dN 4))
    (sAug 2 (dC (.int 6))))))))
abbrev vaT : DT := (dOr (dNot (dT (dCh gLe gLe (dC (.int 32)) (dN 8) (dC (.int 126))))) (dT (dOp (gB eqD) (dN 8) (dC (.int 37)))))
abbrev vaJ : DS := (sSeq (sApp 1 (dM1 gJoin (dC (.str (Str.ofString ""))) (dLc (dIt (dN 7)) 8 dYes (dOp gIx (fun _ P => F__law_characters [] P) (dOp (gI0 (· - ·)) (dOp (gI0 (· - ·)) (dN 8) (dC (.int 32))) (dCall (g1 gInt) (dCons (dOp (gB gtD) (dN 8) (dC (.int 37))) dNil)))))))
    (sSet 2 (dOp gAdd (dN 6) (dC (.int 1)))))
abbrev vaI : DS := sIf (dT (dOp (gB neD) (dLc (dIt (dN 7)) 8 vaT (dN 8)) (dLst dNil))) (sRet (dC .none)) sNx
abbrev vaB : DS := (sSeq (sSet 6 (dOp gAdd (dOp gAdd (dN 2) (dC (.int 1))) (dLix (dCall (g1 gList) (dCons (dSl (dN 0) (dSo (dOp gAdd (dN 2) (dC (.int 1)))) (dSo (dOp gAdd (dN 2) (dC (.int 8))))) dNil)) (dC (.int 0)))))
    (sSeq (sSet 7 (dSl (dN 0) (dSo (dOp gAdd (dN 2) (dC (.int 1)))) (dSo (dN 6))))
    (sSeq vaI vaJ)))
abbrev vaT1 : DT := (dAnd (dT (dOp (gB eqD) (dOp gIx (dN 0) (dN 2)) (dC (.int 1)))) (dT (dOp gLe (dOp gAdd (dN 2) (dC (.int 6))) (dCall (g1 gLen) (dCons (dN 0) dNil)))))
abbrev vaT2 : DT := (dAnd (dT (dOp (gB eqD) (dOp gIx (dN 0) (dN 2)) (dC (.int 2)))) (dT (dOp (gB inD) (dC (.int 0)) (dSl (dN 0) (dSo (dOp gAdd (dN 2) (dC (.int 1)))) (dSo (dOp gAdd (dN 2) (dC (.int 8))))))))
abbrev vaAll : DS := (sSeq (sIf (dT (dOp (gB eqD) (dN 2) (dCall (g1 gLen) (dCons (dN 0) dNil)))) (sRet (dCall (g1 gTuple) (dCons (dN 1) dNil))) sNx) (sIf vaT1 vaA (sIf vaT2 vaB (sRet (dC .none)))))
theorem fold3 (a b c d e6 e7 e8 : Ent) (E : DEn) : ∀ (cs : List Int) (m : Int) (e5 : Ent), (∀ e, E.nx [a, b, c, d, .dat (.int (cs.foldl (fun a d => a * 256 + d) m)), e, e6, e7, e8]) →
    loop (tN 5) (sSet 4 (dOp gAdd (dOp (gI CMul (· * ·)) (dC (.int 256)) (dN 4)) (dN 5))) E (iD cs) [a, b, c, d, .dat (.int m), e5, e6, e7, e8]
  | [], m, e5, h => h e5
  | x :: xs, m, e5, h => by
    refine ⟨.inl ⟨by decide, by decide⟩, ?_⟩
    show loop (tN 5) _ E (iD xs) [a, b, c, d, .dat (.int (256 * m + x)), .dat (.int x), e6, e7, e8]
    rw [Int.mul_comm 256 m]
    exact fold3 a b c d e6 e7 e8 E xs (m * 256 + x) (.dat (.int x)) h
theorem p9 : (10 : Int) ^ (9 : Int).toNat = 1000000000 := by decide
theorem t_rng {ρ : En} {v : Int} {P : Bool → Prop} (h4 : ρ[4]? = some (.dat (.int v))) (hp : P (decide (-1000000000 ≤ v ∧ v ≤ 1000000000))) :
    dT (dCh gLe gLe (dUn gNeg (dOp (gI CPow fun i j => i ^ j.toNat) (dC (.int 10)) (dC (.int 9)))) (dN 4) (dOp (gI CPow fun i j => i ^ j.toNat) (dC (.int 10)) (dC (.int 9)))) ρ P := by
  have c10 : CPow 10 9 := ⟨by decide, by decide, by decide⟩
  refine ⟨c10, ?_⟩
  show dN 4 ρ fun y => gLe (.int (-((10 : Int) ^ (9 : Int).toNat))) y (asB fun c => if c = true then (CPow 10 9 ∧ gLe y (.int ((10 : Int) ^ (9 : Int).toNat)) (asB P)) else P false)
  rw [dN_at h4, p9]
  show if decide (-1000000000 ≤ v) = true then (CPow 10 9 ∧ P (decide (v ≤ 1000000000))) else P false
  by_cases a : -1000000000 ≤ v
  · rw [if_pos (decide_eq_true a)]
    refine ⟨c10, ?_⟩
    have e : decide (-1000000000 ≤ v ∧ v ≤ 1000000000) = decide (v ≤ 1000000000) := by
      by_cases b : v ≤ 1000000000
      · rw [decide_eq_true b, decide_eq_true ⟨a, b⟩]
      · rw [decide_eq_false b, decide_eq_false (fun z => b z.2)]
    rw [e] at hp; exact hp
  · rw [if_neg (by simpa using a)]
    rw [decide_eq_false (fun z => a z.1)] at hp; exact hp
theorem dec_step (n : Nat) (r : List Int) (h : r ≠ []) (hn : r.length ≤ n) : ∃ m, n = m + 1 := ⟨n - 1, by
  have : 0 < r.length := List.length_pos_iff.mpr h
  omega⟩
/-- where the first 0 among the next seven stands -/
theorem find7 (t : List Int) : (t.take 7).findIdx? (· == 0) = match t.findIdx? (· == 0) with | some m => if m < 7 then some m else none | none => none := by
  rw [List.findIdx?_take]
  cases t.findIdx? (· == 0) with
  | none => rfl
  | some m =>
    show (Option.guard (fun j => decide (j < 7)) m) = _
    by_cases h : m < 7
    · simp [Option.guard, h]
    · simp [Option.guard, h]
end Z1

set_option Elab.async false
set_option linter.all false
set_option maxRecDepth 100000
set_option maxHeartbeats 1000000
namespace Z1
open PySem PySem.Spec PyProof.Rows L2 Z
theorem in7 (cs : List Int) (j : Nat) (h : j + 1 ≤ cs.length) (P : DD → Prop) (hp : P (.bool (((cs.drop (j + 1)).take 7).any (· == 0)))) : gB inD (.int 0) (.tuple (cutZ (iD cs) (some (((j : Nat) : Int) + 1)) (some (((j : Nat) : Int) + 8)))) P := by
  rw [show ((j : Nat) : Int) + 1 = ((j + 1 : Nat) : Int) by omega, show ((j : Nat) : Int) + 8 = ((j + 8 : Nat) : Int) by omega, cut_at cs _ _ h, show j + 8 - (j + 1) = 7 by omega]
  simp only [gB, in_z]; exact hp
theorem any7 (t : List Int) : (t.take 7).any (· == 0) = (match t.findIdx? (· == 0) with | some m => decide (m < 7) | none => false) := by
  have e : (t.take 7).any (· == 0) = ((t.take 7).findIdx? (· == 0)).isSome := by rw [List.findIdx?_isSome]
  rw [e, find7]
  cases t.findIdx? (· == 0) with
  | none => rfl
  | some m =>
    by_cases h : m < 7
    · simp [h]
    · simp [h]
theorem lix7 (cs : List Int) (j m : Nat) (h : j + 1 ≤ cs.length) (hm : m < 7) (hf : (cs.drop (j + 1)).findIdx? (· == 0) = some m) (P : DD → Prop) (hp : P (.int (m : Nat))) : gLix (.list (cutZ (iD cs) (some (((j : Nat) : Int) + 1)) (some (((j : Nat) : Int) + 8)))) (.int 0) P := by
  rw [show ((j : Nat) : Int) + 1 = ((j + 1 : Nat) : Int) by omega, show ((j : Nat) : Int) + 8 = ((j + 8 : Nat) : Int) by omega, cut_at cs _ _ h, show j + 8 - (j + 1) = 7 by omega]
  simp only [gLix]
  refine ⟨rfl, all_flat _, ?_⟩
  rw [idx_z, find7, hf]
  simp only [if_pos hm]
  exact hp
theorem bad_at (c : Int) {ρ : En} (h8 : ρ[8]? = some (.dat (.int c))) (P : Bool → Prop) (hp : P (badB (.int c))) : vaT ρ P := by
  show dN 8 ρ fun y => gLe (.int 32) y (asB fun a => if a = true then gLe y (.int 126) (asB fun b => if (!b) = true then P true else dN 8 ρ fun z => gB eqD z (.int 37) (asB P)) else (if (!false) = true then P true else dN 8 ρ fun z => gB eqD z (.int 37) (asB P)))
  rw [dN_at h8, dN_at h8]
  show if decide (32 ≤ c) = true then (if (!decide (c ≤ 126)) = true then P true else P (c == 37)) else P true
  have hb : badB (.int c) = !decide (32 ≤ c ∧ c ≤ 126 ∧ c ≠ 37) := rfl
  rw [hb] at hp
  by_cases b1 : 32 ≤ c
  · rw [if_pos (decide_eq_true b1)]
    by_cases b2 : c ≤ 126
    · rw [decide_eq_true b2, if_neg (by decide)]
      by_cases b3 : c = 37
      · subst b3; exact hp
      · rw [show (c == 37) = false by simpa using b3]
        rw [decide_eq_true ⟨b1, b2, b3⟩] at hp
        exact hp
    · rw [decide_eq_false b2, if_pos (by decide)]
      rw [decide_eq_false (fun z => b2 z.2.1)] at hp
      exact hp
  · rw [if_neg (by simpa using b1)]
    rw [decide_eq_false (fun z => b1 z.1)] at hp
    exact hp
theorem join_co (co : List Int) (hl : co.length ≤ 6) (hc : (co.all fun c => decide (32 ≤ c ∧ c ≤ 126 ∧ c ≠ 37)) = true) (P : DD → Prop) (hp : P (.str ⟨(co.map Int.toNat).toArray⟩)) : gJoin (.str (Str.ofString "")) (.list (co.map chD)) P := by
  simp only [gJoin]
  rw [strs_of co hc]
  show _ ∧ _
  have e3 : Txt.join (Str.ofString "") (co.map fun c => (⟨#[c.toNat]⟩ : Str)) = ⟨(co.map Int.toNat).toArray⟩ := by
    have := join_ch (co.map Int.toNat)
    rw [List.map_map] at this
    exact this
  rw [e3]
  exact ⟨by rw [sum_one, List.length_map]; show co.length + co.length * 0 ≤ _; omega, hp⟩
theorem chr_at (co : List Int) (hc : (co.all fun c => decide (32 ≤ c ∧ c ≤ 126 ∧ c ≠ 37)) = true) (y : DD) (hy : y ∈ iD co) {ρ : En} (h8 : ρ[8]? = some (.dat y)) (Q' : DD → Prop) (hq' : Q' (chOf y)) :
    dOp gIx (fun _ P => F__law_characters [] P) (dOp (gI0 (· - ·)) (dOp (gI0 (· - ·)) (dN 8) (dC (.int 32))) (dCall (g1 gInt) (dCons (dOp (gB gtD) (dN 8) (dC (.int 37))) dNil))) ρ Q' := by
  obtain ⟨c, hcm, rfl⟩ := iD_in hy
  have okc := of_decide_eq_true (List.all_eq_true.mp hc c hcm)
  refine ⟨rfl, ?_⟩
  show dN 8 ρ fun y1 => gI0 (· - ·) y1 (.int 32) fun y2 => dN 8 ρ fun y3 => gB gtD y3 (.int 37) fun y4 => gInt y4 fun y5 => gI0 (· - ·) y2 y5 fun y6 => gIx (.str CH) y6 Q'
  rw [dN_at h8]
  show dN 8 ρ fun y3 => gB gtD y3 (.int 37) fun y4 => gInt y4 fun y5 => gI0 (· - ·) (.int (c - 32)) y5 fun y6 => gIx (.str CH) y6 Q'
  rw [dN_at h8]
  show gIx (.str CH) (.int (c - 32 - (if decide (37 < c) = true then 1 else 0))) Q'
  have hcc := ch_at c.toNat (by omega) (by simp only [okC, decide_eq_true_eq]; omega)
  have ec : ((c.toNat : Nat) : Int) = c := by omega
  rw [ec] at hcc
  have e5 : (if decide (37 < c) = true then (1 : Int) else 0) = (if 37 < c then 1 else 0) := by simp
  rw [e5, e_ixS]
  refine ⟨by decide +kernel, ?_⟩
  rw [hcc]
  show Q' (.str ⟨#[c.toNat]⟩)
  have : chOf (.int c) = .str ⟨#[c.toNat]⟩ := by simp only [chOf, chD]; rw [if_pos okc]
  rw [this] at hq'
  exact hq'
/-- the text's part of one turn -/
theorem va_text (d0 : Ent) (acc : List DD) (at' x e4 e5 e6 : Ent) (hacc : acc.length < 1000000) (m : Nat) (en : Nat) (co : List Int) (hl : co.length = m) (h6 : m ≤ 6) (E : DEn) (e8 : Ent)
    (h1 : textD co = .none → E.rt .none) (h2 : textD co ≠ .none → ∀ e8, E.nx [d0, .own (acc ++ [textD co]), .dat (.int ((en + 1 : Nat) : Int)), x, e4, e5, .dat (.int (en : Nat)), .dat (.tuple (iD co)), e8]) :
    sSeq vaI vaJ E [d0, .own acc, at', x, e4, e5, .dat (.int (en : Nat)), .dat (.tuple (iD co)), e8] := by
  have lco := len_iD co
  show comp (full [d0, .own acc, at', x, e4, e5, .dat (.int (en : Nat)), .dat (.tuple (iD co)), e8]) 8 vaT (dN 8) (iD co) [] fun l => gB neD l (.list []) (asB fun b => if b = true then E.rt .none else vaJ E [d0, .own acc, at', x, e4, e5, .dat (.int (en : Nat)), .dat (.tuple (iD co)), e8])
  refine comp_if (p := badB) (f := id) (fun y hy Q' hq' => ?_) (fun y hy _ Q' hq' => ?_) (by rw [lco]; simp; omega) ?_
  · obtain ⟨c, _, rfl⟩ := iD_in hy
    exact bad_at c rfl Q' hq'
  · rw [dN_at (d := y) rfl]; exact hq'
  · rw [List.map_id, List.nil_append, ne_nil, filt]
    show if (!(co.all fun c => decide (32 ≤ c ∧ c ≤ 126 ∧ c ≠ 37))) = true then E.rt .none else _
    cases hc : co.all fun c => decide (32 ≤ c ∧ c ≤ 126 ∧ c ≠ 37) with
    | false =>
      rw [if_pos (by rfl)]
      refine h1 ?_
      unfold textD
      rw [hc, if_neg (by simp)]
    | true =>
      rw [if_neg (by decide)]
      have et : textD co = .str ⟨(co.map Int.toNat).toArray⟩ := by
        unfold textD
        rw [hc, if_pos ⟨by omega, rfl⟩]
      have h2 := h2 (by rw [et]; exact fun z => nomatch z)
      rw [et] at h2
      show comp [d0, .own acc, at', x, e4, e5, .dat (.int (en : Nat)), .dat (.tuple (iD co)), e8] 8 dYes _ (iD co) [] fun l => gJoin (.str (Str.ofString "")) l fun s => acc.length < 1000000 ∧ E.nx [d0, .own (acc ++ [s]), .dat (.int (((en : Nat) : Int) + 1)), x, e4, e5, .dat (.int (en : Nat)), .dat (.tuple (iD co)), e8]
      refine comp_map (f := chOf) (fun y hy Q' hq' => chr_at co hc y hy rfl Q' hq') (by rw [lco]; simp; omega) ?_
      rw [chOf_map, List.nil_append]
      exact join_co co (by omega) hc _ ⟨hacc, h2 _⟩
end Z1

set_option Elab.async false
set_option linter.all false
set_option maxRecDepth 100000
set_option maxHeartbeats 1000000
namespace Z1
open PySem PySem.Spec PyProof.Rows L2 Z
theorem va_loop (cs : List Int) (hb : cs.all isB = true) (h1 : cs.length ≤ 255) (E : DEn) : ∀ (items : List DD) (f j : Nat) (acc : List DD) (e3 e4 e5 e6 e7 e8 : Ent), acc.length ≤ j → j ≤ cs.length → f < items.length → (cs.drop j).length ≤ f →
    (match decode f (cs.drop j) with | some vs => E.rt (.tuple (acc ++ vs)) | none => E.rt .none) →
    loop (tN 3) vaAll E items [.dat (.tuple (iD cs)), .own acc, .dat (.int (j : Nat)), e3, e4, e5, e6, e7, e8]
  | [], f, j, acc, e3, e4, e5, e6, e7, e8, _, _, hf, _, _ => by cases hf
  | x :: xs, f, j, acc, e3, e4, e5, e6, e7, e8, ha, hj, hf, hd, hq => by
    rw [List.length_cons] at hf
    have ll := len_iD cs
    show if (((j : Nat) : Int) == (((iD cs).length : Nat) : Int)) = true then E.rt (.tuple acc) else sIf vaT1 vaA (sIf vaT2 vaB (sRet (dC .none))) ⟨loop (tN 3) vaAll E xs, E.rt, E.nx, loop (tN 3) vaAll E xs, E.ex⟩ [.dat (.tuple (iD cs)), .own acc, .dat (.int (j : Nat)), .dat x, e4, e5, e6, e7, e8]
    by_cases hlt : j < cs.length
    · rw [if_neg (by simp; omega)]
      have hdr : cs.drop j = cs[j] :: cs.drop (j + 1) := List.drop_eq_getElem_cons hlt
      have hne : cs.drop j ≠ [] := by rw [hdr]; exact List.cons_ne_nil _ _
      obtain ⟨f', rfl⟩ := dec_step f _ hne hd
      have tl : (cs.drop (j + 1)).length = cs.length - (j + 1) := List.length_drop ..
      have tl0 : (cs.drop j).length = cs.length - j := List.length_drop ..
      have none_end : (first (cs.drop j)).1 = .none → E.rt .none := fun z => by
        rw [decode_none _ _ hne z] at hq; exact hq
      have some_end : ∀ v k, first (cs.drop j) = (v, k) → v ≠ .none → 0 < k → j + k ≤ cs.length → ∀ e3 e4 e5 e6 e7 e8, loop (tN 3) vaAll E xs [.dat (.tuple (iD cs)), .own (acc ++ [v]), .dat (.int ((j + k : Nat) : Int)), e3, e4, e5, e6, e7, e8] := by
        intro v k e hv hk hjk e3 e4 e5 e6 e7 e8
        rw [decode_some _ _ hne (by rw [e]; exact hv), e, List.drop_drop] at hq
        refine va_loop cs hb h1 E xs f' (j + k) (acc ++ [v]) _ _ _ _ _ _ (by rw [List.length_append]; show _ + 1 ≤ _; omega) hjk (by omega) (by rw [List.length_drop]; omega) ?_
        cases hdec : decode f' (cs.drop (j + k)) with
        | none => rw [hdec] at hq; exact hq
        | some vs => rw [hdec] at hq; show E.rt (.tuple (acc ++ [v] ++ vs)); rw [List.append_assoc]; exact hq
      have c1 : ((j : Nat) : Int) + 1 = ((j + 1 : Nat) : Int) := by omega
      have c6 : ((j : Nat) : Int) + 6 = ((j + 6 : Nat) : Int) := by omega
      have t1 : ∀ P : Bool → Prop, P (cs[j] == 1 && decide (((j : Nat) : Int) + 6 ≤ (((iD cs).length : Nat) : Int))) → vaT1 (full [.dat (.tuple (iD cs)), .own acc, .dat (.int (j : Nat)), .dat x, e4, e5, e6, e7, e8]) P := fun P hp => by
        show gIx (.tuple (iD cs)) (.int (j : Nat)) fun y => gB eqD y (.int 1) (asB fun a => if a = true then P (decide (((j : Nat) : Int) + 6 ≤ (((iD cs).length : Nat) : Int))) else P false)
        rw [e_ixT, at_iD hlt]
        show if (cs[j] == 1) = true then P (decide (((j : Nat) : Int) + 6 ≤ (((iD cs).length : Nat) : Int))) else P false
        cases hz : cs[j] == 1 with
        | true => rw [hz, Bool.true_and] at hp; rw [if_pos rfl]; exact hp
        | false => rw [hz, Bool.false_and] at hp; rw [if_neg Bool.false_ne_true]; exact hp
      have t2 : ∀ P : Bool → Prop, P (cs[j] == 2 && ((cs.drop (j + 1)).take 7).any (· == 0)) → vaT2 (full [.dat (.tuple (iD cs)), .own acc, .dat (.int (j : Nat)), .dat x, e4, e5, e6, e7, e8]) P := fun P hp => by
        show gIx (.tuple (iD cs)) (.int (j : Nat)) fun y => gB eqD y (.int 2) (asB fun a => if a = true then gB inD (.int 0) (.tuple (cutZ (iD cs) (some (((j : Nat) : Int) + 1)) (some (((j : Nat) : Int) + 8)))) (asB P) else P false)
        rw [e_ixT, at_iD hlt]
        show if (cs[j] == 2) = true then gB inD (.int 0) (.tuple (cutZ (iD cs) (some (((j : Nat) : Int) + 1)) (some (((j : Nat) : Int) + 8)))) (asB P) else P false
        cases hz : cs[j] == 2 with
        | true =>
          rw [hz, Bool.true_and] at hp
          rw [if_pos rfl]
          exact in7 cs j hlt _ hp
        | false => rw [hz, Bool.false_and] at hp; rw [if_neg Bool.false_ne_true]; exact hp
      refine t1 (fun c => if c = true then vaA ⟨loop (tN 3) vaAll E xs, E.rt, E.nx, loop (tN 3) vaAll E xs, E.ex⟩ [.dat (.tuple (iD cs)), .own acc, .dat (.int (j : Nat)), .dat x, e4, e5, e6, e7, e8] else sIf vaT2 vaB (sRet (dC .none)) ⟨loop (tN 3) vaAll E xs, E.rt, E.nx, loop (tN 3) vaAll E xs, E.ex⟩ [.dat (.tuple (iD cs)), .own acc, .dat (.int (j : Nat)), .dat x, e4, e5, e6, e7, e8]) ?_
      have hT2 : ∀ (hA : (cs[j] == 2 && ((cs.drop (j + 1)).take 7).any (· == 0)) = true → vaB ⟨loop (tN 3) vaAll E xs, E.rt, E.nx, loop (tN 3) vaAll E xs, E.ex⟩ [.dat (.tuple (iD cs)), .own acc, .dat (.int (j : Nat)), .dat x, e4, e5, e6, e7, e8]) (hB : (cs[j] == 2 && ((cs.drop (j + 1)).take 7).any (· == 0)) = false → E.rt .none), sIf vaT2 vaB (sRet (dC .none)) ⟨loop (tN 3) vaAll E xs, E.rt, E.nx, loop (tN 3) vaAll E xs, E.ex⟩ [.dat (.tuple (iD cs)), .own acc, .dat (.int (j : Nat)), .dat x, e4, e5, e6, e7, e8] := fun hA hB => by
        refine t2 (fun c => if c = true then vaB ⟨loop (tN 3) vaAll E xs, E.rt, E.nx, loop (tN 3) vaAll E xs, E.ex⟩ [.dat (.tuple (iD cs)), .own acc, .dat (.int (j : Nat)), .dat x, e4, e5, e6, e7, e8] else E.rt .none) ?_
        cases hz : (cs[j] == 2 && ((cs.drop (j + 1)).take 7).any (· == 0)) with
        | true => rw [if_pos rfl]; exact hA hz
        | false => rw [if_neg Bool.false_ne_true]; exact hB hz
      by_cases o1 : cs[j] = 1
      · have f1 : first (cs.drop j) = (intB ((cs.drop (j + 1)).take 5), 6) := by rw [hdr, o1]; rfl
        by_cases o6 : j + 6 ≤ cs.length
        · rw [o1, show ((1 : Int) == 1) = true from rfl, Bool.true_and, decide_eq_true (by omega), if_pos rfl]
          show loop (tN 5) _ _ (cutZ (iD cs) (some (((j : Nat) : Int) + 1)) (some (((j : Nat) : Int) + 6))) [.dat (.tuple (iD cs)), .own acc, .dat (.int (j : Nat)), .dat x, .dat (.int 0), e5, e6, e7, e8]
          rw [c1, c6, cut_at cs (j + 1) (j + 6) hlt, show j + 6 - (j + 1) = 5 by omega]
          refine fold3 _ _ _ _ _ _ _ _ _ 0 e5 fun e => ?_
          have h5 : ((cs.drop (j + 1)).take 5).length = 5 := by rw [List.length_take, tl]; omega
          have hv : first (cs.drop j) = (if -1000000000 ≤ val5 ((cs.drop (j + 1)).take 5) - 549755813888 ∧ val5 ((cs.drop (j + 1)).take 5) - 549755813888 ≤ 1000000000 then .int (val5 ((cs.drop (j + 1)).take 5) - 549755813888) else .none, 6) := by
            rw [f1, intB, if_neg (by omega)]
          have ev : List.foldl (fun a d => a * 256 + d) 0 ((cs.drop (j + 1)).take 5) = val5 ((cs.drop (j + 1)).take 5) := rfl
          rw [ev]
          refine t_rng (ρ := full [.dat (.tuple (iD cs)), .own acc, .dat (.int (j : Nat)), .dat x, .dat (.int (val5 ((cs.drop (j + 1)).take 5) - 549755813888)), e, e6, e7, e8]) (v := val5 ((cs.drop (j + 1)).take 5) - 549755813888)
            (P := fun c => if (!c) = true then E.rt .none else (acc.length < 1000000 ∧ loop (tN 3) vaAll E xs [.dat (.tuple (iD cs)), .own (acc ++ [.int (val5 ((cs.drop (j + 1)).take 5) - 549755813888)]), .dat (.int (((j : Nat) : Int) + 6)), .dat x, .dat (.int (val5 ((cs.drop (j + 1)).take 5) - 549755813888)), e, e6, e7, e8])) rfl ?_
          generalize val5 ((cs.drop (j + 1)).take 5) - 549755813888 = v at hv ⊢
          by_cases hr : -1000000000 ≤ v ∧ v ≤ 1000000000
          · rw [if_pos hr] at hv
            rw [decide_eq_true hr, if_neg (by decide)]
            refine ⟨by omega, ?_⟩
            rw [c6]
            exact some_end (.int v) 6 hv (fun z => nomatch z) (by decide) o6 _ _ _ _ _ _
          · rw [if_neg hr] at hv
            rw [decide_eq_false hr, if_pos (by decide)]
            exact none_end (by rw [hv])
        · rw [o1, show ((1 : Int) == 1) = true from rfl, Bool.true_and, decide_eq_false (by omega), if_neg Bool.false_ne_true]
          refine hT2 (fun z => ?_) fun _ => none_end (by rw [f1, intB, if_pos (by rw [List.length_take, tl]; omega)])
          rw [o1] at z; cases z
      · rw [show (cs[j] == 1) = false by simpa using o1, Bool.false_and, if_neg Bool.false_ne_true]
        by_cases o2 : cs[j] = 2
        · refine hT2 (fun z => ?_) fun z => ?_
          · rw [Bool.and_eq_true, any7] at z
            cases hf7 : (cs.drop (j + 1)).findIdx? (· == 0) with
            | none => rw [hf7] at z; cases z.2
            | some m =>
              rw [hf7] at z
              have m7 : m < 7 := of_decide_eq_true z.2
              have f2 : first (cs.drop j) = (textD ((cs.drop (j + 1)).take m), m + 2) := by rw [hdr, o2]; simp only [first, hf7]
              have hm : m < (cs.drop (j + 1)).length := (List.findIdx?_eq_some_iff_getElem.mp hf7).1
              show gLix (.list (cutZ (iD cs) (some (((j : Nat) : Int) + 1)) (some (((j : Nat) : Int) + 8)))) (.int 0) fun d => gAdd (.int (((j : Nat) : Int) + 1)) d fun d => sSeq (sSet 7 (dSl (dN 0) (dSo (dOp gAdd (dN 2) (dC (.int 1)))) (dSo (dN 6)))) (sSeq vaI vaJ) ⟨loop (tN 3) vaAll E xs, E.rt, E.nx, loop (tN 3) vaAll E xs, E.ex⟩ [.dat (.tuple (iD cs)), .own acc, .dat (.int (j : Nat)), .dat x, e4, e5, .dat d, e7, e8]
              refine lix7 cs j m hlt m7 hf7 _ ?_
              show sSeq vaI vaJ ⟨loop (tN 3) vaAll E xs, E.rt, E.nx, loop (tN 3) vaAll E xs, E.ex⟩ [.dat (.tuple (iD cs)), .own acc, .dat (.int (j : Nat)), .dat x, e4, e5, .dat (.int (((j : Nat) : Int) + 1 + ((m : Nat) : Int))), .dat (.tuple (cutZ (iD cs) (some (((j : Nat) : Int) + 1)) (some (((j : Nat) : Int) + 1 + ((m : Nat) : Int))))), e8]
              rw [show ((j : Nat) : Int) + 1 + ((m : Nat) : Int) = ((j + 1 + m : Nat) : Int) by omega, c1, cut_at cs _ _ hlt, show j + 1 + m - (j + 1) = m by omega]
              have lm : ((cs.drop (j + 1)).take m).length = m := by rw [List.length_take]; omega
              refine va_text _ acc _ _ _ _ .un (by omega) m (j + 1 + m) _ lm (by omega) _ _ (fun z => none_end (by rw [f2]; exact z)) fun z e8 => ?_
              have := some_end _ _ f2 z (by omega) (by omega) (.dat x) e4 e5 (.dat (.int ((j + 1 + m : Nat) : Int))) (.dat (.tuple (iD ((cs.drop (j + 1)).take m)))) e8
              rw [show j + (m + 2) = j + 1 + m + 1 by omega] at this
              exact this
          · rw [o2, show ((2 : Int) == 2) = true from rfl, Bool.true_and, any7] at z
            refine none_end ?_
            cases hf7 : (cs.drop (j + 1)).findIdx? (· == 0) with
            | none => rw [hdr, o2]; simp only [first, hf7]
            | some m =>
              rw [hf7] at z
              have m7 : ¬ m < 7 := of_decide_eq_false z
              have hm : m < (cs.drop (j + 1)).length := (List.findIdx?_eq_some_iff_getElem.mp hf7).1
              have f2 : first (cs.drop j) = (textD ((cs.drop (j + 1)).take m), m + 2) := by rw [hdr, o2]; simp only [first, hf7]
              rw [f2]
              show textD ((cs.drop (j + 1)).take m) = .none
              unfold textD
              rw [if_neg (fun z => by have := z.1; rw [List.length_take] at this; omega)]
        · refine hT2 (fun z => ?_) fun _ => none_end ?_
          · rw [show (cs[j] == 2) = false by simpa using o2] at z; cases z
          · rw [hdr]
            unfold first
            split
            · rename_i h'; exact absurd (List.cons.inj h').1 o1
            · rename_i h'; exact absurd (List.cons.inj h').1 o2
            · rfl
    · have ej : j = cs.length := by omega
      rw [if_pos (by rw [ll, ej]; simp)]
      rw [ej, List.drop_length] at hq
      have hq : E.rt (.tuple (acc ++ [])) := by cases f <;> exact hq
      rw [List.append_nil] at hq
      exact hq
theorem h__law_values : ∀ ds Q, F__law_values ds Q → ds.length = 1 ∧ m__law_values (endsD Q) (startD N__law_values ds) := by
  intro ds Q h
  match ds, h with
  | [.tuple es], ⟨cs, he, h1, hb, h2⟩ =>
    subst he
    refine ⟨rfl, ?_⟩
    refine ⟨by decide, ?_⟩
    show loop (tN 3) vaAll _ (upto 256) [.dat (.tuple (iD cs)), .own [], .dat (.int ((0 : Nat) : Int)), .un, .un, .un, .un, .un, .un]
    refine va_loop cs hb h1 _ _ cs.length 0 [] _ _ _ _ _ _ (Nat.le_refl _) (Nat.zero_le _) (by rw [upto_len]; show _ < 256; omega) (by rw [List.drop_zero]; exact Nat.le_refl _) ?_
    rw [List.drop_zero]
    unfold decD at h2
    show match decode cs.length cs with | some vs => Q (.tuple ([] ++ vs)) | none => Q .none
    split <;> rename_i hx <;> rw [hx] at h2 <;> exact h2
end Z1

set_option Elab.async false
set_option linter.all false
set_option maxRecDepth 100000
set_option maxHeartbeats 1000000
namespace Z1
open PySem PySem.Spec PyProof.Rows L2 Z
/-- what a counted part tells of the bytes -/
theorem cnt_n {cs : List Int} (hb : cs.all isB = true) {j : Nat} {k : List Int} (h : cntR (cs.drop j) = some k) : ∃ h : j < cs.length, cs[j] = (k.length : Int) ∧ (cs.drop (j + 1)).take k.length = k ∧ j + 1 + k.length ≤ cs.length := by
  by_cases hj : j < cs.length
  · have ed : cs.drop j = cs[j] :: cs.drop (j + 1) := List.drop_eq_getElem_cons hj
    have bj := byte_0 hb hj
    rw [ed] at h
    have h : (if cs[j].toNat ≤ (cs.drop (j + 1)).length then some ((cs.drop (j + 1)).take cs[j].toNat) else none) = some k := h
    have ld : (cs.drop (j + 1)).length = cs.length - (j + 1) := List.length_drop
    split at h
    · rename_i c
      have e := Option.some.inj h
      have lk : k.length = cs[j].toNat := by rw [← e, List.length_take]; omega
      refine ⟨hj, by omega, ?_, by omega⟩
      rw [lk]; exact e
    · cases h
  · rw [List.drop_eq_nil_of_le (by omega)] at h; cases h
abbrev rdTs : DT := (dOr (dT (dOp gGe (dN 1) (dC (.int 256)))) (dT (dOp (gB gtD) (dOp gAdd (dOp gAdd (dN 1) (dC (.int 1))) (dOp gIx (dN 0) (dN 1))) (dC (.int 256)))))
abbrev rdKs : DE := (dCall (g1 gTuple) (dCons (dSl (dN 0) (dSo (dOp gAdd (dN 1) (dC (.int 1)))) (dSo (dOp gAdd (dOp gAdd (dN 1) (dC (.int 1))) (dOp gIx (dN 0) (dN 1))))) dNil))
abbrev rdAs : DS := (sAug 1 (dOp gAdd (dC (.int 1)) (dOp gIx (dN 0) (dN 1))))
section
variable {cs : List Int} {j : Nat} {e2 e3 e4 e5 e6 : Ent}
theorem rd_t (hb : cs.all isB = true) (h1 : cs.length = 256) {P : Bool → Prop} (hp : P (cntR (cs.drop j)).isNone) : rdTs (full [.dat (.list (iD cs)), .dat (.int (j : Nat)), e2, e3, e4, e5, e6]) P := by
  show if decide ((256 : Int) ≤ (j : Nat)) = true then P true else gIx (.list (iD cs)) (.int (j : Nat)) fun y => gAdd (.int (((j : Nat) : Int) + 1)) y fun z => gB gtD z (.int 256) (asB P)
  by_cases c : 256 ≤ j
  · rw [if_pos (decide_eq_true (by omega))]
    rw [List.drop_eq_nil_of_le (by omega)] at hp
    exact hp
  · rw [if_neg (by simp; omega)]
    have hj : j < cs.length := by omega
    have bj := byte_0 hb hj
    refine ix_L hj ?_
    show P (decide ((256 : Int) < ((j : Nat) : Int) + 1 + cs[j]))
    have ed : cs.drop j = cs[j] :: cs.drop (j + 1) := List.drop_eq_getElem_cons hj
    have ld : (cs.drop (j + 1)).length = cs.length - (j + 1) := List.length_drop
    have e : (cntR (cs.drop j)).isNone = decide ((256 : Int) < ((j : Nat) : Int) + 1 + cs[j]) := by
      rw [ed]
      show (if cs[j].toNat ≤ (cs.drop (j + 1)).length then some ((cs.drop (j + 1)).take cs[j].toNat) else none).isNone = _
      by_cases z : cs[j].toNat ≤ (cs.drop (j + 1)).length
      · rw [if_pos z, decide_eq_false (by omega)]; rfl
      · rw [if_neg z, decide_eq_true (by omega)]; rfl
    rw [e] at hp; exact hp
theorem rd_k (hb : cs.all isB = true) {k : List Int} (hk : cntR (cs.drop j) = some k) {P : DD → Prop} (hp : P (tD k)) : rdKs [.dat (.list (iD cs)), .dat (.int (j : Nat)), e2, e3, e4, e5, e6] P := by
  obtain ⟨hj, en, et, el⟩ := cnt_n hb hk
  refine ix_L hj ?_
  show P (.tuple (cutZ (iD cs) (some (((j : Nat) : Int) + 1)) (some (((j : Nat) : Int) + 1 + cs[j]))))
  rw [en, show ((j : Nat) : Int) + 1 + (k.length : Int) = ((j + 1 + k.length : Nat) : Int) by omega, show ((j : Nat) : Int) + 1 = ((j + 1 : Nat) : Int) by omega, cut_at cs _ _ (by omega), show j + 1 + k.length - (j + 1) = k.length by omega, et]
  exact hp
theorem rd_a (hb : cs.all isB = true) {k : List Int} (hk : cntR (cs.drop j) = some k) {E : DEn} (h : E.nx [.dat (.list (iD cs)), .dat (.int ((j + (1 + k.length) : Nat) : Int)), e2, e3, e4, e5, e6]) : rdAs E [.dat (.list (iD cs)), .dat (.int (j : Nat)), e2, e3, e4, e5, e6] := by
  obtain ⟨hj, en, et, el⟩ := cnt_n hb hk
  refine ix_L hj ?_
  show E.nx [.dat (.list (iD cs)), .dat (.int (((j : Nat) : Int) + (1 + cs[j]))), e2, e3, e4, e5, e6]
  rw [en, show ((j : Nat) : Int) + (1 + (k.length : Int)) = ((j + (1 + k.length) : Nat) : Int) by omega]
  exact h
theorem rd_aS (hb : cs.all isB = true) {k : List Int} (hk : cntR (cs.drop j) = some k) {b : DS} {E : DEn} (h : b E [.dat (.list (iD cs)), .dat (.int ((j + (1 + k.length) : Nat) : Int)), e2, e3, e4, e5, e6]) : sSeq rdAs b E [.dat (.list (iD cs)), .dat (.int (j : Nat)), e2, e3, e4, e5, e6] :=
  rd_a (E := { E with nx := fun ρ' => b E ρ' }) hb hk h
end
theorem at_last (xs : List DD) (d : DD) : atI (xs ++ [d]) (-1) = some d := by
  unfold atI ixN
  rw [if_neg (by decide), if_pos (by rw [List.length_append]; show -((xs.length + 1 : Nat) : Int) ≤ -1; omega)]
  show (xs ++ [d])[((-1 : Int) + ((xs ++ [d]).length : Nat)).toNat]? = some d
  have e : ((-1 : Int) + ((xs ++ [d]).length : Nat)).toNat = xs.length := by rw [List.length_append]; show ((-1 : Int) + ((xs.length + 1 : Nat) : Int)).toNat = _; omega
  rw [e]; simp
theorem t_k0 {cs : List Int} (h : 0 < cs.length) {n : Int} {ρ : En} (h0 : ρ[0]? = some (.dat (.list (iD cs)))) {P : Bool → Prop} (hp : P (cs[0] == n)) : dT (dOp (gB eqD) (dOp gIx (dN 0) (dC (.int 0))) (dC (.int n))) ρ P := by
  show dN 0 ρ fun w => gIx w (.int ((0 : Nat) : Int)) fun x => gB eqD x (.int n) (asB P)
  rw [dN_at h0]
  exact ix_L h hp
abbrev lrN : DS := (sSeq (sSet 4 (dOp gAdd (dOp (gI CMul (· * ·)) (dC (.int 256)) (dOp gIx (dOp gAdd (dN 0) (dLst (dCons (dC (.int 0)) (dCons (dC (.int 0)) dNil)))) (dN 1))) (dOp gIx (dOp gAdd (dN 0) (dLst (dCons (dC (.int 0)) (dCons (dC (.int 0)) dNil)))) (dOp gAdd (dN 1) (dC (.int 1))))))
    (sAug 1 (dC (.int 2))))
abbrev lrE : DS := (sIf (dT (dOp gIsN (dOp gIx (dOp gIx (dN 2) (dUn gNeg (dC (.int 1)))) (dC (.int 1))) (dC .none))) (sRet (dC .none)) sNx)
abbrev lrL2 : DS := (sSeq (sApp 2 (dTup (dCons (dN 5) (dCons (dCall F__law_values (dCons rdKs dNil)) dNil))))
    (sSeq rdAs lrE))
abbrev lrL : DS := (sSeq (sIf rdTs (sRet (dC .none)) sNx) lrL2)
abbrev lrI : DS := (sApp 2 (dTup (dCons (dN 5) (dCons (dN 4) dNil))))
abbrev lrT (n : Int) : DT := (dT (dOp (gB eqD) (dOp gIx (dN 0) (dC (.int 0))) (dC (.int n))))
abbrev lrM2 : DS := (sSeq (sSet 5 rdKs)
    (sSeq rdAs
    (sIf (lrT 1) lrI lrL)))
abbrev lrM : DS := (sSeq (sIf rdTs (sRet (dC .none)) sNx) lrM2)
abbrev lrB : DS := (sSeq (sSet 4 (dC (.int 0))) (sSeq (sIf (lrT 1) lrN sNx) lrM))
theorem app_kv {b : DS} {E : DEn} {ρ : En} {acc : List DD} {d5 : DD} (h2 : ρ[2]? = some (.own acc)) (h5 : ρ[5]? = some (.dat d5)) (h : rdKs ρ fun z => F__law_values [z] fun y => acc.length < 1000000 ∧ b E (ρ.set 2 (.own (acc ++ [.tuple [d5, y]])))) :
    sSeq (sApp 2 (dTup (dCons (dN 5) (dCons (dCall F__law_values (dCons rdKs dNil)) dNil)))) b E ρ := by
  unfold sSeq sApp
  rw [h2]
  simp only
  unfold dTup dCons
  rw [dN_at h5]
  exact h
theorem lr_leaf_step (cs : List Int) (hb : cs.all isB = true) (h1 : cs.length = 256) (c0 : 0 < cs.length) (h0 : cs[0] = 0) (E2 : DEn) (acc : List DD) (x : DD) (j : Nat) (e4 e5 : Ent) (hacc : acc.length < 1000000)
    (hn : (cntR (cs.drop j) = none ∨ ∃ k, cntR (cs.drop j) = some k ∧ (cntR (cs.drop (j + (1 + k.length))) = none ∨ ∃ v, cntR (cs.drop (j + (1 + k.length))) = some v ∧ decode v.length v = none)) → E2.rt .none)
    (hs : ∀ k v vs, cntR (cs.drop j) = some k → cntR (cs.drop (j + (1 + k.length))) = some v → decode v.length v = some vs → E2.nx [.dat (.list (iD cs)), .dat (.int ((j + (1 + k.length) + (1 + v.length) : Nat) : Int)), .own (acc ++ [entD (k, vs)]), .dat x, .dat (.int 0), .dat (tD k), .un]) :
    lrB E2 [.dat (.list (iD cs)), .dat (.int (j : Nat)), .own acc, .dat x, e4, e5, .un] := by
  show sSeq (sIf (lrT 1) lrN sNx) lrM E2 [.dat (.list (iD cs)), .dat (.int (j : Nat)), .own acc, .dat x, .dat (.int 0), e5, .un]
  refine t_k0 (ρ := full [.dat (.list (iD cs)), .dat (.int (j : Nat)), .own acc, .dat x, .dat (.int 0), e5, .un]) (n := 1) (P := fun c => if c = true then lrN { E2 with nx := fun ρ => lrM E2 ρ } [.dat (.list (iD cs)), .dat (.int (j : Nat)), .own acc, .dat x, .dat (.int 0), e5, .un] else lrM E2 [.dat (.list (iD cs)), .dat (.int (j : Nat)), .own acc, .dat x, .dat (.int 0), e5, .un]) c0 rfl ?_
  rw [h0, show ((0 : Int) == 1) = false from rfl, if_neg Bool.false_ne_true]
  refine rd_t (e2 := .own acc) (e3 := .dat x) (e4 := .dat (.int 0)) (e5 := e5) (e6 := .un) hb h1 (P := fun c => if c = true then E2.rt .none else lrM2 E2 [.dat (.list (iD cs)), .dat (.int (j : Nat)), .own acc, .dat x, .dat (.int 0), e5, .un]) ?_
  cases hk : cntR (cs.drop j) with
  | none => exact hn (.inl hk)
  | some k =>
    show lrM2 E2 [.dat (.list (iD cs)), .dat (.int (j : Nat)), .own acc, .dat x, .dat (.int 0), e5, .un]
    refine rd_k (e2 := .own acc) (e3 := .dat x) (e4 := .dat (.int 0)) (e5 := e5) (e6 := .un) hb hk (P := fun d => sSeq rdAs (sIf (lrT 1) lrI lrL) E2 [.dat (.list (iD cs)), .dat (.int (j : Nat)), .own acc, .dat x, .dat (.int 0), .dat d, .un]) ?_
    refine rd_aS hb hk ?_
    refine t_k0 (ρ := full [.dat (.list (iD cs)), .dat (.int ((j + (1 + k.length) : Nat) : Int)), .own acc, .dat x, .dat (.int 0), .dat (tD k), .un]) (n := 1) (P := fun c => if c = true then lrI E2 [.dat (.list (iD cs)), .dat (.int ((j + (1 + k.length) : Nat) : Int)), .own acc, .dat x, .dat (.int 0), .dat (tD k), .un] else lrL E2 [.dat (.list (iD cs)), .dat (.int ((j + (1 + k.length) : Nat) : Int)), .own acc, .dat x, .dat (.int 0), .dat (tD k), .un]) c0 rfl ?_
    rw [h0, show ((0 : Int) == 1) = false from rfl, if_neg Bool.false_ne_true]
    refine rd_t (e2 := .own acc) (e3 := .dat x) (e4 := .dat (.int 0)) (e5 := .dat (tD k)) (e6 := .un) hb h1 (P := fun c => if c = true then E2.rt .none else lrL2 E2 [.dat (.list (iD cs)), .dat (.int ((j + (1 + k.length) : Nat) : Int)), .own acc, .dat x, .dat (.int 0), .dat (tD k), .un]) ?_
    cases hv : cntR (cs.drop (j + (1 + k.length))) with
    | none => exact hn (.inr ⟨k, hk, .inl hv⟩)
    | some v =>
      obtain ⟨_, _, _, lv⟩ := cnt_n hb hv
      have bv := (cnt_is (isB_drop hb _) hv).2
      refine app_kv (acc := acc) (d5 := tD k) rfl rfl ?_
      refine rd_k (e2 := .own acc) (e3 := .dat x) (e4 := .dat (.int 0)) (e5 := .dat (tD k)) (e6 := .un) hb hv ?_
      refine ⟨v, rfl, by omega, bv, ⟨hacc, ?_⟩⟩
      generalize hz : decD v = z
      refine rd_aS hb hv ?_
      subst hz
      show gIx (.list (acc ++ [.tuple [tD k, decD v]])) (.int (-1)) fun y => gIx y (.int 1) fun z => gIsN z .none (asB fun c => if c = true then E2.rt .none else E2.nx [.dat (.list (iD cs)), .dat (.int ((j + (1 + k.length) + (1 + v.length) : Nat) : Int)), .own (acc ++ [.tuple [tD k, decD v]]), .dat x, .dat (.int 0), .dat (tD k), .un])
      rw [e_ixL, at_last]
      show gIsN (decD v) .none (asB fun c => if c = true then E2.rt .none else E2.nx [.dat (.list (iD cs)), .dat (.int ((j + (1 + k.length) + (1 + v.length) : Nat) : Int)), .own (acc ++ [.tuple [tD k, decD v]]), .dat x, .dat (.int 0), .dat (tD k), .un])
      cases hd : decode v.length v with
      | none =>
        rw [dec_none hd]
        exact hn (.inr ⟨k, hk, .inr ⟨v, hv, hd⟩⟩)
      | some vs =>
        rw [dec_some hd]
        exact hs k v vs hk hv hd
end Z1

set_option Elab.async false
set_option linter.all false
set_option maxRecDepth 100000
set_option maxHeartbeats 1000000
namespace Z1
open PySem PySem.Spec PyProof.Rows L2 Z
theorem ents_none1 {n : Nat} {r : List Int} (h : cntR r = none) : ents (n + 1) r = none := by unfold ents; rw [h]
theorem ents_none2 {n : Nat} {r k : List Int} (h : cntR r = some k) (h2 : cntR (r.drop (1 + k.length)) = none) : ents (n + 1) r = none := by unfold ents; rw [h]; simp only; rw [h2]
theorem ents_none3 {n : Nat} {r k v : List Int} (h : cntR r = some k) (h2 : cntR (r.drop (1 + k.length)) = some v) (h3 : decode v.length v = none) : ents (n + 1) r = none := by unfold ents; rw [h]; simp only; rw [h2]; simp only; rw [h3]
theorem ents_some {n : Nat} {r k v : List Int} {vs : List DD} (h : cntR r = some k) (h2 : cntR (r.drop (1 + k.length)) = some v) (h3 : decode v.length v = some vs) :
    ents (n + 1) r = match ents n ((r.drop (1 + k.length)).drop (1 + v.length)) with | none => none | some (es, r') => some ((k, vs) :: es, r') := by
  conv => lhs; unfold ents
  rw [h]; simp only; rw [h2]; simp only; rw [h3]
  all_goals rfl
theorem lr_leaf (cs : List Int) (hb : cs.all isB = true) (h1 : cs.length = 256) (c0 : 0 < cs.length) (h0 : cs[0] = 0) (E : DEn) : ∀ (items : List DD) (acc : List DD) (j : Nat) (e3 e4 e5 : Ent), acc.length + items.length ≤ 1000 → j ≤ 256 →
    (∀ l r, ents items.length (cs.drop j) = some (l, r) → ∀ e3 e4 e5, E.nx [.dat (.list (iD cs)), .dat (.int ((256 - r.length : Nat) : Int)), .own (acc ++ l.map entD), e3, e4, e5, .un]) →
    (ents items.length (cs.drop j) = none → E.rt .none) →
    loop (tN 3) lrB E items [.dat (.list (iD cs)), .dat (.int (j : Nat)), .own acc, e3, e4, e5, .un]
  | [], acc, j, e3, e4, e5, _, hj, h, _ => by
    have h := h [] (cs.drop j) rfl e3 e4 e5
    rw [List.length_drop, h1, show 256 - (256 - j) = j by omega] at h
    have h : E.nx [.dat (.list (iD cs)), .dat (.int (j : Nat)), .own (acc ++ []), e3, e4, e5, .un] := h
    rw [List.append_nil] at h
    exact h
  | x :: items, acc, j, e3, e4, e5, hl, hj, h, hn => by
    rw [List.length_cons] at hl h hn
    refine lr_leaf_step cs hb h1 c0 h0 ⟨loop (tN 3) lrB E items, E.rt, E.nx, loop (tN 3) lrB E items, E.ex⟩ acc x j e4 e5 (by omega) (fun z => hn ?_) fun k v vs hk hv hd => ?_
    · rcases z with z | ⟨k, hk, z | ⟨v, hv, z⟩⟩
      · exact ents_none1 z
      · exact ents_none2 hk (by rw [List.drop_drop]; exact z)
      · exact ents_none3 hk (by rw [List.drop_drop]; exact hv) z
    · obtain ⟨_, _, _, lv⟩ := cnt_n hb hv
      have e := ents_some (n := items.length) hk (by rw [List.drop_drop]; exact hv) hd
      rw [List.drop_drop, List.drop_drop, ← Nat.add_assoc] at e
      refine lr_leaf cs hb h1 c0 h0 E items _ _ _ _ _ (by rw [List.length_append]; show acc.length + 1 + _ ≤ _; omega) (by omega) (fun l r hr e3 e4 e5 => ?_) fun hr => ?_
      · rw [hr] at e
        have := h _ _ e e3 e4 e5
        rw [List.map_cons] at this
        rw [List.append_assoc]; exact this
      · rw [hr] at e
        exact hn e
/-! inner pages -/
theorem pad_ix (cs : List Int) (i : Nat) (h : i < cs.length + 2) {P : DD → Prop} (hp : P (.int (cs.getD i 0))) : gIx (.list (iD cs ++ [.int 0, .int 0])) (.int (i : Nat)) P := by
  have e : iD cs ++ [PyData.int 0, .int 0] = iD (cs ++ [0, 0]) := by rw [iD_app]; rfl
  rw [e, e_ixL, at_iD (by rw [List.length_append]; show i < cs.length + 2; exact h)]
  have eg : (cs ++ [0, 0])[i]'(by rw [List.length_append]; exact h) = cs.getD i 0 := by
    rw [List.getElem_append]
    split
    · rename_i hi
      rw [List.getD_eq_getElem?_getD, List.getElem?_eq_getElem hi]; rfl
    · rename_i hi
      rw [List.getD_eq_getElem?_getD, List.getElem?_eq_none (by omega)]
      have : i - cs.length = 0 ∨ i - cs.length = 1 := by omega
      rcases this with z | z <;> simp [z]
  simp only [eg]
  exact hp
theorem lr_num (cs : List Int) (h1 : cs.length = 256) (j : Nat) (hj : j ≤ 256) (E2 : DEn) (e2 e3 e4 e5 e6 : Ent) (h : E2.nx [.dat (.list (iD cs)), .dat (.int ((j + 2 : Nat) : Int)), e2, e3, .dat (.int (256 * cs.getD j 0 + cs.getD (j + 1) 0)), e5, e6]) :
    lrN E2 [.dat (.list (iD cs)), .dat (.int (j : Nat)), e2, e3, e4, e5, e6] := by
  have hl := len_iD cs
  refine ⟨by show (iD cs).length + 2 ≤ _; omega, ?_⟩
  refine pad_ix cs j (by omega) ?_
  refine ⟨.inl ⟨by decide, by decide⟩, by show (iD cs).length + 2 ≤ _; omega, ?_⟩
  refine pad_ix cs (j + 1) (by omega) ?_
  exact h
theorem lr_inner_step (cs : List Int) (hb : cs.all isB = true) (h1 : cs.length = 256) (c0 : 0 < cs.length) (h0 : cs[0] = 1) (E2 : DEn) (acc : List DD) (x : DD) (j : Nat) (hj : j ≤ 256) (e4 e5 : Ent) (hacc : acc.length < 1000000)
    (hn : cntR (cs.drop (j + 2)) = none → E2.rt .none)
    (hs : ∀ k, cntR (cs.drop (j + 2)) = some k → ∀ e4 e5, E2.nx [.dat (.list (iD cs)), .dat (.int ((j + 2 + (1 + k.length) : Nat) : Int)), .own (acc ++ [chlD (k, 256 * cs.getD j 0 + cs.getD (j + 1) 0)]), .dat x, e4, e5, .un]) :
    lrB E2 [.dat (.list (iD cs)), .dat (.int (j : Nat)), .own acc, .dat x, e4, e5, .un] := by
  show sSeq (sIf (lrT 1) lrN sNx) lrM E2 [.dat (.list (iD cs)), .dat (.int (j : Nat)), .own acc, .dat x, .dat (.int 0), e5, .un]
  refine t_k0 (ρ := full [.dat (.list (iD cs)), .dat (.int (j : Nat)), .own acc, .dat x, .dat (.int 0), e5, .un]) (n := 1) (P := fun c => if c = true then lrN { E2 with nx := fun ρ => lrM E2 ρ } [.dat (.list (iD cs)), .dat (.int (j : Nat)), .own acc, .dat x, .dat (.int 0), e5, .un] else lrM E2 [.dat (.list (iD cs)), .dat (.int (j : Nat)), .own acc, .dat x, .dat (.int 0), e5, .un]) c0 rfl ?_
  rw [h0, show ((1 : Int) == 1) = true from rfl, if_pos rfl]
  refine lr_num cs h1 j hj _ _ _ _ _ _ ?_
  show lrM E2 [.dat (.list (iD cs)), .dat (.int ((j + 2 : Nat) : Int)), .own acc, .dat x, .dat (.int (256 * cs.getD j 0 + cs.getD (j + 1) 0)), e5, .un]
  generalize 256 * cs.getD j 0 + cs.getD (j + 1) 0 = q at hs ⊢
  refine rd_t (e2 := .own acc) (e3 := .dat x) (e4 := .dat (.int q)) (e5 := e5) (e6 := .un) hb h1 (P := fun c => if c = true then E2.rt .none else lrM2 E2 [.dat (.list (iD cs)), .dat (.int ((j + 2 : Nat) : Int)), .own acc, .dat x, .dat (.int q), e5, .un]) ?_
  cases hk : cntR (cs.drop (j + 2)) with
  | none => exact hn hk
  | some k =>
    show lrM2 E2 [.dat (.list (iD cs)), .dat (.int ((j + 2 : Nat) : Int)), .own acc, .dat x, .dat (.int q), e5, .un]
    refine rd_k (e2 := .own acc) (e3 := .dat x) (e4 := .dat (.int q)) (e5 := e5) (e6 := .un) hb hk (P := fun d => sSeq rdAs (sIf (lrT 1) lrI lrL) E2 [.dat (.list (iD cs)), .dat (.int ((j + 2 : Nat) : Int)), .own acc, .dat x, .dat (.int q), .dat d, .un]) ?_
    refine rd_aS hb hk ?_
    refine t_k0 (ρ := full [.dat (.list (iD cs)), .dat (.int ((j + 2 + (1 + k.length) : Nat) : Int)), .own acc, .dat x, .dat (.int q), .dat (tD k), .un]) (n := 1) (P := fun c => if c = true then lrI E2 [.dat (.list (iD cs)), .dat (.int ((j + 2 + (1 + k.length) : Nat) : Int)), .own acc, .dat x, .dat (.int q), .dat (tD k), .un] else lrL E2 [.dat (.list (iD cs)), .dat (.int ((j + 2 + (1 + k.length) : Nat) : Int)), .own acc, .dat x, .dat (.int q), .dat (tD k), .un]) c0 rfl ?_
    rw [h0, show ((1 : Int) == 1) = true from rfl, if_pos rfl]
    exact ⟨hacc, hs k hk _ _⟩
theorem chls_none {n : Nat} {r : List Int} (h : cntR (r.drop 2) = none) : chls false (n + 1) r = none := by unfold chls; rw [h]
theorem chls_some {n : Nat} {r k : List Int} (h : cntR (r.drop 2) = some k) : chls false (n + 1) r = match chls false n ((r.drop 2).drop (1 + k.length)) with | none => none | some (cs, r') => some ((k, r.getD 0 0 * 256 + r.getD 1 0) :: cs, r') := by
  conv => lhs; unfold chls
  rw [h]
  simp only
  rw [if_neg (fun z => by cases z.1)]
  all_goals rfl
theorem getD_drop2 (cs : List Int) (j i : Nat) : (cs.drop j).getD i 0 = cs.getD (j + i) 0 := by
  rw [List.getD_eq_getElem?_getD, List.getD_eq_getElem?_getD, List.getElem?_drop]
theorem lr_inner (cs : List Int) (hb : cs.all isB = true) (h1 : cs.length = 256) (c0 : 0 < cs.length) (h0 : cs[0] = 1) (E : DEn) : ∀ (items : List DD) (acc : List DD) (j : Nat) (e3 e4 e5 : Ent), acc.length + items.length ≤ 1000 → j ≤ 256 →
    (∀ l r, chls false items.length (cs.drop j) = some (l, r) → ∀ e3 e4 e5, E.nx [.dat (.list (iD cs)), .dat (.int ((256 - r.length : Nat) : Int)), .own (acc ++ l.map chlD), e3, e4, e5, .un]) →
    (chls false items.length (cs.drop j) = none → E.rt .none) →
    loop (tN 3) lrB E items [.dat (.list (iD cs)), .dat (.int (j : Nat)), .own acc, e3, e4, e5, .un]
  | [], acc, j, e3, e4, e5, _, hj, h, _ => by
    have h := h [] (cs.drop j) rfl e3 e4 e5
    rw [List.length_drop, h1, show 256 - (256 - j) = j by omega] at h
    have h : E.nx [.dat (.list (iD cs)), .dat (.int (j : Nat)), .own (acc ++ []), e3, e4, e5, .un] := h
    rw [List.append_nil] at h
    exact h
  | x :: items, acc, j, e3, e4, e5, hl, hj, h, hn => by
    rw [List.length_cons] at hl h hn
    refine lr_inner_step cs hb h1 c0 h0 ⟨loop (tN 3) lrB E items, E.rt, E.nx, loop (tN 3) lrB E items, E.ex⟩ acc x j hj e4 e5 (by omega) (fun z => hn (chls_none (by rw [List.drop_drop]; exact z))) fun k hk e4 e5 => ?_
    obtain ⟨_, _, _, lk⟩ := cnt_n hb hk
    have e := chls_some (n := items.length) (r := cs.drop j) (by rw [List.drop_drop]; exact hk)
    rw [List.drop_drop, List.drop_drop, ← Nat.add_assoc, getD_drop2, getD_drop2, Int.mul_comm] at e
    refine lr_inner cs hb h1 c0 h0 E items _ _ _ _ _ (by rw [List.length_append]; show acc.length + 1 + _ ≤ _; omega) (by omega) (fun l r hr e3 e4 e5 => ?_) fun hr => ?_
    · rw [hr] at e
      have := h _ _ e e3 e4 e5
      rw [List.map_cons] at this
      rw [List.append_assoc]; exact this
    · rw [hr] at e
      exact hn e
theorem chls_b : ∀ (n : Nat) (r : List Int), chls true n r = match chls false n r with | some (c :: l, r') => if c.1 = [] then some (c :: l, r') else none | some ([], r') => some ([], r') | none => none
  | 0, r => rfl
  | n + 1, r => by
    cases hk : cntR (r.drop 2) with
    | none => rw [chls_none hk]; unfold chls; rw [hk]
    | some k =>
      rw [chls_some hk]
      conv => lhs; unfold chls
      rw [hk]
      simp only
      by_cases z : k = []
      · rw [if_neg (fun y => y.2 z)]
        cases chls false n ((r.drop 2).drop (1 + k.length)) with
        | none => rfl
        | some q =>
          obtain ⟨cs, r'⟩ := q
          simp only
          rw [if_pos z]
      · rw [if_pos ⟨trivial, z⟩]
        cases chls false n ((r.drop 2).drop (1 + k.length)) with
        | none => rfl
        | some q =>
          obtain ⟨cs, r'⟩ := q
          simp only
          rw [if_neg z]
end Z1

set_option Elab.async false
set_option linter.all false
set_option maxRecDepth 100000
set_option maxHeartbeats 1000000
namespace Z1
open PySem PySem.Spec PyProof.Rows L2 Z
def nzB : DD → Bool
  | .int c => c != 0
  | _ => false
theorem nz_filt : ∀ r : List Int, (!((iD r).filter nzB).isEmpty) = r.any (· != 0)
  | [] => rfl
  | c :: r => by
    show (!(List.filter nzB (.int c :: iD r)).isEmpty) = _
    rw [List.filter_cons, List.any_cons]
    cases h : (c != 0) with
    | true => rw [if_pos (show nzB (.int c) = true from h)]; rfl
    | false => rw [if_neg (by show ¬ (c != 0) = true; rw [h]; decide), Bool.false_or]; exact nz_filt r
abbrev lrNZ : DT := (dT (dOp (gB neD) (dLc (dIl (dSl (dN 0) (dSo (dN 1)) dNo)) 6 (dT (dOp (gB neD) (dN 6) (dC (.int 0)))) (dN 6)) (dLst dNil)))
theorem nz_at (cs r : List Int) (h1 : cs.length = 256) (hr : cs.drop (256 - r.length) = r) {e2 e3 e4 e5 e6 : Ent} {P : Bool → Prop} (hp : P (r.any (· != 0))) : lrNZ (full [.dat (.list (iD cs)), .dat (.int ((256 - r.length : Nat) : Int)), e2, e3, e4, e5, e6]) P := by
  show comp (full [.dat (.list (iD cs)), .dat (.int ((256 - r.length : Nat) : Int)), e2, e3, e4, e5, e6]) 6 (dT (dOp (gB neD) (dN 6) (dC (.int 0)))) (dN 6) (cutZ (iD cs) (some ((256 - r.length : Nat) : Int)) none) [] fun l => gB neD l (.list []) (asB P)
  rw [cut_from cs _ (by omega), hr]
  have lr : r.length ≤ 256 := by
    have := congrArg List.length hr
    rw [List.length_drop] at this
    omega
  refine comp_if (p := nzB) (f := id) (fun y hy Q' hq' => ?_) (fun y hy _ Q' hq' => ?_) (by rw [len_iD]; simp; omega) ?_
  · obtain ⟨c, _, rfl⟩ := iD_in hy
    exact hq'
  · rw [dN_at (d := y) rfl]; exact hq'
  · rw [List.map_id, List.nil_append, ne_nil, nz_filt]
    exact hp
theorem ne_tD (k : List Int) (P : DD → Prop) (hp : P (.bool (!k.isEmpty))) : gB neD (tD k) (.tuple []) P := by
  have e : neD (tD k) (.tuple []) = some (!k.isEmpty) := by
    unfold neD
    rw [if_pos (Nat.le_trans (Nat.min_le_right _ _) (by decide))]
    cases k <;> simp [tD, iD, PyData.eqv, PyData.eqvAll]
  simp only [gB, e]; exact hp
def firstB : List (List Int × Int) → Bool
  | c :: _ => !c.1.isEmpty
  | [] => false
abbrev lrF : DT := (dAnd (dT (dOp (gB neD) (dN 2) (dLst dNil))) (dT (dOp (gB neD) (dOp gIx (dOp gIx (dN 2) (dC (.int 0))) (dC (.int 0))) (dTup dNil))))
theorem ix_L0 {d : DD} {ds : List DD} {P : DD → Prop} (hp : P d) : gIx (.list (d :: ds)) (.int 0) P := by
  rw [e_ixL, show atI (d :: ds) 0 = some d from atI_nat (j := 0) (v := d) rfl]; exact hp
theorem ix_T0 {d : DD} {ds : List DD} {P : DD → Prop} (hp : P d) : gIx (.tuple (d :: ds)) (.int 0) P := by
  rw [e_ixT, show atI (d :: ds) 0 = some d from atI_nat (j := 0) (v := d) rfl]; exact hp
theorem t_first (l : List (List Int × Int)) {ρ : En} (h2 : ρ[2]? = some (.dat (.list (l.map chlD)))) {P : Bool → Prop} (hp : P (firstB l)) : lrF ρ P := by
  show dN 2 ρ fun y => gB neD y (.list []) (asB fun c => if c = true then dN 2 ρ (fun y => gIx y (.int 0) fun z => gIx z (.int 0) fun w => gB neD w (.tuple []) (asB P)) else P false)
  rw [dN_at h2, dN_at h2, ne_nil]
  cases l with
  | nil => exact hp
  | cons c l =>
    show gIx (.list (chlD c :: l.map chlD)) (.int 0) fun z => gIx z (.int 0) fun w => gB neD w (.tuple []) (asB P)
    exact ix_L0 (ix_T0 (d := tD c.1) (ds := [.int c.2]) (ne_tD c.1 _ hp))
abbrev lrR : DS := (sRet (dTup (dCons (dOp gIx (dLst (dCons (dC (.str (Str.ofString "leaf"))) (dCons (dC (.str (Str.ofString "inner"))) dNil))) (dOp gIx (dN 0) (dC (.int 0)))) (dCons (dCall (g1 gTuple) (dCons (dN 2) dNil)) dNil))))
abbrev lrZ : DS := (sSeq (sIf (dOr (dAnd (lrT 1) lrF) lrNZ) (sRet (dC .none)) sNx) lrR)
theorem lr_ret (cs : List Int) (c0 : 0 < cs.length) (Q : DD → Prop) (e1 e3 e4 e5 e6 : Ent) (ds : List DD) (kd : Str) (hk : (cs[0] = 0 ∧ kd = LEAFS) ∨ (cs[0] = 1 ∧ kd = INNERS)) (h : Q (.tuple [.str kd, .tuple ds])) :
    lrR (endsD Q) [.dat (.list (iD cs)), e1, .own ds, e3, e4, e5, e6] := by
  show gIx (.list (iD cs)) (.int ((0 : Nat) : Int)) fun i => gIx (.list [.str (Str.ofString "leaf"), .str (Str.ofString "inner")]) i fun y => Q (.tuple [y, .tuple ds])
  refine ix_L c0 ?_
  rcases hk with ⟨z, rfl⟩ | ⟨z, rfl⟩
  · rw [z]; exact h
  · rw [z]; exact h
theorem lr_zl (cs r : List Int) (h1 : cs.length = 256) (c0 : 0 < cs.length) (h0 : cs[0] = 0) (hr : cs.drop (256 - r.length) = r) (l : List (List Int × List DD)) (Q : DD → Prop) (h : Q (if r.any (· != 0) = true then .none else pgD (.leaf l))) (e3 e4 e5 : Ent) :
    lrZ (endsD Q) [.dat (.list (iD cs)), .dat (.int ((256 - r.length : Nat) : Int)), .own (l.map entD), e3, e4, e5, .un] := by
  refine t_k0 (ρ := full [.dat (.list (iD cs)), .dat (.int ((256 - r.length : Nat) : Int)), .own (l.map entD), e3, e4, e5, .un]) (n := 1)
    (P := fun c => if c = true then lrF (full [.dat (.list (iD cs)), .dat (.int ((256 - r.length : Nat) : Int)), .own (l.map entD), e3, e4, e5, .un]) (fun c => if c = true then (if true = true then Q .none else lrR (endsD Q) [.dat (.list (iD cs)), .dat (.int ((256 - r.length : Nat) : Int)), .own (l.map entD), e3, e4, e5, .un]) else lrNZ (full [.dat (.list (iD cs)), .dat (.int ((256 - r.length : Nat) : Int)), .own (l.map entD), e3, e4, e5, .un]) (fun c => if c = true then Q .none else lrR (endsD Q) [.dat (.list (iD cs)), .dat (.int ((256 - r.length : Nat) : Int)), .own (l.map entD), e3, e4, e5, .un]))
      else lrNZ (full [.dat (.list (iD cs)), .dat (.int ((256 - r.length : Nat) : Int)), .own (l.map entD), e3, e4, e5, .un]) (fun c => if c = true then Q .none else lrR (endsD Q) [.dat (.list (iD cs)), .dat (.int ((256 - r.length : Nat) : Int)), .own (l.map entD), e3, e4, e5, .un])) c0 rfl ?_
  rw [h0, show ((0 : Int) == 1) = false from rfl, if_neg Bool.false_ne_true]
  refine nz_at cs r h1 hr (e2 := .own (l.map entD)) ?_
  cases hz : r.any (· != 0) with
  | true => rw [hz, if_pos rfl] at h; exact h
  | false =>
    rw [hz, if_neg Bool.false_ne_true] at h
    rw [if_neg Bool.false_ne_true]
    exact lr_ret cs c0 Q _ _ _ _ _ _ LEAFS (.inl ⟨h0, rfl⟩) h
theorem lr_zi (cs r : List Int) (h1 : cs.length = 256) (c0 : 0 < cs.length) (h0 : cs[0] = 1) (hr : cs.drop (256 - r.length) = r) (l : List (List Int × Int)) (Q : DD → Prop) (h : Q (if firstB l = true ∨ r.any (· != 0) = true then .none else pgD (.inner l))) (e3 e4 e5 : Ent) :
    lrZ (endsD Q) [.dat (.list (iD cs)), .dat (.int ((256 - r.length : Nat) : Int)), .own (l.map chlD), e3, e4, e5, .un] := by
  refine t_k0 (ρ := full [.dat (.list (iD cs)), .dat (.int ((256 - r.length : Nat) : Int)), .own (l.map chlD), e3, e4, e5, .un]) (n := 1)
    (P := fun c => if c = true then lrF (full [.dat (.list (iD cs)), .dat (.int ((256 - r.length : Nat) : Int)), .own (l.map chlD), e3, e4, e5, .un]) (fun c => if c = true then (if true = true then Q .none else lrR (endsD Q) [.dat (.list (iD cs)), .dat (.int ((256 - r.length : Nat) : Int)), .own (l.map chlD), e3, e4, e5, .un]) else lrNZ (full [.dat (.list (iD cs)), .dat (.int ((256 - r.length : Nat) : Int)), .own (l.map chlD), e3, e4, e5, .un]) (fun c => if c = true then Q .none else lrR (endsD Q) [.dat (.list (iD cs)), .dat (.int ((256 - r.length : Nat) : Int)), .own (l.map chlD), e3, e4, e5, .un]))
      else lrNZ (full [.dat (.list (iD cs)), .dat (.int ((256 - r.length : Nat) : Int)), .own (l.map chlD), e3, e4, e5, .un]) (fun c => if c = true then Q .none else lrR (endsD Q) [.dat (.list (iD cs)), .dat (.int ((256 - r.length : Nat) : Int)), .own (l.map chlD), e3, e4, e5, .un])) c0 rfl ?_
  rw [h0, show ((1 : Int) == 1) = true from rfl, if_pos rfl]
  refine t_first l rfl ?_
  cases hf : firstB l with
  | true =>
    rw [if_pos (.inl hf)] at h
    rw [if_pos rfl, if_pos rfl]; exact h
  | false =>
    rw [if_neg Bool.false_ne_true]
    refine nz_at cs r h1 hr (e2 := .own (l.map chlD)) ?_
    cases hz : r.any (· != 0) with
    | true =>
      rw [if_pos (.inr hz)] at h
      rw [if_pos rfl]; exact h
    | false =>
      rw [if_neg (by rw [hf, hz]; simp)] at h
      rw [if_neg Bool.false_ne_true]
      exact lr_ret cs c0 Q _ _ _ _ _ _ INNERS (.inr ⟨h0, rfl⟩) h
end Z1

set_option Elab.async false
set_option linter.all false
set_option maxRecDepth 100000
set_option maxHeartbeats 1000000
namespace Z1
open PySem PySem.Spec PyProof.Rows L2 Z
theorem rd_leafD {n1 : Int} {t : List Int} (c : (0 :: n1 :: t).length = 256) : rdD (0 :: n1 :: t) = match ents n1.toNat t with
    | some (l, r) => if r.any (· != 0) = true then .none else pgD (.leaf l)
    | none => .none := by
  unfold rdD rdP
  rw [if_pos c]
  simp only
  cases ents n1.toNat t with
  | none => rfl
  | some q =>
    obtain ⟨l, r⟩ := q
    simp only
    cases r.any (· != 0) <;> rfl
theorem rd_innD {n1 : Int} {t : List Int} (c : (1 :: n1 :: t).length = 256) : rdD (1 :: n1 :: t) = match chls false n1.toNat t with
    | some (l, r) => if firstB l = true ∨ r.any (· != 0) = true then .none else pgD (.inner l)
    | none => .none := by
  unfold rdD rdP
  rw [if_pos c]
  simp only
  rw [chls_b]
  cases chls false n1.toNat t with
  | none => rfl
  | some q =>
    obtain ⟨l, r⟩ := q
    cases l with
    | nil =>
      simp only
      show (match (if r.any (· != 0) = true then none else some (Pg.inner [])) with | some p => pgD p | none => .none) = if false = true ∨ r.any (· != 0) = true then .none else pgD (.inner [])
      cases r.any (· != 0) <;> simp
    | cons d l =>
      simp only
      by_cases z : d.1 = []
      · rw [if_pos z]
        show (match (if r.any (· != 0) = true then none else some (Pg.inner (d :: l))) with | some p => pgD p | none => .none) = if (!d.1.isEmpty) = true ∨ r.any (· != 0) = true then .none else pgD (.inner (d :: l))
        rw [z]
        cases r.any (· != 0) <;> simp
      · rw [if_neg z]
        have e : (!d.1.isEmpty) = true := by
          cases hd : d.1 with
          | nil => exact absurd hd z
          | cons _ _ => rfl
        rw [if_pos (.inl e)]
theorem rdD_other {n0 n1 : Int} {t : List Int} (z0 : ¬ n0 = 0) (z1 : ¬ n0 = 1) : rdD (n0 :: n1 :: t) = .none := by
  unfold rdD; rw [rd_other z0 z1]
theorem rdD_short {cs : List Int} (h : cs.length ≠ 256) : rdD cs = .none := by
  unfold rdD rdP; rw [if_neg h]
abbrev lrU : DS := (sSeq (sFor (dIr (dOp gIx (dN 0) (dC (.int 1)))) (tN 3) lrB) lrZ)
theorem lr_u (cs : List Int) (hb : cs.all isB = true) (c : cs.length = 256) (Q : DD → Prop) (h : Q (rdD cs)) (hle : (cs[0]'(by omega) : Int) ≤ 1) : lrU (endsD Q) [.dat (.list (iD cs)), .dat (.int ((2 : Nat) : Int)), .own [], .un, .un, .un, .un] := by
  have c0 : 0 < cs.length := by omega
  have c1 : 1 < cs.length := by omega
  have b0 := byte_0 hb c0
  have b1 := byte_0 hb c1
  show gIx (.list (iD cs)) (.int ((1 : Nat) : Int)) fun d => match d with
    | .int m => (-1000000 ≤ m ∧ m ≤ 1000000) ∧ loop (tN 3) lrB ⟨fun ρ' => lrZ (endsD Q) ρ', Q, fun _ => False, fun _ => False, fun _ _ => False⟩ (upto m) [.dat (.list (iD cs)), .dat (.int ((2 : Nat) : Int)), .own [], .un, .un, .un, .un]
    | _ => False
  refine ix_L c1 ⟨by omega, ?_⟩
  have hb2 := isB_drop hb 2
  have l2 : (cs.drop 2).length = 254 := by rw [List.length_drop, c]
  have e3 : cs = cs[0] :: cs[1] :: cs.drop 2 := by
    have a := List.drop_eq_getElem_cons c0
    have b := List.drop_eq_getElem_cons c1
    rw [List.drop_zero] at a
    rw [b] at a
    exact a
  have z01 : cs[0] = 0 ∨ cs[0] = 1 := by omega
  rcases z01 with z | z
  · refine lr_leaf cs hb c c0 z _ _ [] 2 _ _ _ (by rw [upto_len]; show 0 + _ ≤ _; omega) (by omega) (fun l r hr e3' e4 e5 => ?_) fun hr => ?_
    · rw [upto_len] at hr
      have hx := (ents_is _ _ _ _ hb2 (by omega) hr).2.2
      have ed : cs.drop (256 - r.length) = r := by
        have ea : cs = (cs[0] :: cs[1] :: l.flatMap entB) ++ r := by
          show cs = cs[0] :: cs[1] :: (l.flatMap entB ++ r)
          rw [← hx]; exact e3
        generalize hcc : cs[0] :: cs[1] :: l.flatMap entB = w at ea
        subst ea
        exact suffix_drop _ _ c
      refine lr_zl cs r c c0 z ed l Q ?_ _ _ _
      have er : rdD cs = if r.any (· != 0) = true then .none else pgD (.leaf l) := by
        rw [e3, z] at c ⊢
        rw [rd_leafD c, hr]
      rw [er] at h; exact h
    · rw [upto_len] at hr
      have er : rdD cs = .none := by
        rw [e3, z] at c ⊢
        rw [rd_leafD c, hr]
      rw [er] at h; exact h
  · refine lr_inner cs hb c c0 z _ _ [] 2 _ _ _ (by rw [upto_len]; show 0 + _ ≤ _; omega) (by omega) (fun l r hr e3' e4 e5 => ?_) fun hr => ?_
    · rw [upto_len] at hr
      have hx := (chls_is _ _ _ _ _ hb2 (by omega) hr).2.2.2
      have ed : cs.drop (256 - r.length) = r := by
        have ea : cs = (cs[0] :: cs[1] :: l.flatMap chlB) ++ r := by
          show cs = cs[0] :: cs[1] :: (l.flatMap chlB ++ r)
          rw [← hx]; exact e3
        generalize hcc : cs[0] :: cs[1] :: l.flatMap chlB = w at ea
        subst ea
        exact suffix_drop _ _ c
      refine lr_zi cs r c c0 z ed l Q ?_ _ _ _
      have er : rdD cs = if firstB l = true ∨ r.any (· != 0) = true then .none else pgD (.inner l) := by
        rw [e3, z] at c ⊢
        rw [rd_innD c, hr]
      rw [er] at h; exact h
    · rw [upto_len] at hr
      have er : rdD cs = .none := by
        rw [e3, z] at c ⊢
        rw [rd_innD c, hr]
      rw [er] at h; exact h
theorem h__law_read : ∀ ds Q, F__law_read40 ds Q → ds.length = 1 ∧ m__law_read (endsD Q) (startD N__law_read ds) := by
  intro ds Q h
  match ds, h with
  | [.list es], ⟨cs, he, h1, hb, h2⟩ =>
    subst he
    refine ⟨rfl, ?_⟩
    have ll := len_iD cs
    show gB neD (.int (((iD cs).length : Nat) : Int)) (.int 256) (asB fun c => if c = true then (if true = true then Q .none else lrU (endsD Q) [.dat (.list (iD cs)), .dat (.int ((2 : Nat) : Int)), .own [], .un, .un, .un, .un])
      else gIx (.list (iD cs)) (.int ((0 : Nat) : Int)) fun y => gB gtD y (.int 1) (asB fun c => if c = true then Q .none else lrU (endsD Q) [.dat (.list (iD cs)), .dat (.int ((2 : Nat) : Int)), .own [], .un, .un, .un, .un]))
    rw [e_ne, ll]
    show if (!(((cs.length : Nat) : Int) == 256)) = true then (if true = true then Q .none else _) else _
    by_cases c : cs.length = 256
    · rw [if_neg (by simp; omega)]
      have c0 : 0 < cs.length := by omega
      refine ix_L c0 ?_
      show if decide ((1 : Int) < cs[0]) = true then Q .none else _
      by_cases z : (1 : Int) < cs[0]
      · rw [if_pos (decide_eq_true z)]
        have c1 : 1 < cs.length := by omega
        have e3 : cs = cs[0] :: cs[1] :: cs.drop 2 := by
          have a := List.drop_eq_getElem_cons c0
          have b := List.drop_eq_getElem_cons c1
          rw [List.drop_zero] at a
          rw [b] at a
          exact a
        rw [e3, rdD_other (by omega) (by omega)] at h2
        exact h2
      · rw [if_neg (by simpa using z)]
        exact lr_u cs hb c Q h2 (by omega)
    · rw [if_pos (by simp; omega), if_pos rfl]
      rw [rdD_short c] at h2
      exact h2
/-! told, tried -/
theorem eq_list (cs : List Int) (P : DD → Prop) : gB eqD (.list (iD cs)) (.list (iD cs)) P = P (.bool true) := by
  refine eqD_self _ ?_ ?_ P
  · rw [PyData.depth]
    have : PyData.depthAll (iD cs) = 0 := depth_ints cs
    rw [this]; decide
  · rw [PyData.plain]; exact plain_ints cs
theorem okS_list {l : List Int} (h : l.length ≤ 100000) (n : Nat) : okS (n + 1) (.list (iD l)) = true := by
  show (decide ((iD l).length ≤ 100000) && (iD l).all (okS n)) = true
  rw [okS_ints, len_iD, decide_eq_true h]; rfl
theorem wr_of {p : Pg} {cs : List Int} (hl : (pgB p).length ≤ 256) (hp : padI (pgB p) = cs) : wrD p = .list (iD cs) := by
  unfold wrD
  rw [if_pos hl, hp]
theorem vals_g (a : Addr) (i j : Nat) (n : Int) (h0 : 0 < n) (hn : n ≤ 1000) (ρ : En) (hρ : ρ[i]? = some (.adr a)) (hj : ∀ d, (ρ.set j (.dat d))[i]? = some (.adr a)) (P : DD → Prop) (hp : ∀ vs : List DD, vs.length < n.toNat → vs.all okV = true → P (.tuple vs)) :
    dCall (g1 gTuple) (dCons (dLc (dIr (dSt a i F__law_next (dCons (dC (.int n)) dNil))) j dYes (dSt a i F__law_value dNil)) dNil) ρ P := by
  refine ⟨hρ, ⟨h0, by omega⟩, fun m m0 m1 => ⟨⟨by omega, by omega⟩, ?_⟩⟩
  refine comp_all (fun d => okV d = true) (fun x hx Q' hQ => ⟨hj x, rfl, hQ⟩) (by rw [upto_len]; show 0 + _ ≤ _; omega) fun ds h1 h2 => ?_
  rw [upto_len] at h1
  exact hp ds (by omega) (List.all_eq_true.mpr h2)
theorem two_of (x y : Int) (s : Int) (s0 : 0 ≤ s) (s1 : s < 2) {P : DD → Prop} (hp : ∀ z, z = x ∨ z = y → P (.int z)) : gIx (.list [.int x, .int y]) (.int s) P := by
  have : s = 0 ∨ s = 1 := by omega
  rcases this with rfl | rfl
  · exact hp x (.inl rfl)
  · exact hp y (.inr rfl)
theorem okS_ent {e : List Int × List DD} (o : OkEnt e) : okS 2 (entD e) = true := by
  show (decide (2 ≤ 100000) && (okS 1 (tD e.1) && (okS 1 (.tuple e.2) && true))) = true
  have := o.kl
  have := o.vl
  rw [okS_tD (by omega) 0, okS_row o.vb (by omega) 0]; rfl
theorem okS_chl {c : List Int × Int} (o : OkChl c) : okS 2 (chlD c) = true := by
  show (decide (2 ≤ 100000) && (okS 1 (tD c.1) && (true && true))) = true
  have := o.kl
  rw [okS_tD (by omega) 0]; rfl
theorem okS_pg {p : Pg} (ho : OkPg p) : okS 4 (pgD p) = true := by
  cases p with
  | leaf es =>
    have := ho.1
    show (decide (2 ≤ 100000) && (true && ((decide ((es.map entD).length ≤ 100000) && (es.map entD).all (okS 2)) && true))) = true
    rw [decide_eq_true (show (es.map entD).length ≤ 100000 by rw [List.length_map]; omega)]
    have e : (es.map entD).all (okS 2) = true := by
      rw [List.all_eq_true]
      intro x hx
      obtain ⟨y, hy, rfl⟩ := List.mem_map.mp hx
      exact okS_ent (ho.2 y hy)
    rw [e]; rfl
  | inner cs =>
    have := ho.1
    show (decide (2 ≤ 100000) && (true && ((decide ((cs.map chlD).length ≤ 100000) && (cs.map chlD).all (okS 2)) && true))) = true
    rw [decide_eq_true (show (cs.map chlD).length ≤ 100000 by rw [List.length_map]; omega)]
    have e : (cs.map chlD).all (okS 2) = true := by
      rw [List.all_eq_true]
      intro x hx
      obtain ⟨y, hy, rfl⟩ := List.mem_map.mp hx
      exact okS_chl (ho.2.1 y hy)
    rw [e]; rfl
theorem okS_wr (p : Pg) : okS 4 (wrD p) = true := by
  unfold wrD
  split
  · rename_i h
    refine okS_list ?_ 3
    unfold padI
    rw [List.length_append, List.length_replicate]; omega
  · rfl
theorem h__law_told : ∀ ds Q, F__law_told ds Q → ds.length = 1 ∧ m__law_told (endsD Q) (startD N__law_told ds) := by
  intro ds Q h
  match ds, h with
  | [.list es], ⟨cs, he, h1, hb, h3⟩ =>
    subst he
    refine ⟨rfl, ?_⟩
    refine ⟨cs, rfl, h1, hb, ?_⟩
    unfold rdD at h3
    cases hr : rdP cs with
    | none =>
      rw [hr] at h3
      refine ⟨true, rfl, fun _ a => ?_, fun z => nomatch z⟩
      show gB eqD (.list (iD cs)) (.list (iD cs)) (asB fun c => if c = true then dAndV (dIsE 3 a true) (dIsE 3 a true) [.dat (.list (iD cs)), .dat (.list (iD cs)), .un, .adr a] (fun d => Q (.list [d, .none])) else Q (.list [.bool false, .none]))
      rw [eq_list]
      exact ⟨rfl, ⟨rfl, h3⟩⟩
    | some p =>
      rw [hr] at h3
      show gB eqD (.list (iD cs)) (.list (iD cs)) fun d => Q (.list [d, pgD p])
      rw [eq_list]
      exact h3
theorem h__law_tried : ∀ ds Q, F__law_tried ds Q → ds.length = 1 ∧ m__law_tried (endsD Q) (startD N__law_tried ds) := by
  intro ds Q h
  match ds, h with
  | [.list es], ⟨cs, he, h1, hb, h3⟩ =>
    subst he
    refine ⟨rfl, ?_⟩
    refine ⟨cs, rfl, h1, hb, ⟨cs, rfl, h1, hb, ?_⟩⟩
    cases hr : rdP cs with
    | none =>
      have er : rdD cs = .none := by unfold rdD; rw [hr]
      rw [er]
      exact ⟨rfl, rfl, h3⟩
    | some p =>
      have er : rdD cs = pgD p := by unfold rdD; rw [hr]
      rw [er]
      obtain ⟨ho, hl, hp⟩ := rd_is hb hr
      refine ⟨rfl, okS_pg ho, ?_⟩
      have en : ∀ P : DD → Prop, P (.bool false) → gIsN (pgD p) .none P := fun P hq => by cases p <;> exact hq
      show gIsN (pgD p) .none (asB fun c => if c = true then Q (.bool true) else F_write_page [pgD p] fun d => F__law_same [d, .list (iD cs)] Q)
      refine en _ ?_
      refine ⟨p, rfl, ho, ?_⟩
      rw [wr_of hl hp]
      exact ⟨rfl, okS_list h1 3, h3⟩
end Z1

set_option Elab.async false
set_option linter.all false
set_option maxRecDepth 100000
set_option maxHeartbeats 1000000
namespace Z1
open PySem PySem.Spec PyProof.Rows L2 Z
theorem t_kd {d0 : DD} {ks b : Str} (hk : ∀ P : DD → Prop, P (.str ks) → gIx d0 (.int 0) P) {ρ : En} {P : Bool → Prop} (h0 : ρ[0]? = some (.dat d0)) (hp : P (decide (ks = b))) : dT (dOp (gB eqD) (dOp gIx (dN 0) (dC (.int 0))) (dC (.str b))) ρ P := by
  show dN 0 ρ fun x => gIx x (.int 0) fun y => gB eqD y (.str b) (asB P)
  rw [dN_at h0]
  refine hk _ ?_
  rw [e_eqS]; exact hp
abbrev lpI : DS := (sSet 1 (dOp gAdd (dOp gAdd (dN 1) (dLst (dCons (dOp (gI CDivW (· / ·)) (dN 3) (dC (.int 256))) (dCons (dOp (gI (fun _ j => 0 < j) (· % ·)) (dN 3) (dC (.int 256))) (dCons (dCall (g1 gLen) (dCons (dN 2) dNil)) dNil))))) (dCall (g1 gList) (dCons (dN 2) dNil))))
abbrev lpL : DS := (sSeq (sSet 4 (dCall (g1 gList) (dCons (dCall F__law_bytes (dCons (dN 3) dNil)) dNil)))
    (sSet 1 (dOp gAdd (dOp gAdd (dOp gAdd (dOp gAdd (dN 1) (dLst (dCons (dCall (g1 gLen) (dCons (dN 2) dNil)) dNil))) (dCall (g1 gList) (dCons (dN 2) dNil))) (dLst (dCons (dCall (g1 gLen) (dCons (dN 4) dNil)) dNil))) (dN 4))))
abbrev lpB : DS := sIf (dT (dOp (gB eqD) (dOp gIx (dN 0) (dC (.int 0))) (dC (.str (Str.ofString "inner"))))) lpI lpL
theorem lp_leaf (d0 : DD) (hk : ∀ P : DD → Prop, P (.str LEAFS) → gIx d0 (.int 0) P) (E : DEn) : ∀ (l : List (List Int × List DD)) (acc : List Int) (e2 e3 e4 : Ent), (∀ e ∈ l, OkEnt e) → acc.length + 3000 * l.length ≤ 999000 → (∀ e2 e3 e4, E.nx [.dat d0, .dat (.list (iD (acc ++ l.flatMap entB))), e2, e3, e4]) →
    loop (tT [2, 3]) lpB E (l.map entD) [.dat d0, .dat (.list (iD acc)), e2, e3, e4]
  | [], acc, e2, e3, e4, _, _, h => by
    have := h e2 e3 e4
    rw [List.flatMap_nil, List.append_nil] at this
    exact this
  | (k, vs) :: l, acc, e2, e3, e4, ho, hl, h => by
    have o := ho _ List.mem_cons_self
    have kl : k.length ≤ 300 := o.kl
    have vl : vs.length ≤ 300 := o.vl
    have vb : vs.all okV = true := o.vb
    have kk := (key_len vs vb).2
    rw [List.length_cons] at hl
    have l1 : (iD acc).length = acc.length := len_iD acc
    have l2 : (iD k).length = k.length := len_iD _
    have l3 : (iD (keyI vs)).length = (keyI vs).length := len_iD _
    show sIf (dT (dOp (gB eqD) (dOp gIx (dN 0) (dC (.int 0))) (dC (.str (Str.ofString "inner"))))) lpI lpL ⟨loop (tT [2, 3]) lpB E (l.map entD), E.rt, E.nx, loop (tT [2, 3]) lpB E (l.map entD), E.ex⟩ [.dat d0, .dat (.list (iD acc)), .dat (tD k), .dat (.tuple vs), e4]
    refine t_kd hk (P := fun c => if c = true then _ else _) rfl ?_
    rw [decide_eq_false (show ¬ LEAFS = Str.ofString "inner" by decide), if_neg Bool.false_ne_true]
    refine ⟨⟨by show vs.length ≤ 1000; omega, vb⟩, ?_⟩
    refine ⟨by show (iD acc).length + 1 ≤ _; omega, by rw [List.length_append]; show (iD acc).length + 1 + (iD k).length ≤ _; omega, by rw [List.length_append, List.length_append]; show (iD acc).length + 1 + (iD k).length + 1 ≤ _; omega, by rw [List.length_append, List.length_append, List.length_append]; show (iD acc).length + 1 + (iD k).length + 1 + (iD (keyI vs)).length ≤ _; omega, ?_⟩
    show loop (tT [2, 3]) lpB E (l.map entD) [.dat d0, .dat (.list (iD acc ++ [.int ((iD k).length : Nat)] ++ iD k ++ [.int ((iD (keyI vs)).length : Nat)] ++ iD (keyI vs))), .dat (tD k), .dat (.tuple vs), .dat (.list (iD (keyI vs)))]
    have e : iD acc ++ [.int ((iD k).length : Nat)] ++ iD k ++ [.int ((iD (keyI vs)).length : Nat)] ++ iD (keyI vs) = iD (acc ++ entB (k, vs)) := by
      rw [l2, l3]
      show iD acc ++ iD [(k.length : Int)] ++ iD k ++ iD [((keyI vs).length : Int)] ++ iD (keyI vs) = iD (acc ++ (cntI k ++ cntI (keyI vs)))
      simp only [← iD_app, List.append_assoc]
      rfl
    rw [e]
    refine lp_leaf d0 hk E l _ _ _ _ (fun x hx => ho x (List.mem_cons_of_mem _ hx)) ?_ fun e2 e3 e4 => ?_
    · unfold entB
      rw [List.length_append, List.length_append, cntI_len, cntI_len]
      show acc.length + (k.length + 1 + ((keyI vs).length + 1)) + _ ≤ _
      omega
    · have := h e2 e3 e4
      rw [List.flatMap_cons, ← List.append_assoc] at this
      exact this
theorem lp_inner (d0 : DD) (hk : ∀ P : DD → Prop, P (.str INNERS) → gIx d0 (.int 0) P) (E : DEn) : ∀ (l : List (List Int × Int)) (acc : List Int) (e2 e3 e4 : Ent), (∀ c ∈ l, OkChl c) → acc.length + 3000 * l.length ≤ 999000 → (∀ e2 e3 e4, E.nx [.dat d0, .dat (.list (iD (acc ++ l.flatMap chlB))), e2, e3, e4]) →
    loop (tT [2, 3]) lpB E (l.map chlD) [.dat d0, .dat (.list (iD acc)), e2, e3, e4]
  | [], acc, e2, e3, e4, _, _, h => by
    have := h e2 e3 e4
    rw [List.flatMap_nil, List.append_nil] at this
    exact this
  | (k, n) :: l, acc, e2, e3, e4, ho, hl, h => by
    have o := ho _ List.mem_cons_self
    have kl : k.length ≤ 300 := o.kl
    rw [List.length_cons] at hl
    have l1 : (iD acc).length = acc.length := len_iD acc
    have l2 : (iD k).length = k.length := len_iD _
    show sIf (dT (dOp (gB eqD) (dOp gIx (dN 0) (dC (.int 0))) (dC (.str (Str.ofString "inner"))))) lpI lpL ⟨loop (tT [2, 3]) lpB E (l.map chlD), E.rt, E.nx, loop (tT [2, 3]) lpB E (l.map chlD), E.ex⟩ [.dat d0, .dat (.list (iD acc)), .dat (tD k), .dat (.int n), e4]
    refine t_kd hk (P := fun c => if c = true then _ else _) rfl ?_
    rw [decide_eq_true (show INNERS = Str.ofString "inner" from rfl), if_pos rfl]
    refine ⟨cdw n, (show (0 : Int) < 256 by decide), by show (iD acc).length + 3 ≤ _; omega, by rw [List.length_append]; show (iD acc).length + 3 + (iD k).length ≤ _; omega, ?_⟩
    show loop (tT [2, 3]) lpB E (l.map chlD) [.dat d0, .dat (.list (iD acc ++ [.int (n / 256), .int (n % 256), .int ((iD k).length : Nat)] ++ iD k)), .dat (tD k), .dat (.int n), e4]
    have e : iD acc ++ [.int (n / 256), .int (n % 256), .int ((iD k).length : Nat)] ++ iD k = iD (acc ++ chlB (k, n)) := by
      rw [l2]
      show iD acc ++ iD [n / 256, n % 256, (k.length : Int)] ++ iD k = iD (acc ++ (n / 256 :: n % 256 :: cntI k))
      simp only [← iD_app, List.append_assoc]
      rfl
    rw [e]
    refine lp_inner d0 hk E l _ _ _ _ (fun x hx => ho x (List.mem_cons_of_mem _ hx)) ?_ fun e2 e3 e4 => ?_
    · have z : (chlB (k, n)).length = k.length + 3 := rfl
      rw [List.length_append, z]; omega
    · have := h e2 e3 e4
      rw [List.flatMap_cons, ← List.append_assoc] at this
      exact this
abbrev lpT : DS := (sSeq (sIf (dT (dOp (gB gtD) (dCall (g1 gLen) (dCons (dN 1) dNil)) (dC (.int 256)))) (sRet (dC .none)) sNx)
    (sRet (dOp gAdd (dN 1) (dOp gRep (dLst (dCons (dC (.int 0)) dNil)) (dOp (gI0 (· - ·)) (dC (.int 256)) (dCall (g1 gLen) (dCons (dN 1) dNil)))))))
theorem lp_tail (l : List Int) (Q : DD → Prop) (h : Q (if l.length ≤ 256 then .list (iD (padI l)) else .none)) (e0 e2 e3 e4 : Ent) : lpT (endsD Q) [e0, .dat (.list (iD l)), e2, e3, e4] := by
  have ll := len_iD l
  show if decide ((256 : Int) < ((iD l).length : Nat)) = true then _ else _
  by_cases c : l.length ≤ 256
  · rw [if_neg (by simp; omega)]
    rw [if_pos c] at h
    exact pad_ret l c Q h
  · rw [if_pos (decide_eq_true (by omega))]
    rw [if_neg c] at h
    exact h
theorem h__law_page_bytes : ∀ ds Q, F__law_page_bytes40 ds Q → ds.length = 1 ∧ m__law_page_bytes (endsD Q) (startD N__law_page_bytes ds) := by
  rintro ds Q ⟨p, rfl | rfl, ho, h⟩
  · refine ⟨rfl, ?_⟩
    cases p with
    | leaf l =>
      show gB eqD (.str LEAFS) (.str (Str.ofString "inner")) fun b => gInt b fun d => loop (tT [2, 3]) lpB ⟨fun ρ' => lpT (endsD Q) ρ', Q, fun _ => False, fun _ => False, fun _ _ => False⟩ (l.map entD) [.dat (pgD (.leaf l)), .dat (.list [d, .int ((l.map entD).length : Nat)]), .un, .un, .un]
      rw [e_eqS, decide_eq_false (show ¬ LEAFS = Str.ofString "inner" by decide)]
      show loop (tT [2, 3]) lpB _ (l.map entD) [.dat (pgD (.leaf l)), .dat (.list [.int 0, .int ((l.map entD).length : Nat)]), .un, .un, .un]
      have el : [PyData.int 0, .int ((l.map entD).length : Nat)] = iD [0, (l.length : Int)] := by rw [List.length_map]; rfl
      rw [el]
      have := ho.1
      exact lp_leaf (pgD (.leaf l)) (fun _ hp => hp) _ l [0, (l.length : Int)] .un .un .un ho.2 (by show 2 + _ ≤ _; omega) fun _ _ _ => lp_tail (leafB l) Q h _ _ _ _
    | inner l =>
      show gB eqD (.str INNERS) (.str (Str.ofString "inner")) fun b => gInt b fun d => loop (tT [2, 3]) lpB ⟨fun ρ' => lpT (endsD Q) ρ', Q, fun _ => False, fun _ => False, fun _ _ => False⟩ (l.map chlD) [.dat (pgD (.inner l)), .dat (.list [d, .int ((l.map chlD).length : Nat)]), .un, .un, .un]
      rw [e_eqS, decide_eq_true (show INNERS = Str.ofString "inner" from rfl)]
      show loop (tT [2, 3]) lpB _ (l.map chlD) [.dat (pgD (.inner l)), .dat (.list [.int 1, .int ((l.map chlD).length : Nat)]), .un, .un, .un]
      have el : [PyData.int 1, .int ((l.map chlD).length : Nat)] = iD [1, (l.length : Int)] := by rw [List.length_map]; rfl
      rw [el]
      have := ho.1
      exact lp_inner (pgD (.inner l)) (fun _ hp => hp) _ l [1, (l.length : Int)] .un .un .un ho.2.1 (by show 2 + _ ≤ _; omega) fun _ _ _ => lp_tail (innerB l) Q h _ _ _ _
  · refine ⟨rfl, ?_⟩
    cases p with
    | leaf l =>
      show gB eqD (.str LEAFS) (.str (Str.ofString "inner")) fun b => gInt b fun d => loop (tT [2, 3]) lpB ⟨fun ρ' => lpT (endsD Q) ρ', Q, fun _ => False, fun _ => False, fun _ _ => False⟩ (l.map entD) [.dat (pgL (.leaf l)), .dat (.list [d, .int ((l.map entD).length : Nat)]), .un, .un, .un]
      rw [e_eqS, decide_eq_false (show ¬ LEAFS = Str.ofString "inner" by decide)]
      show loop (tT [2, 3]) lpB _ (l.map entD) [.dat (pgL (.leaf l)), .dat (.list [.int 0, .int ((l.map entD).length : Nat)]), .un, .un, .un]
      have el : [PyData.int 0, .int ((l.map entD).length : Nat)] = iD [0, (l.length : Int)] := by rw [List.length_map]; rfl
      rw [el]
      have := ho.1
      exact lp_leaf (pgL (.leaf l)) (fun _ hp => hp) _ l [0, (l.length : Int)] .un .un .un ho.2 (by show 2 + _ ≤ _; omega) fun _ _ _ => lp_tail (leafB l) Q h _ _ _ _
    | inner l =>
      show gB eqD (.str INNERS) (.str (Str.ofString "inner")) fun b => gInt b fun d => loop (tT [2, 3]) lpB ⟨fun ρ' => lpT (endsD Q) ρ', Q, fun _ => False, fun _ => False, fun _ _ => False⟩ (l.map chlD) [.dat (pgL (.inner l)), .dat (.list [d, .int ((l.map chlD).length : Nat)]), .un, .un, .un]
      rw [e_eqS, decide_eq_true (show INNERS = Str.ofString "inner" from rfl)]
      show loop (tT [2, 3]) lpB _ (l.map chlD) [.dat (pgL (.inner l)), .dat (.list [.int 1, .int ((l.map chlD).length : Nat)]), .un, .un, .un]
      have el : [PyData.int 1, .int ((l.map chlD).length : Nat)] = iD [1, (l.length : Int)] := by rw [List.length_map]; rfl
      rw [el]
      have := ho.1
      exact lp_inner (pgL (.inner l)) (fun _ hp => hp) _ l [1, (l.length : Int)] .un .un .un ho.2.1 (by show 2 + _ ≤ _; omega) fun _ _ _ => lp_tail (innerB l) Q h _ _ _ _
end Z1

set_option Elab.async false
set_option linter.all false
set_option maxRecDepth 100000
set_option maxHeartbeats 1000000
namespace Z1
open PySem PySem.Spec PyProof.Rows L2 Z
/-- tuple([_law_value(state) for j in range(n)]), n any below a bound -/
theorem vals_u (a : Addr) (i j : Nat) (tn : DA) (ρ : En) (hρ : ρ[i]? = some (.adr a)) (hj : ∀ d, (ρ.set j (.dat d))[i]? = some (.adr a)) (n : Int) (h0 : 0 < n) (hn : n ≤ 1000) (P : DD → Prop) (hp : ∀ vs : List DD, vs.length < n.toNat → vs.all okV = true → P (.tuple vs)) (m : Int) (m0 : 0 ≤ m) (m1 : m < n) :
    comp ρ j dYes (dSt a i F__law_value dNil) (upto m) [] (fun d => gTuple d P) := by
  refine comp_all (fun d => okV d = true) (fun x hx Q' hQ => ⟨hj x, rfl, hQ⟩) (by rw [upto_len]; show 0 + _ ≤ _; omega) fun ds h1 h2 => ?_
  rw [upto_len] at h1
  exact hp ds (by omega) (List.all_eq_true.mpr h2)
theorem h__law_key : ∀ a ds Q, F__law_key ds Q → ds.length + 1 = 1 ∧ m__law_key a (endsD Q) (startS a N__law_key ds) := by
  rintro a ds Q ⟨rfl, h⟩
  refine ⟨rfl, ?_⟩
  refine ⟨rfl, ⟨by decide, by decide⟩, fun x x0 x1 => ?_⟩
  show if (x == 0) = true then _ else _
  by_cases c : x = 0
  · subst c
    rw [if_pos (show ((0 : Int) == 0) = true from rfl)]
    refine vals_g a 0 3 5 (by decide) (by decide) _ rfl (fun _ => rfl) _ fun vs z1 z2 => ?_
    have z1 : vs.length < 5 := z1
    have kk := (key_len vs z2).2
    exact ⟨⟨by omega, z2⟩, h (keyI vs) (by omega) (key_B _ z2)⟩
  · rw [if_neg (by simpa using c)]
    refine ⟨rfl, ⟨by decide, by decide⟩, fun s s0 s1 => ⟨rfl, ⟨by decide, by decide⟩, fun t t0 t1 => ?_⟩⟩
    refine ⟨rfl, rfl, ⟨by decide, by decide⟩, fun w w0 w1 => two_of 9 101 w w0 w1 fun n hn => ⟨⟨by omega, by omega⟩, fun m m0 m1 => ⟨⟨by omega, by omega⟩, ?_⟩⟩⟩
    refine comp_all (fun d => ∃ b, isB b = true ∧ d = .int b) (fun y hy Q' hQ => ?_) (by rw [upto_len]; show 0 + _ ≤ _; omega) fun ds h1 h2 => ?_
    · obtain ⟨i, hi, rfl⟩ := upto_mem hy
      refine ⟨.inl ⟨by omega, by omega⟩, (show (0 : Int) < 256 by decide), hQ _ ⟨_, isB_of (Int.emod_nonneg _ (by decide)) (Int.emod_lt_of_pos _ (by decide)), rfl⟩⟩
    · obtain ⟨bs, rfl, hbs⟩ := bytes_of ds h2
      rw [len_iD, upto_len] at h1
      exact h bs (by omega) hbs
/-! a page that fits, part by part -/
abbrev pyS : DS := (sIf (dT (dOp gNotN (dCall F__law_page_bytes40 (dCons (dTup (dCons (dOp gIx (dLst (dCons (dC (.str (Str.ofString "inner"))) (dCons (dC (.str (Str.ofString "leaf"))) dNil))) (dCall (g1 gInt) (dCons (dN 1) dNil))) (dCons (dOp gAdd (dN 2) (dLst (dCons (dN 5) dNil))) dNil))) dNil)) (dC .none))) (sApp 2 (dN 5)) sNx)
abbrev pyL (a : Addr) : DS := (sIf (dT (dN 1)) (sSet 5 (dTup (dCons (dN 4) (dCons (dCall (g1 gTuple) (dCons (dLc (dIr (dSt a 0 F__law_next (dCons (dOp gIx (dLst (dCons (dC (.int 4)) (dCons (dC (.int 13)) dNil))) (dSt a 0 F__law_next (dCons (dC (.int 2)) dNil))) dNil))) 6 dYes (dSt a 0 F__law_value dNil)) dNil)) dNil)))) sNx)
abbrev pyB (a : Addr) : DS := (sSeq (sSet 4 (dSt a 0 F__law_key dNil))
    (sSeq (sSet 5 (dTup (dCons (dOp gIx (dLst (dCons (dN 4) (dCons (dTup dNil) dNil))) (dCall (g1 gInt) (dCons (dOp (gB eqD) (dN 3) (dC (.int 0))) dNil))) (dCons (dSt a 0 F__law_next (dCons (dOp gIx (dLst (dCons (dC (.int 300)) (dCons (dC (.int 65536)) dNil))) (dSt a 0 F__law_next (dCons (dC (.int 2)) dNil))) dNil)) dNil))))
    (sSeq (pyL a) pyS)))
theorem wr_fit {p : Pg} (h : (pgB p).length ≤ 256) : ∃ l, wrD p = .list l := by
  unfold wrD; rw [if_pos h]; exact ⟨_, rfl⟩
theorem wr_not {p : Pg} (h : ¬ (pgB p).length ≤ 256) : wrD p = .none := by unfold wrD; rw [if_neg h]
theorem py_sl (a : Addr) (l : List (List Int × List DD)) (e : List Int × List DD) (E : DEn) (e3 e4 e6 : Ent) (ho : OkPg (.leaf (l ++ [e]))) (h1 : (pgB (.leaf (l ++ [e]))).length ≤ 256 → E.nx [.adr a, .dat (.bool true), .own ((l ++ [e]).map entD), e3, e4, .dat (entD e), e6]) (h2 : E.nx [.adr a, .dat (.bool true), .own (l.map entD), e3, e4, .dat (entD e), e6]) :
    pyS E [.adr a, .dat (.bool true), .own (l.map entD), e3, e4, .dat (entD e), e6] := by
  have hl := ho.1
  rw [List.length_append] at hl
  have hl : l.length + 1 ≤ 300 := hl
  refine ⟨by rw [List.length_map]; show l.length + 1 ≤ _; omega, ?_⟩
  refine ⟨.leaf (l ++ [e]), .inr (by show [PyData.tuple [.str LEAFS, .list (l.map entD ++ [entD e])]] = [PyData.tuple [.str LEAFS, .list ((l ++ [e]).map entD)]]; rw [List.map_append]; rfl), ho, ?_⟩
  by_cases c : (pgB (.leaf (l ++ [e]))).length ≤ 256
  · obtain ⟨w, hw⟩ := wr_fit c
    rw [hw]
    refine ⟨by rw [List.length_map]; omega, ?_⟩
    have h1 := h1 c
    rw [List.map_append] at h1
    exact h1
  · rw [wr_not c]
    exact h2
theorem py_si (a : Addr) (l : List (List Int × Int)) (e : List Int × Int) (E : DEn) (e3 e4 e6 : Ent) (ho : OkPg (.inner (l ++ [e]))) (h1 : (pgB (.inner (l ++ [e]))).length ≤ 256 → E.nx [.adr a, .dat (.bool false), .own ((l ++ [e]).map chlD), e3, e4, .dat (chlD e), e6]) (h2 : ¬ (pgB (.inner (l ++ [e]))).length ≤ 256 → E.nx [.adr a, .dat (.bool false), .own (l.map chlD), e3, e4, .dat (chlD e), e6]) :
    pyS E [.adr a, .dat (.bool false), .own (l.map chlD), e3, e4, .dat (chlD e), e6] := by
  have hl := ho.1
  rw [List.length_append] at hl
  have hl : l.length + 1 ≤ 300 := hl
  refine ⟨by rw [List.length_map]; show l.length + 1 ≤ _; omega, ?_⟩
  refine ⟨.inner (l ++ [e]), .inr (by show [PyData.tuple [.str INNERS, .list (l.map chlD ++ [chlD e])]] = [PyData.tuple [.str INNERS, .list ((l ++ [e]).map chlD)]]; rw [List.map_append]; rfl), ho, ?_⟩
  by_cases c : (pgB (.inner (l ++ [e]))).length ≤ 256
  · obtain ⟨w, hw⟩ := wr_fit c
    rw [hw]
    refine ⟨by rw [List.length_map]; omega, ?_⟩
    have h1 := h1 c
    rw [List.map_append] at h1
    exact h1
  · rw [wr_not c]
    exact h2 c
/-- the part as it is drawn first -/
theorem py_part (a : Addr) (b : Bool) (ds : List DD) (i : Nat) (E : DEn) (e4 e5 e6 : Ent) (h : ∀ k q, k.length ≤ 120 → k.all isB = true → 0 ≤ q → q < 65536 → sSeq (pyL a) pyS E [.adr a, .dat (.bool b), .own ds, .dat (.int (i : Nat)), .dat (tD k), .dat (chlD (if i = 0 then [] else k, q)), e6]) :
    pyB a E [.adr a, .dat (.bool b), .own ds, .dat (.int (i : Nat)), e4, e5, e6] := by
  refine ⟨rfl, rfl, fun k kl kb => ?_⟩
  have hsel : ∀ P : DD → Prop, P (tD (if i = 0 then [] else k)) → gIx (.list [tD k, .tuple []]) (.int (if ((i : Int) == 0) = true then 1 else 0)) P := fun P hp => by
    by_cases c : i = 0
    · subst c; exact hp
    · rw [if_neg c] at hp
      rw [if_neg (by simp; omega)]
      exact hp
  refine hsel _ ?_
  refine ⟨rfl, rfl, ⟨by decide, by decide⟩, fun s s0 s1 => two_of 300 65536 s s0 s1 fun z hz => ⟨⟨by omega, by omega⟩, fun q q0 q1 => ?_⟩⟩
  exact h k q kl kb q0 (by omega)
theorem py_leaf (a : Addr) (E : DEn) (items : List DD) (hi : items.length ≤ 8) (hx : ∀ x ∈ items, ∃ i : Nat, x = .int (i : Nat)) (hE : ∀ l e3 e4 e5 e6, OkPg (.leaf l) → (pgB (.leaf l)).length ≤ 256 → E.nx [.adr a, .dat (.bool true), .own (l.map entD), e3, e4, e5, e6]) (e3 e4 e5 e6 : Ent) :
    loop (tN 3) (pyB a) E items [.adr a, .dat (.bool true), .own [], e3, e4, e5, e6] := by
  refine loop_inv (fun x => ∃ i : Nat, x = .int (i : Nat)) (fun m ρ => ∃ (l : List (List Int × List DD)) (e3 e4 e5 e6 : Ent), l.length + m ≤ 8 ∧ (∀ e ∈ l, OkEnt e) ∧ (pgB (.leaf l)).length ≤ 256 ∧ ρ = [.adr a, .dat (.bool true), .own (l.map entD), e3, e4, e5, e6]) ?_ ?_ items _ hx ⟨[], _, _, _, _, by show 0 + _ ≤ _; omega, fun _ h => (by cases h), by decide, rfl⟩
  · rintro ρ ⟨l, e3, e4, e5, e6, hl, ho, hf, rfl⟩
    exact hE l _ _ _ _ ⟨by omega, ho⟩ hf
  · rintro x m ρ k ⟨i, rfl⟩ ⟨l, e3, e4, e5, e6, hl, ho, hf, rfl⟩ hk
    refine py_part a true _ i _ _ _ _ fun ky q kl kb q0 q1 => ?_
    refine ⟨rfl, rfl, ⟨by decide, by decide⟩, fun s s0 s1 => two_of 4 13 s s0 s1 fun z hz => ⟨⟨by omega, by omega⟩, fun w w0 w1 => ⟨⟨by omega, by omega⟩, ?_⟩⟩⟩
    refine vals_u a 0 6 dNil [.adr a, .dat (.bool true), .own (l.map entD), .dat (.int (i : Nat)), .dat (tD ky), .dat (chlD (if i = 0 then [] else ky, q)), e6] rfl (fun _ => rfl) z (by omega) (by omega) (fun d => pyS ⟨k, E.rt, E.nx, k, E.ex⟩ [.adr a, .dat (.bool true), .own (l.map entD), .dat (.int (i : Nat)), .dat (tD ky), .dat (.tuple [tD ky, d]), e6]) (fun vs z1 z2 => ?_) w w0 w1
    have zz : vs.length ≤ 13 := by omega
    have oe : OkEnt (ky, vs) := ⟨by show ky.length ≤ 300; omega, kb, by show vs.length ≤ 300; omega, z2⟩
    have oo : ∀ e ∈ l ++ [(ky, vs)], OkEnt e := fun e he => by
      rcases List.mem_append.mp he with he | he
      · exact ho e he
      · rw [List.mem_singleton.mp he]; exact oe
    have ll : (l ++ [(ky, vs)]).length = l.length + 1 := by rw [List.length_append]; rfl
    refine py_sl a l (ky, vs) _ _ _ _ ⟨by rw [ll]; omega, oo⟩ (fun c => hk _ ⟨l ++ [(ky, vs)], _, _, _, _, by rw [ll]; omega, oo, c, rfl⟩) (hk _ ⟨l, _, _, _, _, by omega, ho, hf, rfl⟩)
theorem py_inner (a : Addr) (n : Int) (hn : n ≤ 8) (E : DEn) (hE : ∀ l e3 e4 e5 e6, OkPg (.inner l) → (pgB (.inner l)).length ≤ 256 → E.nx [.adr a, .dat (.bool false), .own (l.map chlD), e3, e4, e5, e6]) : ∀ (r i : Nat) (l : List (List Int × Int)) (e3 e4 e5 e6 : Ent), n.toNat - i = r → i ≤ n.toNat → l.length ≤ i → (0 < i → l ≠ []) → (∀ c ∈ l, OkChl c) → (∀ c r, l = c :: r → c.1 = []) → (pgB (.inner l)).length ≤ 256 →
    loop (tN 3) (pyB a) E ((upto n).drop i) [.adr a, .dat (.bool false), .own (l.map chlD), e3, e4, e5, e6] := by
  intro r
  induction r with
  | zero =>
    intro i l e3 e4 e5 e6 hr hi hl hne ho hf hfit
    rw [upto_end _ _ (by omega)]
    exact hE l _ _ _ _ ⟨by omega, ho, hf⟩ hfit
  | succ r ih =>
    intro i l e3 e4 e5 e6 hr hi hl hne ho hf hfit
    rw [upto_drop _ _ (by omega)]
    refine py_part a false _ i ⟨loop (tN 3) (pyB a) E ((upto n).drop (i + 1)), E.rt, E.nx, loop (tN 3) (pyB a) E ((upto n).drop (i + 1)), E.ex⟩ _ _ _ fun ky q kl kb q0 q1 => ?_
    show pyS ⟨loop (tN 3) (pyB a) E ((upto n).drop (i + 1)), E.rt, E.nx, loop (tN 3) (pyB a) E ((upto n).drop (i + 1)), E.ex⟩ [.adr a, .dat (.bool false), .own (l.map chlD), .dat (.int (i : Nat)), .dat (tD ky), .dat (chlD (if i = 0 then [] else ky, q)), e6]
    have hk : (if i = 0 then [] else ky).length ≤ 120 := by split <;> first | exact Nat.zero_le _ | exact kl
    have hb : (if i = 0 then [] else ky).all isB = true := by split <;> first | rfl | exact kb
    have oe : OkChl (if i = 0 then [] else ky, q) := ⟨by show (if i = 0 then [] else ky).length ≤ 300; omega, hb, q0, q1⟩
    have oo : ∀ c ∈ l ++ [(if i = 0 then [] else ky, q)], OkChl c := fun c hc => by
      rcases List.mem_append.mp hc with hc | hc
      · exact ho c hc
      · rw [List.mem_singleton.mp hc]; exact oe
    have ll : (l ++ [(if i = 0 then [] else ky, q)]).length = l.length + 1 := by rw [List.length_append]; rfl
    have ff : ∀ c r, l ++ [(if i = 0 then [] else ky, q)] = c :: r → c.1 = [] := fun c r' hc => by
      cases l with
      | nil =>
        have hi0 : i = 0 := by
          rcases Nat.eq_zero_or_pos i with z | z
          · exact z
          · exact absurd rfl (hne z)
        have : (if i = 0 then [] else ky, q) = c := (List.cons.inj hc).1
        rw [← this, if_pos hi0]
      | cons d l =>
        have : d = c := (List.cons.inj hc).1
        exact hf c l (by rw [this])
    refine py_si a l _ _ _ _ _ ⟨by rw [ll]; omega, oo, ff⟩ (fun c => ih (i + 1) _ _ _ _ _ (by omega) (by omega) (by rw [ll]; omega) (fun _ => by simp) oo ff c) fun c => ?_
    refine ih (i + 1) l _ _ _ _ (by omega) (by omega) (by omega) (fun _ z => c ?_) ho hf hfit
    have hi0 : i = 0 := by
      rcases Nat.eq_zero_or_pos i with y | y
      · exact y
      · exact absurd z (hne y)
    subst z
    rw [if_pos hi0]
    show (innerB [([], q)]).length ≤ 256
    show 5 ≤ 256
    decide
theorem h__law_page : ∀ a ds Q, F__law_page40 ds Q → ds.length + 1 = 1 ∧ m__law_page a (endsD Q) (startS a N__law_page ds) := by
  rintro a ds Q ⟨rfl, h⟩
  refine ⟨rfl, ?_⟩
  refine ⟨rfl, ⟨by decide, by decide⟩, fun x x0 x1 => ?_⟩
  have ex : x = 0 ∨ x = 1 := by omega
  rcases ex with rfl | rfl
  · refine ⟨rfl, ⟨by decide, by decide⟩, fun n n0 n1 => ⟨⟨by omega, by omega⟩, ?_⟩⟩
    refine py_leaf a _ _ (by rw [upto_len]; omega) (fun y hy => by obtain ⟨i, _, rfl⟩ := upto_mem hy; exact ⟨i, rfl⟩) (fun l e3 e4 e5 e6 ho hf => ?_) _ _ _ _
    exact h (.leaf l) ho hf
  · refine ⟨rfl, ⟨by decide, by decide⟩, fun n n0 n1 => ⟨⟨by omega, by omega⟩, ?_⟩⟩
    refine py_inner a n (by omega) _ (fun l e3 e4 e5 e6 ho hf => ?_) n.toNat 0 [] _ _ _ _ (Nat.sub_zero _) (Nat.zero_le _) (Nat.le_refl _) (fun z => by cases z) (fun _ h => by cases h) (fun _ _ h => by cases h) (by decide)
    exact h (.inner l) ho hf
end Z1

set_option Elab.async false
set_option linter.all false
set_option maxRecDepth 100000
set_option maxHeartbeats 1000000
namespace Z1
open PySem PySem.Spec PyProof.Rows L2 Z
def startL (a : Addr) : En := [.un, .adr a, .un, .un, .un, .un, .un, .un, .un, .un]
theorem byteG (a : Addr) (n : Int) (hn : n = 3 ∨ n = 4) (ρ : En) (hρ : ρ[1]? = some (.adr a)) (P : DD → Prop) (hp : ∀ b, isB b = true → P (.int b)) :
    dOp gIx (dLst (dCons (dSt a 1 F__law_next (dCons (dC (.int 256)) dNil)) (dCons (dSt a 1 F__law_next (dCons (dC (.int n)) dNil)) dNil))) (dSt a 1 F__law_next (dCons (dC (.int 2)) dNil)) ρ P := byteA_ok a n hn ρ hρ P hp
theorem tried_ok {cs : List Int} (h1 : cs.length ≤ 1000) (hb : cs.all isB = true) {P : DD → Prop} (hp : P (.bool true)) : F__law_tried [.list (iD cs)] P := ⟨cs, rfl, by omega, hb, hp⟩
def isBL (x : DD) : Prop := ∃ es : List Int, x = .list (iD es) ∧ es.length ≤ 1000 ∧ es.all isB = true
theorem pad_len {l : List Int} (h : l.length ≤ 256) : (padI l).length = 256 := by unfold padI; rw [List.length_append, List.length_replicate]; omega
abbrev lwF : DS := (sIf (dNot (dT (dCall F__law_tried (dCons (dN 7) dNil)))) (sRet (dC (.bool false))) sNx)
theorem lw_for (E : DEn) (e0 e1 e2 e3 e4 e5 e6 e8 e9 : Ent) (hE : ∀ e7, E.nx [e0, e1, e2, e3, e4, e5, e6, e7, e8, e9]) (items : List DD) (hi : ∀ x ∈ items, isBL x) (e7 : Ent) : loop (tN 7) lwF E items [e0, e1, e2, e3, e4, e5, e6, e7, e8, e9] := by
  refine loop_inv isBL (fun _ ρ => ∃ e7, ρ = [e0, e1, e2, e3, e4, e5, e6, e7, e8, e9]) ?_ ?_ items _ hi ⟨_, rfl⟩
  · rintro ρ ⟨e7, rfl⟩; exact hE e7
  · rintro x r ρ k ⟨es, rfl, h1, hb⟩ ⟨e7, rfl⟩ hk
    exact tried_ok h1 hb (hk _ ⟨_, rfl⟩)
abbrev lwH (a : Addr) : DS := (sSeq (sSet 5 (dSt a 1 F__law_next (dCons (dOp gIx (dLst (dCons (dC (.int 12)) (dCons (dC (.int 256)) dNil))) (dSt a 1 F__law_next (dCons (dC (.int 2)) dNil))) dNil)))
    (sSeq (sSet 6 (dOp gIx (dLst (dCons (dSt a 1 F__law_next (dCons (dC (.int 256)) dNil)) (dCons (dSt a 1 F__law_next (dCons (dC (.int 4)) dNil)) dNil))) (dSt a 1 F__law_next (dCons (dC (.int 2)) dNil))))
    (sFor (dIl (dLst (dCons (dN 4) (dCons (dOp gAdd (dOp gAdd (dSl (dN 4) dNo (dSo (dN 5))) (dLst (dCons (dN 6) dNil))) (dSl (dN 4) (dSo (dOp gAdd (dN 5) (dC (.int 1)))) dNo)) (dCons (dOp gAdd (dOp gAdd (dSl (dN 4) dNo (dSo (dN 5))) (dSl (dN 4) (dSo (dOp gAdd (dN 5) (dC (.int 1)))) dNo)) (dLst (dCons (dC (.int 0)) dNil))) (dCons (dOp gAdd (dOp gAdd (dSl (dN 4) dNo (dSo (dN 5))) (dLst (dCons (dN 6) dNil))) (dSl (dN 4) (dSo (dN 5)) (dSo (dC (.int 255))))) dNil)))))) (tN 7) lwF)))
theorem lw_h (a : Addr) (E : DEn) (cs : List Int) (hl : cs.length = 256) (hb : cs.all isB = true) (e0 e2 e3 e5 e6 e7 e8 e9 : Ent) (hE : ∀ e5 e6 e7, E.nx [e0, .adr a, e2, e3, .dat (.list (iD cs)), e5, e6, e7, e8, e9]) :
    lwH a E [e0, .adr a, e2, e3, .dat (.list (iD cs)), e5, e6, e7, e8, e9] := by
  refine ⟨rfl, rfl, ⟨by decide, by decide⟩, fun s s0 s1 => two_of 12 256 s s0 s1 fun m hm => ⟨⟨by omega, by omega⟩, fun at' a0 a1 => ?_⟩⟩
  refine byteG a 4 (.inr rfl) _ rfl _ fun b hb' => ?_
  obtain ⟨p1, w1, k1, v1⟩ := cut_some hb none (some at')
  obtain ⟨p2, w2, k2, v2⟩ := cut_some hb (some (at' + 1)) none
  obtain ⟨p3, w3, k3, v3⟩ := cut_some hb (some at') (some 255)
  have l1 := len_iD p1
  have l2 := len_iD p2
  have l3 := len_iD p3
  refine ⟨by rw [w1]; show _ + 1 ≤ _; omega, by rw [List.length_append, w1, w2]; show _ + 1 + _ ≤ _; omega, by rw [w1, w2]; omega, by rw [List.length_append, w1, w2]; show _ + _ + 1 ≤ _; omega, by rw [w1]; show _ + 1 ≤ _; omega, by rw [List.length_append, w1, w3]; show _ + 1 + _ ≤ _; omega, ?_⟩
  refine lw_for E _ _ _ _ _ _ _ _ _ (fun e7 => hE _ _ _) _ (fun x hx => ?_) _
  rw [w1, w2, w3] at hx
  simp only [List.mem_cons, List.not_mem_nil, or_false] at hx
  have by1 : isB b = true := hb'
  rcases hx with rfl | rfl | rfl | rfl
  · exact ⟨cs, rfl, by omega, hb⟩
  · refine ⟨p1 ++ [b] ++ p2, by rw [iD_app, iD_app]; rfl, by rw [List.length_append, List.length_append]; show _ + 1 + _ ≤ _; omega, ?_⟩
    rw [List.all_append, List.all_append, v1, v2, List.all_cons, by1]; rfl
  · refine ⟨p1 ++ p2 ++ [0], by rw [iD_app, iD_app]; rfl, by rw [List.length_append, List.length_append]; show _ + _ + 1 ≤ _; omega, ?_⟩
    rw [List.all_append, List.all_append, v1, v2]; rfl
  · refine ⟨p1 ++ [b] ++ p3, by rw [iD_app, iD_app]; rfl, by rw [List.length_append, List.length_append]; show _ + 1 + _ ≤ _; omega, ?_⟩
    rw [List.all_append, List.all_append, v1, v3, List.all_cons, by1]; rfl
theorem h_law (a : Addr) (Q : DD → Prop) (hQ : Q (.bool true)) : m_law a (endsD Q) (startL a) := by
  refine ⟨by decide, ?_⟩
  refine loop_inv (fun _ => True) (fun _ ρ => ∃ e2 e3 e4 e5 e6 e7, ρ = [.un, .adr a, e2, e3, e4, e5, e6, e7, .un, .un]) ?_ ?_ _ _ (fun _ _ => trivial) ⟨_, _, _, _, _, _, rfl⟩
  · rintro ρ ⟨e2, e3, e4, e5, e6, e7, rfl⟩
    refine ⟨rfl, ⟨by decide, by decide⟩, fun n n0 n1 => ⟨⟨by omega, by omega⟩, ?_⟩⟩
    refine comp_all (fun d => ∃ b, isB b = true ∧ d = .int b) (fun x hx Q' hQ' => byteG a 3 (.inl rfl) _ rfl _ fun z hz => hQ' _ ⟨z, hz, rfl⟩) (by rw [upto_len]; show 0 + _ ≤ _; omega) fun ds h1 h2 => ?_
    obtain ⟨bs, rfl, hbs⟩ := bytes_of ds h2
    rw [len_iD, upto_len] at h1
    refine pad_ret bs (by omega) _ (tried_ok (by rw [pad_len (by omega)]; omega) (pad_B hbs) ?_)
    exact tried_ok (by omega) hbs hQ
  · rintro x r ρ k _ ⟨e2, e3, e4, e5, e6, e7, rfl⟩ hk
    refine ⟨rfl, rfl, fun p ho c => ⟨p, .inl rfl, ho, ⟨p, rfl, ho, ⟨rfl, okS_wr p, ?_⟩⟩⟩⟩
    have ew : wrD p = .list (iD (padI (pgB p))) := by unfold wrD; rw [if_pos c]
    rw [ew]
    have lc := pad_len c
    have bc := pad_B (pg_B ho c)
    refine ⟨padI (pgB p), rfl, by omega, bc, ?_⟩
    rw [rd_of ho c]
    refine ⟨rfl, okS_pg ho, ?_⟩
    exact lw_h a _ _ lc bc _ _ _ _ _ _ _ _ fun e5 e6 e7 => hk _ ⟨_, _, _, _, _, _, rfl⟩
end Z1

set_option Elab.async false
set_option linter.all false
set_option maxRecDepth 100000
set_option maxHeartbeats 0
namespace Z
open PySem PySem.Spec PyProof.Rows L2
/-- a def without defaults, as the head tells it -/
theorem fun_ofD {K : PySem.W.Frag} {x q : Str} {st : Stmt} {f : Addr} {fd : FuncData} {ks : List (Str × V)} (F : FunD K x q (defArgs st) (defBody st) (defScope st) [] ks f fd) : Fun K x q st f fd := by
  obtain ⟨⟨v1, v2, v3, v4, v5, v6, v7, v8, v9, v10, e1, e2, e3, e4, _⟩, kp⟩ := F
  have e5 : v3 = .none := e4.elim (fun z => z.2) (fun z => absurd rfl z.1)
  subst e5
  exact ⟨⟨v1, v2, v4, v5, v6, v7, v8, v9, v10, e1, e2, e3⟩, kp⟩
def spLaw (K : PySem.W.Frag) : Sp := fun vs H Q _ => ∃ (a : Addr) (ns : List Int), vs = [.ref a] ∧ SqL K H a (ns.map V.int) ∧ ∀ H', Q (.bl true) H'
/-- the head's facts, and looks of one's own -/
def obE (ck : PySem.W.Frag → Bool) (n : Nat) (fa : List He.Fa) (fn : List He.DefD) (g : Addr → Option Obj) : Bool × He.AlD := (ck (He.frG g (He.asD g n)), He.obsD fa fn (He.frG g (He.asD g n)))
def hkE (ck : PySem.W.Frag → Bool) (n : Nat) (fa : List He.Fa) (fn : List He.DefD) : PySem.W.Hook where
  α := Bool × He.AlD
  obs := fun s => obE ck n fa fn s.heap.get?
  val := fun _ => (true, He.valD fn)
  says := fun _ h => ∃ K : PySem.W.Frag, K.In h ∧ ck K = true ∧ He.SaysD fa fn K
  of := fun _ _ e => ⟨_, He.frG_in, congrArg (fun z : Bool × He.AlD => z.1) e, congrArg (fun z : Bool × He.AlD => z.2) e⟩
  keeps := fun _ _ _ ⟨K, hK, c⟩ k => ⟨K, PySem.W.Frag.In.keeps hK k, c⟩
theorem obE_eq {ck : PySem.W.Frag → Bool} {n : Nat} {fa : List He.Fa} {fn : List He.DefD} {g : Addr → Option Obj} {s : Shared} (h : ∀ a, g a = s.heap.get? a) : obE ck n fa fn g = (hkE ck n fa fn).obs s := by
  have e : g = s.heap.get? := funext h
  subst e
  rfl
end Z
namespace Z1
open PySem PySem.Spec PyProof.Rows L2 Z
theorem startL_dat {K : PySem.W.Frag} {G : Hp} {σ : L2.St} {q : Addr} {i : Nat} {d : DD} (h : (startL q)[i]? = some (.dat d)) : ∃ v, σ[i]? = some (some v) ∧ Rp K G v d := by
  have z : Ent.dat d ∈ startL q := List.mem_of_getElem? h
  unfold startL at z
  simp at z
theorem startL_own {q : Addr} {i : Nat} {ds : List DD} (h : (startL q)[i]? = some (.own ds)) : False := by
  have z : Ent.own ds ∈ startL q := List.mem_of_getElem? h
  unfold startL at z
  simp at z
theorem startL_adr {q b : Addr} {i : Nat} (h : (startL q)[i]? = some (.adr b)) : i = 1 ∧ b = q := by
  match i, h with
  | 0, h => cases h
  | 1, h => exact ⟨rfl, by injection (Option.some.inj h) with e; exact e.symm⟩
  | n + 2, h =>
    have z : Ent.adr b ∈ (startL q).drop 2 := List.mem_of_getElem? (i := n) (by rw [List.getElem?_drop]; rw [Nat.add_comm]; exact h)
    unfold startL at z
    simp at z
def d_key_of : He.DefD := ⟨("key_of", none), "key_of", "key_of", defArgs (topS 13), defBody (topS 13), defScope (topS 13), [], []⟩
def d_integer_bytes : He.DefD := ⟨("integer_bytes", none), "integer_bytes", "integer_bytes", defArgs (topS 14), defBody (topS 14), defScope (topS 14), [], []⟩
def d_text_bytes : He.DefD := ⟨("text_bytes", none), "text_bytes", "text_bytes", defArgs (topS 15), defBody (topS 15), defScope (topS 15), [], []⟩
def d_values_of : He.DefD := ⟨("values_of", none), "values_of", "values_of", defArgs (topS 16), defBody (topS 16), defScope (topS 16), [], []⟩
def d_value_at : He.DefD := ⟨("value_at", none), "value_at", "value_at", defArgs (topS 17), defBody (topS 17), defScope (topS 17), [], []⟩
def d_integer_of : He.DefD := ⟨("integer_of", none), "integer_of", "integer_of", defArgs (topS 18), defBody (topS 18), defScope (topS 18), [], []⟩
def d_text_of : He.DefD := ⟨("text_of", none), "text_of", "text_of", defArgs (topS 19), defBody (topS 19), defScope (topS 19), [], []⟩
def d_character_of : He.DefD := ⟨("character_of", none), "character_of", "character_of", defArgs (topS 20), defBody (topS 20), defScope (topS 20), [], []⟩
def d_write_page : He.DefD := ⟨("write_page", none), "write_page", "write_page", defArgs (topS 25), defBody (topS 25), defScope (topS 25), [], []⟩
def d_leaf_bytes : He.DefD := ⟨("leaf_bytes", none), "leaf_bytes", "leaf_bytes", defArgs (topS 26), defBody (topS 26), defScope (topS 26), [], []⟩
def d_inner_bytes : He.DefD := ⟨("inner_bytes", none), "inner_bytes", "inner_bytes", defArgs (topS 27), defBody (topS 27), defScope (topS 27), [], []⟩
def d_counted : He.DefD := ⟨("counted", none), "counted", "counted", defArgs (topS 28), defBody (topS 28), defScope (topS 28), [], []⟩
def d_read_page : He.DefD := ⟨("read_page", none), "read_page", "read_page", defArgs (topS 29), defBody (topS 29), defScope (topS 29), [], []⟩
def d_read_entries : He.DefD := ⟨("read_entries", none), "read_entries", "read_entries", defArgs (topS 30), defBody (topS 30), defScope (topS 30), [], []⟩
def d_read_children : He.DefD := ⟨("read_children", none), "read_children", "read_children", defArgs (topS 31), defBody (topS 31), defScope (topS 31), [], []⟩
def d_read_counted : He.DefD := ⟨("read_counted", none), "read_counted", "read_counted", defArgs (topS 32), defBody (topS 32), defScope (topS 32), [], []⟩
def d__law_next : He.DefD := ⟨("_law_next", none), "_law_next", "_law_next", defArgs (topS 34), defBody (topS 34), defScope (topS 34), [], []⟩
def d__law_same : He.DefD := ⟨("_law_same", none), "_law_same", "_law_same", defArgs (topS 35), defBody (topS 35), defScope (topS 35), [], []⟩
def d__law_value : He.DefD := ⟨("_law_value", none), "_law_value", "_law_value", defArgs (topS 36), defBody (topS 36), defScope (topS 36), [], []⟩
def d__law_characters : He.DefD := ⟨("_law_characters", none), "_law_characters", "_law_characters", defArgs (topS 37), defBody (topS 37), defScope (topS 37), [], []⟩
def d__law_bytes : He.DefD := ⟨("_law_bytes", none), "_law_bytes", "_law_bytes", defArgs (topS 38), defBody (topS 38), defScope (topS 38), [], []⟩
def d__law_page_bytes : He.DefD := ⟨("_law_page_bytes", none), "_law_page_bytes", "_law_page_bytes", defArgs (topS 39), defBody (topS 39), defScope (topS 39), [], []⟩
def d__law_values : He.DefD := ⟨("_law_values", none), "_law_values", "_law_values", defArgs (topS 40), defBody (topS 40), defScope (topS 40), [], []⟩
def d__law_read : He.DefD := ⟨("_law_read", none), "_law_read", "_law_read", defArgs (topS 41), defBody (topS 41), defScope (topS 41), [], []⟩
def d__law_told : He.DefD := ⟨("_law_told", none), "_law_told", "_law_told", defArgs (topS 42), defBody (topS 42), defScope (topS 42), [], []⟩
def d__law_tried : He.DefD := ⟨("_law_tried", none), "_law_tried", "_law_tried", defArgs (topS 43), defBody (topS 43), defScope (topS 43), [], []⟩
def d__law_key : He.DefD := ⟨("_law_key", none), "_law_key", "_law_key", defArgs (topS 44), defBody (topS 44), defScope (topS 44), [], []⟩
def d__law_page : He.DefD := ⟨("_law_page", none), "_law_page", "_law_page", defArgs (topS 45), defBody (topS 45), defScope (topS 45), [], []⟩
def d_law : He.DefD := ⟨("law", none), "law", "law", defArgs (topS 46), defBody (topS 46), defScope (topS 46), [], []⟩
def fnL : List He.DefD := [d_key_of, d_integer_bytes, d_text_bytes, d_values_of, d_value_at, d_integer_of, d_text_of, d_character_of, d_write_page, d_leaf_bytes, d_inner_bytes, d_counted, d_read_page, d_read_entries, d_read_children, d_read_counted, d__law_next, d__law_same, d__law_value, d__law_characters, d__law_bytes, d__law_page_bytes, d__law_values, d__law_read, d__law_told, d__law_tried, d__law_key, d__law_page, d_law]
def faL : List He.Fa := [.glo "key_of", .glo "integer_bytes", .glo "text_bytes", .glo "values_of", .glo "value_at", .glo "integer_of", .glo "text_of", .glo "character_of", .glo "write_page", .glo "leaf_bytes", .glo "inner_bytes", .glo "counted", .glo "read_page", .glo "read_entries", .glo "read_children", .glo "read_counted", .glo "_law_next", .glo "_law_same", .glo "_law_value", .glo "_law_characters", .glo "_law_bytes", .glo "_law_page_bytes", .glo "_law_values", .glo "_law_read", .glo "_law_told", .glo "_law_tried", .glo "_law_key", .glo "_law_page", .glo "law", .free "len", .free "abs", .free "ord", .free "max", .free "min", .free "int", .free "str", .free "bool", .free "tuple", .free "list", .free "isinstance", .free "range", .free "any", .free "enumerate", .glo "DamagedData", .glo "AnswerError", .exc "DamagedData", .exm "DamagedData" "AnswerError" true, .free "ValueError", .int "BOUND" 1000000000, .int "LONGEST_TEXT" 6, .int "INTEGER" 1, .int "TEXT" 2, .int "SHIFT" 549755813888, .str "CHARACTERS" CH, .int "SPACE_CODE" 32, .int "PERCENT_CODE" 37, .int "TILDE_CODE" 126, .int "PAGE_SIZE" 256, .int "LEAF" 0, .int "INNER" 1]
def ckL (K : PySem.W.Frag) : Bool := [decide (PySem.W.findIn K (.ref (He.ga K "DamagedData")) "__getattribute__" = some (some (.builtin "BaseException.__getattribute__"))),
  decide (PySem.W.findIn K (.ref (He.ga K "DamagedData")) "__getattr__" = some none),
  decide (PySem.W.subIn K (.ref (He.ga K "DamagedData")) (.type "BaseException") = some true),
  PySem.W.hasDictIn K (He.ga K "DamagedData"),
  decide (PySem.W.findIn K (.ref (He.ga K "DamagedData")) "__class__" = some (some (.builtin "object.__class__"))),
  decide (PySem.W.specialIn K (.builtin "object.__class__") "__get__" = some (some (.builtin "getset_descriptor.__get__"))),
  decide (PySem.W.takesIn K (.builtin "object.__class__") = some true),
  decide (PySem.W.mroIn K (He.ga K "DamagedData") (.type "object") = some true),
  decide (PySem.W.kitOne K (.ref (He.ga K "DamagedData")) (.ref (He.ga K "DamagedData")) = some true),
  decide (PySem.W.kitOne K (.ref (He.ga K "DamagedData")) (.type "ValueError") = some true)].all id
section
variable {K : PySem.W.Frag} {h : Heap} {mg : Str → Option Value}
theorem bltL (X : K.In h) (G : h.Ns mainGlobals mg) (c : He.SaysD faL fnL K) : Blt mg :=
  ⟨He.free_ok X G (c.fact 29 (f := .free "len") rfl), He.free_ok X G (c.fact 30 (f := .free "abs") rfl), He.free_ok X G (c.fact 31 (f := .free "ord") rfl), He.free_ok X G (c.fact 32 (f := .free "max") rfl), He.free_ok X G (c.fact 33 (f := .free "min") rfl), He.free_ok X G (c.fact 34 (f := .free "int") rfl), He.free_ok X G (c.fact 35 (f := .free "str") rfl), He.free_ok X G (c.fact 36 (f := .free "bool") rfl), He.free_ok X G (c.fact 37 (f := .free "tuple") rfl), He.free_ok X G (c.fact 38 (f := .free "list") rfl), He.free_ok X G (c.fact 39 (f := .free "isinstance") rfl), He.free_ok X G (c.fact 40 (f := .free "range") rfl), He.free_ok X G (c.fact 41 (f := .free "any") rfl), He.free_ok X G (c.fact 42 (f := .free "enumerate") rfl)⟩
theorem ckAt (k : ckL K = true) {i : Nat} {b : Bool} (e : [decide (PySem.W.findIn K (.ref (He.ga K "DamagedData")) "__getattribute__" = some (some (.builtin "BaseException.__getattribute__"))), decide (PySem.W.findIn K (.ref (He.ga K "DamagedData")) "__getattr__" = some none), decide (PySem.W.subIn K (.ref (He.ga K "DamagedData")) (.type "BaseException") = some true), PySem.W.hasDictIn K (He.ga K "DamagedData"), decide (PySem.W.findIn K (.ref (He.ga K "DamagedData")) "__class__" = some (some (.builtin "object.__class__"))), decide (PySem.W.specialIn K (.builtin "object.__class__") "__get__" = some (some (.builtin "getset_descriptor.__get__"))), decide (PySem.W.takesIn K (.builtin "object.__class__") = some true), decide (PySem.W.mroIn K (He.ga K "DamagedData") (.type "object") = some true), decide (PySem.W.kitOne K (.ref (He.ga K "DamagedData")) (.ref (He.ga K "DamagedData")) = some true), decide (PySem.W.kitOne K (.ref (He.ga K "DamagedData")) (.type "ValueError") = some true)][i]? = some b) : b = true := by
  unfold ckL at k
  exact List.all_eq_true.mp k b (List.mem_of_getElem? e)
theorem erL (X : K.In h) (G : h.Ns mainGlobals mg) (c : He.SaysD faL fnL K) (k : ckL K = true) : ErF K mg := by
  have gD := He.glo_ok X G (c.fact 43 (f := .glo "DamagedData") rfl)
  have gA := He.glo_ok X G (c.fact 44 (f := .glo "AnswerError") rfl)
  refine ⟨⟨gD, (c.fact 45 (f := .exc "DamagedData") rfl)⟩, gA, gD, fun y b hy => ?_, ⟨of_decide_eq_true (ckAt k (i := 0) rfl), of_decide_eq_true (ckAt k (i := 1) rfl), of_decide_eq_true (ckAt k (i := 2) rfl), ckAt k (i := 3) rfl, of_decide_eq_true (ckAt k (i := 4) rfl), of_decide_eq_true (ckAt k (i := 5) rfl), of_decide_eq_true (ckAt k (i := 6) rfl), of_decide_eq_true (ckAt k (i := 7) rfl)⟩, of_decide_eq_true (ckAt k (i := 8) rfl), He.free_ok X G (c.fact 47 (f := .free "ValueError") rfl), of_decide_eq_true (ckAt k (i := 9) rfl)⟩
  obtain ⟨rfl, rfl⟩ := ctOne_eq hy
  exact He.exm_ok (c.fact 46 (f := .exm "DamagedData" "AnswerError" true) rfl)
theorem D_key_of (X : K.In h) (G : h.Ns mainGlobals mg) (c : He.SaysD faL fnL K) : Dfn K mg "key_of" (topS 13) ["values"] := by
  obtain ⟨fd, F⟩ := c.def_ 0 (d := d_key_of) rfl
  have F2 : Fun K "key_of" "key_of" (topS 13) _ fd := fun_ofD (ks := []) F
  exact ⟨_, fd, F2, He.glo_ok X G (c.fact 0 (f := .glo "key_of") rfl), F2.binds (fun _ _ _ _ _ _ us hl => match us, hl with | [_], _ => rfl)⟩
theorem D_integer_bytes (X : K.In h) (G : h.Ns mainGlobals mg) (c : He.SaysD faL fnL K) : Dfn K mg "integer_bytes" (topS 14) ["number"] := by
  obtain ⟨fd, F⟩ := c.def_ 1 (d := d_integer_bytes) rfl
  have F2 : Fun K "integer_bytes" "integer_bytes" (topS 14) _ fd := fun_ofD (ks := []) F
  exact ⟨_, fd, F2, He.glo_ok X G (c.fact 1 (f := .glo "integer_bytes") rfl), F2.binds (fun _ _ _ _ _ _ us hl => match us, hl with | [_], _ => rfl)⟩
theorem D_text_bytes (X : K.In h) (G : h.Ns mainGlobals mg) (c : He.SaysD faL fnL K) : Dfn K mg "text_bytes" (topS 15) ["text"] := by
  obtain ⟨fd, F⟩ := c.def_ 2 (d := d_text_bytes) rfl
  have F2 : Fun K "text_bytes" "text_bytes" (topS 15) _ fd := fun_ofD (ks := []) F
  exact ⟨_, fd, F2, He.glo_ok X G (c.fact 2 (f := .glo "text_bytes") rfl), F2.binds (fun _ _ _ _ _ _ us hl => match us, hl with | [_], _ => rfl)⟩
theorem D_values_of (X : K.In h) (G : h.Ns mainGlobals mg) (c : He.SaysD faL fnL K) : Dfn K mg "values_of" (topS 16) ["key"] := by
  obtain ⟨fd, F⟩ := c.def_ 3 (d := d_values_of) rfl
  have F2 : Fun K "values_of" "values_of" (topS 16) _ fd := fun_ofD (ks := []) F
  exact ⟨_, fd, F2, He.glo_ok X G (c.fact 3 (f := .glo "values_of") rfl), F2.binds (fun _ _ _ _ _ _ us hl => match us, hl with | [_], _ => rfl)⟩
theorem D_value_at (X : K.In h) (G : h.Ns mainGlobals mg) (c : He.SaysD faL fnL K) : Dfn K mg "value_at" (topS 17) ["key", "at"] := by
  obtain ⟨fd, F⟩ := c.def_ 4 (d := d_value_at) rfl
  have F2 : Fun K "value_at" "value_at" (topS 17) _ fd := fun_ofD (ks := []) F
  exact ⟨_, fd, F2, He.glo_ok X G (c.fact 4 (f := .glo "value_at") rfl), F2.binds (fun _ _ _ _ _ _ us hl => match us, hl with | [_, _], _ => rfl)⟩
theorem D_integer_of (X : K.In h) (G : h.Ns mainGlobals mg) (c : He.SaysD faL fnL K) : Dfn K mg "integer_of" (topS 18) ["digits"] := by
  obtain ⟨fd, F⟩ := c.def_ 5 (d := d_integer_of) rfl
  have F2 : Fun K "integer_of" "integer_of" (topS 18) _ fd := fun_ofD (ks := []) F
  exact ⟨_, fd, F2, He.glo_ok X G (c.fact 5 (f := .glo "integer_of") rfl), F2.binds (fun _ _ _ _ _ _ us hl => match us, hl with | [_], _ => rfl)⟩
theorem D_text_of (X : K.In h) (G : h.Ns mainGlobals mg) (c : He.SaysD faL fnL K) : Dfn K mg "text_of" (topS 19) ["codes"] := by
  obtain ⟨fd, F⟩ := c.def_ 6 (d := d_text_of) rfl
  have F2 : Fun K "text_of" "text_of" (topS 19) _ fd := fun_ofD (ks := []) F
  exact ⟨_, fd, F2, He.glo_ok X G (c.fact 6 (f := .glo "text_of") rfl), F2.binds (fun _ _ _ _ _ _ us hl => match us, hl with | [_], _ => rfl)⟩
theorem D_character_of (X : K.In h) (G : h.Ns mainGlobals mg) (c : He.SaysD faL fnL K) : Dfn K mg "character_of" (topS 20) ["code"] := by
  obtain ⟨fd, F⟩ := c.def_ 7 (d := d_character_of) rfl
  have F2 : Fun K "character_of" "character_of" (topS 20) _ fd := fun_ofD (ks := []) F
  exact ⟨_, fd, F2, He.glo_ok X G (c.fact 7 (f := .glo "character_of") rfl), F2.binds (fun _ _ _ _ _ _ us hl => match us, hl with | [_], _ => rfl)⟩
theorem D_write_page (X : K.In h) (G : h.Ns mainGlobals mg) (c : He.SaysD faL fnL K) : Dfn K mg "write_page" (topS 25) ["page"] := by
  obtain ⟨fd, F⟩ := c.def_ 8 (d := d_write_page) rfl
  have F2 : Fun K "write_page" "write_page" (topS 25) _ fd := fun_ofD (ks := []) F
  exact ⟨_, fd, F2, He.glo_ok X G (c.fact 8 (f := .glo "write_page") rfl), F2.binds (fun _ _ _ _ _ _ us hl => match us, hl with | [_], _ => rfl)⟩
theorem D_leaf_bytes (X : K.In h) (G : h.Ns mainGlobals mg) (c : He.SaysD faL fnL K) : Dfn K mg "leaf_bytes" (topS 26) ["entries"] := by
  obtain ⟨fd, F⟩ := c.def_ 9 (d := d_leaf_bytes) rfl
  have F2 : Fun K "leaf_bytes" "leaf_bytes" (topS 26) _ fd := fun_ofD (ks := []) F
  exact ⟨_, fd, F2, He.glo_ok X G (c.fact 9 (f := .glo "leaf_bytes") rfl), F2.binds (fun _ _ _ _ _ _ us hl => match us, hl with | [_], _ => rfl)⟩
theorem D_inner_bytes (X : K.In h) (G : h.Ns mainGlobals mg) (c : He.SaysD faL fnL K) : Dfn K mg "inner_bytes" (topS 27) ["children"] := by
  obtain ⟨fd, F⟩ := c.def_ 10 (d := d_inner_bytes) rfl
  have F2 : Fun K "inner_bytes" "inner_bytes" (topS 27) _ fd := fun_ofD (ks := []) F
  exact ⟨_, fd, F2, He.glo_ok X G (c.fact 10 (f := .glo "inner_bytes") rfl), F2.binds (fun _ _ _ _ _ _ us hl => match us, hl with | [_], _ => rfl)⟩
theorem D_counted (X : K.In h) (G : h.Ns mainGlobals mg) (c : He.SaysD faL fnL K) : Dfn K mg "counted" (topS 28) ["part"] := by
  obtain ⟨fd, F⟩ := c.def_ 11 (d := d_counted) rfl
  have F2 : Fun K "counted" "counted" (topS 28) _ fd := fun_ofD (ks := []) F
  exact ⟨_, fd, F2, He.glo_ok X G (c.fact 11 (f := .glo "counted") rfl), F2.binds (fun _ _ _ _ _ _ us hl => match us, hl with | [_], _ => rfl)⟩
theorem D_read_page (X : K.In h) (G : h.Ns mainGlobals mg) (c : He.SaysD faL fnL K) : Dfn K mg "read_page" (topS 29) ["data"] := by
  obtain ⟨fd, F⟩ := c.def_ 12 (d := d_read_page) rfl
  have F2 : Fun K "read_page" "read_page" (topS 29) _ fd := fun_ofD (ks := []) F
  exact ⟨_, fd, F2, He.glo_ok X G (c.fact 12 (f := .glo "read_page") rfl), F2.binds (fun _ _ _ _ _ _ us hl => match us, hl with | [_], _ => rfl)⟩
theorem D_read_entries (X : K.In h) (G : h.Ns mainGlobals mg) (c : He.SaysD faL fnL K) : Dfn K mg "read_entries" (topS 30) ["data"] := by
  obtain ⟨fd, F⟩ := c.def_ 13 (d := d_read_entries) rfl
  have F2 : Fun K "read_entries" "read_entries" (topS 30) _ fd := fun_ofD (ks := []) F
  exact ⟨_, fd, F2, He.glo_ok X G (c.fact 13 (f := .glo "read_entries") rfl), F2.binds (fun _ _ _ _ _ _ us hl => match us, hl with | [_], _ => rfl)⟩
theorem D_read_children (X : K.In h) (G : h.Ns mainGlobals mg) (c : He.SaysD faL fnL K) : Dfn K mg "read_children" (topS 31) ["data"] := by
  obtain ⟨fd, F⟩ := c.def_ 14 (d := d_read_children) rfl
  have F2 : Fun K "read_children" "read_children" (topS 31) _ fd := fun_ofD (ks := []) F
  exact ⟨_, fd, F2, He.glo_ok X G (c.fact 14 (f := .glo "read_children") rfl), F2.binds (fun _ _ _ _ _ _ us hl => match us, hl with | [_], _ => rfl)⟩
theorem D_read_counted (X : K.In h) (G : h.Ns mainGlobals mg) (c : He.SaysD faL fnL K) : Dfn K mg "read_counted" (topS 32) ["data", "at"] := by
  obtain ⟨fd, F⟩ := c.def_ 15 (d := d_read_counted) rfl
  have F2 : Fun K "read_counted" "read_counted" (topS 32) _ fd := fun_ofD (ks := []) F
  exact ⟨_, fd, F2, He.glo_ok X G (c.fact 15 (f := .glo "read_counted") rfl), F2.binds (fun _ _ _ _ _ _ us hl => match us, hl with | [_, _], _ => rfl)⟩
theorem D__law_next (X : K.In h) (G : h.Ns mainGlobals mg) (c : He.SaysD faL fnL K) : Dfn K mg "_law_next" (topS 34) ["state", "limit"] := by
  obtain ⟨fd, F⟩ := c.def_ 16 (d := d__law_next) rfl
  have F2 : Fun K "_law_next" "_law_next" (topS 34) _ fd := fun_ofD (ks := []) F
  exact ⟨_, fd, F2, He.glo_ok X G (c.fact 16 (f := .glo "_law_next") rfl), F2.binds (fun _ _ _ _ _ _ us hl => match us, hl with | [_, _], _ => rfl)⟩
theorem D__law_same (X : K.In h) (G : h.Ns mainGlobals mg) (c : He.SaysD faL fnL K) : Dfn K mg "_law_same" (topS 35) ["actual", "expected"] := by
  obtain ⟨fd, F⟩ := c.def_ 17 (d := d__law_same) rfl
  have F2 : Fun K "_law_same" "_law_same" (topS 35) _ fd := fun_ofD (ks := []) F
  exact ⟨_, fd, F2, He.glo_ok X G (c.fact 17 (f := .glo "_law_same") rfl), F2.binds (fun _ _ _ _ _ _ us hl => match us, hl with | [_, _], _ => rfl)⟩
theorem D__law_value (X : K.In h) (G : h.Ns mainGlobals mg) (c : He.SaysD faL fnL K) : Dfn K mg "_law_value" (topS 36) ["state"] := by
  obtain ⟨fd, F⟩ := c.def_ 18 (d := d__law_value) rfl
  have F2 : Fun K "_law_value" "_law_value" (topS 36) _ fd := fun_ofD (ks := []) F
  exact ⟨_, fd, F2, He.glo_ok X G (c.fact 18 (f := .glo "_law_value") rfl), F2.binds (fun _ _ _ _ _ _ us hl => match us, hl with | [_], _ => rfl)⟩
theorem D__law_characters (X : K.In h) (G : h.Ns mainGlobals mg) (c : He.SaysD faL fnL K) : Dfn K mg "_law_characters" (topS 37) [] := by
  obtain ⟨fd, F⟩ := c.def_ 19 (d := d__law_characters) rfl
  have F2 : Fun K "_law_characters" "_law_characters" (topS 37) _ fd := fun_ofD (ks := []) F
  exact ⟨_, fd, F2, He.glo_ok X G (c.fact 19 (f := .glo "_law_characters") rfl), F2.binds (fun _ _ _ _ _ _ us hl => match us, hl with | [], _ => rfl)⟩
theorem D__law_bytes (X : K.In h) (G : h.Ns mainGlobals mg) (c : He.SaysD faL fnL K) : Dfn K mg "_law_bytes" (topS 38) ["values"] := by
  obtain ⟨fd, F⟩ := c.def_ 20 (d := d__law_bytes) rfl
  have F2 : Fun K "_law_bytes" "_law_bytes" (topS 38) _ fd := fun_ofD (ks := []) F
  exact ⟨_, fd, F2, He.glo_ok X G (c.fact 20 (f := .glo "_law_bytes") rfl), F2.binds (fun _ _ _ _ _ _ us hl => match us, hl with | [_], _ => rfl)⟩
theorem D__law_page_bytes (X : K.In h) (G : h.Ns mainGlobals mg) (c : He.SaysD faL fnL K) : Dfn K mg "_law_page_bytes" (topS 39) ["page"] := by
  obtain ⟨fd, F⟩ := c.def_ 21 (d := d__law_page_bytes) rfl
  have F2 : Fun K "_law_page_bytes" "_law_page_bytes" (topS 39) _ fd := fun_ofD (ks := []) F
  exact ⟨_, fd, F2, He.glo_ok X G (c.fact 21 (f := .glo "_law_page_bytes") rfl), F2.binds (fun _ _ _ _ _ _ us hl => match us, hl with | [_], _ => rfl)⟩
theorem D__law_values (X : K.In h) (G : h.Ns mainGlobals mg) (c : He.SaysD faL fnL K) : Dfn K mg "_law_values" (topS 40) ["data"] := by
  obtain ⟨fd, F⟩ := c.def_ 22 (d := d__law_values) rfl
  have F2 : Fun K "_law_values" "_law_values" (topS 40) _ fd := fun_ofD (ks := []) F
  exact ⟨_, fd, F2, He.glo_ok X G (c.fact 22 (f := .glo "_law_values") rfl), F2.binds (fun _ _ _ _ _ _ us hl => match us, hl with | [_], _ => rfl)⟩
theorem D__law_read (X : K.In h) (G : h.Ns mainGlobals mg) (c : He.SaysD faL fnL K) : Dfn K mg "_law_read" (topS 41) ["data"] := by
  obtain ⟨fd, F⟩ := c.def_ 23 (d := d__law_read) rfl
  have F2 : Fun K "_law_read" "_law_read" (topS 41) _ fd := fun_ofD (ks := []) F
  exact ⟨_, fd, F2, He.glo_ok X G (c.fact 23 (f := .glo "_law_read") rfl), F2.binds (fun _ _ _ _ _ _ us hl => match us, hl with | [_], _ => rfl)⟩
theorem D__law_told (X : K.In h) (G : h.Ns mainGlobals mg) (c : He.SaysD faL fnL K) : Dfn K mg "_law_told" (topS 42) ["data"] := by
  obtain ⟨fd, F⟩ := c.def_ 24 (d := d__law_told) rfl
  have F2 : Fun K "_law_told" "_law_told" (topS 42) _ fd := fun_ofD (ks := []) F
  exact ⟨_, fd, F2, He.glo_ok X G (c.fact 24 (f := .glo "_law_told") rfl), F2.binds (fun _ _ _ _ _ _ us hl => match us, hl with | [_], _ => rfl)⟩
theorem D__law_tried (X : K.In h) (G : h.Ns mainGlobals mg) (c : He.SaysD faL fnL K) : Dfn K mg "_law_tried" (topS 43) ["data"] := by
  obtain ⟨fd, F⟩ := c.def_ 25 (d := d__law_tried) rfl
  have F2 : Fun K "_law_tried" "_law_tried" (topS 43) _ fd := fun_ofD (ks := []) F
  exact ⟨_, fd, F2, He.glo_ok X G (c.fact 25 (f := .glo "_law_tried") rfl), F2.binds (fun _ _ _ _ _ _ us hl => match us, hl with | [_], _ => rfl)⟩
theorem D__law_key (X : K.In h) (G : h.Ns mainGlobals mg) (c : He.SaysD faL fnL K) : Dfn K mg "_law_key" (topS 44) ["state"] := by
  obtain ⟨fd, F⟩ := c.def_ 26 (d := d__law_key) rfl
  have F2 : Fun K "_law_key" "_law_key" (topS 44) _ fd := fun_ofD (ks := []) F
  exact ⟨_, fd, F2, He.glo_ok X G (c.fact 26 (f := .glo "_law_key") rfl), F2.binds (fun _ _ _ _ _ _ us hl => match us, hl with | [_], _ => rfl)⟩
theorem D__law_page (X : K.In h) (G : h.Ns mainGlobals mg) (c : He.SaysD faL fnL K) : Dfn K mg "_law_page" (topS 45) ["state"] := by
  obtain ⟨fd, F⟩ := c.def_ 27 (d := d__law_page) rfl
  have F2 : Fun K "_law_page" "_law_page" (topS 45) _ fd := fun_ofD (ks := []) F
  exact ⟨_, fd, F2, He.glo_ok X G (c.fact 27 (f := .glo "_law_page") rfl), F2.binds (fun _ _ _ _ _ _ us hl => match us, hl with | [_], _ => rfl)⟩
theorem D_law (X : K.In h) (G : h.Ns mainGlobals mg) (c : He.SaysD faL fnL K) : Dfn K mg "law" (topS 46) ["script"] := by
  obtain ⟨fd, F⟩ := c.def_ 28 (d := d_law) rfl
  have F2 : Fun K "law" "law" (topS 46) _ fd := fun_ofD (ks := []) F
  exact ⟨_, fd, F2, He.glo_ok X G (c.fact 28 (f := .glo "law") rfl), F2.binds (fun _ _ _ _ _ _ us hl => match us, hl with | [_], _ => rfl)⟩
theorem c_BOUND (X : K.In h) (G : h.Ns mainGlobals mg) (c : He.SaysD faL fnL K) : Cst mg "BOUND" (.int 1000000000) := by
  obtain ⟨t, e⟩ := He.int_ok X G (c.fact 48 (f := .int "BOUND" 1000000000) rfl)
  exact .int e
theorem c_LONGEST_TEXT (X : K.In h) (G : h.Ns mainGlobals mg) (c : He.SaysD faL fnL K) : Cst mg "LONGEST_TEXT" (.int 6) := by
  obtain ⟨t, e⟩ := He.int_ok X G (c.fact 49 (f := .int "LONGEST_TEXT" 6) rfl)
  exact .int e
theorem c_INTEGER (X : K.In h) (G : h.Ns mainGlobals mg) (c : He.SaysD faL fnL K) : Cst mg "INTEGER" (.int 1) := by
  obtain ⟨t, e⟩ := He.int_ok X G (c.fact 50 (f := .int "INTEGER" 1) rfl)
  exact .int e
theorem c_TEXT (X : K.In h) (G : h.Ns mainGlobals mg) (c : He.SaysD faL fnL K) : Cst mg "TEXT" (.int 2) := by
  obtain ⟨t, e⟩ := He.int_ok X G (c.fact 51 (f := .int "TEXT" 2) rfl)
  exact .int e
theorem c_SHIFT (X : K.In h) (G : h.Ns mainGlobals mg) (c : He.SaysD faL fnL K) : Cst mg "SHIFT" (.int 549755813888) := by
  obtain ⟨t, e⟩ := He.int_ok X G (c.fact 52 (f := .int "SHIFT" 549755813888) rfl)
  exact .int e
theorem c_CHARACTERS (X : K.In h) (G : h.Ns mainGlobals mg) (c : He.SaysD faL fnL K) : Cst mg "CHARACTERS" (.str CH) := by
  obtain ⟨t, e⟩ := He.str_ok X G (c.fact 53 (f := .str "CHARACTERS" CH) rfl)
  exact .str e
theorem c_SPACE_CODE (X : K.In h) (G : h.Ns mainGlobals mg) (c : He.SaysD faL fnL K) : Cst mg "SPACE_CODE" (.int 32) := by
  obtain ⟨t, e⟩ := He.int_ok X G (c.fact 54 (f := .int "SPACE_CODE" 32) rfl)
  exact .int e
theorem c_PERCENT_CODE (X : K.In h) (G : h.Ns mainGlobals mg) (c : He.SaysD faL fnL K) : Cst mg "PERCENT_CODE" (.int 37) := by
  obtain ⟨t, e⟩ := He.int_ok X G (c.fact 55 (f := .int "PERCENT_CODE" 37) rfl)
  exact .int e
theorem c_TILDE_CODE (X : K.In h) (G : h.Ns mainGlobals mg) (c : He.SaysD faL fnL K) : Cst mg "TILDE_CODE" (.int 126) := by
  obtain ⟨t, e⟩ := He.int_ok X G (c.fact 56 (f := .int "TILDE_CODE" 126) rfl)
  exact .int e
theorem c_PAGE_SIZE (X : K.In h) (G : h.Ns mainGlobals mg) (c : He.SaysD faL fnL K) : Cst mg "PAGE_SIZE" (.int 256) := by
  obtain ⟨t, e⟩ := He.int_ok X G (c.fact 57 (f := .int "PAGE_SIZE" 256) rfl)
  exact .int e
theorem c_LEAF (X : K.In h) (G : h.Ns mainGlobals mg) (c : He.SaysD faL fnL K) : Cst mg "LEAF" (.int 0) := by
  obtain ⟨t, e⟩ := He.int_ok X G (c.fact 58 (f := .int "LEAF" 0) rfl)
  exact .int e
theorem c_INNER (X : K.In h) (G : h.Ns mainGlobals mg) (c : He.SaysD faL fnL K) : Cst mg "INNER" (.int 1) := by
  obtain ⟨t, e⟩ := He.int_ok X G (c.fact 59 (f := .int "INNER" 1) rfl)
  exact .int e
end
section
variable {P : Program} {wd : World} {K : PySem.W.Frag} {base h : Heap} {mg : Str → Option Value}
theorem Q__law_characters (X : K.In h) (G : h.Ns mainGlobals mg) (c : He.SaysD faL fnL K) (k : ckL K = true) : Fnc P wd K mg base 1 "_law_characters" F__law_characters :=
  have B := bltL X G c
  fnc_mk (D__law_characters X G c) S__law_characters (fun f cdv A outer s H E hr => b__law_characters B  cdv A outer s H E hr) h__law_characters
theorem Q__law_next (X : K.In h) (G : h.Ns mainGlobals mg) (c : He.SaysD faL fnL K) (k : ckL K = true) : Sfn P wd K mg base 1 "_law_next" F__law_next :=
  have B := bltL X G c
  next_ok (D__law_next X G c) B
theorem Q_character_of (X : K.In h) (G : h.Ns mainGlobals mg) (c : He.SaysD faL fnL K) (k : ckL K = true) : Fnc P wd K mg base 1 "character_of" F_character_of :=
  have B := bltL X G c
  fnc_mk (D_character_of X G c) S_character_of (fun f cdv A outer s H E hr => b_character_of B (c_SPACE_CODE X G c) (c_TILDE_CODE X G c) (c_PERCENT_CODE X G c) (c_CHARACTERS X G c) cdv A outer s H E hr) h_character_of
theorem Q_counted (X : K.In h) (G : h.Ns mainGlobals mg) (c : He.SaysD faL fnL K) (k : ckL K = true) : Fnc P wd K mg base 1 "counted" F_counted :=
  have B := bltL X G c
  fnc_mk (D_counted X G c) S_counted (fun f cdv A outer s H E hr => b_counted B  cdv A outer s H E hr) h_counted
theorem Q_integer_bytes (X : K.In h) (G : h.Ns mainGlobals mg) (c : He.SaysD faL fnL K) (k : ckL K = true) : Fnc P wd K mg base 1 "integer_bytes" F_integer_bytes :=
  have B := bltL X G c
  fnc_mk (D_integer_bytes X G c) S_integer_bytes (fun f cdv A outer s H E hr => b_integer_bytes B (c_SHIFT X G c) (c_INTEGER X G c) cdv A outer s H E hr) h_integer_bytes
theorem Q_integer_of (X : K.In h) (G : h.Ns mainGlobals mg) (c : He.SaysD faL fnL K) (k : ckL K = true) : Fnc P wd K mg base 1 "integer_of" F_integer_of :=
  have B := bltL X G c
  fnc_mk (D_integer_of X G c) S_integer_of (fun f cdv A outer s H E hr => b_integer_of B (c_SHIFT X G c) (c_BOUND X G c) cdv A outer s H E hr) h_integer_of
theorem Q_read_counted (X : K.In h) (G : h.Ns mainGlobals mg) (c : He.SaysD faL fnL K) (k : ckL K = true) : FncX P wd K mg base 1 "read_counted" F_read_counted :=
  have B := bltL X G c
  fncx_mk (D_read_counted X G c) S_read_counted (fun f cdv A outer s H E hr => b_read_counted B (erL X G c k) cdv A outer s H E hr) h_read_counted
theorem Q_text_bytes (X : K.In h) (G : h.Ns mainGlobals mg) (c : He.SaysD faL fnL K) (k : ckL K = true) : Fnc P wd K mg base 1 "text_bytes" F_text_bytes :=
  have B := bltL X G c
  fnc_mk (D_text_bytes X G c) S_text_bytes (fun f cdv A outer s H E hr => b_text_bytes B (c_TEXT X G c) cdv A outer s H E hr) h_text_bytes
theorem Q__law_bytes (X : K.In h) (G : h.Ns mainGlobals mg) (c : He.SaysD faL fnL K) (k : ckL K = true) : Fnc P wd K mg base 2 "_law_bytes" F__law_bytes :=
  have B := bltL X G c
  fnc_mk (D__law_bytes X G c) S__law_bytes (fun f cdv A outer s H E hr => b__law_bytes B (Q__law_characters X G c k) cdv A outer s H E hr) h__law_bytes
theorem Q__law_value (X : K.In h) (G : h.Ns mainGlobals mg) (c : He.SaysD faL fnL K) (k : ckL K = true) : Sfn P wd K mg base 2 "_law_value" F__law_value :=
  have B := bltL X G c
  sfn_mk (D__law_value X G c) S__law_value (by decide) (fun f a l ns cdv A outer s H E hr => b__law_value B (Q__law_next X G c k) (Q__law_characters X G c k) a l ns cdv A outer s H E hr) h__law_value
theorem Q__law_values (X : K.In h) (G : h.Ns mainGlobals mg) (c : He.SaysD faL fnL K) (k : ckL K = true) : Fnc P wd K mg base 2 "_law_values" F__law_values :=
  have B := bltL X G c
  fnc_mk (D__law_values X G c) S__law_values (fun f cdv A outer s H E hr => b__law_values B (Q__law_characters X G c k) cdv A outer s H E hr) h__law_values
theorem Q_inner_bytes (X : K.In h) (G : h.Ns mainGlobals mg) (c : He.SaysD faL fnL K) (k : ckL K = true) : Fnc P wd K mg base 2 "inner_bytes" F_inner_bytes :=
  have B := bltL X G c
  fnc_mk (D_inner_bytes X G c) S_inner_bytes (fun f cdv A outer s H E hr => b_inner_bytes B (c_INNER X G c) (Q_counted X G c k) cdv A outer s H E hr) h_inner_bytes
theorem Q_key_of (X : K.In h) (G : h.Ns mainGlobals mg) (c : He.SaysD faL fnL K) (k : ckL K = true) : Fnc P wd K mg base 2 "key_of" F_key_of :=
  have B := bltL X G c
  fnc_mk (D_key_of X G c) S_key_of (fun f cdv A outer s H E hr => b_key_of B (Q_text_bytes X G c k) (Q_integer_bytes X G c k) cdv A outer s H E hr) h_key_of
theorem Q_read_children (X : K.In h) (G : h.Ns mainGlobals mg) (c : He.SaysD faL fnL K) (k : ckL K = true) : FncX P wd K mg base 2 "read_children" F_read_children :=
  have B := bltL X G c
  fncx_mk (D_read_children X G c) S_read_children (fun f cdv A outer s H E hr => b_read_children B (Q_read_counted X G c k) (erL X G c k) cdv A outer s H E hr) h_read_children
theorem Q_text_of (X : K.In h) (G : h.Ns mainGlobals mg) (c : He.SaysD faL fnL K) (k : ckL K = true) : Fnc P wd K mg base 2 "text_of" F_text_of :=
  have B := bltL X G c
  fnc_mk (D_text_of X G c) S_text_of (fun f cdv A outer s H E hr => b_text_of B (Q_character_of X G c k) (c_LONGEST_TEXT X G c) cdv A outer s H E hr) h_text_of
theorem Q__law_key (X : K.In h) (G : h.Ns mainGlobals mg) (c : He.SaysD faL fnL K) (k : ckL K = true) : Sfn P wd K mg base 3 "_law_key" F__law_key :=
  have B := bltL X G c
  sfn_mk (D__law_key X G c) S__law_key (by decide) (fun f a l ns cdv A outer s H E hr => b__law_key B (Q__law_next X G c k) (Q__law_bytes X G c k) (Q__law_value X G c k) a l ns cdv A outer s H E hr) h__law_key
theorem Q__law_page_bytes (X : K.In h) (G : h.Ns mainGlobals mg) (c : He.SaysD faL fnL K) (k : ckL K = true) : Fnc P wd K mg base 3 "_law_page_bytes" F__law_page_bytes40 :=
  have B := bltL X G c
  fnc_mk (D__law_page_bytes X G c) S__law_page_bytes (fun f cdv A outer s H E hr => b__law_page_bytes B (Q__law_bytes X G c k) cdv A outer s H E hr) h__law_page_bytes
theorem Q__law_read (X : K.In h) (G : h.Ns mainGlobals mg) (c : He.SaysD faL fnL K) (k : ckL K = true) : Fnc P wd K mg base 3 "_law_read" F__law_read40 :=
  have B := bltL X G c
  fnc_mk (D__law_read X G c) S__law_read (fun f cdv A outer s H E hr => b__law_read B (Q__law_values X G c k) cdv A outer s H E hr) h__law_read
theorem Q_leaf_bytes (X : K.In h) (G : h.Ns mainGlobals mg) (c : He.SaysD faL fnL K) (k : ckL K = true) : Fnc P wd K mg base 3 "leaf_bytes" F_leaf_bytes :=
  have B := bltL X G c
  fnc_mk (D_leaf_bytes X G c) S_leaf_bytes (fun f cdv A outer s H E hr => b_leaf_bytes B (c_LEAF X G c) (Q_counted X G c k) (Q_key_of X G c k) cdv A outer s H E hr) h_leaf_bytes
theorem Q_value_at (X : K.In h) (G : h.Ns mainGlobals mg) (c : He.SaysD faL fnL K) (k : ckL K = true) : Fnc P wd K mg base 3 "value_at" F_value_at :=
  have B := bltL X G c
  fnc_mk (D_value_at X G c) S_value_at (fun f cdv A outer s H E hr => b_value_at B (c_INTEGER X G c) (Q_integer_of X G c k) (c_TEXT X G c) (Q_text_of X G c k) cdv A outer s H E hr) h_value_at
theorem Q__law_page (X : K.In h) (G : h.Ns mainGlobals mg) (c : He.SaysD faL fnL K) (k : ckL K = true) : Sfn P wd K mg base 4 "_law_page" F__law_page40 :=
  have B := bltL X G c
  sfn_mk (D__law_page X G c) S__law_page (by decide) (fun f a l ns cdv A outer s H E hr => b__law_page B (Q__law_next X G c k) (Q__law_key X G c k) (Q__law_value X G c k) (Q__law_page_bytes X G c k) a l ns cdv A outer s H E hr) h__law_page
theorem Q_values_of (X : K.In h) (G : h.Ns mainGlobals mg) (c : He.SaysD faL fnL K) (k : ckL K = true) : Fnc P wd K mg base 4 "values_of" F_values_of :=
  have B := bltL X G c
  fnc_mk (D_values_of X G c) S_values_of (fun f cdv A outer s H E hr => b_values_of B (Q_value_at X G c k) cdv A outer s H E hr) h_values_of
theorem Q_write_page (X : K.In h) (G : h.Ns mainGlobals mg) (c : He.SaysD faL fnL K) (k : ckL K = true) : Fnc P wd K mg base 4 "write_page" F_write_page :=
  have B := bltL X G c
  fnc_mk (D_write_page X G c) S_write_page (fun f cdv A outer s H E hr => b_write_page B (Q_leaf_bytes X G c k) (Q_inner_bytes X G c k) (c_PAGE_SIZE X G c) cdv A outer s H E hr) h_write_page
theorem Q__law_same (X : K.In h) (G : h.Ns mainGlobals mg) (c : He.SaysD faL fnL K) (k : ckL K = true) : Fnc P wd K mg base 5 "_law_same" F__law_same :=
  have B := bltL X G c
  same_rec (D__law_same X G c) B 5
theorem Q_read_entries (X : K.In h) (G : h.Ns mainGlobals mg) (c : He.SaysD faL fnL K) (k : ckL K = true) : FncX P wd K mg base 5 "read_entries" F_read_entries :=
  have B := bltL X G c
  fncx_mk (D_read_entries X G c) S_read_entries (fun f cdv A outer s H E hr => b_read_entries B (Q_read_counted X G c k) (Q_values_of X G c k) (erL X G c k) cdv A outer s H E hr) h_read_entries
theorem Q_read_page (X : K.In h) (G : h.Ns mainGlobals mg) (c : He.SaysD faL fnL K) (k : ckL K = true) : FncX P wd K mg base 6 "read_page" F_read_page :=
  have B := bltL X G c
  fncx_mk (D_read_page X G c) S_read_page (fun f cdv A outer s H E hr => b_read_page B (c_PAGE_SIZE X G c) (erL X G c k) (c_LEAF X G c) (Q_read_entries X G c k) (c_INNER X G c) (Q_read_children X G c k) cdv A outer s H E hr) h_read_page
theorem Q__law_told (X : K.In h) (G : h.Ns mainGlobals mg) (c : He.SaysD faL fnL K) (k : ckL K = true) : Fnc P wd K mg base 7 "_law_told" F__law_told :=
  have B := bltL X G c
  fnc_mk (D__law_told X G c) S__law_told (fun f cdv A outer s H E hr => b__law_told B (erL X G c k) (Q_read_page X G c k) cdv A outer s H E hr) h__law_told
theorem Q__law_tried (X : K.In h) (G : h.Ns mainGlobals mg) (c : He.SaysD faL fnL K) (k : ckL K = true) : Fnc P wd K mg base 8 "_law_tried" F__law_tried :=
  have B := bltL X G c
  fnc_mk (D__law_tried X G c) S__law_tried (fun f cdv A outer s H E hr => b__law_tried B (Q__law_read X G c k) (Q__law_told X G c k) (Q__law_same X G c k) (Q_write_page X G c k) cdv A outer s H E hr) h__law_tried
theorem law_fn {f : Addr} {fd : FuncData} (Fn : Fun K "law" "law" s_law f fd) (X : K.In h) (G : h.Ns mainGlobals mg) (c : He.SaysD faL fnL K) (k : ckL K = true) : FnOk P wd K mg base CX0 9 f fd ["script"] (spLaw K) := by
  have B := bltL X G c
  refine Fn.ok S_law (fun vs H Q E h => ?_) (fun cdv A outer s H vs Q E hr h => ?_)
  · obtain ⟨a, ns, rfl, _⟩ := h
    rfl
  obtain ⟨a, ns, rfl, hs, hq⟩ := h
  refine ⟨_, pss_cons (ps_set (i := 1) S_law.nd rfl (by first | exact .inl rfl | exact .inr rfl) (pe_lst (pa_cons (pe_callTy call_list_of (by rfl) B.list bt_list (pa_cons (pv 0) pa_nil)) (pa_cons pe_int (pa_cons pe_int (pa_cons pe_int pa_nil)))))) pss_any, ?_⟩
  refine ⟨_, rfl, a, _, rfl, .inl hs, fun l hl => ⟨by show 4 ≤ sizeLine; decide, fun q hp => ?_⟩⟩
  obtain ⟨ts, t1, t2⟩ := b_law B (Q__law_page X G c k) (Q__law_page_bytes X G c k) (Q__law_same X G c k) (Q_write_page X G c k) (Q_read_page X G c k) (Q__law_next X G c k) (Q__law_tried X G c k) q l ns cdv A outer s H E hr
  refine ⟨ts, t1, ?_⟩
  have hlq : l ≠ q := fun e => by
    subst e
    rw [upd_same] at hp
    cases hp
  have wd0 : (wst q l ns).W (upd (upd H l (.lst (ns.map V.int))) q (.lst [.ref l, .int 0, .int 0, .int 1])) := by
    refine ⟨?_, hlq, 0, 0, 1, upd_same, Nat.zero_le _, by decide, by decide, by decide⟩
    rw [upd_ne hlq]; exact upd_same
  have k0 : Okw (wst q l ns) (fun _ => none) (upd (upd H l (.lst (ns.map V.int))) q (.lst [.ref l, .int 0, .int 0, .int 1])) := by
    refine ⟨fun _ _ e => (nomatch e), wd0, fun _ _ => rfl, fun x hx => ?_⟩
    rcases hx with rfl | rfl
    · rw [upd_same]; exact fun z => nomatch z
    · rw [upd_ne hlq, upd_same]; exact fun z => nomatch z
  refine t2 (fun _ => none) _ (fun _ => none) _ (startL q) _ _ (endsD fun d => d = .bool true) k0 ⟨fun _ => none, k0.stp, Sub.rfl, ⟨rfl, fun i d h => ?_, fun i b h => ?_⟩, fun i es h => ?_, fun i j es fs b h => ?_⟩ (h_law q _ rfl) ⟨fun σ ρ H' s' h' => (by cases h'), fun v d G' H' s' r' h' => ?_, fun _ _ _ _ h' => h'.elim, fun _ _ _ _ h' => h'.elim, fun _ _ _ _ _ h' => h'.elim⟩
  · exact startL_dat h
  · obtain ⟨rfl, rfl⟩ := startL_adr h
    rfl
  · exact (startL_own h).elim
  · exact (startL_own h).elim
  · subst h'
    cases r' with
    | bl b => exact hq _
end
theorem facts {P : Program} {w : World} {K : PySem.W.Frag} {h : Heap} {mg : Str → Option Value} {f : Addr} (X : K.In h) (G : h.Ns mainGlobals mg) (hfa : mg ("law" : Str) = some (.ref f)) (c : He.SaysD faL fnL K) (k : ckL K = true) :
    ∃ fd : FuncData, (∀ (s : Shared) (v : Value), BindsTo s fd ⟨[v], []⟩ [("script", v)]) ∧ ∀ base : Heap, FnOk P w K mg base CX0 9 f fd ["script"] (spLaw K) := by
  obtain ⟨fd, F⟩ := c.def_ 28 (d := d_law) rfl
  have Fn : Fun K "law" "law" (topS 46) _ fd := fun_ofD (ks := []) F
  have e := hfa.symm.trans (He.glo_ok X G (c.fact 28 (f := .glo "law") rfl))
  have ef := Value.ref.inj (Option.some.inj e)
  subst ef
  have b := FunD.bindsA (ps := ["script"]) F fun _ _ _ _ _ _ us hl => match us, hl with | [_], _ => rfl
  exact ⟨fd, fun s v => b s [v] rfl, fun base => law_fn Fn X G c k⟩

abbrev R : PySem.W.OpenRow := PySem.W.OpenLaw.row PySem.Challenge.rw_sameanswer_k40_pages_of_any_bytes
abbrev hk : PySem.W.Hook := hkE ckL 4 faL fnL
def ob (s : PySem.W.SharedT) : Bool × He.AlD := obE ckL 4 faL fnL (HandSHeadRun.getT s)
theorem ob_eq (s : PySem.W.SharedT) : ob s = hk.obs s.abs := obE_eq (HandSHeadRun.getT_eq s)
def nmL : List PySem.Str := (["AnswerError", "DamagedData", "BOUND", "LONGEST_TEXT", "INTEGER", "TEXT", "SHIFT", "CHARACTERS", "SPACE_CODE", "PERCENT_CODE", "TILDE_CODE", "key_of", "integer_bytes", "text_bytes", "values_of", "value_at", "integer_of", "text_of", "character_of", "PAGE_SIZE"] : List PySem.Str) ++ (["LEAF", "INNER", "write_page", "leaf_bytes", "inner_bytes", "counted", "read_page", "read_entries", "read_children", "read_counted", "_law_next", "_law_same", "_law_value", "_law_characters", "_law_bytes", "_law_page_bytes", "_law_values", "_law_read", "_law_told", "_law_tried"] : List PySem.Str) ++ (["_law_key", "_law_page"] : List PySem.Str)
theorem run (w : World) : HandSHeadRun.RunEq R (PySem.W.view R.prog [46]) hk ob 4000 nmL w := by
  intro os
  kernel_rfl
end Z1
open PySem PySem.W PySem.Calls PyProof.Rows
set_option maxRecDepth 100000 in
set_option maxHeartbeats 0 in
theorem PySem.Challenge.cw_sameanswer_k40_pages_of_any_bytes_holds : PySem.Challenge.rw_sameanswer_k40_pages_of_any_bytes.Holds := by
  w_on; o_law
  refine HandSHeadRun.head_any (r := OpenLaw.row PySem.Challenge.rw_sameanswer_k40_pages_of_any_bytes) (q := view (OpenLaw.row PySem.Challenge.rw_sameanswer_k40_pages_of_any_bytes).prog [46]) (H := Z1.hk) (ob := Z1.ob) (M := 4000) (loose := Z1.nmL) (d := HandSHeadRun.topDef (OpenLaw.row PySem.Challenge.rw_sameanswer_k40_pages_of_any_bytes).prog 46) (kwd := []) Z1.ob_eq
    (by kernel_rfl) (fun s => by kernel_rfl) Z1.run (by kernel_rfl) (by kernel_rfl) (by kernel_rfl) (by rfl) (by first | assumption | decide +kernel) (by decide +kernel) ⟨rfl, rfl, rfl, rfl, rfl, by decide +kernel⟩ ?hw ?hc
  case hw => w_witness2
  case hc =>
    refine L2.walk_ofE (l := PySem.Challenge.rw_sameanswer_k40_pages_of_any_bytes) (n := 63) (k := 9) (x := "script") (CX := L2.CX0) rfl (by decide) (by kernel_rfl) ⟨rfl, by decide, by decide⟩ ?F (fun _ _ _ _ z => z)
    intro w mg fa h Y G hmg0
    obtain ⟨K, KX, ck, c⟩ := Y
    have hmg : mg ("law" : PySem.Str) = some (.ref fa) := by
      have e : (HandSHeadRun.topDef (OpenLaw.row PySem.Challenge.rw_sameanswer_k40_pages_of_any_bytes).prog 46).name = ("law" : PySem.Str) := by kernel_rfl
      rw [← e]
      exact hmg0
    obtain ⟨fd, hb, hF⟩ := Z1.facts (P := (PySem.Challenge.rw_sameanswer_k40_pages_of_any_bytes).prog) (w := w) KX G hmg c ck
    exact ⟨K, fd, Z.spLaw K, KX, hb, fun H a ns hl _ hS => ⟨a, ns, rfl, hS, fun _ => rfl⟩, fun base _ _ => hF base⟩

