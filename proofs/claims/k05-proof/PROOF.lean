import PyProof.Rows.All
import Wide.All
import OpenK.AllK
import Wide.FinOn
import HandS.ForMost
import HandS.IsInst
import HandS.TupAny
import HandS.WideMore
import HandS.Deep
import HandS.Replace
import HandS.TupLe
import HandS.Walk
import HandS.Exc
import HandS.TryOnly
import HandS.ExcOwn
import HandS.WordsExc
import HandS.ExcIs
import HandS.HeadHook1
import KE.DataCmp
import KE.DataEq
import KE.DatumOrd
import KE.DataMinMax
import KE.GoesEnum
import HandS.Rev
import HandS.Zip
import HandS.FStr
import HandS.RaiseMore
import HandS.TupMul
import KE.KStateDown
import HandS.Defaults
import HandS.Head0
import HandS.Head1
import HandS.Head2
import HandS.HeadEnd
import HandS.HeadHook2
import PySem.Challenge.RW_sameanswer_k05_disk_keeps_what_was_synce
set_option Elab.async false
set_option linter.all false
set_option maxRecDepth 100000
set_option maxHeartbeats 4000000
/-! Z: a def's meaning over plain data (PyData): what each construct asks and gives, without the heap. -/
namespace Z
open PySem PySem.Spec PyProof.Rows L2

abbrev DD := PyData
def Sub (G H : Hp) : Prop := ∀ a o, G a = some o → H a = some o
theorem Sub.rfl {G : Hp} : Sub G G := fun _ _ h => h
theorem Sub.trans {G H I : Hp} (a : Sub G H) (b : Sub H I) : Sub G I := fun x o h => b x o (a x o h)
theorem Sub.rd {G H : Hp} (s : Sub G H) {a : Addr} {u : HO} (h : Rd G a u) : Rd H a u := by
  rcases h with h | ⟨o, h⟩
  · exact Or.inl (s a _ h)
  · exact Or.inr ⟨o, s a _ h⟩
theorem Sub.sqT {K : PySem.W.Frag} {G H : Hp} (s : Sub G H) {a : Addr} {xs : List V} (h : SqT K G a xs) : SqT K H a xs := by
  rcases h with h | h
  · exact Or.inl (s.rd h)
  · exact Or.inr h
theorem Sub.sqL {K : PySem.W.Frag} {G H : Hp} (s : Sub G H) {a : Addr} {xs : List V} (h : SqL K G a xs) : SqL K H a xs := by
  rcases h with h | h
  · exact Or.inl (s.rd h)
  · exact Or.inr h
theorem Sub.new {H : Hp} {p : Addr} {o : HO} (h : H p = none) : Sub H (upd H p o) := fun a u e => by
  rw [upd_ne (ne_of_none e h)]; exact e
theorem Sub.both {G H : Hp} (s : Sub G H) {p : Addr} {o : HO} : Sub (upd G p o) (upd H p o) := fun a u e => by
  by_cases h : a = p
  · subst h; rw [upd_same] at e ⊢; exact e
  · rw [upd_ne h] at e ⊢; exact s a u e

mutual
inductive Rp (K : PySem.W.Frag) (G : Hp) : V → DD → Prop
  | non : Rp K G .non .none
  | bl (b : Bool) : Rp K G (.bl b) (.bool b)
  | int (i : Int) : Rp K G (.int i) (.int i)
  | str (x : Str) : Rp K G (.str x) (.str x)
  | lst {a : Addr} {xs : List V} {ds : List DD} : G a = some (.lst xs) → RpAll K G xs ds → Rp K G (.ref a) (.list ds)
  | tup {a : Addr} {xs : List V} {ds : List DD} : SqT K G a xs → RpAll K G xs ds → Rp K G (.ref a) (.tuple ds)
inductive RpAll (K : PySem.W.Frag) (G : Hp) : List V → List DD → Prop
  | nil : RpAll K G [] []
  | cons {v : V} {vs : List V} {d : DD} {ds : List DD} : Rp K G v d → RpAll K G vs ds → RpAll K G (v :: vs) (d :: ds)
end
section
variable {K : PySem.W.Frag} {G H : Hp}
mutual
theorem Rp.mono (s : Sub G H) : ∀ {v : V} {d : DD}, Rp K G v d → Rp K H v d
  | _, _, .non => .non
  | _, _, .bl b => .bl b
  | _, _, .int i => .int i
  | _, _, .str x => .str x
  | _, _, .lst h r => .lst (s _ _ h) (RpAll.mono s r)
  | _, _, .tup h r => .tup (s.sqT h) (RpAll.mono s r)
theorem RpAll.mono (s : Sub G H) : ∀ {vs : List V} {ds : List DD}, RpAll K G vs ds → RpAll K H vs ds
  | _, _, .nil => .nil
  | _, _, .cons a b => .cons (Rp.mono s a) (RpAll.mono s b)
end
mutual
theorem Rp.dp : ∀ {v : V} {d : DD}, Rp K G v d → Dp K G v d
  | _, _, .non => .non
  | _, _, .bl b => .bl b
  | _, _, .int i => .int i
  | _, _, .str x => .str x
  | _, _, .lst h r => .lst (SqL.of h) (RpAll.dp r)
  | _, _, .tup h r => .tup h (RpAll.dp r)
theorem RpAll.dp : ∀ {vs : List V} {ds : List DD}, RpAll K G vs ds → DpAll K G vs ds
  | _, _, .nil => .nil
  | _, _, .cons a b => .cons (Rp.dp a) (RpAll.dp b)
end
theorem RpAll.len : ∀ {vs : List V} {ds : List DD}, RpAll K G vs ds → vs.length = ds.length
  | _, _, .nil => rfl
  | _, _, .cons _ b => congrArg (· + 1) (RpAll.len b)
theorem RpAll.get : ∀ {vs : List V} {ds : List DD} {i : Nat} {v : V}, RpAll K G vs ds → vs[i]? = some v → ∃ d, ds[i]? = some d ∧ Rp K G v d
  | _, _, _, _, .nil, h => by simp at h
  | _, _, 0, _, .cons a b, h => by
    have e := Option.some.inj h
    subst e
    exact ⟨_, rfl, a⟩
  | _, _, i + 1, _, .cons a b, h => RpAll.get (i := i) b h
theorem RpAll.getD : ∀ {vs : List V} {ds : List DD} {i : Nat} {d : DD}, RpAll K G vs ds → ds[i]? = some d → ∃ v, vs[i]? = some v ∧ Rp K G v d
  | _, _, _, _, .nil, h => by simp at h
  | _, _, 0, _, .cons a b, h => by
    have e := Option.some.inj h
    subst e
    exact ⟨_, rfl, a⟩
  | _, _, i + 1, _, .cons a b, h => RpAll.getD (i := i) b h
theorem RpAll.append : ∀ {vs ws : List V} {ds es : List DD}, RpAll K G vs ds → RpAll K G ws es → RpAll K G (vs ++ ws) (ds ++ es)
  | _, _, _, _, .nil, h => h
  | _, _, _, _, .cons a b, h => .cons a (RpAll.append b h)
theorem RpAll.take : ∀ {vs : List V} {ds : List DD} (n : Nat), RpAll K G vs ds → RpAll K G (vs.take n) (ds.take n)
  | _, _, 0, _ => .nil
  | _, _, _ + 1, .nil => .nil
  | _, _, n + 1, .cons a b => .cons a (RpAll.take n b)
theorem RpAll.drop : ∀ {vs : List V} {ds : List DD} (n : Nat), RpAll K G vs ds → RpAll K G (vs.drop n) (ds.drop n)
  | _, _, 0, h => h
  | _, _, _ + 1, .nil => .nil
  | _, _, n + 1, .cons a b => RpAll.drop n b
end

/-! ### the world: what may turn besides -/
/-- fp: where what W says stands; st: what of it may turn -/
structure Wd where
  st : Addr → Prop
  fp : Addr → Prop
  W : Hp → Prop
  sf : ∀ a, st a → fp a
  loc : ∀ {H H' : Hp}, (∀ a, fp a → H' a = H a) → W H → W H'
  /-- what is wished where an error leaves -/
  ex : WX
def Wd.zero : Wd := ⟨fun _ => False, fun _ => False, fun _ => True, fun _ h => h, fun _ _ => trivial, fun _ _ _ _ => False⟩
/-- the same world with another wish -/
def Wd.wish (w : Wd) (W : WX) : Wd := { w with ex := W }
structure Okw (w : Wd) (G H : Hp) : Prop where
  sub : Sub G H
  wd : w.W H
  out : ∀ a, w.st a → G a = none
  here : ∀ a, w.fp a → H a ≠ none
structure Stp (w : Wd) (G H G2 H2 : Hp) : Prop where
  sub : Sub G2 H2
  up : Sub G G2
  kp : ∀ a o, ¬ w.st a → H a = some o → H2 a = some o
  th : ∀ a, H a ≠ none → H2 a ≠ none
  nw : ∀ a, H a ≠ none → G a = none → G2 a = none
  wd : w.W H2
section
variable {w : Wd} {G H G2 H2 G3 H3 : Hp}
theorem Okw.stp (k : Okw w G H) : Stp w G H G H := ⟨k.sub, Sub.rfl, fun _ _ _ h => h, fun _ h => h, fun _ _ h => h, k.wd⟩
theorem Stp.trans (a : Stp w G H G2 H2) (b : Stp w G2 H2 G3 H3) : Stp w G H G3 H3 :=
  ⟨b.sub, a.up.trans b.up, fun x o n h => b.kp x o n (a.kp x o n h), fun x h => b.th x (a.th x h), fun x h n => b.nw x (a.th x h) (a.nw x h n), b.wd⟩
theorem Stp.okw (k : Okw w G H) (a : Stp w G H G2 H2) : Okw w G2 H2 :=
  ⟨a.sub, a.wd, fun x h => a.nw x (k.here x (w.sf x h)) (k.out x h), fun x h => a.th x (k.here x h)⟩
theorem Okw.new (k : Okw w G H) {p : Addr} {o : HO} (h : H p = none) : w.W (upd H p o) := w.loc (fun a f => upd_ne fun z => k.here a f (by rw [z]; exact h)) k.wd
theorem Stp.new (k : Okw w G H) {p : Addr} {o : HO} (h : H p = none) : Stp w G H (upd G p o) (upd H p o) := by
  have gp : G p = none := by
    cases e : G p with
    | none => rfl
    | some u => rw [k.sub p u e] at h; cases h
  refine ⟨k.sub.both, Sub.new gp, fun a u _ e => Sub.new h a u e, fun a e => ?_, fun a e n => ?_, k.new h⟩
  · have ne : a ≠ p := fun z => e (by rw [z]; exact h)
    rw [upd_ne ne]; exact e
  · have ne : a ≠ p := fun z => e (by rw [z]; exact h)
    rw [upd_ne ne]; exact n
/-- a new object that G does not take up -/
theorem Stp.new0 (k : Okw w G H) {p : Addr} {o : HO} (h : H p = none) : Stp w G H G (upd H p o) := by
  refine ⟨k.sub.trans (Sub.new h), Sub.rfl, fun a u _ e => Sub.new h a u e, fun a e => ?_, fun a e n => n, k.new h⟩
  have ne : a ≠ p := fun z => e (by rw [z]; exact h)
  rw [upd_ne ne]; exact e
theorem Okw.g_none (k : Okw w G H) {p : Addr} (h : H p = none) : G p = none := by
  cases e : G p with
  | none => rfl
  | some u => rw [k.sub p u e] at h; cases h
/-- something that was new is written -/
theorem Stp.mut {H0 G0 : Hp} (k0 : Okw w G0 H0) (a : Stp w G0 H0 G H) {p : Addr} {o : HO} (h0 : H0 p = none) (hg : G p = none) : Stp w G0 H0 G (upd H p o) := by
  refine ⟨fun x u e => ?_, a.up, fun x u n e => ?_, fun x e => ?_, a.nw, w.loc (fun x f => upd_ne fun z => k0.here x f (by rw [z]; exact h0)) a.wd⟩
  · rw [upd_ne (ne_of_none e hg)]; exact a.sub x u e
  · rw [upd_ne (ne_of_none e h0)]; exact a.kp x u n e
  · rw [upd_ne (fun z => e (by rw [z]; exact h0))]; exact a.th x e
theorem Okw.mut (k : Okw w G H) {p : Addr} {o : HO} (hf : ¬ w.fp p) (hg : G p = none) : Okw w G (upd H p o) := by
  refine ⟨fun x u e => ?_, w.loc (fun x f => upd_ne fun (z : x = p) => hf (by rw [← z]; exact f)) k.wd, k.out, fun x f => ?_⟩
  · rw [upd_ne (ne_of_none e hg)]; exact k.sub x u e
  · rw [upd_ne fun (z : x = p) => hf (by rw [← z]; exact f)]; exact k.here x f
/-- what a pure callee did, in any world -/
theorem Stp.lift (k : Okw w G H) (a : Stp Wd.zero G H G2 H2) : Stp w G H G2 H2 :=
  ⟨a.sub, a.up, fun x o _ h => a.kp x o (fun z => z) h, a.th, a.nw, w.loc (fun x f => by
    cases e : H x with
    | none => exact absurd e (k.here x f)
    | some o => exact a.kp x o (fun z => z) e) k.wd⟩
theorem Okw.zero (k : Okw w G H) : Okw Wd.zero G H := ⟨k.sub, trivial, fun _ h => h.elim, fun _ h => h.elim⟩
theorem Okw.wish {W : WX} (k : Okw w G H) : Okw (w.wish W) G H := ⟨k.sub, k.wd, k.out, k.here⟩
theorem Stp.wish {W : WX} (a : Stp w G H G2 H2) : Stp (w.wish W) G H G2 H2 := ⟨a.sub, a.up, a.kp, a.th, a.nw, a.wd⟩
theorem Stp.unwish {W : WX} (a : Stp (w.wish W) G H G2 H2) : Stp w G H G2 H2 := ⟨a.sub, a.up, a.kp, a.th, a.nw, a.wd⟩
end

/-! ### slots -/
inductive Ent where
  | un
  | dat (d : DD)
  | adr (a : Addr)
  | own (ds : List DD)
abbrev En := List Ent
structure SlOk (K : PySem.W.Frag) (G : Hp) (σ : L2.St) (ρ : En) : Prop where
  len : σ.length = ρ.length
  dat : ∀ (i : Nat) d, ρ[i]? = some (.dat d) → ∃ v, σ[i]? = some (some v) ∧ Rp K G v d
  adr : ∀ (i : Nat) a, ρ[i]? = some (.adr a) → σ[i]? = some (some (.ref a))
theorem SlOk.mono {K : PySem.W.Frag} {G H : Hp} {σ : L2.St} {ρ : En} (s : Sub G H) (h : SlOk K G σ ρ) : SlOk K H σ ρ :=
  ⟨h.len, fun i d e => let ⟨v, a, b⟩ := h.dat i d e; ⟨v, a, b.mono s⟩, h.adr⟩

/-! ### the readings over data -/
abbrev DE := En → (DD → Prop) → Prop
abbrev DT := En → (Bool → Prop) → Prop
abbrev DA := En → (List DD → Prop) → Prop
def RE (w : Wd) (K : PySem.W.Frag) (te : TE) (td : DE) : Prop := ∀ σ ρ G H (P : DD → Prop) (Q : VK), Okw w G H → SlOk K G σ ρ → td ρ P →
  (∀ v d G2 H2, Stp w G H G2 H2 → Rp K G2 v d → P d → Q v H2) → te σ H Q
def RT (w : Wd) (K : PySem.W.Frag) (tt : TT) (td : DT) : Prop := ∀ σ ρ G H (P : Bool → Prop) (Q : Bool → Hp → Prop), Okw w G H → SlOk K G σ ρ → td ρ P →
  (∀ b G2 H2, Stp w G H G2 H2 → P b → Q b H2) → tt σ H Q
def RA (w : Wd) (K : PySem.W.Frag) (n : Nat) (ta : TA) (td : DA) : Prop := ∀ σ ρ G H (P : List DD → Prop) (Q : List V → Hp → Prop), Okw w G H → SlOk K G σ ρ → td ρ P →
  (∀ vs ds G2 H2, Stp w G H G2 H2 → RpAll K G2 vs ds → vs.length = n → P ds → Q vs H2) → ta σ H Q
/-- a new list that nobody knows yet -/
def RN (w : Wd) (K : PySem.W.Frag) (te : TE) (td : DA) : Prop := ∀ σ ρ G H (P : List DD → Prop) (Q : VK), Okw w G H → SlOk K G σ ρ → td ρ P →
  (∀ p xs ds G2 H2, Stp w G H G2 H2 → H p = none → G2 p = none → H2 p = some (.lst xs) → RpAll K G2 xs ds → P ds → Q (.ref p) H2) → te σ H Q
structure PD (w : Wd) (X : Cx) (e : Expr) (td : DE) : Prop where
  ex : ∃ te, PE X e te ∧ RE w X.K te td
structure PDT (w : Wd) (X : Cx) (e : Expr) (td : DT) : Prop where
  ex : ∃ te, PT X e te ∧ RT w X.K te td
structure PDW (w : Wd) (X : Cx) (e : Expr) (td : DT) : Prop where
  ex : ∃ te, PW X e te ∧ RT w X.K te td
structure PDA (w : Wd) (X : Cx) (es : List Expr) (td : DA) : Prop where
  ex : ∃ te, PA X es te ∧ RA w X.K es.length te td
structure PDN (w : Wd) (X : Cx) (e : Expr) (td : DA) : Prop where
  ex : ∃ te, PE X e te ∧ RN w X.K te td
/-- an operation on two data -/
abbrev D2 := DD → DD → (DD → Prop) → Prop
def RO (w : Wd) (K : PySem.W.Frag) (r : R2) (g : D2) : Prop := ∀ x y d e G H (P : DD → Prop) (Q : VK), Okw w G H → Rp K G x d → Rp K G y e → g d e P →
  (∀ v d G2 H2, Stp w G H G2 H2 → Rp K G2 v d → P d → Q v H2) → r x y H Q
def OpD (w : Wd) (X : Cx) (f : Value → Value → Sem Value) (g : D2) : Prop := ∃ r, OpR X f r ∧ RO w X.K r g
/-- a call on data -/
abbrev D1 := List DD → (DD → Prop) → Prop
def RC (w : Wd) (K : PySem.W.Frag) (r : List V → Hp → VK → Prop) (g : D1) : Prop := ∀ xs ds G H (P : DD → Prop) (Q : VK), Okw w G H → RpAll K G xs ds → g ds P →
  (∀ v d G2 H2, Stp w G H G2 H2 → Rp K G2 v d → P d → Q v H2) → r xs H Q
def CallD (w : Wd) (X : Cx) (f : Value) (g : D1) : Prop := ∃ r, CallR X f r ∧ RC w X.K r g

section
variable {w : Wd} {X : Cx} {a b e : Expr} {es : List Expr} {ta tb : DE} {pos : Pos}

def dN (i : Nat) : DE := fun ρ P => match ρ[i]? with
  | some (.dat d) => P d
  | _ => False
theorem pd_n (i : Nat) {x : Str} {pos : Pos} (hN : X.N[i]? = some x := by rfl) (hv : Vis X.env.scope x := by first | exact Or.inl rfl | exact Or.inr (Or.inl rfl) | exact Or.inr (Or.inr rfl)) (hd : (x == ("__debug__" : Str)) = false := by decide)
    (hcd : (x == ("__classdict__" : Str)) = false := by decide) : PD w X (.Name x pos) (dN i) := by
  refine ⟨_, pe_var hN hv hd hcd, fun σ ρ G H P Q k s h q => ?_⟩
  unfold dN at h
  split at h
  · rename_i d e1
    obtain ⟨v, e2, r⟩ := s.dat _ _ e1
    exact ⟨v, e2, q v d G H k.stp r h⟩
  · exact h.elim
def dC (d : DD) : DE := fun _ P => P d
theorem pd_int {i j pos} : PD w X (.Constant (.int i) j pos) (dC (.int i)) := ⟨_, pe_int, fun _ _ G H _ _ k _ h q => q _ _ G H k.stp (.int i) h⟩
theorem pd_bl {i j pos} : PD w X (.Constant (.bool i) j pos) (dC (.bool i)) := ⟨_, pe_bl, fun _ _ G H _ _ k _ h q => q _ _ G H k.stp (.bl i) h⟩
theorem pd_non {j pos} : PD w X (.Constant .none j pos) (dC .none) := ⟨_, pe_non, fun _ _ G H _ _ k _ h q => q _ _ G H k.stp .non h⟩
theorem pd_str {i j pos} : PD w X (.Constant (.str i) j pos) (dC (.str i)) := ⟨_, pe_str, fun _ _ G H _ _ k _ h q => q _ _ G H k.stp (.str i) h⟩
theorem pd_gi {x : Str} {u : Tok} {i : Int} {pos : Pos} (hm : X.mg x = some (.int i u)) (hg : Gl X x := by rfl) (hd : (x == ("__debug__" : Str)) = false := by decide) : PD w X (.Name x pos) (dC (.int i)) :=
  ⟨_, pe_glob (v := .int i) hg hm ⟨_, rfl⟩ hd, fun _ _ G H _ _ k _ h q => q _ _ G H k.stp (.int i) h⟩
theorem pd_gs {x : Str} {u : Tok} {i : Str} {pos : Pos} (hm : X.mg x = some (.str i u)) (hg : Gl X x := by rfl) (hd : (x == ("__debug__" : Str)) = false := by decide) : PD w X (.Name x pos) (dC (.str i)) :=
  ⟨_, pe_glob (v := .str i) hg hm ⟨_, rfl⟩ hd, fun _ _ G H _ _ k _ h q => q _ _ G H k.stp (.str i) h⟩
/-! two in a row -/
def dOp (g : D2) (ta tb : DE) : DE := fun ρ P => ta ρ fun x => tb ρ fun y => g x y P
theorem re_op {r : R2} {g : D2} {ta' tb' : TE} (ho : RO w X.K r g) (ha : RE w X.K ta' ta) (hb : RE w X.K tb' tb) : RE w X.K (tOp r ta' tb') (dOp g ta tb) := by
  intro σ ρ G H P Q k s h q
  refine ha σ ρ G H _ _ k s h fun x d G1 H1 s1 r1 p1 => ?_
  refine hb σ ρ G1 H1 _ _ (s1.okw k) (s.mono s1.up) p1 fun y e G2 H2 s2 r2 p2 => ?_
  exact ho x y d e G2 H2 P Q (s2.okw (s1.okw k)) (r1.mono s2.up) r2 p2 fun v d G3 H3 s3 => q v d G3 H3 ((s1.trans s2).trans s3)
theorem pd_op {op : Operator} {g : D2} (ho : OpD w X (binaryOp op) g) (ha : PD w X a ta) (hb : PD w X b tb) : PD w X (.BinOp a op b pos) (dOp g ta tb) := by
  obtain ⟨r, o1, o2⟩ := ho
  obtain ⟨ta', a1, a2⟩ := ha
  obtain ⟨tb', b1, b2⟩ := hb
  exact ⟨_, pe_op o1 a1 b1, re_op o2 a2 b2⟩
def dUn (g : DD → (DD → Prop) → Prop) (ta : DE) : DE := fun ρ P => ta ρ fun x => g x P
def gNeg : DD → (DD → Prop) → Prop := fun x P => match x with
  | .int i => P (.int (-i))
  | _ => False
theorem pd_neg (ha : PD w X a ta) : PD w X (.UnaryOp .USub a pos) (dUn gNeg ta) := by
  obtain ⟨ta', a1, a2⟩ := ha
  refine ⟨_, pe_un un_neg a1, fun σ ρ G H P Q k s h q => ?_⟩
  refine a2 σ ρ G H _ _ k s h fun x d G1 H1 s1 r1 p1 => ?_
  cases r1 with
  | int i => exact ⟨i, rfl, q _ _ G1 H1 s1 (.int _) p1⟩
  | _ => exact p1.elim
def gIsN : D2 := fun x y P => match y with
  | .none => P (.bool (match x with | .none => true | _ => false))
  | _ => False
theorem od_isN : OpD w X (compareOp .Is) gIsN := by
  refine ⟨_, op_isN, fun x y d e G H P Q k r1 r2 h q => ?_⟩
  cases r2 with
  | non =>
    refine ⟨rfl, ?_⟩
    cases r1 <;> exact q _ _ G H k.stp (.bl _) h
  | _ => exact h.elim
def gNotN : D2 := fun x y P => match y with
  | .none => P (.bool (match x with | .none => false | _ => true))
  | _ => False
theorem od_notN : OpD w X (compareOp .IsNot) gNotN := by
  refine ⟨_, op_notN, fun x y d e G H P Q k r1 r2 h q => ?_⟩
  cases r2 with
  | non =>
    refine ⟨rfl, ?_⟩
    cases r1 <;> exact q _ _ G H k.stp (.bl _) h
  | _ => exact h.elim
/-! comparisons, as values and as tests -/
theorem pd_cmp {op : CmpOp} {g : D2} (ho : OpD w X (compareOp op) g) (ha : PD w X a ta) (hb : PD w X b tb) (hm : behindInMarks op b = false := by first | exact nomark _ (by decide) (by decide) | rfl) : PD w X (.Compare a [op] [b] pos) (dOp g ta tb) := by
  obtain ⟨r, o1, o2⟩ := ho
  obtain ⟨ta', a1, a2⟩ := ha
  obtain ⟨tb', b1, b2⟩ := hb
  exact ⟨_, pe_cmpR o1 a1 b1 hm, re_op o2 a2 b2⟩
def asB (P : Bool → Prop) : DD → Prop := fun x => match x with
  | .bool b => P b
  | _ => False
def dT (td : DE) : DT := fun ρ P => td ρ (asB P)
theorem rt_of {K : PySem.W.Frag} {te : TE} {td : DE} (h : RE w K te td) : RT w K (tTest te) (dT td) := by
  intro σ ρ G H P Q k s h1 q
  refine h σ ρ G H _ _ k s h1 fun v d G2 H2 s2 r p => ?_
  cases r with
  | bl b => exact ⟨b, rfl, q b G2 H2 s2 p⟩
  | _ => exact p.elim
theorem pt_cm {op : CmpOp} {g : D2} (ho : OpD w X (compareOp op) g) (ha : PD w X a ta) (hb : PD w X b tb) (hm : behindInMarks op b = false := by first | exact nomark _ (by decide) (by decide) | rfl) : PDT w X (.Compare a [op] [b] pos) (dT (dOp g ta tb)) := by
  obtain ⟨r, o1, o2⟩ := ho
  obtain ⟨ta', a1, a2⟩ := ha
  obtain ⟨tb', b1, b2⟩ := hb
  exact ⟨_, pt_cmpR o1 a1 b1 hm, rt_of (re_op o2 a2 b2)⟩
theorem pt_v {td : DE} (h : PD w X e td) (he : ∀ whole, isTrue e X.env whole = (do let v ← whole; standAt e.pos; holding [v] (truthy v)) := by intro _; rfl) : PDT w X e (dT td) := by
  obtain ⟨te, e1, e2⟩ := h
  exact ⟨_, pt_val e1 he, rt_of e2⟩
variable {tA tB : DT} {rest : List Expr}
def dAnd (t u : DT) : DT := fun ρ P => t ρ fun c => if c = true then u ρ P else P false
def dOr (t u : DT) : DT := fun ρ P => t ρ fun c => if c = true then P true else u ρ P
def dNot (t : DT) : DT := fun ρ P => t ρ fun c => P (!c)
theorem rt_and {K : PySem.W.Frag} {t u : TT} (ht : RT w K t tA) (hu : RT w K u tB) : RT w K (tAnd t u) (dAnd tA tB) := by
  intro σ ρ G H P Q k s h q
  refine ht σ ρ G H _ _ k s h fun b G1 H1 s1 p1 => ?_
  cases b with
  | true =>
    rw [if_pos rfl] at p1 ⊢
    exact hu σ ρ G1 H1 _ _ (s1.okw k) (s.mono s1.up) p1 fun b G2 H2 s2 => q b G2 H2 (s1.trans s2)
  | false => exact q false G1 H1 s1 p1
theorem rt_or {K : PySem.W.Frag} {t u : TT} (ht : RT w K t tA) (hu : RT w K u tB) : RT w K (tOr t u) (dOr tA tB) := by
  intro σ ρ G H P Q k s h q
  refine ht σ ρ G H _ _ k s h fun b G1 H1 s1 p1 => ?_
  cases b with
  | false =>
    rw [if_neg Bool.false_ne_true] at p1 ⊢
    exact hu σ ρ G1 H1 _ _ (s1.okw k) (s.mono s1.up) p1 fun b G2 H2 s2 => q b G2 H2 (s1.trans s2)
  | true => exact q true G1 H1 s1 p1
theorem pw_a1 (ha : PDT w X a tA) : PDW w X (.BoolOp .And [a] pos) tA := by
  obtain ⟨t, h1, h2⟩ := ha
  exact ⟨_, pw_and1 h1, h2⟩
theorem pw_o1 (ha : PDT w X a tA) : PDW w X (.BoolOp .Or [a] pos) tA := by
  obtain ⟨t, h1, h2⟩ := ha
  exact ⟨_, pw_or1 h1, h2⟩
theorem pw_a (ha : PDT w X a tA) (hb : PDW w X (.BoolOp .And (b :: rest) pos) tB) : PDW w X (.BoolOp .And (a :: b :: rest) pos) (dAnd tA tB) := by
  obtain ⟨t, h1, h2⟩ := ha
  obtain ⟨u, h3, h4⟩ := hb
  exact ⟨_, pw_and h1 h3, rt_and h2 h4⟩
theorem pw_o (ha : PDT w X a tA) (hb : PDW w X (.BoolOp .Or (b :: rest) pos) tB) : PDW w X (.BoolOp .Or (a :: b :: rest) pos) (dOr tA tB) := by
  obtain ⟨t, h1, h2⟩ := ha
  obtain ⟨u, h3, h4⟩ := hb
  exact ⟨_, pw_or h1 h3, rt_or h2 h4⟩
theorem PDW.t (h : PDW w X e tA) : PDT w X e tA := by
  obtain ⟨t, h1, h2⟩ := h
  exact ⟨_, h1.pt, h2⟩
theorem pt_no (ha : PDT w X a tA) : PDT w X (.UnaryOp .Not a pos) (dNot tA) := by
  obtain ⟨t, h1, h2⟩ := ha
  exact ⟨_, L2.pt_not h1, fun σ ρ G H P Q k s h q => h2 σ ρ G H _ _ k s h fun b G2 H2 s2 p => q _ G2 H2 s2 p⟩
/-! and, or, not of truth values, as values -/
def dAndV (ta tb : DE) : DE := fun ρ P => ta ρ (asB fun c => if c = true then tb ρ P else P (.bool false))
def dOrV (ta tb : DE) : DE := fun ρ P => ta ρ (asB fun c => if c = true then P (.bool true) else tb ρ P)
def dNotV (ta : DE) : DE := fun ρ P => ta ρ (asB fun c => P (.bool (!c)))
theorem pd_one {op} (ha : PD w X a ta) : PD w X (.BoolOp op [a] pos) ta := by
  obtain ⟨t, h1, h2⟩ := ha
  exact ⟨_, pe_one h1, h2⟩
theorem pd_and (ha : PD w X a ta) (hb : PD w X (.BoolOp .And (b :: rest) pos) tb) : PD w X (.BoolOp .And (a :: b :: rest) pos) (dAndV ta tb) := by
  obtain ⟨t, h1, h2⟩ := ha
  obtain ⟨u, h3, h4⟩ := hb
  refine ⟨_, pe_and h1 h3, fun σ ρ G H P Q k s h q => ?_⟩
  refine h2 σ ρ G H _ _ k s h fun x d G1 H1 s1 r1 p1 => ?_
  cases r1 with
  | bl c =>
    refine ⟨c, rfl, ?_⟩
    cases c with
    | true => exact h4 σ ρ G1 H1 _ _ (s1.okw k) (s.mono s1.up) p1 fun v d G2 H2 s2 => q v d G2 H2 (s1.trans s2)
    | false => exact q _ _ G1 H1 s1 (.bl false) p1
  | _ => exact p1.elim
theorem pd_or (ha : PD w X a ta) (hb : PD w X (.BoolOp .Or (b :: rest) pos) tb) : PD w X (.BoolOp .Or (a :: b :: rest) pos) (dOrV ta tb) := by
  obtain ⟨t, h1, h2⟩ := ha
  obtain ⟨u, h3, h4⟩ := hb
  refine ⟨_, pe_or h1 h3, fun σ ρ G H P Q k s h q => ?_⟩
  refine h2 σ ρ G H _ _ k s h fun x d G1 H1 s1 r1 p1 => ?_
  cases r1 with
  | bl c =>
    refine ⟨c, rfl, ?_⟩
    cases c with
    | false => exact h4 σ ρ G1 H1 _ _ (s1.okw k) (s.mono s1.up) p1 fun v d G2 H2 s2 => q v d G2 H2 (s1.trans s2)
    | true => exact q _ _ G1 H1 s1 (.bl true) p1
  | _ => exact p1.elim
theorem pd_not (ha : PD w X a ta) : PD w X (.UnaryOp .Not a pos) (dNotV ta) := by
  obtain ⟨t, h1, h2⟩ := ha
  refine ⟨_, pe_not h1, fun σ ρ G H P Q k s h q => ?_⟩
  refine h2 σ ρ G H _ _ k s h fun x d G1 H1 s1 r1 p1 => ?_
  cases r1 with
  | bl c => exact ⟨c, rfl, q _ _ G1 H1 s1 (.bl _) p1⟩
  | _ => exact p1.elim
def dIf (t : DT) (ta tb : DE) : DE := fun ρ P => t ρ fun c => if c = true then ta ρ P else tb ρ P
theorem pd_if {c : Expr} (hc : PDT w X c tA) (ha : PD w X a ta) (hb : PD w X b tb) : PD w X (.IfExp c a b pos) (dIf tA ta tb) := by
  obtain ⟨t, c1, c2⟩ := hc
  obtain ⟨t1, a1, a2⟩ := ha
  obtain ⟨t2, b1, b2⟩ := hb
  refine ⟨_, pe_ifExp c1 a1 b1, fun σ ρ G H P Q k s h q => ?_⟩
  refine c2 σ ρ G H _ _ k s h fun x G1 H1 s1 p1 => ?_
  cases x with
  | true => exact a2 σ ρ G1 H1 _ _ (s1.okw k) (s.mono s1.up) p1 fun v d G2 H2 s2 => q v d G2 H2 (s1.trans s2)
  | false => exact b2 σ ρ G1 H1 _ _ (s1.okw k) (s.mono s1.up) p1 fun v d G2 H2 s2 => q v d G2 H2 (s1.trans s2)
/-! a < b < c -/
def dCh (g g' : D2) (ta tb tc : DE) : DE := fun ρ P => ta ρ fun x => tb ρ fun y => g x y (asB fun c => if c = true then tc ρ fun z => g' y z P else P (.bool false))
/-! argument lists, displays -/
def dNil : DA := fun _ P => P []
def dCons (ta : DE) (tr : DA) : DA := fun ρ P => ta ρ fun x => tr ρ fun xs => P (x :: xs)
theorem da_nil : PDA w X [] dNil := ⟨_, pa_nil, fun _ _ G H _ _ k _ h q => q _ _ G H k.stp .nil rfl h⟩
theorem da_cons {tr : DA} (ha : PD w X e ta) (hr : PDA w X es tr) (hs : starEach (e :: es) X.env = (false, eval e X.env) :: starEach es X.env := by rfl) : PDA w X (e :: es) (dCons ta tr) := by
  obtain ⟨t, h1, h2⟩ := ha
  obtain ⟨u, h3, h4⟩ := hr
  refine ⟨_, pa_cons h1 h3 hs, fun σ ρ G H P Q k s h q => ?_⟩
  refine h2 σ ρ G H _ _ k s h fun x d G1 H1 s1 r1 p1 => ?_
  refine h4 σ ρ G1 H1 _ _ (s1.okw k) (s.mono s1.up) p1 fun xs ds G2 H2 s2 r2 l2 p2 => ?_
  exact q _ _ G2 H2 (s1.trans s2) (.cons (r1.mono s2.up) r2) (congrArg (· + 1) l2) p2
def dTup (t : DA) : DE := fun ρ P => t ρ fun xs => P (.tuple xs)
def dLst (t : DA) : DE := fun ρ P => t ρ fun xs => P (.list xs)
theorem line_le {n : Nat} (h : n ≤ 1000000) : n ≤ sizeLine := Nat.le_trans h (by decide)
theorem line_lt {n : Nat} (h : n < 1000000) : n < sizeLine := Nat.lt_of_lt_of_le h (by decide)
theorem pd_tup {x1} {t : DA} (h : PDA w X es t) (hl : es.length ≤ 1000 := by decide) : PD w X (.Tuple es x1 pos) (dTup t) := by
  obtain ⟨t', h1, h2⟩ := h
  refine ⟨_, pe_tup h1, fun σ ρ G H P Q k s h q => ?_⟩
  refine h2 σ ρ G H _ _ k s h fun xs ds G1 H1 s1 r1 l1 p1 => ⟨line_le (by omega), fun p hp => ?_⟩
  exact q _ _ _ _ (s1.trans (Stp.new (s1.okw k) hp)) (.tup (SqT.of upd_same) (r1.mono (Sub.new ((s1.okw k).g_none hp)))) p1
theorem pd_lst {t : DA} (h : PDA w X es t) (hl : es.length ≤ 1000 := by decide) : PD w X (.List es pos) (dLst t) := by
  obtain ⟨t', h1, h2⟩ := h
  refine ⟨_, pe_lst h1, fun σ ρ G H P Q k s h q => ?_⟩
  refine h2 σ ρ G H _ _ k s h fun xs ds G1 H1 s1 r1 l1 p1 => ⟨line_le (by omega), fun p hp => ?_⟩
  exact q _ _ _ _ (s1.trans (Stp.new (s1.okw k) hp)) (.lst upd_same (r1.mono (Sub.new ((s1.okw k).g_none hp)))) p1
/-- a display that a name takes for its own -/
theorem pn_lst {t : DA} (h : PDA w X es t) (hl : es.length ≤ 1000 := by decide) : PDN w X (.List es pos) t := by
  obtain ⟨t', h1, h2⟩ := h
  refine ⟨_, pe_lst h1, fun σ ρ G H P Q k s h q => ?_⟩
  refine h2 σ ρ G H _ _ k s h fun xs ds G1 H1 s1 r1 l1 p1 => ⟨line_le (by omega), fun p hp => ?_⟩
  have k1 := s1.okw k
  have hp0 : H p = none := by
    cases e : H p with
    | none => rfl
    | some u => exact absurd hp (s1.th p (by rw [e]; exact fun z => nomatch z))
  exact q p xs ds _ _ (s1.trans (Stp.new0 k1 hp)) hp0 (k1.g_none hp) upd_same r1 p1
end
end Z

set_option Elab.async false
set_option linter.all false
set_option maxRecDepth 100000
set_option maxHeartbeats 4000000
/-! Z2: < and > of tuples by the first difference, whatever stands behind it. -/
namespace ZO
open PySem PySem.SeqAt AutoSeq1 MeetsSeq MeetsSeq2 MeetsSeq3 SeqRoads2
/-- from place i on, k places left: the first that differs decides -/
def fd (e r : Nat → Bool) (z : Bool) : Nat → Nat → Bool
  | _, 0 => z
  | i, k + 1 => bif e i then fd e r z (i + 1) k else r i
def Rc (op : CmpOp) (A : Around) (s : Shared) (y x : Value) (k : Bool) : Prop :=
  ∀ (prog : Program) (w : World) (E : Value → Shared → Prop) (Q : Value → Shared → Prop), Q (.bool k) s → wpAny (model prog w) A (richCompare op y x) Q E s
theorem lt_walk (l b : Addr) (us ws : Array Value) (n m : Nat) (d1 d2 : Option Addr) (s1 s2 : Array (Option Value)) (e r : Nat → Bool) :
    Meets (Builtin.«tuple.__lt__» ⟨[.ref l, .ref b], []⟩) (fun A R s => s.heap.get? l = some ⟨.type "tuple", d1, .seq us n, s1⟩ ∧ s.heap.get? b = some ⟨.type "tuple", d2, .seq ws m, s2⟩ ∧
      (∀ j (h1 : j < us.size) (h2 : j < ws.size), (∀ i, i < j → e i = true) → EqAt A.in1 s us[j] ws[j] (e j)) ∧
      (∀ j (h1 : j < us.size) (h2 : j < ws.size), (∀ i, i < j → e i = true) → e j = false → Rc .Lt A.in1 s us[j] ws[j] (r j)) ∧
      R (.ok (.ret (.bool (fd e r (decide (us.size < ws.size)) 0 (min us.size ws.size))))) s) := .of_wp fun prog w A R s h => by
  obtain ⟨hp, g, d, tk, os⟩ := s; obtain ⟨hl, hb, he, hr, h⟩ := h
  have f2 := AutoSeq1.sub_tuple_tuple
  have hZ : (us.toList.zip ws.toList).length = min us.size ws.size := by simp
  wp_walk using wpAny_loadPart' hl, wpAny_loadPart' hb, wpAny_forIn_list _ (fun rest b s' => b.1 = none ∧ s' = ⟨hp, g, d, tk, os⟩ ∧ ∃ i, i ≤ min us.size ws.size ∧ (∀ j, j < i → e j = true) ∧ rest = (us.toList.zip ws.toList).drop i ∧ R (.ok (.ret (.bool (fd e r (decide (us.size < ws.size)) i (min us.size ws.size - i))))) ⟨hp, g, d, tk, os⟩) _
  case turn =>
    rintro ⟨y, x⟩ rest b s' ⟨hb', rfl, i, hle, hall, hz, hR⟩
    have hm : i < min us.size ws.size := by
      rcases Nat.lt_or_ge i (us.toList.zip ws.toList).length with h' | h'
      · exact hZ ▸ h'
      · rw [List.drop_of_length_le h'] at hz; cases hz
    have hlt : i < (us.toList.zip ws.toList).length := by rw [hZ]; exact hm
    have h1 : i < us.size := by omega
    have h2 : i < ws.size := by omega
    rw [List.drop_eq_getElem_cons hlt] at hz
    injection hz with hyx hrest
    obtain rfl : y = us[i] := by simpa using congrArg Prod.fst hyx
    obtain rfl : x = ws[i] := by simpa using congrArg Prod.snd hyx
    have hd : min us.size ws.size - i = (min us.size ws.size - (i + 1)) + 1 := by omega
    rw [hd] at hR
    refine wpAny_bind (he i h1 h2 hall prog w _ _ ?_)
    cases hy : e i with
    | true =>
      simp only [fd, hy, cond_true] at hR
      wp_walk
      refine ⟨rfl, rfl, i + 1, hm, fun j hj => ?_, hrest, hR⟩
      rcases Nat.lt_succ_iff_lt_or_eq.mp hj with z | z
      · exact hall j z
      · rw [z]; exact hy
    | false =>
      simp only [fd, hy, cond_false] at hR
      have hr' := hr i h1 h2 hall hy prog w
      dsimp only at hr' ⊢
      generalize PySem.richCompare .Lt us[i] ws[i] = rct at hr' ⊢
      wp_walk
      refine hr' _ _ ?_
      wp_walk
      exact ⟨_, rfl, hR⟩
  case fin =>
    rintro ⟨b1, b2⟩ s' ⟨hb', rfl, i, hle, hall, hz, hR⟩
    simp only at hb'
    subst hb'
    have hge : i = min us.size ws.size := by
      rcases Nat.lt_or_ge i (us.toList.zip ws.toList).length with h' | h'
      · rw [List.drop_eq_getElem_cons h'] at hz; cases hz
      · rw [hZ] at h'; omega
    subst hge
    rw [Nat.sub_self] at hR
    wp_walk
    exact ⟨_, rfl, by simpa [Builtin.Tuple.tupleCompareSizes, fd] using hR⟩
  case h => exact ⟨rfl, rfl, 0, Nat.zero_le _, fun j hj => absurd hj (Nat.not_lt_zero j), rfl, by simpa using h⟩
theorem gt_walk (l b : Addr) (us ws : Array Value) (n m : Nat) (d1 d2 : Option Addr) (s1 s2 : Array (Option Value)) (e r : Nat → Bool) :
    Meets (Builtin.«tuple.__gt__» ⟨[.ref l, .ref b], []⟩) (fun A R s => s.heap.get? l = some ⟨.type "tuple", d1, .seq us n, s1⟩ ∧ s.heap.get? b = some ⟨.type "tuple", d2, .seq ws m, s2⟩ ∧
      (∀ j (h1 : j < us.size) (h2 : j < ws.size), (∀ i, i < j → e i = true) → EqAt A.in1 s us[j] ws[j] (e j)) ∧
      (∀ j (h1 : j < us.size) (h2 : j < ws.size), (∀ i, i < j → e i = true) → e j = false → Rc .Gt A.in1 s us[j] ws[j] (r j)) ∧
      R (.ok (.ret (.bool (fd e r (decide (ws.size < us.size)) 0 (min us.size ws.size))))) s) := .of_wp fun prog w A R s h => by
  obtain ⟨hp, g, d, tk, os⟩ := s; obtain ⟨hl, hb, he, hr, h⟩ := h
  have f2 := AutoSeq1.sub_tuple_tuple
  have hZ : (us.toList.zip ws.toList).length = min us.size ws.size := by simp
  wp_walk using wpAny_loadPart' hl, wpAny_loadPart' hb, wpAny_forIn_list _ (fun rest b s' => b.1 = none ∧ s' = ⟨hp, g, d, tk, os⟩ ∧ ∃ i, i ≤ min us.size ws.size ∧ (∀ j, j < i → e j = true) ∧ rest = (us.toList.zip ws.toList).drop i ∧ R (.ok (.ret (.bool (fd e r (decide (ws.size < us.size)) i (min us.size ws.size - i))))) ⟨hp, g, d, tk, os⟩) _
  case turn =>
    rintro ⟨y, x⟩ rest b s' ⟨hb', rfl, i, hle, hall, hz, hR⟩
    have hm : i < min us.size ws.size := by
      rcases Nat.lt_or_ge i (us.toList.zip ws.toList).length with h' | h'
      · exact hZ ▸ h'
      · rw [List.drop_of_length_le h'] at hz; cases hz
    have hlt : i < (us.toList.zip ws.toList).length := by rw [hZ]; exact hm
    have h1 : i < us.size := by omega
    have h2 : i < ws.size := by omega
    rw [List.drop_eq_getElem_cons hlt] at hz
    injection hz with hyx hrest
    obtain rfl : y = us[i] := by simpa using congrArg Prod.fst hyx
    obtain rfl : x = ws[i] := by simpa using congrArg Prod.snd hyx
    have hd : min us.size ws.size - i = (min us.size ws.size - (i + 1)) + 1 := by omega
    rw [hd] at hR
    refine wpAny_bind (he i h1 h2 hall prog w _ _ ?_)
    cases hy : e i with
    | true =>
      simp only [fd, hy, cond_true] at hR
      wp_walk
      refine ⟨rfl, rfl, i + 1, hm, fun j hj => ?_, hrest, hR⟩
      rcases Nat.lt_succ_iff_lt_or_eq.mp hj with z | z
      · exact hall j z
      · rw [z]; exact hy
    | false =>
      simp only [fd, hy, cond_false] at hR
      have hr' := hr i h1 h2 hall hy prog w
      dsimp only at hr' ⊢
      generalize PySem.richCompare .Gt us[i] ws[i] = rct at hr' ⊢
      wp_walk
      refine hr' _ _ ?_
      wp_walk
      exact ⟨_, rfl, hR⟩
  case fin =>
    rintro ⟨b1, b2⟩ s' ⟨hb', rfl, i, hle, hall, hz, hR⟩
    simp only at hb'
    subst hb'
    have hge : i = min us.size ws.size := by
      rcases Nat.lt_or_ge i (us.toList.zip ws.toList).length with h' | h'
      · rw [List.drop_eq_getElem_cons h'] at hz; cases hz
      · rw [hZ] at h'; omega
    subst hge
    rw [Nat.sub_self] at hR
    wp_walk
    exact ⟨_, rfl, by simpa [Builtin.Tuple.tupleCompareSizes, fd] using hR⟩
  case h => exact ⟨rfl, rfl, 0, Nat.zero_le _, fun j hj => absurd hj (Nat.not_lt_zero j), rfl, by simpa using h⟩
section
variable {A : Around} {s : Shared} {l b : Addr} {us ws : Array Value} {e r : Nat → Bool}
theorem Rc.lt_tup (hl : s.heap.IsTuple l us) (hb : s.heap.IsTuple b ws) (hu : A.units < cLine)
    (he : ∀ j (h1 : j < us.size) (h2 : j < ws.size), (∀ i, i < j → e i = true) → EqAt A.in1 s us[j] ws[j] (e j))
    (hr : ∀ j (h1 : j < us.size) (h2 : j < ws.size), (∀ i, i < j → e i = true) → e j = false → Rc .Lt A.in1 s us[j] ws[j] (r j)) :
    Rc .Lt A s (.ref l) (.ref b) (fd e r (decide (us.size < ws.size)) 0 (min us.size ws.size)) := fun prog w E Q h => by
  obtain ⟨⟨cls, dd, data, sl⟩, ho, hc, n, hd⟩ := id hl; obtain ⟨⟨cls2, dd2, data2, sl2⟩, ho2, hc2, n2, hd2⟩ := id hb
  simp only at hc hd hc2 hd2; subst hc hd hc2 hd2
  exact richCompare_meets_room (op := .Lt) ⟨_, ho, rfl⟩ ⟨_, ho2, rfl⟩ F.slot_tuple_lt F.entry_tuple_lt (F.args_tuple_lt_2 _ _) (lt_walk l b us ws n n2 dd dd2 sl sl2 e r) ⟨ho, ho2, he, hr, ⟨(fun x => nomatch x), h⟩⟩ hu
theorem Rc.gt_tup (hl : s.heap.IsTuple l us) (hb : s.heap.IsTuple b ws) (hu : A.units < cLine)
    (he : ∀ j (h1 : j < us.size) (h2 : j < ws.size), (∀ i, i < j → e i = true) → EqAt A.in1 s us[j] ws[j] (e j))
    (hr : ∀ j (h1 : j < us.size) (h2 : j < ws.size), (∀ i, i < j → e i = true) → e j = false → Rc .Gt A.in1 s us[j] ws[j] (r j)) :
    Rc .Gt A s (.ref l) (.ref b) (fd e r (decide (ws.size < us.size)) 0 (min us.size ws.size)) := fun prog w E Q h => by
  obtain ⟨⟨cls, dd, data, sl⟩, ho, hc, n, hd⟩ := id hl; obtain ⟨⟨cls2, dd2, data2, sl2⟩, ho2, hc2, n2, hd2⟩ := id hb
  simp only at hc hd hc2 hd2; subst hc hd hc2 hd2
  exact richCompare_meets_room (op := .Gt) ⟨_, ho, rfl⟩ ⟨_, ho2, rfl⟩ F.slot_tuple_gt F.entry_tuple_gt (F.args_tuple_gt_2 _ _) (gt_walk l b us ws n n2 dd dd2 sl sl2 e r) ⟨ho, ho2, he, hr, ⟨(fun x => nomatch x), h⟩⟩ hu
end

/-! ### over data -/
mutual
/-- a < b (flip: a > b), where Python has an answer -/
def ord (f : Bool) : PyData → PyData → Option Bool
  | .int a, .int b => some (bif f then decide (b < a) else decide (a < b))
  | .str a, .str b => some (bif f then decide (b.cps.toList < a.cps.toList) else decide (a.cps.toList < b.cps.toList))
  | .tuple xs, .tuple ys => ordL f xs ys
  | _, _ => none
def ordL (f : Bool) : List PyData → List PyData → Option Bool
  | [], [] => some false
  | [], _ :: _ => some (!f)
  | _ :: _, [] => some f
  | x :: xs, y :: ys => bif PyData.eqv x y then ordL f xs ys else ord f x y
end
def opOf (f : Bool) : CmpOp := bif f then .Gt else .Lt
theorem fd_shift (e r : Nat → Bool) (z : Bool) : ∀ (k i : Nat), fd (fun j => e (j + 1)) (fun j => r (j + 1)) z i k = fd e r z (i + 1) k
  | 0, _ => rfl
  | k + 1, i => by simp only [fd, fd_shift e r z k (i + 1)]
theorem fd_ord (f : Bool) : ∀ (xs ys : List PyData) (k : Bool), ordL f xs ys = some k →
    fd (fun j => PyData.eqv (xs.getD j .none) (ys.getD j .none)) (fun j => (ord f (xs.getD j .none) (ys.getD j .none)).getD false) (bif f then decide (ys.length < xs.length) else decide (xs.length < ys.length)) 0 (min xs.length ys.length) = k
  | [], [], k, h => by
    have e : false = k := by simpa [ordL] using h
    subst e
    cases f <;> rfl
  | [], y :: ys, k, h => by
    have e : (!f) = k := by simpa [ordL] using h
    subst e
    cases f <;> simp [fd]
  | x :: xs, [], k, h => by
    have e : f = k := by simpa [ordL] using h
    subst e
    cases f <;> simp [fd]
  | x :: xs, y :: ys, k, h => by
    have hm : min (x :: xs).length (y :: ys).length = min xs.length ys.length + 1 := by simp only [List.length_cons]; omega
    rw [hm]
    simp only [fd, List.getD_cons_zero]
    simp only [ordL] at h
    cases he : PyData.eqv x y with
    | true =>
      rw [he] at h
      have ih := fd_ord f xs ys k h
      simp only [cond_true, ← fd_shift, List.getD_cons_succ, List.length_cons, Nat.add_lt_add_iff_right]
      exact ih
    | false =>
      rw [he] at h
      simp only [cond_false] at h ⊢
      rw [h]; rfl
theorem first_ord (f : Bool) : ∀ (xs ys : List PyData) (k : Bool), ordL f xs ys = some k → ∀ j, j < xs.length → j < ys.length → (∀ i, i < j → PyData.eqv (xs.getD i .none) (ys.getD i .none) = true) →
    PyData.eqv (xs.getD j .none) (ys.getD j .none) = false → ord f (xs.getD j .none) (ys.getD j .none) = some k
  | [], _, _, _, _, h, _, _, _ => absurd h (Nat.not_lt_zero _)
  | _ :: _, [], _, _, _, _, h, _, _ => absurd h (Nat.not_lt_zero _)
  | x :: xs, y :: ys, k, h, 0, _, _, _, he => by
    simp only [List.getD_cons_zero] at he ⊢
    rw [ordL, he] at h
    exact h
  | x :: xs, y :: ys, k, h, j + 1, h1, h2, ha, he => by
    have h0 := ha 0 (Nat.zero_lt_succ _)
    simp only [List.getD_cons_zero] at h0
    rw [ordL, h0] at h
    simp only [List.getD_cons_succ] at he ⊢
    exact first_ord f xs ys k h j (Nat.lt_of_succ_lt_succ h1) (Nat.lt_of_succ_lt_succ h2) (fun i hi => by simpa using ha (i + 1) (Nat.succ_lt_succ hi)) he
theorem plain_at : ∀ (xs : List PyData) (j : Nat), PyData.plainAll xs = true → j < xs.length → (xs.getD j .none).plain = true
  | [], _, _, h => absurd h (Nat.not_lt_zero _)
  | x :: xs, 0, h, _ => by simp [PyData.plainAll] at h; simpa using h.1
  | x :: xs, j + 1, h, hj => by simp [PyData.plainAll] at h; simpa using plain_at xs j h.2 (Nat.lt_of_succ_lt_succ hj)
theorem rc_ord (f : Bool) : ∀ (n : Nat) (d e : PyData) (A : Around) (s : Shared) (a b : Value) (as bs : List Addr) (k : Bool), d.depth ≤ n → Reads s.heap a d as → Reads s.heap b e bs → d.plain = true → e.plain = true → A.units + n < cLine → ord f d e = some k → Rc (opOf f) A s a b k := by
  intro n
  induction n with
  | zero =>
    intro d e A s a b as bs k hn ra rb hp hq hu ho
    cases d with
    | int i =>
      cases e with
      | int j =>
        cases ra; cases rb
        have z : (bif f then decide (j < i) else decide (i < j)) = k := by simpa [ord] using ho
        subst z
        intro prog w E Q h
        cases f with
        | true => exact PyProof.Rows.gt_int h
        | false => exact PyProof.Rows.lt_int h
      | _ => simp [ord] at ho
    | str i =>
      cases e with
      | str j =>
        cases ra; cases rb
        have z : (bif f then decide (j.cps.toList < i.cps.toList) else decide (i.cps.toList < j.cps.toList)) = k := by simpa [ord] using ho
        subst z
        intro prog w E Q h
        cases f with
        | true => exact PySem.P.gt_str h
        | false => exact PyProof.Rows.lt_str h
      | _ => simp [ord] at ho
    | tuple xs => simp [PyData.depth] at hn
    | _ => simp [ord] at ho
  | succ n ih =>
    intro d e A s a b as bs k hn ra rb hp hq hu ho
    cases d with
    | int i =>
      cases e with
      | int j =>
        cases ra; cases rb
        have z : (bif f then decide (j < i) else decide (i < j)) = k := by simpa [ord] using ho
        subst z
        intro prog w E Q h
        cases f with
        | true => exact PyProof.Rows.gt_int h
        | false => exact PyProof.Rows.lt_int h
      | _ => simp [ord] at ho
    | str i =>
      cases e with
      | str j =>
        cases ra; cases rb
        have z : (bif f then decide (j.cps.toList < i.cps.toList) else decide (i.cps.toList < j.cps.toList)) = k := by simpa [ord] using ho
        subst z
        intro prog w E Q h
        cases f with
        | true => exact PySem.P.gt_str h
        | false => exact PyProof.Rows.lt_str h
      | _ => simp [ord] at ho
    | tuple xs =>
      cases e with
      | tuple ys =>
        have hol : ordL f xs ys = some k := by rw [ord] at ho; exact ho
        have px : PyData.plainAll xs = true := by rw [PyData.plain] at hp; exact hp
        have py : PyData.plainAll ys = true := by rw [PyData.plain] at hq; exact hq
        have hdx : PyData.depthAll xs ≤ n := by rw [PyData.depth] at hn; omega
        cases ra with
        | @tuple la oa va na _ _ ga ca da ra =>
        cases rb with
        | @tuple lb ob vb nb _ _ gb cb db rb =>
        have n1 : va.size = xs.length := PySem.W.readsAll_len ra
        have n2 : vb.size = ys.length := PySem.W.readsAll_len rb
        have hl : s.heap.IsTuple la va := ⟨oa, ga, ca, na, da⟩
        have hb : s.heap.IsTuple lb vb := ⟨ob, gb, cb, nb, db⟩
        have at1 : ∀ j (h1 : j < va.size), ∃ cs, Reads s.heap va[j] (xs.getD j .none) cs ∧ (xs.getD j .none).depth ≤ n := fun j h1 => by
          obtain ⟨cs, r, _, _, dp⟩ := PySem.W.readsAll_atA ra j va[j] (by simp [h1])
          exact ⟨cs, r, Nat.le_trans dp hdx⟩
        have at2 : ∀ j (h2 : j < vb.size), ∃ cs, Reads s.heap vb[j] (ys.getD j .none) cs := fun j h2 => by
          obtain ⟨cs, r, _, _, _⟩ := PySem.W.readsAll_atA rb j vb[j] (by simp [h2])
          exact ⟨cs, r⟩
        have hu1 : A.in1.units + n < cLine := by show A.units + 1 + n < cLine; omega
        have he : ∀ j (h1 : j < va.size) (h2 : j < vb.size), (∀ i, i < j → PyData.eqv (xs.getD i .none) (ys.getD i .none) = true) → EqAt A.in1 s va[j] vb[j] (PyData.eqv (xs.getD j .none) (ys.getD j .none)) := fun j h1 h2 _ => by
          obtain ⟨cs, r1, dp⟩ := at1 j h1
          obtain ⟨cs', r2⟩ := at2 j h2
          refine eqAt_plain _ _ _ _ _ _ _ _ r1 r2 (plain_at xs j px (n1 ▸ h1)) (plain_at ys j py (n2 ▸ h2)) ?_
          have := Nat.min_le_left (xs.getD j PyData.none).depth (ys.getD j PyData.none).depth
          omega
        have hr : ∀ j (h1 : j < va.size) (h2 : j < vb.size), (∀ i, i < j → PyData.eqv (xs.getD i .none) (ys.getD i .none) = true) → PyData.eqv (xs.getD j .none) (ys.getD j .none) = false → Rc (opOf f) A.in1 s va[j] vb[j] ((ord f (xs.getD j .none) (ys.getD j .none)).getD false) := fun j h1 h2 ha hf => by
          obtain ⟨cs, r1, dp⟩ := at1 j h1
          obtain ⟨cs', r2⟩ := at2 j h2
          have ho2 := first_ord f xs ys k hol j (n1 ▸ h1) (n2 ▸ h2) ha hf
          rw [ho2]
          exact ih _ _ _ _ _ _ _ _ k dp r1 r2 (plain_at xs j px (n1 ▸ h1)) (plain_at ys j py (n2 ▸ h2)) hu1 ho2
        have fin := fd_ord f xs ys k hol
        cases f with
        | false =>
          have R := Rc.lt_tup hl hb (by omega) he hr
          rw [n1, n2] at R
          exact fin ▸ R
        | true =>
          have R := Rc.gt_tup hl hb (by omega) he hr
          rw [n1, n2] at R
          exact fin ▸ R
      | _ => simp [ord] at ho
    | _ => simp [ord] at ho
end ZO

set_option Elab.async false
set_option linter.all false
set_option maxRecDepth 100000
set_option maxHeartbeats 4000000
namespace Z
open PySem PySem.Spec PyProof.Rows L2
section
variable {w : Wd} {K : PySem.W.Frag} {G H : Hp}
mutual
theorem Rp.plain : ∀ {v : V} {d : DD}, Rp K G v d → d.plain = true
  | _, _, .non => rfl
  | _, _, .bl b => rfl
  | _, _, .int i => rfl
  | _, _, .str x => rfl
  | _, _, .lst h r => by rw [PyData.plain]; exact RpAll.plain r
  | _, _, .tup h r => by rw [PyData.plain]; exact RpAll.plain r
theorem RpAll.plain : ∀ {vs : List V} {ds : List DD}, RpAll K G vs ds → PyData.plainAll ds = true
  | _, _, .nil => rfl
  | _, _, .cons a b => by rw [PyData.plainAll, Rp.plain a, RpAll.plain b]; rfl
end
theorem Rp.reads {X : Cx} {pins : List (Addr × Obj)} {σ : L2.St} {s : Shared} {H : Hp} (I : Inv X pins σ H s) {d : DD} {v : V} {u : Value} (h : Rp X.K H v d) (r : RelV v u) : ∃ as, Reads s.heap u d as := Dp.reads I d v u h.dp r
end
/-- an operation that the library tells over data, the heap as it was -/
def rDat (K : PySem.W.Frag) (g : DD → DD → Option V) : R2 := fun x y H Q => ∃ d e z, Rp K H x d ∧ Rp K H y e ∧ g d e = some z ∧ Q z H
theorem opr_dat {X : Cx} {f : Value → Value → Sem Value} {g : DD → DD → Option Bool} (h : ∀ (pins : List (Addr × Obj)) (s : Shared) (σ : L2.St) (H : Hp) (d e : DD) (x y : V) (v u : Value) (k : Bool) (as bs : List Addr) (Q : Value → Shared → Prop), Inv X pins σ H s →
    d.plain = true → e.plain = true → Reads s.heap v d as → Reads s.heap u e bs → g d e = some k → Q (.bool k) s → wpAny (model X.prog X.w) X.A (f v u) Q X.xe s) : OpR X f (rDat X.K fun d e => (g d e).map V.bl) := by
  intro pins s σ H x y v u Q I rx ry hq
  obtain ⟨d, e, z, hd, he, hz, q⟩ := hq
  obtain ⟨as, r1⟩ := hd.reads I rx
  obtain ⟨bs, r2⟩ := he.reads I ry
  simp only at hz
  cases hg : g d e with
  | none => rw [hg] at hz; cases hz
  | some k =>
    rw [hg] at hz
    have ez : z = V.bl k := (Option.some.inj hz).symm
    subst ez
    exact h pins s σ H d e x y v u k as bs _ I hd.plain he.plain r1 r2 hg ⟨V.bl k, H, I, rfl, q⟩
def gB (g : DD → DD → Option Bool) : D2 := fun x y P => match g x y with
  | some k => P (.bool k)
  | none => False
theorem ro_dat {w : Wd} {K : PySem.W.Frag} {g : DD → DD → Option Bool} : RO w K (rDat K fun d e => (g d e).map V.bl) (gB g) := by
  intro x y d e G H P Q k r1 r2 h q
  unfold gB at h
  cases hg : g d e with
  | none => rw [hg] at h; exact h.elim
  | some b =>
    rw [hg] at h
    exact ⟨d, e, _, r1.mono k.sub, r2.mono k.sub, by simp only [hg]; rfl, q _ _ G H k.stp (.bl b) h⟩
def eqD (x y : DD) : Option Bool := if min x.depth y.depth ≤ 60 then some (PyData.eqv x y) else none
def neD (x y : DD) : Option Bool := if min x.depth y.depth ≤ 60 then some (!PyData.eqv x y) else none
def ltD (x y : DD) : Option Bool := if x.depth ≤ 60 then ZO.ord false x y else none
def gtD (x y : DD) : Option Bool := if x.depth ≤ 60 then ZO.ord true x y else none
section
variable {w : Wd} {X : Cx}
theorem od_eq {k : Nat} (hr : Room k X.A) : OpD w X (compareOp .Eq) (gB eqD) := by
  refine ⟨_, opr_dat (g := eqD) fun pins s σ H d e x y v u k as bs Q I p1 p2 r1 r2 hg q => ?_, ro_dat⟩
  unfold eqD at hg
  split at hg
  · have ez := Option.some.inj hg
    subst ez
    have h := hr.units
    exact SeqAt.eq_plain r1 r2 p1 p2 (by omega) q
  · cases hg
theorem od_ne {k : Nat} (hr : Room k X.A) : OpD w X (compareOp .NotEq) (gB neD) := by
  refine ⟨_, opr_dat (g := neD) fun pins s σ H d e x y v u k as bs Q I p1 p2 r1 r2 hg q => ?_, ro_dat⟩
  unfold neD at hg
  split at hg
  · have ez := Option.some.inj hg
    subst ez
    have h := hr.units
    exact SeqAt.ne_plain r1 r2 p1 p2 (by omega) q
  · cases hg
theorem od_lt {k : Nat} (hr : Room k X.A) : OpD w X (compareOp .Lt) (gB ltD) := by
  refine ⟨_, opr_dat (g := ltD) fun pins s σ H d e x y v u k as bs Q I p1 p2 r1 r2 hg q => ?_, ro_dat⟩
  unfold ltD at hg
  split at hg
  · have h := hr.units
    exact ZO.rc_ord false 60 d e X.A s v u as bs k (by assumption) r1 r2 p1 p2 (by omega) hg X.prog X.w _ _ q
  · cases hg
theorem od_gt {k : Nat} (hr : Room k X.A) : OpD w X (compareOp .Gt) (gB gtD) := by
  refine ⟨_, opr_dat (g := gtD) fun pins s σ H d e x y v u k as bs Q I p1 p2 r1 r2 hg q => ?_, ro_dat⟩
  unfold gtD at hg
  split at hg
  · have h := hr.units
    exact ZO.rc_ord true 60 d e X.A s v u as bs k (by assumption) r1 r2 p1 p2 (by omega) hg X.prog X.w _ _ q
  · cases hg
/-! the intsD of a list of data -/
def intsD : List DD → Option (List Int)
  | [] => some []
  | .int i :: r => (intsD r).map (i :: ·)
  | _ :: _ => none
theorem intsD_eq : ∀ {ds : List DD} {ns : List Int}, intsD ds = some ns → ds = ns.map PyData.int
  | [], ns, h => by cases h; rfl
  | .int i :: r, ns, h => by
    simp only [intsD] at h
    cases e : intsD r with
    | none => rw [e] at h; cases h
    | some ms => rw [e] at h; cases h; rw [intsD_eq e]; rfl
  | .none :: _, _, h => by simp [intsD] at h
  | .bool _ :: _, _, h => by simp [intsD] at h
  | .str _ :: _, _, h => by simp [intsD] at h
  | .list _ :: _, _, h => by simp [intsD] at h
  | .tuple _ :: _, _, h => by simp [intsD] at h
  | .dict _ :: _, _, h => by simp [intsD] at h
theorem intsD_map : ∀ ns : List Int, intsD (ns.map PyData.int) = some ns
  | [] => rfl
  | n :: ns => by simp [intsD, intsD_map ns]
theorem rp_ints {K : PySem.W.Frag} {G : Hp} : ∀ {ns : List Int} {vs : List V}, RpAll K G vs (ns.map PyData.int) → vs = ns.map V.int
  | [], _, .nil => rfl
  | _ :: _, _, .cons (.int _) r => by rw [rp_ints r]; rfl
/-- <= of intsD and of tuples of intsD -/
def gLe : D2 := fun x y P => match x, y with
  | .int i, .int j => P (.bool (decide (i ≤ j)))
  | .tuple xs, .tuple ys => match intsD xs, intsD ys with
    | some ns, some ms => P (.bool (!HT.lexLt ms ns))
    | _, _ => False
  | _, _ => False
theorem lex_shift (e r : Nat → Bool) (z : Bool) : ∀ (k i : Nat), Ob.lexAt (fun j => e (j + 1)) (fun j => r (j + 1)) z i k = Ob.lexAt e r z (i + 1) k
  | 0, _ => rfl
  | k + 1, i => by rw [Ob.lexAt_succ, Ob.lexAt_succ, lex_shift e r z k (i + 1)]
theorem lex_le : ∀ (ns ms : List Int), Ob.lexAt (fun j => decide (ns.getD j 0 = ms.getD j 0)) (fun j => decide (ns.getD j 0 ≤ ms.getD j 0)) (decide (ns.length ≤ ms.length)) 0 (min ns.length ms.length) = !HT.lexLt ms ns
  | [], [] => rfl
  | [], m :: ms => by simp [Ob.lexAt, HT.lexLt]
  | n :: ns, [] => by simp [Ob.lexAt, HT.lexLt]
  | n :: ns, m :: ms => by
    have hm : min (n :: ns).length (m :: ms).length = min ns.length ms.length + 1 := by simp only [List.length_cons]; omega
    rw [hm, Ob.lexAt_succ, ← lex_shift, HT.lexLt_cons]
    simp only [List.getD_cons_zero, List.getD_cons_succ, List.length_cons, Nat.add_le_add_iff_right]
    by_cases e : n = m
    · subst e; simp only [decide_true, if_true]; exact lex_le ns ms
    · rw [if_neg (by simpa using e), if_neg (fun z => e z.symm)]
      by_cases h : n ≤ m
      · have : ¬ m < n := by omega
        simp [h, this]
      · have : m < n := by omega
        simp [h, this]
theorem od_le {k : Nat} (hr : Room k X.A) : OpD w X (compareOp .LtE) gLe := by
  refine ⟨_, OpR.or op_le (op_leT hr.units0), fun x y d e G H P Q k r1 r2 h q => ?_⟩
  unfold gLe at h
  cases r1 with
  | int i =>
    cases r2 with
    | int j => exact .inl ⟨i, j, rfl, rfl, q _ _ G H k.stp (.bl _) h⟩
    | _ => exact h.elim
  | @tup a xs ds t1 a1 =>
    cases r2 with
    | @tup b ys es t2 a2 =>
      simp only at h
      cases h1 : intsD ds with
      | none => rw [h1] at h; exact h.elim
      | some ns =>
        cases h2 : intsD es with
        | none => rw [h1, h2] at h; exact h.elim
        | some ms =>
          rw [h1, h2] at h
          have e1 := intsD_eq h1
          have e2 := intsD_eq h2
          subst e1 e2
          have v1 := rp_ints a1
          have v2 := rp_ints a2
          subst v1 v2
          refine .inr ⟨a, b, ns, ms, rfl, rfl, k.sub.sqT t1, k.sub.sqT t2, ?_⟩
          rw [lex_le]
          exact q _ _ G H k.stp (.bl _) h
    | _ => exact h.elim
  | _ => exact h.elim
def gGe : D2 := fun x y P => match x, y with
  | .int i, .int j => P (.bool (decide (j ≤ i)))
  | _, _ => False
theorem od_ge : OpD w X (compareOp .GtE) gGe := by
  refine ⟨_, op_ge, fun x y d e G H P Q k r1 r2 h q => ?_⟩
  cases r1 with
  | int i =>
    cases r2 with
    | int j => exact ⟨i, j, rfl, rfl, q _ _ G H k.stp (.bl _) h⟩
    | _ => exact h.elim
  | _ => cases r2 <;> exact h.elim
/-! arithmetic -/
def gI (C : Int → Int → Prop) (f : Int → Int → Int) : D2 := fun x y P => match x, y with
  | .int i, .int j => C i j ∧ P (.int (f i j))
  | _, _ => False
theorem ro_I {K : PySem.W.Frag} {C : Int → Int → Prop} {f : Int → Int → Int} : RO w K (rI C fun i j => .int (f i j)) (gI C f) := by
  intro x y d e G H P Q k r1 r2 h q
  cases r1 with
  | int i =>
    cases r2 with
    | int j => exact ⟨i, j, rfl, rfl, h.1, q _ _ G H k.stp (.int _) h.2⟩
    | _ => exact h.elim
  | _ => cases r2 <;> exact h.elim
def gI0 (f : Int → Int → Int) : D2 := fun x y P => match x, y with
  | .int i, .int j => P (.int (f i j))
  | _, _ => False
theorem ro_I0 {K : PySem.W.Frag} {f : Int → Int → Int} : RO w K (rI0 fun i j => .int (f i j)) (gI0 f) := by
  intro x y d e G H P Q k r1 r2 h q
  cases r1 with
  | int i =>
    cases r2 with
    | int j => exact ⟨i, j, rfl, rfl, q _ _ G H k.stp (.int _) h⟩
    | _ => exact h.elim
  | _ => cases r2 <;> exact h.elim
theorem od_sub : OpD w X (binaryOp .Sub) (gI0 (· - ·)) := ⟨_, op_sub, ro_I0⟩
theorem od_mul : OpD w X (binaryOp .Mult) (gI CMul (· * ·)) := ⟨_, op_mul, ro_I⟩
theorem od_mod : OpD w X (binaryOp .Mod) (gI (fun _ j => 0 < j) (· % ·)) := ⟨_, op_mod, ro_I⟩
theorem od_div : OpD w X (binaryOp .FloorDiv) (gI CDivW (· / ·)) := ⟨_, op_fdivW, ro_I⟩
theorem od_pow : OpD w X (binaryOp .Pow) (gI CPow fun i j => i ^ j.toNat) := ⟨_, op_pow, ro_I⟩
theorem od_shr : OpD w X (binaryOp .RShift) (gI (fun _ j => 0 ≤ j) fun i j => i / 2 ^ j.toNat) := ⟨_, op_shr, ro_I⟩
theorem od_and : OpD w X (binaryOp .BitAnd) (gI0 Builtin.bitAnd) := ⟨_, op_and, ro_I0⟩
/-- +: intsD, lists, tuples, texts -/
def gAdd : D2 := fun x y P => match x, y with
  | .int i, .int j => P (.int (i + j))
  | .list xs, .list ys => xs.length + ys.length ≤ 1000000 ∧ P (.list (xs ++ ys))
  | .tuple xs, .tuple ys => xs.length + ys.length ≤ 1000000 ∧ P (.tuple (xs ++ ys))
  | _, _ => False
theorem od_add : OpD w X (binaryOp .Add) gAdd := by
  refine ⟨_, OpR.or op_add (OpR.or op_cat op_catA), fun x y d e G H P Q k r1 r2 h q => ?_⟩
  cases r1 with
  | int i =>
    cases r2 with
    | int j => exact .inl ⟨i, j, rfl, rfl, q _ _ G H k.stp (.int _) h⟩
    | _ => exact h.elim
  | @lst a xs ds t1 a1 =>
    cases r2 with
    | @lst b ys es t2 a2 =>
      obtain ⟨hl, h⟩ := h
      refine .inr (.inl ⟨a, b, xs, ys, rfl, rfl, k.sub _ _ t1, k.sub _ _ t2, line_le (by rw [a1.len, a2.len]; exact hl), fun p hp => ?_⟩)
      exact q _ _ _ _ (Stp.new k hp) (.lst upd_same ((a1.append a2).mono (Sub.new (k.g_none hp)))) h
    | _ => exact h.elim
  | @tup a xs ds t1 a1 =>
    cases r2 with
    | @tup b ys es t2 a2 =>
      obtain ⟨hl, h⟩ := h
      refine .inr (.inr ⟨a, b, xs, ys, rfl, rfl, k.sub.sqT t1, k.sub.sqT t2, line_le (by rw [a1.len, a2.len]; exact hl), fun e0 => ?_, fun _ e1 => ?_, fun _ _ p hp => ?_⟩)
      · subst e0
        cases a1
        exact q _ _ G H k.stp (.tup t2 a2) h
      · subst e1
        cases a2
        rw [List.append_nil] at h
        exact q _ _ G H k.stp (.tup t1 a1) h
      · exact q _ _ _ _ (Stp.new k hp) (.tup (SqT.of upd_same) ((a1.append a2).mono (Sub.new (k.g_none hp)))) h
    | _ => exact h.elim
  | _ => cases r2 <;> exact h.elim
/-! in -/
def flatD : DD → Bool
  | .none => true
  | .bool _ => true
  | .int _ => true
  | .str _ => true
  | _ => false
theorem Rp.flat {K : PySem.W.Frag} {G : Hp} {v : V} {d : DD} (r : Rp K G v d) (h : flatD d = true) : flatV v = true := by
  cases r <;> first | rfl | cases h
theorem RpAll.flat {K : PySem.W.Frag} {G : Hp} : ∀ {vs : List V} {ds : List DD}, RpAll K G vs ds → ds.all flatD = true → vs.all flatV = true
  | _, _, .nil, _ => rfl
  | _, _, .cons a b, h => by
    rw [List.all_cons, Bool.and_eq_true] at h ⊢
    exact ⟨a.flat h.1, RpAll.flat b h.2⟩
theorem Rp.eqV {K : PySem.W.Frag} {G : Hp} {v u : V} {d e : DD} (r : Rp K G v d) (r' : Rp K G u e) (h : flatD d = true) (h' : flatD e = true) : L2.eqV v u = PyData.eqv d e := by
  cases r <;> cases r' <;> first | rfl | cases h | cases h' | skip
  all_goals simp [L2.eqV, PyData.eqv]
theorem RpAll.inV {K : PySem.W.Frag} {G : Hp} {u : V} {e : DD} (r' : Rp K G u e) (h' : flatD e = true) : ∀ {vs : List V} {ds : List DD}, RpAll K G vs ds → ds.all flatD = true → (vs.any fun y => L2.eqV y u) = ds.any fun y => PyData.eqv y e
  | _, _, .nil, _ => rfl
  | _, _, .cons a b, h => by
    rw [List.all_cons, Bool.and_eq_true] at h
    rw [List.any_cons, List.any_cons, a.eqV r' h.1 h', RpAll.inV r' h' b h.2]
def seqOf : DD → Option (List DD)
  | .list ds => some ds
  | .tuple ds => some ds
  | _ => none
def inD (x y : DD) : Option Bool := match seqOf y with
  | some ds => if flatD x = true ∧ ds.all flatD = true then some (ds.any fun z => PyData.eqv z x) else none
  | none => none
theorem od_in : OpD w X (compareOp .In) (gB inD) := by
  refine ⟨_, op_in_seq, fun x y d e G H P Q k r1 r2 h q => ?_⟩
  unfold gB inD at h
  have main : ∀ (p : Addr) (xs : List V) (ds : List DD), y = .ref p → (SqL X.K H p xs ∨ SqT X.K H p xs) → RpAll X.K G xs ds → flatD d = true → ds.all flatD = true → P (.bool (ds.any fun z => PyData.eqv z d)) → rIn X.K false x y H Q := by
    intro p xs ds ey hs ha fx fa hp
    refine ⟨p, xs, ey, hs, r1.flat fx, ha.flat fa, ?_⟩
    have z : (if false = true then !L2.inV x xs else L2.inV x xs) = ds.any fun z => PyData.eqv z d := by
      rw [if_neg Bool.false_ne_true]; exact ha.inV r1 fx fa
    rw [z]
    exact q _ _ G H k.stp (.bl _) hp
  cases r2 with
  | @lst a xs ds t a1 =>
    simp only [seqOf] at h
    split at h
    · rename_i b hb
      split at hb
      · rename_i hf
        cases hb
        exact main a xs ds rfl (.inl (SqL.of (k.sub _ _ t))) a1 hf.1 hf.2 h
      · cases hb
    · exact h.elim
  | @tup a xs ds t a1 =>
    simp only [seqOf] at h
    split at h
    · rename_i b hb
      split at hb
      · rename_i hf
        cases hb
        exact main a xs ds rfl (.inr (k.sub.sqT t)) a1 hf.1 hf.2 h
      · cases hb
    · exact h.elim
  | _ => exact h.elim
end
end Z

set_option Elab.async false
set_option linter.all false
set_option maxRecDepth 100000
set_option maxHeartbeats 4000000
namespace Z
open PySem PySem.Spec PyProof.Rows L2
section
variable {w : Wd} {X : Cx} {a b c e : Expr} {es : List Expr} {ta tb tc : DE} {pos p2 : Pos}
/-! chains -/
theorem re_chain {r r' : R2} {g g' : D2} {ta' tb' tc' : TE} (ho : RO w X.K r g) (ho' : RO w X.K r' g') (ha : RE w X.K ta' ta) (hb : RE w X.K tb' tb) (hc : RE w X.K tc' tc) : RE w X.K (tChain r r' ta' tb' tc') (dCh g g' ta tb tc) := by
  intro σ ρ G H P Q k s h q
  refine ha σ ρ G H _ _ k s h fun x d G1 H1 s1 r1 p1 => ?_
  refine hb σ ρ G1 H1 _ _ (s1.okw k) (s.mono s1.up) p1 fun y e G2 H2 s2 r2 p2 => ?_
  have k2 := s2.okw (s1.okw k)
  refine ho x y d e G2 H2 _ _ k2 (r1.mono s2.up) r2 p2 fun v z G3 H3 s3 r3 p3 => ?_
  cases r3 with
  | bl m =>
    refine ⟨m, rfl, ?_⟩
    cases m with
    | true =>
      show tc' σ H3 _
      refine hc σ ρ G3 H3 _ _ (s3.okw k2) (s.mono ((s1.up.trans s2.up).trans s3.up)) p3 fun u f G4 H4 s4 r4 p4 => ?_
      exact ho' y u e f G4 H4 P Q (s4.okw (s3.okw k2)) (r2.mono (s3.up.trans s4.up)) r4 p4 fun v d G5 H5 s5 => q v d G5 H5 ((((s1.trans s2).trans s3).trans s4).trans s5)
    | false =>
      show Q (.bl false) H3
      exact q _ _ G3 H3 ((s1.trans s2).trans s3) (.bl false) p3
  | _ => exact p3.elim
theorem pd_ch {op op' : CmpOp} {g g' : D2} (ho : OpD w X (compareOp op) g) (ho' : OpD w X (compareOp op') g') (ha : PD w X a ta) (hb : PD w X b tb) (hc : PD w X c tc) (hm : lastMarks [op, op'] [b, c] = false := by with_unfolding_all rfl) :
    PD w X (.Compare a [op, op'] [b, c] pos) (dCh g g' ta tb tc) := by
  obtain ⟨r, o1, o2⟩ := ho
  obtain ⟨r', o1', o2'⟩ := ho'
  obtain ⟨ta', a1, a2⟩ := ha
  obtain ⟨tb', b1, b2⟩ := hb
  obtain ⟨tc', c1, c2⟩ := hc
  exact ⟨_, pe_chain o1 o1' a1 b1 c1 hm, re_chain o2 o2' a2 b2 c2⟩
theorem pt_ch {op op' : CmpOp} {g g' : D2} (ho : OpD w X (compareOp op) g) (ho' : OpD w X (compareOp op') g') (ha : PD w X a ta) (hb : PD w X b tb) (hc : PD w X c tc) (hm : lastMarks [op, op'] [b, c] = false := by with_unfolding_all rfl) :
    PDT w X (.Compare a [op, op'] [b, c] pos) (dT (dCh g g' ta tb tc)) := by
  obtain ⟨r, o1, o2⟩ := ho
  obtain ⟨r', o1', o2'⟩ := ho'
  obtain ⟨ta', a1, a2⟩ := ha
  obtain ⟨tb', b1, b2⟩ := hb
  obtain ⟨tc', c1, c2⟩ := hc
  exact ⟨_, pt_chain o1 o1' a1 b1 c1 hm, rt_of (re_chain o2 o2' a2 b2 c2)⟩
/-! subscripts -/
def gIx : D2 := fun x y P => match x, y with
  | .list ds, .int i => match atI ds i with | some d => P d | none => False
  | .tuple ds, .int i => match atI ds i with | some d => P d | none => False
  | .str z, .int i => z.length ≤ 1000000 ∧ match atI z.cps.toList i with | some c => P (.str ⟨#[c]⟩) | none => False
  | _, _ => False
theorem at_rp {K : PySem.W.Frag} {G : Hp} {xs : List V} {ds : List DD} {i : Int} {d : DD} (r : RpAll K G xs ds) (h : atI ds i = some d) : ∃ v, atI xs i = some v ∧ Rp K G v d := by
  unfold atI at h ⊢
  rw [r.len]
  cases e : ixN ds.length i with
  | none => rw [e] at h; cases h
  | some j =>
    rw [e] at h
    exact r.getD h
theorem pd_ix (ha : PD w X a ta) (hb : PD w X b tb) (hs : PlainIx b := by exact fun _ _ => rfl) : PD w X (.Subscript a b pos) (dOp gIx ta tb) := by
  obtain ⟨ta', a1, a2⟩ := ha
  obtain ⟨tb', b1, b2⟩ := hb
  refine ⟨_, pe_ix ix_seq a1 b1 hs, re_op (fun x y d e G H P Q k r1 r2 h q => ?_) a2 b2⟩
  unfold gIx at h
  cases r1 with
  | @lst p xs ds t1 q1 =>
    cases r2 with
    | int i =>
      simp only at h
      cases hd : atI ds i with
      | none => rw [hd] at h; exact h.elim
      | some d =>
        rw [hd] at h
        obtain ⟨v, hv, rv⟩ := at_rp q1 hd
        exact .inl ⟨p, xs, i, v, rfl, rfl, SqL.of (k.sub _ _ t1), hv, q _ _ G H k.stp rv h⟩
    | _ => exact h.elim
  | @tup p xs ds t1 q1 =>
    cases r2 with
    | int i =>
      simp only at h
      cases hd : atI ds i with
      | none => rw [hd] at h; exact h.elim
      | some d =>
        rw [hd] at h
        obtain ⟨v, hv, rv⟩ := at_rp q1 hd
        exact .inr (.inl ⟨p, xs, i, v, rfl, rfl, k.sub.sqT t1, hv, q _ _ G H k.stp rv h⟩)
    | _ => exact h.elim
  | str z =>
    cases r2 with
    | int i =>
      simp only at h
      obtain ⟨hz, h⟩ := h
      cases hd : atI z.cps.toList i with
      | none => rw [hd] at h; exact h.elim
      | some m =>
        rw [hd] at h
        exact .inr (.inr ⟨z, i, m, rfl, rfl, line_le hz, hd, q _ _ G H k.stp (.str _) h⟩)
    | _ => exact h.elim
  | _ => cases r2 <;> exact h.elim
/-! slices -/
abbrev DO := En → (Option Int → Prop) → Prop
structure PDO (w : Wd) (X : Cx) (e : Option Expr) (td : DO) : Prop where
  ex : ∃ to, PO X e to ∧ ∀ σ ρ G H (P : Option Int → Prop) (Q : Option Int → Hp → Prop), Okw w G H → SlOk X.K G σ ρ → td ρ P → (∀ o G2 H2, Stp w G H G2 H2 → P o → Q o H2) → to σ H Q
def dNo : DO := fun _ P => P none
def dSo (ta : DE) : DO := fun ρ P => ta ρ fun d => match d with
  | .int i => P (some i)
  | _ => False
theorem do_no : PDO w X none dNo := ⟨_, po_none, fun _ _ G H _ _ k _ h q => q _ G H k.stp h⟩
theorem do_so (ha : PD w X a ta) : PDO w X (some a) (dSo ta) := by
  obtain ⟨ta', a1, a2⟩ := ha
  refine ⟨_, po_some a1, fun σ ρ G H P Q k s h q => ?_⟩
  refine a2 σ ρ G H _ _ k s h fun v d G1 H1 s1 r1 p1 => ?_
  cases r1 with
  | int i => exact ⟨i, rfl, q _ G1 H1 s1 p1⟩
  | _ => exact p1.elim
def cutZ (xs : List DD) (lo hi : Option Int) : List DD := (xs.drop (HT.sIx xs.length 0 lo)).take (HT.sIx xs.length xs.length hi - HT.sIx xs.length 0 lo)
theorem RpAll.cut {K : PySem.W.Frag} {G : Hp} {xs : List V} {ds : List DD} (r : RpAll K G xs ds) (lo hi : Option Int) : RpAll K G (cutV xs lo hi) (cutZ ds lo hi) := by
  unfold cutV cutZ
  rw [r.len]
  exact (r.drop _).take _
theorem cut_whole (xs : List V) (lo hi : Option Int) (h : HT.sIx xs.length 0 lo = 0 ∧ HT.sIx xs.length xs.length hi = xs.length) : cutV xs lo hi = xs := by
  unfold cutV
  rw [h.1, h.2, List.drop_zero, Nat.sub_zero, List.take_length]
def dSl (ta : DE) (tl th : DO) : DE := fun ρ P => ta ρ fun x => tl ρ fun lo => th ρ fun hi => match x with
  | .list ds => P (.list (cutZ ds lo hi))
  | .tuple ds => P (.tuple (cutZ ds lo hi))
  | _ => False
variable {lo hi : Option Expr} {tl th : DO}
theorem pd_sl (ha : PD w X a ta) (hl : PDO w X lo tl) (hh : PDO w X hi th) : PD w X (.Subscript a (.Slice lo hi none p2) pos) (dSl ta tl th) := by
  obtain ⟨ta', a1, a2⟩ := ha
  obtain ⟨tl', l1, l2⟩ := hl
  obtain ⟨th', h1, h2⟩ := hh
  refine ⟨_, pe_slice (SlR.or sl_list sl_tupA) a1 l1 h1, fun σ ρ G H P Q k s h q => ?_⟩
  refine a2 σ ρ G H _ _ k s h fun x d G1 H1 s1 r1 p1 => ?_
  refine l2 σ ρ G1 H1 _ _ (s1.okw k) (s.mono s1.up) p1 fun o G2 H2 s2 p2 => ?_
  have k2 := s2.okw (s1.okw k)
  refine h2 σ ρ G2 H2 _ _ k2 (s.mono (s1.up.trans s2.up)) p2 fun o' G3 H3 s3 p3 => ?_
  have k3 := s3.okw k2
  have r3 := r1.mono (s2.up.trans s3.up)
  have s13 := (s1.trans s2).trans s3
  cases r3 with
  | @lst p xs ds t1 q1 =>
    exact .inl ⟨p, xs, rfl, SqL.of (k3.sub _ _ t1), fun n hn => q _ _ _ _ (s13.trans (Stp.new k3 hn)) (.lst upd_same ((q1.cut o o').mono (Sub.new (k3.g_none hn)))) p3⟩
  | @tup p xs ds t1 q1 =>
    refine .inr ⟨p, xs, rfl, k3.sub.sqT t1, fun hw => ?_, fun _ n hn => ?_⟩
    · refine q _ _ G3 H3 s13 (.tup t1 ?_) p3
      have z := q1.cut o o'
      rw [cut_whole xs o o' hw] at z
      exact z
    · exact q _ _ _ _ (s13.trans (Stp.new k3 hn)) (.tup (SqT.of upd_same) ((q1.cut o o').mono (Sub.new (k3.g_none hn)))) p3
  | _ => exact p3.elim
/-! calls of built-ins -/
variable {x : Str} {id : String} {p pp : Pos}
def dCall (g : D1) (t : DA) : DE := fun ρ P => t ρ fun ds => g ds P
theorem pd_cb {g : D1} {t : DA} (hc : CallD w X (.builtin id) g) (hm : X.mg x = none) (hv : bootBuiltins x = some (.builtin id)) (ha : PDA w X (e :: es) t) (hg : Gl X x := by rfl) (hn : x ≠ "__name__" := by decide) (hdb : (x == ("__debug__" : Str)) = false := by decide)
    (he : starEach (e :: es) X.env = (false, eval e X.env) :: starEach es X.env := by rfl) (hpl : (backTo pos (starEach es X.env)).any (·.1) = false := by rfl) : PD w X (.Call (.Name x p) (e :: es) [] pos) (dCall g t) := by
  obtain ⟨r, c1, c2⟩ := hc
  obtain ⟨t', a1, a2⟩ := ha
  refine ⟨_, pe_callB c1 hg hm hv a1 hn hdb he hpl, fun σ ρ G H P Q k s h q => ?_⟩
  refine a2 σ ρ G H _ _ k s h fun vs ds G1 H1 s1 r1 _ p1 => ?_
  exact c2 vs ds G1 H1 P Q (s1.okw k) r1 p1 fun v d G2 H2 s2 => q v d G2 H2 (s1.trans s2)
theorem pd_ct {g : D1} {t : DA} {T : String} (hc : CallD w X (.type T) g) (hm : X.mg x = none) (hv : bootBuiltins x = some (.type T)) (ha : PDA w X (e :: es) t) (hg : Gl X x := by rfl) (hn : x ≠ "__name__" := by decide) (hdb : (x == ("__debug__" : Str)) = false := by decide)
    (he : starEach (e :: es) X.env = (false, eval e X.env) :: starEach es X.env := by rfl) (hpl : (backTo pos (starEach es X.env)).any (·.1) = false := by rfl) : PD w X (.Call (.Name x p) (e :: es) [] pos) (dCall g t) := by
  obtain ⟨r, c1, c2⟩ := hc
  obtain ⟨t', a1, a2⟩ := ha
  refine ⟨_, pe_callTy c1 hg hm hv a1 hn hdb he hpl, fun σ ρ G H P Q k s h q => ?_⟩
  refine a2 σ ρ G H _ _ k s h fun vs ds G1 H1 s1 r1 _ p1 => ?_
  exact c2 vs ds G1 H1 P Q (s1.okw k) r1 p1 fun v d G2 H2 s2 => q v d G2 H2 (s1.trans s2)
/-- one argument -/
def g1 (g : DD → (DD → Prop) → Prop) : D1 := fun ds P => match ds with
  | [d] => g d P
  | _ => False
theorem one_of {K : PySem.W.Frag} {G : Hp} {vs : List V} {ds : List DD} {g : DD → (DD → Prop) → Prop} {P : DD → Prop} (r : RpAll K G vs ds) (h : g1 g ds P) : ∃ v d, vs = [v] ∧ Rp K G v d ∧ g d P := by
  cases r with
  | nil => exact h.elim
  | cons a b =>
    cases b with
    | nil => exact ⟨_, _, rfl, a, h⟩
    | cons _ _ => exact h.elim
def gLen : DD → (DD → Prop) → Prop := fun d P => match d with
  | .list ds => P (.int ds.length)
  | .tuple ds => P (.int ds.length)
  | .str z => z.length ≤ 1000000 ∧ P (.int z.length)
  | _ => False
theorem cd_len : CallD w X (.builtin "len") (g1 gLen) := by
  refine ⟨_, call_len, fun vs ds G H P Q k r h q => ?_⟩
  obtain ⟨v, d, rfl, r1, h⟩ := one_of r h
  cases r1 with
  | @lst p xs es t1 q1 => exact ⟨_, es.length, rfl, .inl ⟨xs, SqL.of (k.sub _ _ t1), q1.len.symm⟩, q _ _ G H k.stp (.int _) h⟩
  | @tup p xs es t1 q1 => exact ⟨_, es.length, rfl, .inr ⟨xs, k.sub.sqT t1, q1.len.symm⟩, q _ _ G H k.stp (.int _) h⟩
  | str z => exact ⟨_, z.length, rfl, ⟨line_le h.1, rfl⟩, q _ _ G H k.stp (.int _) h.2⟩
  | _ => exact h.elim
def gAbs : DD → (DD → Prop) → Prop := fun d P => match d with
  | .int i => P (.int (if i < 0 then -i else i))
  | _ => False
theorem cd_abs : CallD w X (.builtin "abs") (g1 gAbs) := by
  refine ⟨_, call_abs, fun vs ds G H P Q k r h q => ?_⟩
  obtain ⟨v, d, rfl, r1, h⟩ := one_of r h
  cases r1 with
  | int i => exact ⟨i, rfl, q _ _ G H k.stp (.int _) h⟩
  | _ => exact h.elim
def gInt : DD → (DD → Prop) → Prop := fun d P => match d with
  | .int i => P (.int i)
  | .bool b => P (.int (if b then 1 else 0))
  | _ => False
theorem cd_int : CallD w X (.type "int") (g1 gInt) := by
  refine ⟨_, call_int1, fun vs ds G H P Q k r h q => ?_⟩
  obtain ⟨v, d, rfl, r1, h⟩ := one_of r h
  cases r1 with
  | int i => exact .inl ⟨i, rfl, q _ _ G H k.stp (.int _) h⟩
  | bl i => exact .inr ⟨i, rfl, q _ _ G H k.stp (.int _) h⟩
  | _ => exact h.elim
def gOrd : DD → (DD → Prop) → Prop := fun d P => match d with
  | .str z => z.length = 1 ∧ P (.int (z.cps.getD 0 0 : Nat))
  | _ => False
theorem cd_ord : CallD w X (.builtin "ord") (g1 gOrd) := by
  refine ⟨_, call_ord, fun vs ds G H P Q k r h q => ?_⟩
  obtain ⟨v, d, rfl, r1, h⟩ := one_of r h
  cases r1 with
  | str z => exact ⟨z, rfl, h.1, q _ _ G H k.stp (.int _) h.2⟩
  | _ => exact h.elim
def gTuple : DD → (DD → Prop) → Prop := fun d P => match d with
  | .list ds => P (.tuple ds)
  | .tuple ds => P (.tuple ds)
  | _ => False
theorem cd_tuple : CallD w X (.type "tuple") (g1 gTuple) := by
  refine ⟨_, call_tuple_of, fun vs ds G H P Q k r h q => ?_⟩
  obtain ⟨v, d, rfl, r1, h⟩ := one_of r h
  cases r1 with
  | @lst p xs es t1 q1 => exact ⟨p, xs, rfl, .inl ⟨SqL.of (k.sub _ _ t1), fun n hn => q _ _ _ _ (Stp.new k hn) (.tup (SqT.of upd_same) (q1.mono (Sub.new (k.g_none hn)))) h⟩⟩
  | @tup p xs es t1 q1 => exact ⟨p, xs, rfl, .inr ⟨k.sub.sqT t1, q _ _ G H k.stp (.tup t1 q1) h⟩⟩
  | _ => exact h.elim
def gList : DD → (DD → Prop) → Prop := fun d P => match d with
  | .list ds => P (.list ds)
  | .tuple ds => P (.list ds)
  | _ => False
theorem cd_list : CallD w X (.type "list") (g1 gList) := by
  refine ⟨_, call_list_of, fun vs ds G H P Q k r h q => ?_⟩
  obtain ⟨v, d, rfl, r1, h⟩ := one_of r h
  cases r1 with
  | @lst p xs es t1 q1 => exact ⟨p, xs, rfl, .inl (SqL.of (k.sub _ _ t1)), fun n hn => q _ _ _ _ (Stp.new k hn) (.lst upd_same (q1.mono (Sub.new (k.g_none hn)))) h⟩
  | @tup p xs es t1 q1 => exact ⟨p, xs, rfl, .inr (k.sub.sqT t1), fun n hn => q _ _ _ _ (Stp.new k hn) (.lst upd_same (q1.mono (Sub.new (k.g_none hn)))) h⟩
  | _ => exact h.elim
/-! isinstance -/
inductive Ty where
  | str | int | bool | tuple | list
def Ty.nm : Ty → String
  | .str => "str"
  | .int => "int"
  | .bool => "bool"
  | .tuple => "tuple"
  | .list => "list"
def isa : Ty → DD → Bool
  | .str, .str _ => true
  | .int, .int _ => true
  | .int, .bool _ => true
  | .bool, .bool _ => true
  | .tuple, .tuple _ => true
  | .list, .list _ => true
  | _, _ => false
theorem isa_kit {K : PySem.W.Frag} {G : Hp} {v : V} {d : DD} (r : Rp K G v d) (T : Ty) : ∃ t, TyX K G v (.type t) ∧ kitB t T.nm = some (isa T d) := by
  cases r with
  | non => exact ⟨_, .base .non, by cases T <;> first | (show _ = some true; decide +kernel) | (show _ = some false; decide +kernel)⟩
  | bl b => exact ⟨_, .base (.bl b), by cases T <;> first | (show _ = some true; decide +kernel) | (show _ = some false; decide +kernel)⟩
  | int i => exact ⟨_, .base (.int i), by cases T <;> first | (show _ = some true; decide +kernel) | (show _ = some false; decide +kernel)⟩
  | str z => exact ⟨_, .base (.str z), by cases T <;> first | (show _ = some true; decide +kernel) | (show _ = some false; decide +kernel)⟩
  | lst h _ => exact ⟨_, .base (.lst h), by cases T <;> first | (show _ = some true; decide +kernel) | (show _ = some false; decide +kernel)⟩
  | tup h _ =>
    rcases h with (h | ⟨o, h⟩) | ⟨o, its, n, e, c, _⟩
    · exact ⟨_, .base (.tup h), by cases T <;> first | (show _ = some true; decide +kernel) | (show _ = some false; decide +kernel)⟩
    · exact ⟨_, .fTuple h, by cases T <;> first | (show _ = some true; decide +kernel) | (show _ = some false; decide +kernel)⟩
    · exact ⟨_, .kTuple e c, by cases T <;> first | (show _ = some true; decide +kernel) | (show _ = some false; decide +kernel)⟩
def dIsi (T : Ty) (ta : DE) : DE := fun ρ P => ta ρ fun d => P (.bool (isa T d))
theorem pd_isi (T : Ty) {y : Str} (hm : X.mg "isinstance" = none) (hm2 : X.mg y = none) (hv2 : bootBuiltins y = some (.type T.nm)) (ha : PD w X e ta) (hg : Gl X "isinstance" := by rfl) (hg2 : Gl X y := by rfl) (hn2 : y ≠ "__name__" := by decide) (hd2 : (y == ("__debug__" : Str)) = false := by decide)
    (hs1 : starEach [e, .Name y pp] X.env = (false, eval e X.env) :: starEach [.Name y pp] X.env := by rfl) (hpl : (backTo pos (starEach [.Name y pp] X.env)).any (·.1) = false := by rfl) : PD w X (.Call (.Name "isinstance" p) [e, .Name y pp] [] pos) (dIsi T ta) := by
  obtain ⟨ta', a1, a2⟩ := ha
  refine ⟨_, pe_callB call_isi hg hm (by decide +kernel) (pa_cons a1 (pa_cons (pe_bltn (v := .ty T.nm) hg2 hm2 hv2 rfl hn2 hd2) pa_nil) hs1) (by decide) (by decide) hs1 hpl, fun σ ρ G H P Q k s h q => ?_⟩
  refine a2 σ ρ G H _ _ k s h fun v d G1 H1 s1 r1 p1 => ?_
  obtain ⟨t, ht, hk⟩ := isa_kit (r1.mono s1.sub) T
  exact ⟨v, .ty T.nm, .type t, .type T.nm, isa T d, rfl, .ty _, ht, kit_ty hk, q _ _ G1 H1 s1 (.bl _) p1⟩
end
end Z

set_option Elab.async false
set_option linter.all false
set_option maxRecDepth 100000
set_option maxHeartbeats 4000000
namespace PySem
section
variable {prog : Program} {w : World} {A : Around} {E : Value → Shared → Prop} {s : Shared}
theorem zmax2 {a b : Value} {Q : Value → Shared → Prop} {bt : Nat → Nat → Bool} (hh : A.handled = none) (hc : CmpIn prog w A.in1 .Gt s.heap (fun i v => #[a, b][i]? = some v) bt)
    (h : ∀ h' tk, (∀ c o, s.heap.get? c = some o → h'.get? c = some o) → Q (if bt 1 0 then b else a) { s with heap := h', toks := tk }) : wpAny (model prog w) A (call (.builtin "max") [a, b]) Q E s := by
  have hname : (toString "max" ++ toString ".loop" : String) = "max.loop" := by decide
  refine call_function_tree F.kind_max F.plain_max F.entry_max (F.args_max2 _ _) (wpAny_bind (wpAny_of_eq (show Builtin.Builtins.bindParams "max" ["key", "default"] 0 ⟨[], []⟩ = pure [none, none] from rfl) ?_))
  show wpAny _ A.in1 (newTuple [a, b] >>= _) _ _ s
  have hT : (s.heap.push { cls := .type "tuple", data := .seq [a, b].toArray }).IsTuple s.heap.objs.size #[a, b] := ⟨_, Heap.get?_push_size _ rfl, rfl, 0, rfl⟩
  have keep0 : ∀ c o, s.heap.get? c = some o → (s.heap.push { cls := .type "tuple", data := .seq [a, b].toArray }).get? c = some o := fun c o e => Heap.get?_push_of_some _ e
  refine wpAny_bind (wpAny_newObj_type (wpAny_bind (W.iter_tupleW (A := A.in1) hh hT fun s₂ e WW st hfp hw hk => wpAny_bind (wpAny_newObj_type ?_))))
  have hSf := fun hm => Nat.lt_irrefl _ (hfp s₂.heap.objs.size hm)
  have kk : ∀ c o, s.heap.get? c = some o → s₂.heap.get? c = some o := fun c o z => hk c o (keep0 c o z)
  rw [hname]
  refine wpAny_pure ⟨plainId_quiet F.plain_max_loop _, codeAny_max_loop_firstH WW s.heap (fun c o z hm => hw c o (keep0 c o z) hm) bt hc s₂.heap.objs.size hSf (fresh_in kk) _ (show 0 < 2 from Nat.zero_lt_succ _) (fun c o z => Heap.get?_push_of_some _ (kk c o z)) (WW.frame 0 s₂ _ s₂.toks st (Nat.le_refl _) fun c _ o z => Heap.get?_push_of_some _ z) (Heap.get?_push_size _ rfl) fun v s' hP hm => ?_⟩
  obtain ⟨h', tk, rfl, hk'⟩ := PySem.W.moved_old e rfl (Moved.drop_new (tk := s₂.toks) hm (Nat.le_refl _))
  have hv : v = if bt 1 0 then b else a := by
    cases hb : bt 1 0 <;> simp [argBest, hb] at hP <;> simp [hP]
  rw [hv]
  exact h h' tk fun c o z => hk' c o (keep0 c o z)
theorem zmin2 {a b : Value} {Q : Value → Shared → Prop} {bt : Nat → Nat → Bool} (hh : A.handled = none) (hc : CmpIn prog w A.in1 .Lt s.heap (fun i v => #[a, b][i]? = some v) bt)
    (h : ∀ h' tk, (∀ c o, s.heap.get? c = some o → h'.get? c = some o) → Q (if bt 1 0 then b else a) { s with heap := h', toks := tk }) : wpAny (model prog w) A (call (.builtin "min") [a, b]) Q E s := by
  have hname : (toString "min" ++ toString ".loop" : String) = "min.loop" := by decide
  refine call_function_tree F.kind_min F.plain_min F.entry_min (F.args_min2 _ _) (wpAny_bind (wpAny_of_eq (show Builtin.Builtins.bindParams "min" ["key", "default"] 0 ⟨[], []⟩ = pure [none, none] from rfl) ?_))
  show wpAny _ A.in1 (newTuple [a, b] >>= _) _ _ s
  have hT : (s.heap.push { cls := .type "tuple", data := .seq [a, b].toArray }).IsTuple s.heap.objs.size #[a, b] := ⟨_, Heap.get?_push_size _ rfl, rfl, 0, rfl⟩
  have keep0 : ∀ c o, s.heap.get? c = some o → (s.heap.push { cls := .type "tuple", data := .seq [a, b].toArray }).get? c = some o := fun c o e => Heap.get?_push_of_some _ e
  refine wpAny_bind (wpAny_newObj_type (wpAny_bind (W.iter_tupleW (A := A.in1) hh hT fun s₂ e WW st hfp hw hk => wpAny_bind (wpAny_newObj_type ?_))))
  have hSf := fun hm => Nat.lt_irrefl _ (hfp s₂.heap.objs.size hm)
  have kk : ∀ c o, s.heap.get? c = some o → s₂.heap.get? c = some o := fun c o z => hk c o (keep0 c o z)
  rw [hname]
  refine wpAny_pure ⟨plainId_quiet F.plain_min_loop _, codeAny_min_loop_firstH WW s.heap (fun c o z hm => hw c o (keep0 c o z) hm) bt hc s₂.heap.objs.size hSf (fresh_in kk) _ (show 0 < 2 from Nat.zero_lt_succ _) (fun c o z => Heap.get?_push_of_some _ (kk c o z)) (WW.frame 0 s₂ _ s₂.toks st (Nat.le_refl _) fun c _ o z => Heap.get?_push_of_some _ z) (Heap.get?_push_size _ rfl) fun v s' hP hm => ?_⟩
  obtain ⟨h', tk, rfl, hk'⟩ := PySem.W.moved_old e rfl (Moved.drop_new (tk := s₂.toks) hm (Nat.le_refl _))
  have hv : v = if bt 1 0 then b else a := by
    cases hb : bt 1 0 <;> simp [argBest, hb] at hP <;> simp [hP]
  rw [hv]
  exact h h' tk fun c o z => hk' c o (keep0 c o z)
end
end PySem
namespace Z
open PySem PySem.Spec PyProof.Rows L2
theorem ordL_ints (f : Bool) : ∀ (ns ms : List Int), ZO.ordL f (ns.map PyData.int) (ms.map PyData.int) = some (bif f then HT.lexLt ms ns else HT.lexLt ns ms)
  | [], [] => by cases f <;> rfl
  | [], _ :: _ => by cases f <;> rfl
  | _ :: _, [] => by cases f <;> rfl
  | n :: ns, m :: ms => by
    simp only [List.map_cons, ZO.ordL, HT.lexLt_cons]
    by_cases e : n = m
    · subst e
      simp only [PyData.eqv, beq_self_eq_true, cond_true, if_true]
      exact ordL_ints f ns ms
    · have h : PyData.eqv (.int n) (.int m) = false := by simpa [PyData.eqv] using e
      rw [h, if_neg e, if_neg (fun z => e z.symm)]
      cases f <;> rfl
theorem ord_ints (f : Bool) (ns ms : List Int) : ZO.ord f (.tuple (ns.map PyData.int)) (.tuple (ms.map PyData.int)) = some (bif f then HT.lexLt ms ns else HT.lexLt ns ms) := by
  rw [ZO.ord]; exact ordL_ints f ns ms
theorem depth_ints : ∀ ns : List Int, PyData.depthAll (ns.map PyData.int) = 0
  | [] => rfl
  | n :: ns => by rw [List.map_cons, PyData.depthAll, depth_ints ns]; rfl
theorem plain_ints : ∀ ns : List Int, PyData.plainAll (ns.map PyData.int) = true
  | [] => rfl
  | n :: ns => by rw [List.map_cons, PyData.plainAll, plain_ints ns]; rfl
theorem rpAll_ints {K : PySem.W.Frag} {H : Hp} : ∀ ns : List Int, RpAll K H (ns.map V.int) (ns.map PyData.int)
  | [] => .nil
  | n :: ns => .cons (.int n) (rpAll_ints ns)
section
variable {w : Wd} {X : Cx}
def rM2 (K : PySem.W.Frag) (mx : Bool) : List V → Hp → VK → Prop := fun xs H Q => ∃ (a b : Addr) (ns ms : List Int), xs = [.ref a, .ref b] ∧ SqT K H a (ns.map V.int) ∧ SqT K H b (ms.map V.int) ∧ Q (.ref (if (bif mx then HT.lexLt ns ms else HT.lexLt ms ns) = true then b else a)) H
theorem cmp_m2 {pins : List (Addr × Obj)} {s : Shared} {σ : L2.St} {H : Hp} {a b : Addr} {ns ms : List Int} (f : Bool) (hu : X.A.units + 64 < cLine) (I : Inv X pins σ H s) (ha : SqT X.K H a (ns.map V.int)) (hb : SqT X.K H b (ms.map V.int)) :
    ∃ bt, CmpIn X.prog X.w X.A.in1 (ZO.opOf f) s.heap (fun i v => #[Value.ref a, Value.ref b][i]? = some v) bt ∧ bt 1 0 = bif f then HT.lexLt ns ms else HT.lexLt ms ns := by
  have ra : Rp X.K H (.ref a) (.tuple (ns.map PyData.int)) := .tup ha (rpAll_ints ns)
  have rb : Rp X.K H (.ref b) (.tuple (ms.map PyData.int)) := .tup hb (rpAll_ints ms)
  obtain ⟨as, r1⟩ := ra.reads I rfl
  obtain ⟨bs, r2⟩ := rb.reads I rfl
  have all : ∀ (i : Nat) v, #[Value.ref a, Value.ref b][i]? = some v → ∃ cs, Reads s.heap v (.tuple ((if i = 0 then ns else ms).map PyData.int)) cs := fun i v hv => by
    match i, hv with
    | 0, hv =>
      have e : Value.ref a = v := Option.some.inj hv
      subst e
      exact ⟨as, r1⟩
    | 1, hv =>
      have e : Value.ref b = v := Option.some.inj hv
      subst e
      exact ⟨bs, r2⟩
    | i + 2, hv => simp at hv
  refine ⟨fun i j => bif f then HT.lexLt (if j = 0 then ns else ms) (if i = 0 then ns else ms) else HT.lexLt (if i = 0 then ns else ms) (if j = 0 then ns else ms), fun i j vi vj s' Q E hk hi hj hq => ?_, by cases f <;> rfl⟩
  obtain ⟨cs, q1⟩ := all i vi hi
  obtain ⟨ds, q2⟩ := all j vj hj
  refine ZO.rc_ord f 1 _ _ X.A.in1 s' vi vj cs ds _ ?_ (Reads.keeps hk q1) (Reads.keeps hk q2) ?_ ?_ ?_ (ord_ints f _ _) X.prog X.w E Q hq
  · rw [PyData.depth, depth_ints]; exact Nat.le_refl _
  · rw [PyData.plain]; exact plain_ints _
  · rw [PyData.plain]; exact plain_ints _
  · show X.A.units + 1 + 1 < cLine; omega
theorem call_zmax2 (hu : X.A.units + 64 < cLine) (hc : X.calm = true) : CallR X (.builtin "max") (rM2 X.K true) := by
  intro pins s σ H xs us Q I r h
  obtain ⟨a, b, ns, ms, rfl, ha, hb, q⟩ := h
  obtain ⟨u, v, rfl, e1, e2⟩ := vals2 r
  cases e1; cases e2
  obtain ⟨bt, c1, c2⟩ := cmp_m2 (X := X) true hu I ha hb
  refine zmax2 (I.ok.hd hc) c1 fun h' tk k => ⟨_, H, I.kept k, ?_, q⟩
  rw [c2]
  show _ = Value.ref _
  cases z : (bif true then HT.lexLt ns ms else HT.lexLt ms ns) <;> rfl
theorem call_zmin2 (hu : X.A.units + 64 < cLine) (hc : X.calm = true) : CallR X (.builtin "min") (rM2 X.K false) := by
  intro pins s σ H xs us Q I r h
  obtain ⟨a, b, ns, ms, rfl, ha, hb, q⟩ := h
  obtain ⟨u, v, rfl, e1, e2⟩ := vals2 r
  cases e1; cases e2
  obtain ⟨bt, c1, c2⟩ := cmp_m2 (X := X) false hu I ha hb
  refine zmin2 (I.ok.hd hc) c1 fun h' tk k => ⟨_, H, I.kept k, ?_, q⟩
  rw [c2]
  show _ = Value.ref _
  cases z : (bif false then HT.lexLt ns ms else HT.lexLt ms ns) <;> rfl
/-- max, min of two ints or of two tuples of ints -/
def gM2 (mx : Bool) : D1 := fun ds P => match ds with
  | [.int i, .int j] => P (.int (bif mx then (if j > i then j else i) else (if j < i then j else i)))
  | [.tuple xs, .tuple ys] => match intsD xs, intsD ys with
    | some ns, some ms => P (.tuple (if (bif mx then HT.lexLt ns ms else HT.lexLt ms ns) = true then ys else xs))
    | _, _ => False
  | _ => False
def rI2 (mx : Bool) : List V → Hp → VK → Prop := fun xs H Q => ∃ i j, xs = [.int i, .int j] ∧ Q (.int (bif mx then (if j > i then j else i) else (if j < i then j else i))) H
theorem rc_m2 {K : PySem.W.Frag} (mx : Bool) : RC w K (fun xs H Q => rM2 K mx xs H Q ∨ rI2 mx xs H Q) (gM2 mx) := by
  intro vs ds G H P Q k r h q
  cases r with
  | nil => exact h.elim
  | cons r1 r =>
    cases r with
    | nil => cases r1 <;> exact h.elim
    | cons r2 r =>
      cases r with
      | cons _ _ => cases r1 <;> cases r2 <;> exact h.elim
      | nil =>
        cases r1 with
        | int i =>
          cases r2 with
          | int j => exact .inr ⟨i, j, rfl, q _ _ G H k.stp (.int _) h⟩
          | _ => exact h.elim
        | @tup a xs es t1 q1 =>
          cases r2 with
          | @tup b ys fs t2 q2 =>
            simp only [gM2] at h
            cases h1 : intsD es with
            | none => rw [h1] at h; exact h.elim
            | some ns =>
              cases h2 : intsD fs with
              | none => rw [h1, h2] at h; exact h.elim
              | some ms =>
                rw [h1, h2] at h
                have e1 := intsD_eq h1
                have e2 := intsD_eq h2
                subst e1 e2
                have v1 := rp_ints q1
                have v2 := rp_ints q2
                subst v1 v2
                refine .inl ⟨a, b, ns, ms, rfl, k.sub.sqT t1, k.sub.sqT t2, q _ _ G H k.stp ?_ h⟩
                split
                · exact .tup t2 q2
                · exact .tup t1 q1
          | _ => exact h.elim
        | _ => cases r2 <;> exact h.elim
theorem callR_or {f : Value} {r r' : List V → Hp → VK → Prop} (h : CallR X f r) (h' : CallR X f r') : CallR X f (fun xs H Q => r xs H Q ∨ r' xs H Q) := by
  intro pins s σ H xs us Q I rv q
  rcases q with q | q
  · exact h pins s σ H xs us Q I rv q
  · exact h' pins s σ H xs us Q I rv q
theorem cd_max2 {k : Nat} (hr : Room k X.A) (hc : X.calm = true := by rfl) : CallD w X (.builtin "max") (gM2 true) := ⟨_, callR_or (call_zmax2 hr.units hc) (call_max2 hc), rc_m2 true⟩
theorem cd_min2 {k : Nat} (hr : Room k X.A) (hc : X.calm = true := by rfl) : CallD w X (.builtin "min") (gM2 false) := ⟨_, callR_or (call_zmin2 hr.units hc) (call_min2 hc), rc_m2 false⟩
/-- max, min of one list or tuple of ints, not empty -/
def rM1 (K : PySem.W.Frag) (mx : Bool) : List V → Hp → VK → Prop := fun xs H Q => ∃ (a : Addr) (n : Int) (ns : List Int), xs = [.ref a] ∧ (SqT K H a ((n :: ns).map V.int) ∨ SqL K H a ((n :: ns).map V.int)) ∧ Q (.int (bif mx then ns.foldl (fun a y => if a < y then y else a) n else ns.foldl (fun a y => if y < a then y else a) n)) H
theorem call_zmax1 (hu : X.A.units + 64 < cLine) (hc : X.calm = true) : CallR X (.builtin "max") (rM1 X.K true) := by
  intro pins s σ H xs us Q I r h
  obtain ⟨a, n, ns, rfl, ha, q⟩ := h
  obtain ⟨u, rfl, e1⟩ := vals1 r
  cases e1
  rcases ha with ha | ha
  · obtain ⟨its, r1, p1, _⟩ := I.tuple ha
    refine PySem.W.max_tuple_datum (α := Int) (x := n) (xs := ns) (I.ok.hd hc) p1 (PySem.W.HoldAll.of_ints (Vals.ints r1)) (by show X.A.units + 1 + 0 < cLine; omega) fun i v h' tk hi Hv k => ?_
    obtain ⟨t, rfl⟩ := PySem.W.int_of_holds Hv
    exact ⟨.int _, H, I.kept k, ⟨t, rfl⟩, by simpa [PySem.W.maxOf, PySem.W.DatumOrd.lt] using q⟩
  · obtain ⟨its, r1, ⟨o, m, e, c, _, d⟩, _⟩ := I.list ha
    refine PySem.W.max_list_datum (α := Int) (x := n) (xs := ns) (I.ok.hd hc) ⟨o, e, c, m, d⟩ (PySem.W.HoldAll.of_ints (Vals.ints r1)) (by show X.A.units + 1 + 0 < cLine; omega) fun i v h' tk hi Hv k => ?_
    obtain ⟨t, rfl⟩ := PySem.W.int_of_holds Hv
    exact ⟨.int _, H, I.kept k, ⟨t, rfl⟩, by simpa [PySem.W.maxOf, PySem.W.DatumOrd.lt] using q⟩
theorem call_zmin1 (hu : X.A.units + 64 < cLine) (hc : X.calm = true) : CallR X (.builtin "min") (rM1 X.K false) := by
  intro pins s σ H xs us Q I r h
  obtain ⟨a, n, ns, rfl, ha, q⟩ := h
  obtain ⟨u, rfl, e1⟩ := vals1 r
  cases e1
  rcases ha with ha | ha
  · obtain ⟨its, r1, p1, _⟩ := I.tuple ha
    refine PySem.W.min_tuple_datum (α := Int) (x := n) (xs := ns) (I.ok.hd hc) p1 (PySem.W.HoldAll.of_ints (Vals.ints r1)) (by show X.A.units + 1 + 0 < cLine; omega) fun i v h' tk hi Hv k => ?_
    obtain ⟨t, rfl⟩ := PySem.W.int_of_holds Hv
    exact ⟨.int _, H, I.kept k, ⟨t, rfl⟩, by simpa [PySem.W.minOf, PySem.W.DatumOrd.lt] using q⟩
  · obtain ⟨its, r1, ⟨o, m, e, c, _, d⟩, _⟩ := I.list ha
    refine PySem.W.min_list_datum (α := Int) (x := n) (xs := ns) (I.ok.hd hc) ⟨o, e, c, m, d⟩ (PySem.W.HoldAll.of_ints (Vals.ints r1)) (by show X.A.units + 1 + 0 < cLine; omega) fun i v h' tk hi Hv k => ?_
    obtain ⟨t, rfl⟩ := PySem.W.int_of_holds Hv
    exact ⟨.int _, H, I.kept k, ⟨t, rfl⟩, by simpa [PySem.W.minOf, PySem.W.DatumOrd.lt] using q⟩
def bestI (mx : Bool) (n : Int) (ns : List Int) : Int := bif mx then ns.foldl (fun a y => if a < y then y else a) n else ns.foldl (fun a y => if y < a then y else a) n
def gM1 (mx : Bool) : DD → (DD → Prop) → Prop := fun d P => match seqOf d with
  | some ds => match intsD ds with
    | some (n :: ns) => P (.int (bestI mx n ns))
    | _ => False
  | none => False
theorem rc_m1 {K : PySem.W.Frag} (mx : Bool) : RC w K (rM1 K mx) (g1 (gM1 mx)) := by
  intro vs ds G H P Q k r h q
  obtain ⟨v, d, rfl, r1, h⟩ := one_of r h
  unfold gM1 at h
  cases r1 with
  | @lst a xs es t1 q1 =>
    simp only [seqOf] at h
    cases h1 : intsD es with
    | none => rw [h1] at h; exact h.elim
    | some l =>
      cases l with
      | nil => rw [h1] at h; exact h.elim
      | cons n ns =>
        rw [h1] at h
        have e1 := intsD_eq h1
        subst e1
        have v1 := rp_ints q1
        subst v1
        exact ⟨a, n, ns, rfl, .inr (SqL.of (k.sub _ _ t1)), q _ _ G H k.stp (.int _) h⟩
  | @tup a xs es t1 q1 =>
    simp only [seqOf] at h
    cases h1 : intsD es with
    | none => rw [h1] at h; exact h.elim
    | some l =>
      cases l with
      | nil => rw [h1] at h; exact h.elim
      | cons n ns =>
        rw [h1] at h
        have e1 := intsD_eq h1
        subst e1
        have v1 := rp_ints q1
        subst v1
        exact ⟨a, n, ns, rfl, .inl (k.sub.sqT t1), q _ _ G H k.stp (.int _) h⟩
  | _ => exact h.elim
theorem cd_max1 {k : Nat} (hr : Room k X.A) (hc : X.calm = true := by rfl) : CallD w X (.builtin "max") (g1 (gM1 true)) := ⟨_, call_zmax1 hr.units hc, rc_m1 true⟩
theorem cd_min1 {k : Nat} (hr : Room k X.A) (hc : X.calm = true := by rfl) : CallD w X (.builtin "min") (g1 (gM1 false)) := ⟨_, call_zmin1 hr.units hc, rc_m1 false⟩
end
end Z

set_option Elab.async false
set_option linter.all false
set_option maxRecDepth 100000
set_option maxHeartbeats 4000000
namespace Z
open PySem PySem.Spec PyProof.Rows L2
section
variable {w : Wd} {X : Cx} {a b c e o : Expr} {es : List Expr} {ta tb tc to : DE} {pos p2 : Pos}
/-! methods of texts and lists -/
def strsD : List DD → Option (List Str)
  | [] => some []
  | .str i :: r => (strsD r).map (i :: ·)
  | _ :: _ => none
theorem strsD_eq : ∀ {ds : List DD} {ns : List Str}, strsD ds = some ns → ds = ns.map PyData.str
  | [], ns, h => by cases h; rfl
  | .str i :: r, ns, h => by
    simp only [strsD] at h
    cases e : strsD r with
    | none => rw [e] at h; cases h
    | some ms => rw [e] at h; cases h; rw [strsD_eq e]; rfl
  | .none :: _, _, h => by simp [strsD] at h
  | .bool _ :: _, _, h => by simp [strsD] at h
  | .int _ :: _, _, h => by simp [strsD] at h
  | .list _ :: _, _, h => by simp [strsD] at h
  | .tuple _ :: _, _, h => by simp [strsD] at h
  | .dict _ :: _, _, h => by simp [strsD] at h
theorem strsD_map : ∀ ns : List Str, strsD (ns.map PyData.str) = some ns
  | [] => rfl
  | n :: ns => by simp [strsD, strsD_map ns]
theorem rp_strs {K : PySem.W.Frag} {G : Hp} : ∀ {ns : List Str} {vs : List V}, RpAll K G vs (ns.map PyData.str) → vs = ns.map V.str
  | [], _, .nil => rfl
  | _ :: _, _, .cons (.str _) r => by rw [rp_strs r]; rfl
/-- a method of one argument -/
def RM (w : Wd) (K : PySem.W.Frag) (r : V → List V → Hp → VK → Prop) (g : D2) : Prop := ∀ x y d e G H (P : DD → Prop) (Q : VK), Okw w G H → Rp K G x d → Rp K G y e → g d e P →
  (∀ v d G2 H2, Stp w G H G2 H2 → Rp K G2 v d → P d → Q v H2) → r x [y] H Q
def dM1 (g : D2) (to ta : DE) : DE := fun ρ P => to ρ fun x => match x with
  | .str a => ta ρ fun y => g (.str a) y P
  | _ => False
theorem re_m1 {r : V → List V → Hp → VK → Prop} {g : D2} {to' ta' : TE} (hr : RM w X.K r g) (o2 : RE w X.K to' to) (a2 : RE w X.K ta' ta) : RE w X.K (tM1 r to' ta') (dM1 g to ta) := by
  intro σ ρ G H P Q k s h q
  refine o2 σ ρ G H _ _ k s h fun x d G1 H1 s1 r1 p1 => ?_
  cases r1 with
  | str z =>
    refine ⟨⟨z, rfl⟩, ?_⟩
    refine a2 σ ρ G1 H1 _ _ (s1.okw k) (s.mono s1.up) p1 fun y e G2 H2 s2 r2 p2 => ?_
    exact hr (.str z) y (.str z) e G2 H2 P Q (s2.okw (s1.okw k)) (.str z) r2 p2 fun v d G3 H3 s3 => q v d G3 H3 ((s1.trans s2).trans s3)
  | _ => exact p1.elim
def gJoin : D2 := fun x y P => match x, y with
  | .str a, .list ds => match strsD ds with
    | some ys => ((ys.map (·.length)).sum + ys.length * a.length ≤ 16777216) ∧ P (.str (Txt.join a ys))
    | none => False
  | _, _ => False
theorem pd_join {apos : Pos} (ho : PD w X o to) (ha : PD w X a ta) (hs : starEach [a] X.env = [(false, eval a X.env)] := by rfl) (hbase : attributeBase o "join" X.env (eval o X.env) = eval o X.env := by rfl) (hline : (apos.endLine == pos.line) = true := by rfl) :
    PD w X (.Call (.Attribute o "join" apos) [a] [] pos) (dM1 gJoin to ta) := by
  obtain ⟨to', o1, o2⟩ := ho
  obtain ⟨ta', a1, a2⟩ := ha
  refine ⟨_, pe_join o1 a1 hs hbase hline, re_m1 (fun x y d e G H P Q k r1 r2 h q => ?_) o2 a2⟩
  cases r1 with
  | str z =>
    cases r2 with
    | @lst p xs ds t1 q1 =>
      simp only [gJoin] at h
      cases hd : strsD ds with
      | none => rw [hd] at h; exact h.elim
      | some ys =>
        rw [hd] at h
        have e1 := strsD_eq hd
        subst e1
        have v1 := rp_strs q1
        subst v1
        exact ⟨z, p, ys, rfl, rfl, .inl (SqL.of (k.sub _ _ t1)), h.1, q _ _ G H k.stp (.str _) h.2⟩
    | _ => exact h.elim
  | _ => cases r2 <;> exact h.elim
/-- text.index(text): there -/
def gSix : D2 := fun x y P => match x, y with
  | .str a, .str b => match Builtin.Str.occurrences a b 0 a.length 1 with
    | i :: _ => P (.int (i : Nat))
    | [] => False
  | _, _ => False
theorem pd_six {apos : Pos} (ho : PD w X o to) (ha : PD w X a ta) (hs : starEach [a] X.env = [(false, eval a X.env)] := by rfl) (hbase : attributeBase o "index" X.env (eval o X.env) = eval o X.env := by rfl) (hline : (apos.endLine == pos.line) = true := by rfl) :
    PD w X (.Call (.Attribute o "index" apos) [a] [] pos) (dM1 gSix to ta) := by
  obtain ⟨to', o1, o2⟩ := ho
  obtain ⟨ta', a1, a2⟩ := ha
  refine ⟨_, pe_m1 F.slot_str_index F.type_str_index mt_sindex o1 a1 hs hbase hline, re_m1 (fun x y d e G H P Q k r1 r2 h q => ?_) o2 a2⟩
  cases r1 with
  | str z =>
    cases r2 with
    | str y =>
      simp only [gSix] at h
      cases hd : Builtin.Str.occurrences z y 0 z.length 1 with
      | nil => rw [hd] at h; exact h.elim
      | cons i r =>
        rw [hd] at h
        exact ⟨z, y, i, r, rfl, rfl, hd, q _ _ G H k.stp (.int _) h⟩
    | _ => exact h.elim
  | _ => cases r2 <;> exact h.elim
/-- list.index(flat): there -/
def gLix : D2 := fun x y P => match x with
  | .list ds => flatD y = true ∧ ds.all flatD = true ∧ match ds.findIdx? (fun z => PyData.eqv z y) with
    | some j => P (.int (j : Nat))
    | none => False
  | _ => False
def dLix (to ta : DE) : DE := fun ρ P => to ρ fun x => match x with
  | .list ds => ta ρ fun y => gLix (.list ds) y P
  | _ => False
theorem pd_lix {apos : Pos} (ho : PD w X o to) (ha : PD w X a ta) (hbase : attributeBase o "index" X.env (eval o X.env) = eval o X.env := by rfl)
    (hfew : ((backTo pos (starEach [a] X.env)).all (fun x => !x.1) && (backToKw pos (keywordEach [] X.env)).all (fun x => x.1.isSome) && decide (([a] : List Expr).length + ([] : List Keyword).length + (if ([] : List Keyword).isEmpty then 0 else 1) < 30)) = true := by rfl)
    (hline : (apos.endLine == pos.line) = true := by rfl) (hs : starEach [a] X.env = (false, eval a X.env) :: starEach [] X.env := by rfl) (hplain : (backTo pos (starEach [] X.env)).any (·.1) = false := by rfl) :
    PD w X (.Call (.Attribute o "index" apos) [a] [] pos) (dLix to ta) := by
  obtain ⟨to', o1, o2⟩ := ho
  obtain ⟨ta', a1, a2⟩ := ha
  refine ⟨_, pe_bm PySem.F.plainAttrs_list PySem.F.slot_list_index PySem.F.type_list_index mt_index o1 (pa_cons a1 pa_nil hs) hbase hfew hline hs hplain, fun σ ρ G H P Q k s h q => ?_⟩
  refine o2 σ ρ G H _ _ k s h fun x d G1 H1 s1 r1 p1 => ?_
  cases r1 with
  | @lst p xs ds t1 q1 =>
    refine ⟨.inl ⟨rfl, xs, SqL.of ((s1.okw k).sub _ _ t1)⟩, ?_⟩
    refine a2 σ ρ G1 H1 _ _ (s1.okw k) (s.mono s1.up) p1 fun y e G2 H2 s2 r2 p2 => ?_
    obtain ⟨f1, f2, p2⟩ := p2
    have k2 := s2.okw (s1.okw k)
    have q2 := q1.mono s2.up
    cases hd : ds.findIdx? (fun z => PyData.eqv z e) with
    | none => rw [hd] at p2; exact p2.elim
    | some j =>
      rw [hd] at p2
      obtain ⟨hj, hp, hall⟩ := List.findIdx?_eq_some_iff_getElem.mp hd
      obtain ⟨v, hv, rv⟩ := q2.getD (List.getElem?_eq_getElem hj)
      have fl : ∀ (m : Nat) (hm : m < ds.length), flatD ds[m] = true := fun m hm => List.all_eq_true.mp f2 _ (List.getElem_mem hm)
      refine ⟨p, xs, y, j, v, rfl, rfl, SqL.of (k2.sub _ _ (s2.up _ _ t1)), r2.flat f1, q2.flat f2, hv, ?_, fun m z' hm hz => ?_, q _ _ G2 H2 (s1.trans s2) (.int _) p2⟩
      · rw [rv.eqV r2 (fl j hj) f1]; exact hp
      · obtain ⟨d', hd', rd'⟩ := q2.get hz
        have hm' : m < ds.length := (List.getElem?_eq_some_iff.mp hd').1
        have e' : d' = ds[m] := by rw [List.getElem?_eq_getElem hm'] at hd'; exact (Option.some.inj hd').symm
        have fd' : flatD d' = true := by rw [e']; exact fl m hm'
        have hne : ¬ PyData.eqv ds[m] e = true := hall m hm
        rw [rd'.eqV r2 fd' f1, e']
        exact Bool.eq_false_iff.mpr hne
  | _ => exact p1.elim
/-! own defs -/
/-- the contract of a pure def -/
def spD (K : PySem.W.Frag) (F : D1) : Sp := fun vs H Q _ => ∃ (G : Hp) (ds : List DD) (P : DD → Prop), Sub G H ∧ RpAll K G vs ds ∧ F ds P ∧ ∀ v d G2 H2, Stp Wd.zero G H G2 H2 → Rp K G2 v d → P d → Q v H2
variable {kf : Nat} {f : Addr} {fd : FuncData} {ps : List Str} {x : Str} {p : Pos}
theorem pd_fn {F : D1} {t : DA} (GF : FnOk X.prog X.w X.K X.mg X.base CX0 kf f fd ps (spD X.K F)) (hr : Room kf X.A) (hm : X.mg x = some (.ref f)) (hk : PySem.W.keepIn X.K (.ref f) = true) (hb : Binds X.K fd ps []) (ha : PDA w X (e :: es) t) (hg : Gl X x := by rfl)
    (hdb : (x == ("__debug__" : Str)) = false := by decide) (he : starEach (e :: es) X.env = (false, eval e X.env) :: starEach es X.env := by rfl) (hpl : (backTo pos (starEach es X.env)).any (·.1) = false := by rfl) : PD w X (.Call (.Name x p) (e :: es) [] pos) (dCall F t) := by
  obtain ⟨t', a1, a2⟩ := ha
  refine ⟨_, pe_call GF hr hg hm hk hb .nil (pass0 (X := X)) a1 hdb he hpl, fun σ ρ G H P Q k s h q => ?_⟩
  refine a2 σ ρ G H _ _ k s h fun vs ds G1 H1 s1 r1 _ p1 => ?_
  rw [List.append_nil]
  have k1 := s1.okw k
  exact ⟨G1, ds, P, k1.sub, r1, p1, fun v d G2 H2 s2 => q v d G2 H2 (s1.trans (s2.lift k1))⟩
theorem pd_fn0 {F : D1} (GF : FnOk X.prog X.w X.K X.mg X.base CX0 kf f fd ps (spD X.K F)) (hr : Room kf X.A) (hm : X.mg x = some (.ref f)) (hk : PySem.W.keepIn X.K (.ref f) = true) (hb : Binds X.K fd ps []) (hg : Gl X x := by rfl)
    (hdb : (x == ("__debug__" : Str)) = false := by decide) : PD w X (.Call (.Name x p) [] [] pos) (fun _ P => F [] P) := by
  refine ⟨_, pe_call0 GF hr hg hm hk hb .nil (pass0 (X := X)) hdb, fun σ ρ G H P Q k s h q => ?_⟩
  exact ⟨G, [], P, k.sub, .nil, h, fun v d G2 H2 s2 => q v d G2 H2 (s2.lift k)⟩
/-! ### what a for walks -/
structure Wk (K : PySem.W.Frag) (J : It) (ds : List DD) (B : Hp) : Prop where
  ex : ∃ Y, Walk J ds.length (fun H => Sub B H) Y ∧ ∀ i H x H', Y i H x H' → ∃ d, ds[i]? = some d ∧ ((H' = H ∧ Rp K B x d) ∨ ∃ p xs es, H p = none ∧ H' = upd H p (.tup xs) ∧ x = .ref p ∧ RpAll K B xs es ∧ d = .tuple es)
def RI (w : Wd) (K : PySem.W.Frag) (wi : TI) (td : DA) : Prop := ∀ σ ρ G H (P : List DD → Prop) (R : It → Hp → Prop), Okw w G H → SlOk K G σ ρ → td ρ P →
  (∀ J ds G2 H2, Stp w G H G2 H2 → Wk K J ds G2 → P ds → R J H2) → wi σ H R
structure PDI (w : Wd) (X : Cx) (tg e : Expr) (td : DA) : Prop where
  ex : ∃ wi, PI X tg e wi ∧ RI w X.K wi td
def dIl (ta : DE) : DA := fun ρ P => ta ρ fun d => match d with
  | .list ds => P ds
  | _ => False
def dIt (ta : DE) : DA := fun ρ P => ta ρ fun d => match d with
  | .tuple ds => P ds
  | _ => False
def chars (z : Str) : List DD := z.cps.toList.map fun c => .str ⟨#[c]⟩
def dIs (ta : DE) : DA := fun ρ P => ta ρ fun d => match d with
  | .str z => P (chars z)
  | _ => False
def upto (n : Int) : List DD := (List.range n.toNat).map fun i => .int (i : Nat)
def dIr (ta : DE) : DA := fun ρ P => ta ρ fun d => match d with
  | .int n => (-1000000 ≤ n ∧ n ≤ 1000000) ∧ P (upto n)
  | _ => False
variable {tg : Expr}
theorem wk_list {K : PySem.W.Frag} {B : Hp} {p : Addr} {xs : List V} {ds : List DD} (h : B p = some (.lst xs)) (r : RpAll K B xs ds) : Wk K (Itl K p) ds B := by
  refine ⟨fun i H x H' => H' = H ∧ xs[i]? = some x, ⟨fun i H hi hs => ?_, fun H hs => ⟨xs, SqL.of (hs _ _ h), by rw [r.len]; exact Nat.le_refl _⟩, fun i H x H' hi hs y => ⟨y.1, y.2 xs (SqL.of (hs _ _ h))⟩⟩, fun i H x H' y => ?_⟩
  · have hi' : i < xs.length := by rw [r.len]; exact hi
    exact ⟨xs, xs[i], SqL.of (hs _ _ h), List.getElem?_eq_getElem hi'⟩
  · obtain ⟨e, y⟩ := y
    obtain ⟨d, hd, rd⟩ := r.get y
    exact ⟨d, hd, .inl ⟨e, rd⟩⟩
theorem wk_tup {K : PySem.W.Frag} {B : Hp} {p : Addr} {xs : List V} {ds : List DD} (h : SqT K B p xs) (r : RpAll K B xs ds) : Wk K (Itt K p) ds B := by
  refine ⟨fun i H x H' => H' = H ∧ xs[i]? = some x, ⟨fun i H hi hs => ?_, fun H hs => ⟨xs, hs.sqT h, by rw [r.len]; exact Nat.le_refl _⟩, fun i H x H' hi hs y => ⟨y.1, y.2 xs (hs.sqT h)⟩⟩, fun i H x H' y => ?_⟩
  · have hi' : i < xs.length := by rw [r.len]; exact hi
    exact ⟨xs, xs[i], hs.sqT h, List.getElem?_eq_getElem hi'⟩
  · obtain ⟨e, y⟩ := y
    obtain ⟨d, hd, rd⟩ := r.get y
    exact ⟨d, hd, .inl ⟨e, rd⟩⟩
theorem wk_str {K : PySem.W.Frag} {B : Hp} {z : Str} : Wk K (Its z) (chars z) B := by
  have hl : (chars z).length = z.cps.size := by simp [chars]
  refine ⟨_, ⟨fun i H hi _ => by rw [hl] at hi; exact hi, fun H _ => by rw [hl]; exact Nat.le_refl _, fun i H x H' _ _ y => y⟩, fun i H x H' y => ?_⟩
  obtain ⟨e, c, hc, rfl⟩ := y
  refine ⟨.str ⟨#[c]⟩, ?_, .inl ⟨e, .str _⟩⟩
  have : z.cps.toList[i]? = some c := by rw [Array.getElem?_toList]; exact hc
  simp [chars, this]
theorem wk_range {K : PySem.W.Frag} {B : Hp} {n : Int} : Wk K (Itr 0 n.toNat) (upto n) B := by
  have hl : (upto n).length = n.toNat := by simp [upto]
  refine ⟨fun i H x H' => i < n.toNat ∧ H' = H ∧ x = .int (0 + i), ⟨fun i H hi _ => by rw [hl] at hi; exact hi, fun H _ => by rw [hl]; exact Nat.le_refl _, fun i H x H' hi _ y => ⟨by rw [hl] at hi; exact hi, y⟩⟩, fun i H x H' y => ?_⟩
  obtain ⟨hi, e, rfl⟩ := y
  refine ⟨.int (i : Nat), by simp [upto, hi], .inl ⟨e, ?_⟩⟩
  rw [Int.zero_add]
  exact .int _
theorem di_list (ha : PD w X a ta) : PDI w X tg a (dIl ta) := by
  obtain ⟨ta', a1, a2⟩ := ha
  refine ⟨_, pi_list a1, fun σ ρ G H P R k s h q => ?_⟩
  refine a2 σ ρ G H _ _ k s h fun v d G1 H1 s1 r1 p1 => ?_
  cases r1 with
  | @lst p xs ds t1 q1 => exact ⟨p, rfl, ⟨xs, SqL.of ((s1.okw k).sub _ _ t1)⟩, q _ ds G1 H1 s1 (wk_list t1 q1) p1⟩
  | _ => exact p1.elim
theorem di_tup (ha : PD w X a ta) : PDI w X tg a (dIt ta) := by
  obtain ⟨ta', a1, a2⟩ := ha
  refine ⟨_, pi_tup a1, fun σ ρ G H P R k s h q => ?_⟩
  refine a2 σ ρ G H _ _ k s h fun v d G1 H1 s1 r1 p1 => ?_
  cases r1 with
  | @tup p xs ds t1 q1 => exact ⟨p, rfl, ⟨xs, (s1.okw k).sub.sqT t1⟩, q _ ds G1 H1 s1 (wk_tup t1 q1) p1⟩
  | _ => exact p1.elim
theorem di_str (ha : PD w X a ta) : PDI w X tg a (dIs ta) := by
  obtain ⟨ta', a1, a2⟩ := ha
  refine ⟨_, pi_str a1, fun σ ρ G H P R k s h q => ?_⟩
  refine a2 σ ρ G H _ _ k s h fun v d G1 H1 s1 r1 p1 => ?_
  cases r1 with
  | str z => exact ⟨z, rfl, q _ _ G1 H1 s1 wk_str p1⟩
  | _ => exact p1.elim
theorem di_range (hm : X.mg "range" = none) (ha : PD w X a ta) (hg : Gl X "range" := by rfl) (hs : starEach [a] X.env = (false, eval a X.env) :: starEach [] X.env := by rfl) (hs2 : starEach [a] X.env = [(false, eval a X.env)] := by rfl) : PDI w X tg (.Call (.Name "range" p) [a] [] pos) (dIr ta) := by
  obtain ⟨ta', a1, a2⟩ := ha
  refine ⟨_, pi_range1 hg hm (pa_cons a1 pa_nil hs) hs2, fun σ ρ G H P R k s h q => ?_⟩
  refine a2 σ ρ G H _ _ k s h fun v d G1 H1 s1 r1 p1 => ?_
  cases r1 with
  | int n => exact ⟨n, rfl, by omega, by omega, q _ _ G1 H1 s1 wk_range p1.2⟩
  | _ => exact p1.elim
end
end Z

set_option Elab.async false
set_option linter.all false
set_option maxRecDepth 100000
set_option maxHeartbeats 4000000
namespace Z
open PySem PySem.Spec PyProof.Rows L2
/-! ### the reading that a meaning makes: the same wherever the code stands -/
def teOf (w : Wd) (K : PySem.W.Frag) (td : DE) : TE := fun σ H Q => ∃ ρ G P, Okw w G H ∧ SlOk K G σ ρ ∧ td ρ P ∧ ∀ v d G2 H2, Stp w G H G2 H2 → Rp K G2 v d → P d → Q v H2
def ttOf (w : Wd) (K : PySem.W.Frag) (td : DT) : TT := fun σ H Q => ∃ ρ G P, Okw w G H ∧ SlOk K G σ ρ ∧ td ρ P ∧ ∀ b G2 H2, Stp w G H G2 H2 → P b → Q b H2
section
variable {w : Wd} {X : Cx} {e : Expr} {td : DE} {tt : DT}
theorem PD.can (h : PD w X e td) : PE X e (teOf w X.K td) := by
  obtain ⟨te, h1, h2⟩ := h
  exact ⟨fun pins s σ H Q I ⟨ρ, G, P, k, sl, ht, q⟩ => h1.run pins s σ H Q I (h2 σ ρ G H P Q k sl ht q)⟩
theorem re_can {K : PySem.W.Frag} : RE w K (teOf w K td) td := fun _ ρ G _ P _ k s h q => ⟨ρ, G, P, k, s, h, q⟩
theorem rt_can {K : PySem.W.Frag} : RT w K (ttOf w K tt) tt := fun _ ρ G _ P _ k s h q => ⟨ρ, G, P, k, s, h, q⟩
structure PDTs (w : Wd) (X : Cx) (ifs : List Expr) (td : DT) : Prop where
  ex : ∃ te, PTs X ifs te ∧ RT w X.K te td
def dYes : DT := fun _ P => P true
theorem dts_nil : PDTs w X [] dYes := ⟨_, pts_nil, fun _ _ G H _ _ k _ h q => q true G H k.stp h⟩
theorem dts_one {c : Expr} (h : PDT w X c tt) : PDTs w X [c] tt := by
  obtain ⟨t, h1, h2⟩ := h
  exact ⟨_, pts_one h1, h2⟩
theorem PDTs.can {ifs : List Expr} (h : PDTs w X ifs tt) : PTs X ifs (ttOf w X.K tt) := by
  obtain ⟨te, h1, h2⟩ := h
  exact ⟨fun pins s σ H Q I ⟨ρ, G, P, k, sl, ht, q⟩ => h1.run pins s σ H Q I (h2 σ ρ G H P Q k sl ht q)⟩
end
/-! ### comprehensions -/
def comp (ρ : En) (j : Nat) (tt : DT) (td : DE) : List DD → List DD → (DD → Prop) → Prop
  | [], acc, P => P (.list acc)
  | x :: xs, acc, P => tt (ρ.set j (.dat x)) fun b => if b = true then td (ρ.set j (.dat x)) fun d => acc.length < 1000000 ∧ comp ρ j tt td xs (acc ++ [d]) P else comp ρ j tt td xs acc P
def dLc (ti : DA) (j : Nat) (tt : DT) (td : DE) : DE := fun ρ P => ti ρ fun items => comp ρ j tt td items [] P
theorem set_set_none {σ : L2.St} {j : Nat} {x : Option V} : (σ.set j none).set j x = σ.set j x := by rw [List.set_set]
theorem SlOk.set {K : PySem.W.Frag} {G : Hp} {σ : L2.St} {ρ : En} (s : SlOk K G σ ρ) {j : Nat} {v : V} {d : DD} (r : Rp K G v d) : SlOk K G (σ.set j (some v)) (ρ.set j (.dat d)) := by
  refine ⟨by rw [List.length_set, List.length_set]; exact s.len, fun i e h => ?_, fun i a h => ?_⟩
  · by_cases hij : j = i
    · subst hij
      have hl : j < ρ.length := by
        have := (List.getElem?_eq_some_iff.mp h).1
        rwa [List.length_set] at this
      rw [List.getElem?_set_self hl] at h
      have e1 : d = e := by injection (Option.some.inj h)
      subst e1
      exact ⟨v, by rw [List.getElem?_set_self (by rw [s.len]; exact hl)], r⟩
    · rw [List.getElem?_set_ne hij] at h
      obtain ⟨u, h1, h2⟩ := s.dat i e h
      exact ⟨u, by rw [List.getElem?_set_ne hij]; exact h1, h2⟩
  · by_cases hij : j = i
    · subst hij
      have hl : j < ρ.length := by
        have := (List.getElem?_eq_some_iff.mp h).1
        rwa [List.length_set] at this
      rw [List.getElem?_set_self hl] at h
      cases (Option.some.inj h)
    · rw [List.getElem?_set_ne hij] at h ⊢
      exact s.adr i a h
section
variable {w : Wd} {X : Cx}
theorem re_lc {wi : TI} {ti : DA} {j : Nat} {tt : DT} {td : DE} (hi : RI w X.K wi ti) : RE w X.K (tLc wi (gName j) (ttOf w X.K tt) (teOf w X.K td) [j]) (dLc ti j tt td) := by
  intro σ ρ G H P Q k s h q
  refine hi σ ρ G H _ _ k s h fun J items G1 H1 s1 wk p1 D hD => ?_
  have k1 := s1.okw k
  obtain ⟨Y, wlk, hy⟩ := wk
  refine lc_it wlk (fun i H' => ∃ G' acc ds, Stp w G1 H1 G' H' ∧ H' D = some (.lst acc) ∧ G' D = none ∧ RpAll X.K G' acc ds ∧ comp ρ j tt td (items.drop i) ds P) ?_ ?_ ?_ ?_
  · exact ⟨G1, [], [], Stp.new0 k1 hD, upd_same, k1.g_none hD, .nil, p1⟩
  · rintro i H' _ ⟨G', acc, ds, s2, _⟩
    exact s2.up.trans s2.sub
  · rintro i x H' H'' hlt ⟨G', acc, ds, s2, hacc, hgD, ra, hc⟩ y
    obtain ⟨d, hd, alt⟩ := hy i H' x H'' y
    have hdr : items.drop i = d :: items.drop (i + 1) := by
      obtain ⟨h1, h2⟩ := List.getElem?_eq_some_iff.mp hd
      rw [List.drop_eq_getElem_cons h1, h2]
    rw [hdr] at hc
    show wipe ((wipe σ [j]).set j (some x)) [j] = wipe σ [j] ∧ _
    refine ⟨by show (((σ.set j none).set j (some x)).set j none) = σ.set j none; rw [List.set_set, List.set_set], ?_⟩
    have e1 : (wipe σ [j]).set j (some x) = σ.set j (some x) := set_set_none
    rw [e1]
    -- the heap and what is known of x
    obtain ⟨G3, s3, rx, hacc3, hgD3⟩ : ∃ G3, Stp w G1 H1 G3 H'' ∧ Rp X.K G3 x d ∧ H'' D = some (.lst acc) ∧ G3 D = none ∧ Sub G' G3 := by
      have k2 := s2.okw k1
      rcases alt with ⟨rfl, rx⟩ | ⟨p, xs, es, hp, rfl, rfl, rx, rfl⟩
      · exact ⟨G', s2, rx.mono s2.up, hacc, hgD, Sub.rfl⟩
      · have sn := Stp.new (w := w) (o := .tup xs) k2 hp
        have ne : D ≠ p := ne_of_none hacc hp
        exact ⟨_, s2.trans sn, .tup (SqT.of upd_same) ((rx.mono s2.up).mono (Sub.new (k2.g_none hp))), by rw [upd_ne ne]; exact hacc, by rw [upd_ne ne]; exact hgD, sn.up⟩
    obtain ⟨hgD3, u3⟩ := hgD3
    have k3 := s3.okw k1
    have sl3 : SlOk X.K G3 (σ.set j (some x)) (ρ.set j (.dat d)) := (s.mono (s1.up.trans s3.up)).set rx
    refine ⟨_, G3, _, k3, sl3, hc, fun b G4 H4 s4 hb => ?_⟩
    have k4 := s4.okw k3
    have hst : ¬ w.st D := fun z => k1.here D (w.sf D z) hD
    have hacc4 : H4 D = some (.lst acc) := s4.kp D _ hst hacc3
    have hgD4 : G4 D = none := s4.nw D (by rw [hacc3]; exact fun z => nomatch z) hgD3
    cases b with
    | false =>
      rw [if_neg Bool.false_ne_true] at hb
      show ∃ G' acc ds, _
      exact ⟨G4, acc, ds, s3.trans s4, hacc4, hgD4, (ra.mono u3).mono s4.up, hb⟩
    | true =>
      rw [if_pos rfl] at hb
      show teOf w X.K td (List.set σ j (some x)) H4 _
      refine ⟨_, G4, _, k4, sl3.mono s4.up, hb, fun v e G5 H5 s5 re hp => ?_⟩
      have hacc5 : H5 D = some (.lst acc) := s5.kp D _ hst hacc4
      have hgD5 : G5 D = none := s5.nw D (by rw [hacc4]; exact fun z => nomatch z) hgD4
      have ra5 := ((ra.mono u3).mono s4.up).mono s5.up
      exact ⟨acc, hacc5, line_lt (by rw [ra5.len]; exact hp.1), G5, acc ++ [v], ds ++ [e], ((s3.trans s4).trans s5).mut k1 hD hgD5, upd_same, hgD5, ra5.append (.cons re .nil), hp.2⟩
  · rintro H' ⟨G', acc, ds, s2, hacc, hgD, ra, hc⟩
    rw [List.drop_length] at hc
    have hh : Stp w G1 H1 (upd G' D (.lst acc)) H' := by
      refine ⟨fun a u e => ?_, fun a u e => ?_, s2.kp, s2.th, fun a ha hg => ?_, s2.wd⟩
      · by_cases z : a = D
        · subst z; rw [upd_same] at e; rw [hacc]; exact e
        · rw [upd_ne z] at e; exact s2.sub a u e
      · rw [upd_ne (ne_of_none e (k1.g_none hD))]; exact s2.up a u e
      · rw [upd_ne (fun z => ha (by rw [z]; exact hD))]; exact s2.nw a ha hg
    exact q _ _ _ _ (s1.trans hh) (.lst upd_same (ra.mono (Sub.new hgD))) hc
theorem pd_lc {elt tg iter : Expr} {ifs : List Expr} {scope : Scope} {x : Str} {j : Nat} {pos : Pos} {ti : DA} {tt : DT} {td : DE} (hN : X.N.Nodup) (ok : BlkOk X.N X.env.scope scope [(x, j)]) (hi : PDI w X tg iter ti)
    (hg : ∀ (s : Shared) (H : Hp) (C : Addr) (cl : List (Str × Addr)) (fp : List Addr), PG (X.blk s H scope (compEnvC scope cl C X.env) fp) tg (gName j))
    (ht : ∀ (s : Shared) (H : Hp) (C : Addr) (cl : List (Str × Addr)) (fp : List Addr), PDTs w (X.blk s H scope (compEnvC scope cl C X.env) fp) ifs tt)
    (he : ∀ (s : Shared) (H : Hp) (C : Addr) (cl : List (Str × Addr)) (fp : List Addr), PD w (X.blk s H scope (compEnvC scope cl C X.env) fp) elt td)
    (hc : X.calm = true := by rfl) (hs : ∀ x, foldedSetIterable iter X.env x = pure x := by intro _; rfl) : PD w X (.ListComp elt [⟨tg, iter, ifs, 0⟩] scope pos) (dLc ti j tt td) := by
  obtain ⟨wi, i1, i2⟩ := hi
  exact ⟨_, pe_lc (own := [(x, j)]) hc hN i1 ok hg (fun s H C cl fp => (ht s H C cl fp).can) (fun s H C cl fp => (he s H C cl fp).can) hs, re_lc i2⟩
end
end Z

set_option Elab.async false
set_option linter.all false
set_option maxRecDepth 100000
set_option maxHeartbeats 4000000
namespace Z
open PySem PySem.Spec PyProof.Rows L2
/-! ### statements -/
structure SOk (w : Wd) (K : PySem.W.Frag) (G0 H0 B : Hp) (σ : L2.St) (ρ : En) (H G : Hp) : Prop where
  stp : Stp w G0 H0 G H
  lb : Sub B G
  sl : SlOk K G σ ρ
  own : ∀ (i : Nat) ds, ρ[i]? = some (.own ds) → ∃ a xs, σ[i]? = some (some (.ref a)) ∧ H a = some (.lst xs) ∧ RpAll K G xs ds ∧ G a = none ∧ H0 a = none
  sep : ∀ (i j : Nat) ds es a, ρ[i]? = some (.own ds) → ρ[j]? = some (.own es) → σ[i]? = some (some (.ref a)) → σ[j]? = some (some (.ref a)) → i = j
def SPo (w : Wd) (K : PySem.W.Frag) (G0 H0 B : Hp) (ρ : En) (σ : L2.St) (H : Hp) : Prop := ∃ G, SOk w K G0 H0 B σ ρ H G
theorem set_some {α : Type} {l : List α} {i j : Nat} {a b : α} (h : (l.set i a)[j]? = some b) : (i = j ∧ a = b ∧ i < l.length) ∨ (i ≠ j ∧ l[j]? = some b) := by
  by_cases e : i = j
  · subst e
    have hl : i < l.length := by
      have := (List.getElem?_eq_some_iff.mp h).1
      rwa [List.length_set] at this
    rw [List.getElem?_set_self hl] at h
    exact .inl ⟨rfl, Option.some.inj h, hl⟩
  · rw [List.getElem?_set_ne e] at h
    exact .inr ⟨e, h⟩
section
variable {w : Wd} {K : PySem.W.Frag} {G0 H0 B G H : Hp} {σ : L2.St} {ρ : En}
theorem SOk.okw (k0 : Okw w G0 H0) (s : SOk w K G0 H0 B σ ρ H G) : Okw w G H := s.stp.okw k0
/-- an expression has run: the slots as they were -/
theorem SOk.step (k0 : Okw w G0 H0) (s : SOk w K G0 H0 B σ ρ H G) {G2 H2 : Hp} (t : Stp w G H G2 H2) : SOk w K G0 H0 B σ ρ H2 G2 := by
  refine ⟨s.stp.trans t, s.lb.trans t.up, s.sl.mono t.up, fun i ds h => ?_, s.sep⟩
  obtain ⟨a, xs, h1, h2, h3, h4, h5⟩ := s.own i ds h
  exact ⟨a, xs, h1, t.kp a _ (fun z => k0.here a (w.sf a z) h5) h2, h3.mono t.up, t.nw a (by rw [h2]; exact fun z => nomatch z) h4, h5⟩
theorem SOk.set (s : SOk w K G0 H0 B σ ρ H G) {i : Nat} {v : V} {d : DD} (r : Rp K G v d) : SOk w K G0 H0 B (σ.set i (some v)) (ρ.set i (.dat d)) H G := by
  refine ⟨s.stp, s.lb, s.sl.set r, fun j ds h => ?_, fun j m ds es a h1 h2 h3 h4 => ?_⟩
  · rcases set_some h with ⟨_, z, _⟩ | ⟨ne, z⟩
    · cases z
    · obtain ⟨a, xs, q1, q2⟩ := s.own j ds z
      exact ⟨a, xs, by rw [List.getElem?_set_ne ne]; exact q1, q2⟩
  · rcases set_some h1 with ⟨_, z, _⟩ | ⟨n1, z1⟩
    · cases z
    · rcases set_some h2 with ⟨_, z, _⟩ | ⟨n2, z2⟩
      · cases z
      · rw [List.getElem?_set_ne n1] at h3
        rw [List.getElem?_set_ne n2] at h4
        exact s.sep j m ds es a z1 z2 h3 h4
theorem SlOk.setOwn (s : SlOk K G σ ρ) {i : Nat} {v : V} {ds : List DD} : SlOk K G (σ.set i (some v)) (ρ.set i (.own ds)) := by
  refine ⟨by rw [List.length_set, List.length_set]; exact s.len, fun j e h => ?_, fun j a h => ?_⟩
  · rcases set_some h with ⟨_, z, _⟩ | ⟨ne, z⟩
    · cases z
    · obtain ⟨u, h1, h2⟩ := s.dat j e z
      exact ⟨u, by rw [List.getElem?_set_ne ne]; exact h1, h2⟩
  · rcases set_some h with ⟨_, z, _⟩ | ⟨ne, z⟩
    · cases z
    · rw [List.getElem?_set_ne ne]; exact s.adr j a z
/-- a name takes a new list for its own -/
theorem SOk.setN (s : SOk w K G0 H0 B σ ρ H G) {i : Nat} {p : Addr} {xs : List V} {ds : List DD} (hp : H p = some (.lst xs)) (hg : G p = none) (h0 : H0 p = none) (r : RpAll K G xs ds) (nw : ∀ (j : Nat) es, ρ[j]? = some (.own es) → σ[j]? ≠ some (some (.ref p))) :
    SOk w K G0 H0 B (σ.set i (some (.ref p))) (ρ.set i (.own ds)) H G := by
  refine ⟨s.stp, s.lb, s.sl.setOwn, fun j es h => ?_, fun j m es fs a h1 h2 h3 h4 => ?_⟩
  · rcases set_some h with ⟨rfl, z, hl⟩ | ⟨ne, z⟩
    · cases z
      exact ⟨p, xs, List.getElem?_set_self (by rw [s.sl.len]; exact hl), hp, r, hg, h0⟩
    · obtain ⟨a, ys, q1, q2⟩ := s.own j es z
      exact ⟨a, ys, by rw [List.getElem?_set_ne ne]; exact q1, q2⟩
  · rcases set_some h1 with ⟨rfl, z, hl⟩ | ⟨n1, z1⟩
    · rcases set_some h2 with ⟨rfl, _, _⟩ | ⟨n2, z2⟩
      · rfl
      · rw [List.getElem?_set_self (by rw [s.sl.len]; exact hl)] at h3
        rw [List.getElem?_set_ne n2] at h4
        have e : p = a := by injection (Option.some.inj (Option.some.inj h3))
        subst e
        exact absurd h4 (nw m fs z2)
    · rcases set_some h2 with ⟨rfl, z, hl⟩ | ⟨n2, z2⟩
      · rw [List.getElem?_set_self (by rw [s.sl.len]; exact hl)] at h4
        rw [List.getElem?_set_ne n1] at h3
        have e : p = a := by injection (Option.some.inj (Option.some.inj h4))
        subst e
        exact absurd h3 (nw j es z1)
      · rw [List.getElem?_set_ne n1] at h3
        rw [List.getElem?_set_ne n2] at h4
        exact s.sep j m es fs a z1 z2 h3 h4
/-- the list that a name owns is written -/
theorem SOk.mut (k0 : Okw w G0 H0) (s : SOk w K G0 H0 B σ ρ H G) {i : Nat} {a : Addr} {xs : List V} {ds es : List DD} (hi : ρ[i]? = some (.own es)) (ha : σ[i]? = some (some (.ref a))) (hg : G a = none) (h0 : H0 a = none) (r : RpAll K G xs ds) :
    SOk w K G0 H0 B σ (ρ.set i (.own ds)) (upd H a (.lst xs)) G := by
  have hl : i < ρ.length := (List.getElem?_eq_some_iff.mp hi).1
  refine ⟨s.stp.mut k0 h0 hg, s.lb, ⟨by rw [List.length_set]; exact s.sl.len, fun j e h => ?_, fun j b h => ?_⟩, fun j fs h => ?_, fun j m fs gs b h1 h2 h3 h4 => ?_⟩
  · rcases set_some h with ⟨_, z, _⟩ | ⟨_, z⟩
    · cases z
    · exact s.sl.dat j e z
  · rcases set_some h with ⟨_, z, _⟩ | ⟨_, z⟩
    · cases z
    · exact s.sl.adr j b z
  · rcases set_some h with ⟨rfl, z, _⟩ | ⟨ne, z⟩
    · cases z
      exact ⟨a, xs, ha, upd_same, r, hg, h0⟩
    · obtain ⟨b, ys, q1, q2, q3, q4, q5⟩ := s.own j fs z
      have nb : b ≠ a := fun e => ne (s.sep i j es fs a hi z ha (by rw [q1, e]))
      exact ⟨b, ys, q1, by rw [upd_ne nb]; exact q2, q3, q4, q5⟩
  · have o1 : ∃ fs, ρ[j]? = some (.own fs) := by
      rcases set_some h1 with ⟨rfl, _, _⟩ | ⟨_, z⟩
      · exact ⟨_, hi⟩
      · exact ⟨_, z⟩
    have o2 : ∃ gs, ρ[m]? = some (.own gs) := by
      rcases set_some h2 with ⟨rfl, _, _⟩ | ⟨_, z⟩
      · exact ⟨_, hi⟩
      · exact ⟨_, z⟩
    obtain ⟨_, o1⟩ := o1
    obtain ⟨_, o2⟩ := o2
    exact s.sep j m _ _ b o1 o2 h3 h4
/-! the own lists seen as data -/
def Ent.full : Ent → Ent
  | .own ds => .dat (.list ds)
  | e => e
def full (ρ : En) : En := ρ.map Ent.full
open Classical in
noncomputable def fullG (σ : L2.St) (ρ : En) (G H : Hp) : Hp := fun a => if (∃ (i : Nat) (ds : List DD), ρ[i]? = some (.own ds) ∧ σ[i]? = some (some (.ref a))) then H a else G a
theorem fullG_own (h : ∃ (i : Nat) (ds : List DD), ρ[i]? = some (.own ds) ∧ σ[i]? = some (some (.ref a))) : fullG σ ρ G H a = H a := if_pos h
theorem fullG_not (h : ¬ ∃ (i : Nat) (ds : List DD), ρ[i]? = some (.own ds) ∧ σ[i]? = some (some (.ref a))) : fullG σ ρ G H a = G a := if_neg h
theorem SOk.own_at (s : SOk w K G0 H0 B σ ρ H G) {a : Addr} (h : ∃ (i : Nat) (ds : List DD), ρ[i]? = some (.own ds) ∧ σ[i]? = some (some (.ref a))) : G a = none ∧ H0 a = none := by
  obtain ⟨i, ds, h1, h2⟩ := h
  obtain ⟨b, xs, q1, q2, q3, q4, q5⟩ := s.own i ds h1
  rw [q1] at h2
  have e : b = a := by injection (Option.some.inj (Option.some.inj h2))
  subst e
  exact ⟨q4, q5⟩
theorem SOk.fullSub (s : SOk w K G0 H0 B σ ρ H G) : Sub G (fullG σ ρ G H) := fun a o e => by
  by_cases h : ∃ (i : Nat) (ds : List DD), ρ[i]? = some (.own ds) ∧ σ[i]? = some (some (.ref a))
  · rw [(s.own_at h).1] at e; cases e
  · rw [fullG_not h]; exact e
theorem SOk.fullStp (s : SOk w K G0 H0 B σ ρ H G) : Stp w G0 H0 (fullG σ ρ G H) H := by
  refine ⟨fun a o e => ?_, s.stp.up.trans s.fullSub, s.stp.kp, s.stp.th, fun a h1 h2 => ?_, s.stp.wd⟩
  · by_cases h : ∃ (i : Nat) (ds : List DD), ρ[i]? = some (.own ds) ∧ σ[i]? = some (some (.ref a))
    · rw [fullG_own h] at e; exact e
    · rw [fullG_not h] at e; exact s.stp.sub a o e
  · by_cases h : ∃ (i : Nat) (ds : List DD), ρ[i]? = some (.own ds) ∧ σ[i]? = some (some (.ref a))
    · exact absurd (s.own_at h).2 h1
    · rw [fullG_not h]; exact s.stp.nw a h1 h2
theorem SOk.fullSl (s : SOk w K G0 H0 B σ ρ H G) : SlOk K (fullG σ ρ G H) σ (full ρ) := by
  refine ⟨by unfold full; rw [List.length_map]; exact s.sl.len, fun i d h => ?_, fun i a h => ?_⟩
  · unfold full at h
    rw [List.getElem?_map] at h
    cases e : ρ[i]? with
    | none => rw [e] at h; cases h
    | some t =>
      rw [e] at h
      have h' : t.full = .dat d := Option.some.inj h
      cases t with
      | own ds =>
        have ed : PyData.list ds = d := by injection h'
        subst ed
        obtain ⟨a, xs, q1, q2, q3, q4, q5⟩ := s.own i ds e
        refine ⟨_, q1, .lst ?_ (q3.mono s.fullSub)⟩
        rw [fullG_own ⟨i, ds, e, q1⟩]
        exact q2
      | dat d' =>
        have ed : d' = d := by injection h'
        subst ed
        obtain ⟨v, q1, q2⟩ := s.sl.dat i _ e
        exact ⟨v, q1, q2.mono s.fullSub⟩
      | un => cases h'
      | adr _ => cases h'
  · unfold full at h
    rw [List.getElem?_map] at h
    cases e : ρ[i]? with
    | none => rw [e] at h; cases h
    | some t =>
      rw [e] at h
      have h' : t.full = .adr a := Option.some.inj h
      cases t with
      | adr b =>
        have ed : b = a := by injection h'
        subst ed
        exact s.sl.adr i _ e
      | own _ => cases h'
      | dat _ => cases h'
      | un => cases h'
/-- behind an expression that saw the own lists: what it made is forgotten -/
theorem SOk.after (k0 : Okw w G0 H0) (s : SOk w K G0 H0 B σ ρ H G) {G2 H2 : Hp} (t : Stp w (fullG σ ρ G H) H G2 H2) : SOk w K G0 H0 B σ ρ H2 G := by
  have st : ∀ a, w.st a → H0 a ≠ none := fun a z => k0.here a (w.sf a z)
  refine ⟨⟨(s.fullSub.trans t.up).trans t.sub, s.stp.up, fun a o n h => t.kp a o n (s.stp.kp a o n h), fun a h => t.th a (s.stp.th a h), s.stp.nw, t.wd⟩, s.lb, s.sl, fun i ds h => ?_, s.sep⟩
  obtain ⟨a, xs, h1, h2, h3, h4, h5⟩ := s.own i ds h
  exact ⟨a, xs, h1, t.kp a _ (fun z => st a z h5) h2, h3, h4, h5⟩
theorem Rp.flatTo {v : V} {d : DD} (r : Rp K G v d) (h : flatD d = true) : Rp K H v d := by
  cases r with
  | non => exact .non
  | bl b => exact .bl b
  | int i => exact .int i
  | str z => exact .str z
  | lst _ _ => cases h
  | tup _ _ => cases h
end

structure DEn where
  nx : En → Prop
  rt : DD → Prop
  bk : En → Prop
  ct : En → Prop
  ex : Str → En → Prop
abbrev DS := DEn → En → Prop
structure Rel (w : Wd) (K : PySem.W.Frag) (G0 H0 B : Hp) (D : Ends) (E : DEn) : Prop where
  nx : ∀ σ ρ H, SPo w K G0 H0 B ρ σ H → E.nx ρ → D.nx σ H
  rt : ∀ v d G H, Stp w G0 H0 G H → Rp K G v d → E.rt d → D.rt v H
  bk : ∀ σ ρ H, SPo w K G0 H0 B ρ σ H → E.bk ρ → D.bk σ H
  ct : ∀ σ ρ H, SPo w K G0 H0 B ρ σ H → E.ct ρ → D.ct σ H
  ex : ∀ x σ ρ H, SPo w K G0 H0 B ρ σ H → E.ex x ρ → w.ex (.ref (He.ga K x)) none σ H
def RS (w : Wd) (K : PySem.W.Frag) (ts : TS) (ds : DS) : Prop := ∀ G0 H0 B σ ρ H (D : Ends) (E : DEn), Okw w G0 H0 → SPo w K G0 H0 B ρ σ H → ds E ρ → Rel w K G0 H0 B D E → ts D σ H
structure PDS (w : Wd) (X : Cx) (st : Stmt) (ds : DS) : Prop where
  ex : ∃ ts, PS X st ts ∧ RS w X.K ts ds
structure PDSs (w : Wd) (X : Cx) (st : List Stmt) (ds : DS) : Prop where
  ex : ∃ ts, PSs X st ts ∧ RS w X.K ts ds
section
variable {w : Wd} {X : Cx} {st : Stmt} {rest : List Stmt} {ds es : DS} {e : Expr} {td : DE} {pos : Pos}
def sNx : DS := fun E ρ => E.nx ρ
def sSeq (a b : DS) : DS := fun E ρ => a { E with nx := fun ρ' => b E ρ' } ρ
theorem rs_next {K : PySem.W.Frag} : RS w K tNext sNx := fun _ _ _ σ ρ H _ _ _ s h r => r.nx σ ρ H s h
theorem sds_nil : PDSs w X [] sNx := ⟨_, pss_nil, rs_next⟩
theorem rs_seq {K : PySem.W.Frag} {t u : TS} (h1 : RS w K t ds) (h2 : RS w K u es) : RS w K (tSeq t u) (sSeq ds es) := fun G0 H0 B σ ρ H D E k s h r =>
  h1 G0 H0 B σ ρ H _ _ k s h ⟨fun σ' ρ' H' s' h' => h2 G0 H0 B σ' ρ' H' D E k s' h' r, r.rt, r.bk, r.ct, r.ex⟩
theorem sds_cons (h1 : PDS w X st ds) (h2 : PDSs w X rest es) : PDSs w X (st :: rest) (sSeq ds es) := by
  obtain ⟨t, a1, a2⟩ := h1
  obtain ⟨u, b1, b2⟩ := h2
  exact ⟨_, pss_cons a1 b1, rs_seq a2 b2⟩
theorem sds_one (h1 : PDS w X st ds) : PDSs w X [st] ds := by
  obtain ⟨t, a1, a2⟩ := h1
  exact ⟨_, pss_one a1, a2⟩
theorem sd_pass : PDS w X (.Pass pos) sNx := ⟨_, ps_pass, rs_next⟩
def sBk : DS := fun E ρ => E.bk ρ
def sCt : DS := fun E ρ => E.ct ρ
theorem sd_break : PDS w X (.Break pos) sBk := ⟨_, ps_break, fun _ _ _ σ ρ H _ _ _ s h r => r.bk σ ρ H s h⟩
theorem sd_continue : PDS w X (.Continue pos) sCt := ⟨_, ps_continue, fun _ _ _ σ ρ H _ _ _ s h r => r.ct σ ρ H s h⟩
/-! x = e -/
def sSet (i : Nat) (td : DE) : DS := fun E ρ => td ρ fun d => E.nx (ρ.set i (.dat d))
theorem rs_set {K : PySem.W.Frag} {te : TE} {i : Nat} (h : RE w K te td) : RS w K (tAsg te (gName i)) (sSet i td) := by
  intro G0 H0 B σ ρ H D E k ⟨G, s⟩ hd r
  refine h σ ρ G H _ _ (s.okw k) s.sl hd fun v d G2 H2 s2 rv p => ?_
  exact r.nx _ _ _ ⟨G2, (s.step k s2).set rv⟩ p
theorem sd_set {x : Str} {i : Nat} {pos' : Pos} (hN : X.N.Nodup) (he : PD w X e td) (hi : X.N[i]? = some x := by rfl) (hx : Loc X.env.scope x := by first | exact Or.inl rfl | exact Or.inr rfl) (hs : swapsWith e (some (.Name x pos')) pos.line X.env = pure false := by rfl)
    (hf : X.fn x = true ∨ X.env.scope.names.lookup x = some .local := by first | exact .inl rfl | exact .inr rfl | assumption) : PDS w X (.Assign [.Name x pos'] e pos) (sSet i td) := by
  obtain ⟨te, h1, h2⟩ := he
  exact ⟨_, ps_set hN hi hx h1 hs hf, rs_set h2⟩
/-- x = a value without parts, that may look at the own lists -/
def sSetF (i : Nat) (td : DE) : DS := fun E ρ => td (full ρ) fun d => flatD d = true ∧ E.nx (ρ.set i (.dat d))
theorem sd_setF {x : Str} {i : Nat} {pos' : Pos} (hN : X.N.Nodup) (he : PD w X e td) (hi : X.N[i]? = some x := by rfl) (hx : Loc X.env.scope x := by first | exact Or.inl rfl | exact Or.inr rfl) (hs : swapsWith e (some (.Name x pos')) pos.line X.env = pure false := by rfl)
    (hf : X.fn x = true ∨ X.env.scope.names.lookup x = some .local := by first | exact .inl rfl | exact .inr rfl | assumption) : PDS w X (.Assign [.Name x pos'] e pos) (sSetF i td) := by
  obtain ⟨te, h1, h2⟩ := he
  refine ⟨_, ps_set hN hi hx h1 hs hf, ?_⟩
  intro G0 H0 B σ ρ H D E k ⟨G, s⟩ hd r
  refine h2 σ (full ρ) _ H _ _ (s.fullStp.okw k) s.fullSl hd fun v d G2 H2 s2 rv p => ?_
  exact r.nx _ _ _ ⟨G, (s.after k s2).set (rv.flatTo p.1)⟩ p.2
/-- x = a new list, x's own -/
def sSetN (i : Nat) (tn : DA) : DS := fun E ρ => tn ρ fun ds => E.nx (ρ.set i (.own ds))
theorem sd_setN {tn : DA} {x : Str} {i : Nat} {pos' : Pos} (hN : X.N.Nodup) (he : PDN w X e tn) (hi : X.N[i]? = some x := by rfl) (hx : Loc X.env.scope x := by first | exact Or.inl rfl | exact Or.inr rfl) (hs : swapsWith e (some (.Name x pos')) pos.line X.env = pure false := by rfl)
    (hf : X.fn x = true ∨ X.env.scope.names.lookup x = some .local := by first | exact .inl rfl | exact .inr rfl | assumption) : PDS w X (.Assign [.Name x pos'] e pos) (sSetN i tn) := by
  obtain ⟨te, h1, h2⟩ := he
  refine ⟨_, ps_set hN hi hx h1 hs hf, ?_⟩
  intro G0 H0 B σ ρ H D E k ⟨G, s⟩ hd r
  refine h2 σ ρ G H _ _ (s.okw k) s.sl hd fun p xs ds G2 H2 s2 hp hg2 hl rv q => ?_
  have h0 : H0 p = none := by
    cases z : H0 p with
    | none => rfl
    | some u => exact absurd hp (s.stp.th p (by rw [z]; exact fun z => nomatch z))
  refine r.nx _ _ _ ⟨G2, (s.step k s2).setN hl hg2 h0 rv fun j es hj hσ => ?_⟩ q
  obtain ⟨a, ys, q1, q2, _⟩ := s.own j es hj
  rw [q1] at hσ
  have ea : a = p := by injection (Option.some.inj (Option.some.inj hσ))
  subst ea
  rw [hp] at q2; cases q2
/-! return, if -/
def sRet (td : DE) : DS := fun E ρ => td (full ρ) E.rt
theorem sd_ret (he : PD w X e td) : PDS w X (.Return (some e) pos) (sRet td) := by
  obtain ⟨te, h1, h2⟩ := he
  refine ⟨_, ps_ret h1, ?_⟩
  intro G0 H0 B σ ρ H D E k ⟨G, s⟩ hd r
  exact h2 σ (full ρ) _ H _ _ (s.fullStp.okw k) s.fullSl hd fun v d G2 H2 s2 rv p => r.rt v d G2 H2 (s.fullStp.trans s2) rv p
def sRetN : DS := fun E _ => E.rt .none
theorem sd_retN : PDS w X (.Return none pos) sRetN := ⟨_, ps_retN, fun G0 H0 B σ ρ H D E k ⟨G, s⟩ hd r => r.rt _ _ G H s.stp .non hd⟩
def sIf (tt : DT) (a b : DS) : DS := fun E ρ => tt (full ρ) fun c => if c = true then a E ρ else b E ρ
theorem sd_if {c : Expr} {a b : List Stmt} {tt : DT} (hc : PDT w X c tt) (ha : PDSs w X a ds) (hb : PDSs w X b es) : PDS w X (.If c a b pos) (sIf tt ds es) := by
  obtain ⟨tc, c1, c2⟩ := hc
  obtain ⟨t, a1, a2⟩ := ha
  obtain ⟨u, b1, b2⟩ := hb
  refine ⟨_, ps_if c1 a1 b1, ?_⟩
  intro G0 H0 B σ ρ H D E k ⟨G, s⟩ hd r
  refine c2 σ (full ρ) _ H _ _ (s.fullStp.okw k) s.fullSl hd fun v G2 H2 s2 p => ?_
  cases v with
  | true => exact a2 G0 H0 B σ ρ H2 D E k ⟨G, s.after k s2⟩ p r
  | false => exact b2 G0 H0 B σ ρ H2 D E k ⟨G, s.after k s2⟩ p r
/-! x.append(e), x.extend(e), x a name's own list -/
def sApp (i : Nat) (td : DE) : DS := fun E ρ => match ρ[i]? with
  | some (.own ds) => td ρ fun d => ds.length < 1000000 ∧ E.nx (ρ.set i (.own (ds ++ [d])))
  | _ => False
def sExt (i : Nat) (td : DE) : DS := fun E ρ => match ρ[i]? with
  | some (.own ds) => td ρ fun d => match d with
    | .list es => ds.length + es.length ≤ 1000000 ∧ E.nx (ρ.set i (.own (ds ++ es)))
    | _ => False
  | _ => False
theorem sd_app {x : Str} {i : Nat} {p1 p2 p3 : Pos} (hx : PE X (.Name x p1) (tVar i)) (he : PD w X e td) (hbase : attributeBase (.Name x p1) "append" X.env (eval (.Name x p1) X.env) = eval (.Name x p1) X.env := by rfl)
    (hfew : ((backTo p3 (starEach [e] X.env)).all (fun x => !x.1) && (backToKw p3 (keywordEach [] X.env)).all (fun x => x.1.isSome) && decide (([e] : List Expr).length + ([] : List Keyword).length + (if ([] : List Keyword).isEmpty then 0 else 1) < 30)) = true := by rfl)
    (hline : (p2.endLine == p3.line) = true := by rfl) (hs : starEach [e] X.env = (false, eval e X.env) :: starEach [] X.env := by rfl) (hplain : (backTo p3 (starEach [] X.env)).any (·.1) = false := by rfl)
    (hsw : swapsWith (.Call (.Attribute (.Name x p1) "append" p2) [e] [] p3) none pos.line X.env = pure false := by rfl) : PDS w X (.Expr (.Call (.Attribute (.Name x p1) "append" p2) [e] [] p3) pos) (sApp i td) := by
  obtain ⟨te, h1, h2⟩ := he
  refine ⟨_, ps_expr (pe_bm PySem.F.plainAttrs_list PySem.F.slot_list_append PySem.F.type_list_append mt_append hx (pa_cons h1 pa_nil hs) hbase hfew hline hs hplain) hsw, ?_⟩
  intro G0 H0 B σ ρ H D E k ⟨G, s⟩ hd r
  unfold sApp at hd
  split at hd
  · rename_i ds hi
    obtain ⟨a, xs, q1, q2, q3, q4, q5⟩ := s.own i ds hi
    refine ⟨_, q1, .inl ⟨rfl, xs, SqL.of q2⟩, ?_⟩
    refine h2 σ ρ G H _ _ (s.okw k) s.sl hd fun v d G2 H2 s2 rv p => ?_
    have s' := s.step k s2
    have z : H2 a = some (.lst xs) := s2.kp a _ (fun z => k.here a (w.sf a z) q5) q2
    have hg : G2 a = none := s2.nw a (by rw [q2]; exact fun z => nomatch z) q4
    have q3' := q3.mono s2.up
    exact ⟨a, xs, v, rfl, rfl, z, line_lt (by rw [q3'.len]; exact p.1), r.nx _ _ _ ⟨G2, s'.mut k hi q1 hg q5 (q3'.append (.cons rv .nil))⟩ p.2⟩
  · exact hd.elim
theorem sd_ext {x : Str} {i : Nat} {p1 p2 p3 : Pos} (hx : PE X (.Name x p1) (tVar i)) (he : PD w X e td) (hbase : attributeBase (.Name x p1) "extend" X.env (eval (.Name x p1) X.env) = eval (.Name x p1) X.env := by rfl)
    (hfew : ((backTo p3 (starEach [e] X.env)).all (fun x => !x.1) && (backToKw p3 (keywordEach [] X.env)).all (fun x => x.1.isSome) && decide (([e] : List Expr).length + ([] : List Keyword).length + (if ([] : List Keyword).isEmpty then 0 else 1) < 30)) = true := by rfl)
    (hline : (p2.endLine == p3.line) = true := by rfl) (hs : starEach [e] X.env = (false, eval e X.env) :: starEach [] X.env := by rfl) (hplain : (backTo p3 (starEach [] X.env)).any (·.1) = false := by rfl)
    (hsw : swapsWith (.Call (.Attribute (.Name x p1) "extend" p2) [e] [] p3) none pos.line X.env = pure false := by rfl) : PDS w X (.Expr (.Call (.Attribute (.Name x p1) "extend" p2) [e] [] p3) pos) (sExt i td) := by
  obtain ⟨te, h1, h2⟩ := he
  refine ⟨_, ps_expr (pe_bm PySem.F.plainAttrs_list PySem.F.slot_list_extend PySem.F.type_list_extend mt_extend hx (pa_cons h1 pa_nil hs) hbase hfew hline hs hplain) hsw, ?_⟩
  intro G0 H0 B σ ρ H D E k ⟨G, s⟩ hd r
  unfold sExt at hd
  split at hd
  · rename_i ds hi
    obtain ⟨a, xs, q1, q2, q3, q4, q5⟩ := s.own i ds hi
    refine ⟨_, q1, .inl ⟨rfl, xs, SqL.of q2⟩, ?_⟩
    refine h2 σ ρ G H _ _ (s.okw k) s.sl hd fun v d G2 H2 s2 rv p => ?_
    have s' := s.step k s2
    have z : H2 a = some (.lst xs) := s2.kp a _ (fun z => k.here a (w.sf a z) q5) q2
    have hg : G2 a = none := s2.nw a (by rw [q2]; exact fun z => nomatch z) q4
    have q3' := q3.mono s2.up
    cases rv with
    | @lst b ys fs t1 r1 => exact ⟨a, b, xs, ys, rfl, rfl, z, s2.sub _ _ t1, line_le (by rw [q3'.len, r1.len]; exact p.1), r.nx _ _ _ ⟨G2, s'.mut k hi q1 hg q5 (q3'.append r1)⟩ p.2⟩
    | _ => exact p.elim
  · exact hd.elim
end
end Z

set_option Elab.async false
set_option linter.all false
set_option maxRecDepth 100000
set_option maxHeartbeats 4000000
namespace Z
open PySem PySem.Spec PyProof.Rows L2
/-! targets -/
abbrev DG := DD → En → (En → Prop) → Prop
abbrev DGs := List DD → En → (En → Prop) → Prop
def RG (w : Wd) (K : PySem.W.Frag) (g : TG) (gd : DG) : Prop := ∀ G0 H0 B σ ρ H G x d (k : En → Prop) (Q : L2.St → Hp → Prop), SOk w K G0 H0 B σ ρ H G → Rp K G x d → gd d ρ k → (∀ σ' ρ' H', SPo w K G0 H0 B ρ' σ' H' → k ρ' → Q σ' H') → g x σ H Q
def RGs (w : Wd) (K : PySem.W.Frag) (g : TGs) (gd : DGs) : Prop := ∀ G0 H0 B σ ρ H G xs ds (k : En → Prop) (Q : L2.St → Hp → Prop), SOk w K G0 H0 B σ ρ H G → RpAll K G xs ds → gd ds ρ k → (∀ σ' ρ' H', SPo w K G0 H0 B ρ' σ' H' → k ρ' → Q σ' H') → g xs σ H Q
structure PDG (w : Wd) (X : Cx) (tg : Expr) (gd : DG) : Prop where
  ex : ∃ g, PG X tg g ∧ RG w X.K g gd
structure PDGs (w : Wd) (X : Cx) (tgs : List Expr) (gd : DGs) : Prop where
  ex : ∃ g, PGs X tgs g ∧ RGs w X.K g gd
def tN (i : Nat) : DG := fun d ρ k => k (ρ.set i (.dat d))
def tNil : DGs := fun ds ρ k => ds = [] ∧ k ρ
/-- the further targets are names, too -/
def tNs : List Nat → DGs
  | [] => fun ds ρ k => match ds with
    | [] => k ρ
    | _ => False
  | i :: is => fun ds ρ k => match ds with
    | d :: r => tNs is r (ρ.set i (.dat d)) k
    | _ => False
def tT (is : List Nat) : DG := fun d ρ k => match d with
  | .tuple ds => tNs is ds ρ k
  | _ => False
section
variable {w : Wd} {X : Cx} {pos : Pos} {e tg : Expr} {es : List Expr} {td : DE}
theorem rg_name {K : PySem.W.Frag} {i : Nat} : RG w K (gName i) (tN i) := fun G0 H0 B σ ρ H G x d k Q s r h q => q _ _ _ ⟨G, s.set r⟩ h
theorem dg_n {i : Nat} {x : Str} (hN : X.N.Nodup) (hi : X.N[i]? = some x := by rfl) (hx : Loc X.env.scope x := by first | exact Or.inl rfl | exact Or.inr rfl) (hf : X.fn x = true ∨ X.env.scope.names.lookup x = some .local := by first | exact .inl rfl | exact .inr rfl | assumption) : PDG w X (.Name x pos) (tN i) :=
  ⟨_, pg_name hN hi hx hf, rg_name⟩
theorem dgs_nil : PDGs w X [] (tNs []) := by
  refine ⟨_, pgs_nil, fun G0 H0 B σ ρ H G xs ds k Q s r h q => ?_⟩
  cases r with
  | nil => exact ⟨rfl, q _ _ _ ⟨G, s⟩ h⟩
  | cons _ _ => exact h.elim
theorem dgs_n {i : Nat} {is : List Nat} {x : Str} {rest : List Expr} (hN : X.N.Nodup) (hr : PDGs w X rest (tNs is)) (hi : X.N[i]? = some x := by rfl) (hx : Loc X.env.scope x := by first | exact Or.inl rfl | exact Or.inr rfl)
    (hf : X.fn x = true ∨ X.env.scope.names.lookup x = some .local := by first | exact .inl rfl | exact .inr rfl | assumption) (hs : (assignEach (.Name x pos :: rest) X.env).map (·.2) = assign (.Name x pos) X.env :: (assignEach rest X.env).map (·.2) := by rfl) : PDGs w X (.Name x pos :: rest) (tNs (i :: is)) := by
  obtain ⟨g, h1, h2⟩ := hr
  refine ⟨_, pgs_cons (pg_name hN hi hx hf) h1 hs, fun G0 H0 B σ ρ H G xs ds k Q s r h q => ?_⟩
  cases r with
  | nil => exact h.elim
  | cons ra rb => exact ⟨_, _, rfl, h2 G0 H0 B _ _ H G _ _ k Q (s.set ra) rb h q⟩
theorem dg_t {is : List Nat} {kx : Nat} (hr : PDGs w X es (tNs is)) (hl : es.length = is.length := by rfl) (hc : X.calm = true := by rfl) (hn : (assignEach es X.env).length = es.length := by rfl) (hst : (assignEach es X.env).findIdx? (·.1) = none := by rfl) : PDG w X (.Tuple es kx pos) (tT is) := by
  obtain ⟨g, h1, h2⟩ := hr
  refine ⟨_, pg_tup hc h1 hn hst, fun G0 H0 B σ ρ H G x d k Q s r h q => ?_⟩
  cases r with
  | @tup a xs ds t1 r1 =>
    have len : ∀ (is : List Nat) (ds : List DD) ρ, tNs is ds ρ k → ds.length = is.length := fun is => by
      induction is with
      | nil => intro ds ρ h; cases ds with
        | nil => rfl
        | cons _ _ => exact h.elim
      | cons i is ih => intro ds ρ h; cases ds with
        | nil => exact h.elim
        | cons d ds => exact congrArg (· + 1) (ih ds _ h)
    exact ⟨a, xs, rfl, s.stp.sub.sqT t1, by rw [r1.len, len is ds ρ h, hl], h2 G0 H0 B σ ρ H G xs ds k Q s r1 h q⟩
  | _ => exact h.elim
/-! target = e -/
def sAsg (td : DE) (gd : DG) : DS := fun E ρ => td ρ fun d => gd d ρ E.nx
theorem sd_asg {gd : DG} (he : PD w X e td) (hg : PDG w X tg gd) (hs : swapsWithSole [tg] e pos.line X.env = pure false := by rfl) (hw : swappedStores [tg] e X.env = pure none := by rfl)
    (h1 : (assignEach [tg] X.env).map (·.2) = [assign tg X.env] := by rfl) : PDS w X (.Assign [tg] e pos) (sAsg td gd) := by
  obtain ⟨te, e1, e2⟩ := he
  obtain ⟨g, g1, g2⟩ := hg
  refine ⟨_, ps_asg e1 g1 hs hw h1, ?_⟩
  intro G0 H0 B σ ρ H D E k ⟨G, s⟩ hd r
  refine e2 σ ρ G H _ _ (s.okw k) s.sl hd fun v d G2 H2 s2 rv p => ?_
  exact g2 G0 H0 B σ ρ H2 G2 v d _ _ (s.step k s2) rv p r.nx
/-- x = [.. for ..] where the comprehension stores by itself -/
theorem sd_lc {elt iter : Expr} {ifs : List Expr} {scope : Scope} {x y : Str} {i j : Nat} {lpos py : Pos} {ti : DA} {tt : DT} (hN : X.N.Nodup) (hyl : X.env.scope.names.lookup y = some .local) (ok : BlkOk X.N X.env.scope scope [(x, j)]) (hi : PDI w X tg iter ti)
    (hg : ∀ (s : Shared) (H : Hp) (C : Addr) (cl : List (Str × Addr)) (fp : List Addr), PG (X.blk s H scope (compEnvC scope cl C X.env) fp) tg (gName j))
    (ht : ∀ (s : Shared) (H : Hp) (C : Addr) (cl : List (Str × Addr)) (fp : List Addr), PDTs w (X.blk s H scope (compEnvC scope cl C X.env) fp) ifs tt)
    (he : ∀ (s : Shared) (H : Hp) (C : Addr) (cl : List (Str × Addr)) (fp : List Addr), PD w (X.blk s H scope (compEnvC scope cl C X.env) fp) elt td)
    (hsw : swapsWith (.ListComp elt [⟨tg, iter, ifs, 0⟩] scope lpos) (some (.Name y py)) pos.line X.env = pure true)
    (hy : X.N[i]? = some y := by rfl) (hc : X.calm = true := by rfl) (hs : ∀ x, foldedSetIterable iter X.env x = pure x := by intro _; rfl) : PDS w X (.Assign [.Name y py] (.ListComp elt [⟨tg, iter, ifs, 0⟩] scope lpos) pos) (sSet i (dLc ti j tt td)) := by
  obtain ⟨wi, i1, i2⟩ := hi
  exact ⟨_, ps_setLc (own := [(x, j)]) hc hN hy hyl hsw i1 ok hg (fun s H C cl fp => (ht s H C cl fp).can) (fun s H C cl fp => (he s H C cl fp).can) hs, rs_set (re_lc i2)⟩
/-! x += int -/
def sAug (i : Nat) (td : DE) : DS := fun E ρ => match ρ[i]? with
  | some (.dat (.int a)) => td ρ fun d => match d with
    | .int b => E.nx (ρ.set i (.dat (.int (a + b))))
    | _ => False
  | _ => False
theorem sd_aug {i : Nat} {x : Str} {pos' : Pos} (hN : X.N.Nodup) (he : PD w X e td) (hi : X.N[i]? = some x := by rfl) (hx : Loc X.env.scope x := by first | exact Or.inl rfl | exact Or.inr rfl) (hf : X.fn x = true ∨ X.env.scope.names.lookup x = some .local := by first | exact .inl rfl | exact .inr rfl | assumption) :
    PDS w X (.AugAssign (.Name x pos') .Add e pos) (sAug i td) := by
  obtain ⟨te, e1, e2⟩ := he
  refine ⟨_, ps_aug hN hi hx e1 ip_add hf, ?_⟩
  intro G0 H0 B σ ρ H D E k ⟨G, s⟩ hd r
  unfold sAug at hd
  split at hd
  · rename_i a ha
    obtain ⟨v, q1, q2⟩ := s.sl.dat i _ ha
    cases q2
    refine ⟨_, q1, ?_⟩
    refine e2 σ ρ G H _ _ (s.okw k) s.sl hd fun v d G2 H2 s2 rv p => ?_
    cases rv with
    | int b => exact ⟨a, b, rfl, rfl, r.nx _ _ _ ⟨G2, (s.step k s2).set (.int _)⟩ p⟩
    | _ => exact p.elim
  · exact hd.elim
/-! loops -/
def loop (gd : DG) (sb : DS) (E : DEn) : List DD → En → Prop
  | [] => E.nx
  | x :: xs => fun ρ => gd x ρ fun ρ1 => sb ⟨loop gd sb E xs, E.rt, E.nx, loop gd sb E xs, E.ex⟩ ρ1
def sFor (ti : DA) (gd : DG) (sb : DS) : DS := fun E ρ => ti ρ fun items => loop gd sb E items ρ
theorem SOk.lower {K : PySem.W.Frag} {G0 H0 B B' : Hp} {σ : L2.St} {ρ : En} {H G : Hp} (s : SOk w K G0 H0 B' σ ρ H G) (h : Sub B B') : SOk w K G0 H0 B σ ρ H G := ⟨s.stp, h.trans s.lb, s.sl, s.own, s.sep⟩
theorem rs_for {K : PySem.W.Frag} {wi : TI} {g : TG} {tb : TS} {ti : DA} {gd : DG} {sb : DS} (hi : RI w K wi ti) (hg : RG w K g gd) (hb : RS w K tb sb) : RS w K (tFor wi g tb) (sFor ti gd sb) := by
  intro G0 H0 B σ ρ H D E k ⟨G, s⟩ hd r
  refine hi σ ρ G H _ _ (s.okw k) s.sl hd fun J items G2 H2 s2 wk p => ?_
  have s' := s.step k s2
  have lbB : Sub B G2 := s'.lb
  obtain ⟨Y, wlk, hy⟩ := wk
  refine for_it wlk (fun i σ' H' => ∃ ρ', SPo w K G0 H0 G2 ρ' σ' H' ∧ loop gd sb E (items.drop i) ρ') ?_ ?_ ?_ ?_
  · exact ⟨ρ, ⟨G2, s'.stp, Sub.rfl, s'.sl, s'.own, s'.sep⟩, p⟩
  · rintro i σ' H' _ ⟨ρ', ⟨G', s1⟩, _⟩
    exact s1.lb.trans s1.stp.sub
  · rintro i x σ' H' H'' hlt ⟨ρ', ⟨G', s1⟩, hl⟩ y
    obtain ⟨d, hd, alt⟩ := hy i H' x H'' y
    have hdr : items.drop i = d :: items.drop (i + 1) := by
      obtain ⟨h1, h2⟩ := List.getElem?_eq_some_iff.mp hd
      rw [List.drop_eq_getElem_cons h1, h2]
    rw [hdr] at hl
    obtain ⟨G3, s3, rx⟩ : ∃ G3, SOk w K G0 H0 G2 σ' ρ' H'' G3 ∧ Rp K G3 x d := by
      rcases alt with ⟨rfl, rx⟩ | ⟨pp, xs, es, hp, rfl, rfl, rx, rfl⟩
      · exact ⟨G', s1, rx.mono s1.lb⟩
      · have k1 := s1.okw k
        have sn := Stp.new (w := w) (o := .tup xs) k1 hp
        exact ⟨_, s1.step k sn, .tup (SqT.of upd_same) ((rx.mono s1.lb).mono sn.up)⟩
    refine hg G0 H0 G2 σ' ρ' H'' G3 x d _ _ s3 rx hl fun σ4 ρ4 H4 s4 h4 => ?_
    refine hb G0 H0 G2 σ4 ρ4 H4 _ _ k s4 h4 ⟨fun σ5 ρ5 H5 s5 h5 => ⟨ρ5, s5, h5⟩, r.rt, fun σ5 ρ5 H5 s5 h5 => ?_, fun σ5 ρ5 H5 s5 h5 => ⟨ρ5, s5, h5⟩, fun y σ5 ρ5 H5 s5 h5 => ?_⟩
    · obtain ⟨G5, s5⟩ := s5
      exact r.nx _ _ _ ⟨G5, s5.lower lbB⟩ h5
    · obtain ⟨G5, s5⟩ := s5
      exact r.ex _ _ _ _ ⟨G5, s5.lower lbB⟩ h5
  · rintro σ' H' ⟨ρ', ⟨G', s1⟩, hl⟩
    rw [List.drop_length] at hl
    exact r.nx _ _ _ ⟨G', s1.lower lbB⟩ hl
theorem sd_for {iter : Expr} {body : List Stmt} {ti : DA} {gd : DG} {sb : DS} (hi : PDI w X tg iter ti) (hg : PDG w X tg gd) (hb : PDSs w X body sb) (hp : PassesOwn (model X.prog X.w) X.A X.env X.xe := by exact PassesOwn.never) (hc : X.calm = true := by rfl)
    (hs : ∀ x, foldedSetIterable iter X.env x = pure x := by intro _; rfl) : PDS w X (.For tg iter body [] pos) (sFor ti gd sb) := by
  obtain ⟨wi, i1, i2⟩ := hi
  obtain ⟨g, g1, g2⟩ := hg
  obtain ⟨tb, b1, b2⟩ := hb
  exact ⟨_, ps_for hp hc i1 g1 b1 hs, rs_for i2 g2 b2⟩
/-- at most n turns -/
def turns (tt : DT) (sb : DS) (E : DEn) : Nat → En → Prop
  | 0 => fun _ => False
  | n + 1 => fun ρ => tt (full ρ) fun c => if c = true then sb ⟨turns tt sb E n, E.rt, E.nx, turns tt sb E n, E.ex⟩ ρ else E.nx ρ
def sWh (tt : DT) (sb : DS) : DS := fun E ρ => ∃ n, turns tt sb E n ρ
theorem sd_wh {c : Expr} {body : List Stmt} {tt : DT} {sb : DS} (ht : PDT w X c tt) (hb : PDSs w X body sb) (hp : PassesOwn (model X.prog X.w) X.A X.env X.xe := by exact PassesOwn.never) : PDS w X (.While c body [] pos) (sWh tt sb) := by
  obtain ⟨tc, c1, c2⟩ := ht
  obtain ⟨tb, b1, b2⟩ := hb
  refine ⟨_, ps_while hp c1 b1, ?_⟩
  intro G0 H0 B σ ρ H D E k s ⟨n, hn⟩ r
  refine ⟨fun m σ' H' => ∃ ρ', SPo w X.K G0 H0 B ρ' σ' H' ∧ turns tt sb E m ρ', ⟨n, ρ, s, hn⟩, fun m σ' H' ⟨ρ', ⟨G', s1⟩, ht⟩ => ?_⟩
  cases m with
  | zero => exact ht.elim
  | succ m =>
    refine c2 σ' (full ρ') _ H' _ _ (s1.fullStp.okw k) s1.fullSl ht fun b G2 H2 s2 p => ?_
    have s3 : SPo w X.K G0 H0 B ρ' σ' H2 := ⟨G', s1.after k s2⟩
    cases b with
    | false => exact r.nx _ _ _ s3 p
    | true =>
      refine ⟨fun σ4 H4 => ∃ ρ4, SPo w X.K G0 H0 B ρ4 σ4 H4 ∧ turns tt sb E m ρ4, fun σ4 H4 h4 => ⟨m, Nat.lt_succ_self m, h4⟩, ?_⟩
      exact b2 G0 H0 B σ' ρ' H2 _ _ k s3 p ⟨fun σ5 ρ5 H5 s5 h5 => ⟨ρ5, s5, h5⟩, r.rt, fun σ5 ρ5 H5 s5 h5 => r.nx _ _ _ s5 h5, fun σ5 ρ5 H5 s5 h5 => ⟨ρ5, s5, h5⟩, r.ex⟩
end
/-! ### a def -/
def startD (N : List Str) (ds : List DD) : En := ds.map Ent.dat ++ List.replicate (N.length - ds.length) Ent.un
theorem sl_start {K : PySem.W.Frag} {G : Hp} {N : List Str} {vs : List V} {ds : List DD} (r : RpAll K G vs ds) : SlOk K G (start N vs) (startD N ds) := by
  have hl := r.len
  refine ⟨by simp [L2.start, startD, hl], fun i d h => ?_, fun i a h => ?_⟩
  · unfold startD at h
    by_cases hi : i < ds.length
    · rw [List.getElem?_append_left (by simpa using hi), List.getElem?_map] at h
      cases e : ds[i]? with
      | none => rw [e] at h; cases h
      | some d' =>
        rw [e] at h
        have ed : d' = d := by injection (Option.some.inj h)
        subst ed
        obtain ⟨v, hv, rv⟩ := r.getD e
        refine ⟨v, ?_, rv⟩
        unfold L2.start
        rw [List.getElem?_append_left (by rw [List.length_map, hl]; exact hi), List.getElem?_map, hv]
        rfl
    · rw [List.getElem?_append_right (by simpa using Nat.le_of_not_lt hi)] at h
      rw [List.getElem?_replicate] at h
      split at h <;> cases h
  · unfold startD at h
    by_cases hi : i < ds.length
    · rw [List.getElem?_append_left (by simpa using hi), List.getElem?_map] at h
      cases e : ds[i]? with
      | none => rw [e] at h; cases h
      | some d' => rw [e] at h; cases h
    · rw [List.getElem?_append_right (by simpa using Nat.le_of_not_lt hi)] at h
      rw [List.getElem?_replicate] at h
      split at h <;> cases h
def endsD (P : DD → Prop) : DEn := ⟨fun _ => P .none, P, fun _ => False, fun _ => False, fun _ _ => False⟩
section
variable {P : Program} {wd : World} {K : PySem.W.Frag} {mg : Str → Option Value} {base : Heap} {x qual : Str} {st : Stmt} {f : Addr} {fd : FuncData} {N ps : List Str} {k : Nat} {F : D1} {sd : DS}
/-- THE RULE for a pure def: its body's meaning, and that it does what F says -/
theorem fn_pure (Fn : Fun K x qual st f fd) (S : FnScope N ps (defScope st))
    (body : ∀ (cdv : Value) (A : Around) (outer : List Env) (s : Shared) (H : Hp) (E : XK), Room k (A.deeper (envOfC qual (defScope st) s.heap.objs.size f cdv)) → PDSs Wd.zero (cxOf CX0 P wd K mg base N qual (defScope st) f cdv A outer s H E).nox (defBody st) sd)
    (hF : ∀ ds Q, F ds Q → ds.length = ps.length ∧ sd (endsD Q) (startD N ds)) : FnOk P wd K mg base CX0 (k + 1) f fd ps (spD K F) := by
  refine Fn.ok S (fun vs H Q E h => ?_) (fun cdv A outer s H vs Q E hr h => ?_)
  · obtain ⟨G, ds, P', hs, r, hf, _⟩ := h
    rw [r.len]; exact (hF ds P' hf).1
  · obtain ⟨G, ds, P', hs, r, hf, q⟩ := h
    obtain ⟨ts, t1, t2⟩ := body cdv A outer s H E hr
    refine ⟨ts, t1, ?_⟩
    have k0 : Okw Wd.zero G H := ⟨hs, trivial, fun _ h => h.elim, fun _ h => h.elim⟩
    have nown : ∀ (i : Nat) es, (startD N ds)[i]? ≠ some (.own es) := fun i es h => by
      have z : Ent.own es ∈ startD N ds := List.mem_of_getElem? h
      unfold startD at z
      rcases List.mem_append.mp z with z | z
      · obtain ⟨d, _, e⟩ := List.mem_map.mp z
        cases e
      · rw [List.mem_replicate] at z
        cases z.2
    refine t2 G H G (start N vs) (startD N ds) H _ (endsD P') k0 ⟨G, k0.stp, Sub.rfl, sl_start r, fun i es h => absurd h (nown i es), fun i j es _ a h => absurd h (nown i es)⟩ (hF ds P' hf).2 ⟨fun σ ρ H' s' h' => ?_, fun v d G' H' s' r' h' => q v d G' H' s' r' h', fun _ _ _ _ h' => h'.elim, fun _ _ _ _ h' => h'.elim, fun _ _ _ _ _ h' => h'.elim⟩
    obtain ⟨G', s'⟩ := s'
    exact q _ _ G' H' s'.stp .non h'
end
end Z

set_option Elab.async false
set_option linter.all false
set_option maxRecDepth 100000
set_option maxHeartbeats 4000000
namespace Z
open PySem PySem.Spec PyProof.Rows L2
/-! ### a name's own list: made by a comprehension, written by place, given up -/
section
variable {w : Wd} {X : Cx} {st : Stmt} {rest : List Stmt} {ds es : DS} {e : Expr} {td : DE} {pos : Pos}
def compN (ρ : En) (j : Nat) (tt : DT) (td : DE) (items : List DD) (P : List DD → Prop) : Prop := comp ρ j tt td items [] fun d => match d with
  | .list ds => P ds
  | _ => False
def dLcN (ti : DA) (j : Nat) (tt : DT) (td : DE) : DA := fun ρ P => ti ρ fun items => compN ρ j tt td items P
/-- any reading of a value that is a list that nobody knows may be its owner's -/
theorem rn_lc {wi : TI} {ti : DA} {j : Nat} {tt : DT} {td : DE} (hi : RI w X.K wi ti) : RN w X.K (tLc wi (gName j) (ttOf w X.K tt) (teOf w X.K td) [j]) (dLcN ti j tt td) := by
  intro σ ρ G H P Q k s h q
  refine hi σ ρ G H _ _ k s h fun J items G1 H1 s1 wk p1 D hD => ?_
  have k1 := s1.okw k
  obtain ⟨Y, wlk, hy⟩ := wk
  refine lc_it wlk (fun i H' => ∃ G' acc ds, Stp w G1 H1 G' H' ∧ H' D = some (.lst acc) ∧ G' D = none ∧ RpAll X.K G' acc ds ∧ comp ρ j tt td (items.drop i) ds fun d => match d with
    | .list ds => P ds
    | _ => False) ?_ ?_ ?_ ?_
  · exact ⟨G1, [], [], Stp.new0 k1 hD, upd_same, k1.g_none hD, .nil, p1⟩
  · rintro i H' _ ⟨G', acc, ds, s2, _⟩
    exact s2.up.trans s2.sub
  · rintro i x H' H'' hlt ⟨G', acc, ds, s2, hacc, hgD, ra, hc⟩ y
    obtain ⟨d, hd, alt⟩ := hy i H' x H'' y
    have hdr : items.drop i = d :: items.drop (i + 1) := by
      obtain ⟨h1, h2⟩ := List.getElem?_eq_some_iff.mp hd
      rw [List.drop_eq_getElem_cons h1, h2]
    rw [hdr] at hc
    show wipe ((wipe σ [j]).set j (some x)) [j] = wipe σ [j] ∧ _
    refine ⟨by show (((σ.set j none).set j (some x)).set j none) = σ.set j none; rw [List.set_set, List.set_set], ?_⟩
    have e1 : (wipe σ [j]).set j (some x) = σ.set j (some x) := set_set_none
    rw [e1]
    obtain ⟨G3, s3, rx, hacc3, hgD3⟩ : ∃ G3, Stp w G1 H1 G3 H'' ∧ Rp X.K G3 x d ∧ H'' D = some (.lst acc) ∧ G3 D = none ∧ Sub G' G3 := by
      have k2 := s2.okw k1
      rcases alt with ⟨rfl, rx⟩ | ⟨p, xs, es, hp, rfl, rfl, rx, rfl⟩
      · exact ⟨G', s2, rx.mono s2.up, hacc, hgD, Sub.rfl⟩
      · have sn := Stp.new (w := w) (o := .tup xs) k2 hp
        have ne : D ≠ p := ne_of_none hacc hp
        exact ⟨_, s2.trans sn, .tup (SqT.of upd_same) ((rx.mono s2.up).mono (Sub.new (k2.g_none hp))), by rw [upd_ne ne]; exact hacc, by rw [upd_ne ne]; exact hgD, sn.up⟩
    obtain ⟨hgD3, u3⟩ := hgD3
    have k3 := s3.okw k1
    have sl3 : SlOk X.K G3 (σ.set j (some x)) (ρ.set j (.dat d)) := (s.mono (s1.up.trans s3.up)).set rx
    refine ⟨_, G3, _, k3, sl3, hc, fun b G4 H4 s4 hb => ?_⟩
    have k4 := s4.okw k3
    have hst : ¬ w.st D := fun z => k1.here D (w.sf D z) hD
    have hacc4 : H4 D = some (.lst acc) := s4.kp D _ hst hacc3
    have hgD4 : G4 D = none := s4.nw D (by rw [hacc3]; exact fun z => nomatch z) hgD3
    cases b with
    | false =>
      rw [if_neg Bool.false_ne_true] at hb
      show ∃ G' acc ds, _
      exact ⟨G4, acc, ds, s3.trans s4, hacc4, hgD4, (ra.mono u3).mono s4.up, hb⟩
    | true =>
      rw [if_pos rfl] at hb
      show teOf w X.K td (List.set σ j (some x)) H4 _
      refine ⟨_, G4, _, k4, sl3.mono s4.up, hb, fun v e G5 H5 s5 re hp => ?_⟩
      have hacc5 : H5 D = some (.lst acc) := s5.kp D _ hst hacc4
      have hgD5 : G5 D = none := s5.nw D (by rw [hacc4]; exact fun z => nomatch z) hgD4
      have ra5 := ((ra.mono u3).mono s4.up).mono s5.up
      exact ⟨acc, hacc5, line_lt (by rw [ra5.len]; exact hp.1), G5, acc ++ [v], ds ++ [e], ((s3.trans s4).trans s5).mut k1 hD hgD5, upd_same, hgD5, ra5.append (.cons re .nil), hp.2⟩
  · rintro H' ⟨G', acc, ds, s2, hacc, hgD, ra, hc⟩
    rw [List.drop_length] at hc
    have hD0 : H D = none := by
      cases z : H D with
      | none => rfl
      | some u => exact absurd hD (s1.th D (by rw [z]; exact fun z => nomatch z))
    exact q D acc ds G' H' (s1.trans s2) hD0 hgD hacc ra hc
theorem sd_lcN {elt iter tg : Expr} {ifs : List Expr} {scope : Scope} {x y : Str} {i j : Nat} {lpos py : Pos} {ti : DA} {tt : DT} (hN : X.N.Nodup) (hyl : X.env.scope.names.lookup y = some .local) (ok : BlkOk X.N X.env.scope scope [(x, j)]) (hi : PDI w X tg iter ti)
    (hg : ∀ (s : Shared) (H : Hp) (C : Addr) (cl : List (Str × Addr)) (fp : List Addr), PG (X.blk s H scope (compEnvC scope cl C X.env) fp) tg (gName j))
    (ht : ∀ (s : Shared) (H : Hp) (C : Addr) (cl : List (Str × Addr)) (fp : List Addr), PDTs w (X.blk s H scope (compEnvC scope cl C X.env) fp) ifs tt)
    (he : ∀ (s : Shared) (H : Hp) (C : Addr) (cl : List (Str × Addr)) (fp : List Addr), PD w (X.blk s H scope (compEnvC scope cl C X.env) fp) elt td)
    (hsw : swapsWith (.ListComp elt [⟨tg, iter, ifs, 0⟩] scope lpos) (some (.Name y py)) pos.line X.env = pure true)
    (hy : X.N[i]? = some y := by rfl) (hc : X.calm = true := by rfl) (hs : ∀ x, foldedSetIterable iter X.env x = pure x := by intro _; rfl) : PDS w X (.Assign [.Name y py] (.ListComp elt [⟨tg, iter, ifs, 0⟩] scope lpos) pos) (sSetN i (dLcN ti j tt td)) := by
  obtain ⟨wi, i1, i2⟩ := hi
  refine ⟨_, ps_setLc (own := [(x, j)]) (tt := ttOf w X.K tt) (te := teOf w X.K td) hc hN hy hyl hsw i1 ok hg (fun s H C cl fp => (ht s H C cl fp).can) (fun s H C cl fp => (he s H C cl fp).can) hs, ?_⟩
  intro G0 H0 B σ ρ H D E k ⟨G, s⟩ hd r
  refine rn_lc i2 σ ρ G H _ _ (s.okw k) s.sl hd fun p xs ds G2 H2 s2 hp hg2 hl rv q => ?_
  have h0 : H0 p = none := by
    cases z : H0 p with
    | none => rfl
    | some u => exact absurd hp (s.stp.th p (by rw [z]; exact fun z => nomatch z))
  refine r.nx _ _ _ ⟨G2, (s.step k s2).setN hl hg2 h0 rv fun j es hj hσ => ?_⟩ q
  obtain ⟨a, ys, q1, q2, _⟩ := s.own j es hj
  rw [q1] at hσ
  have ea : a = p := by injection (Option.some.inj (Option.some.inj hσ))
  subst ea
  rw [hp] at q2; cases q2
/-- x[n] = e, x a name's own list -/
def sPut (i : Nat) (tn td : DE) : DS := fun E ρ => match ρ[i]? with
  | some (.own ds) => td (full ρ) fun d => tn ρ fun n => match n with
    | .int n => match ixN ds.length n with
      | some j => E.nx (ρ.set i (.own (ds.set j d)))
      | none => False
    | _ => False
  | _ => False
/-- a name gives its list up: from now on it is data -/
def sFrz (i : Nat) (ds : DS) : DS := fun E ρ => match ρ[i]? with
  | some (.own es) => ds E (ρ.set i (.dat (.list es)))
  | _ => False
theorem SOk.frz {K : PySem.W.Frag} {G0 H0 B G H : Hp} {σ : L2.St} {ρ : En} (k0 : Okw w G0 H0) (s : SOk w K G0 H0 B σ ρ H G) {i : Nat} {ds : List DD} (hi : ρ[i]? = some (.own ds)) : SPo w K G0 H0 B (ρ.set i (.dat (.list ds))) σ H := by
  obtain ⟨a, xs, q1, q2, q3, q4, q5⟩ := s.own i ds hi
  have hl : i < ρ.length := (List.getElem?_eq_some_iff.mp hi).1
  have up : Sub G (upd G a (.lst xs)) := Sub.new q4
  refine ⟨upd G a (.lst xs), ⟨fun b o e => ?_, s.stp.up.trans up, s.stp.kp, s.stp.th, fun b h1 h2 => ?_, s.stp.wd⟩, s.lb.trans up, ⟨by rw [List.length_set]; exact s.sl.len, fun j d h => ?_, fun j b h => ?_⟩, fun j es h => ?_, fun j m es fs b h1 h2 h3 h4 => ?_⟩
  · by_cases z : b = a
    · subst z; rw [upd_same] at e; rw [q2]; exact e
    · rw [upd_ne z] at e; exact s.stp.sub b o e
  · rw [upd_ne (fun z => h1 (by rw [z]; exact q5))]; exact s.stp.nw b h1 h2
  · rcases set_some h with ⟨rfl, z, _⟩ | ⟨ne, z⟩
    · have ed : PyData.list ds = d := by injection z
      subst ed
      exact ⟨_, q1, .lst upd_same (q3.mono up)⟩
    · obtain ⟨v, r1, r2⟩ := s.sl.dat j d z
      exact ⟨v, r1, r2.mono up⟩
  · rcases set_some h with ⟨rfl, z, _⟩ | ⟨ne, z⟩
    · cases z
    · exact s.sl.adr j b z
  · rcases set_some h with ⟨rfl, z, _⟩ | ⟨ne, z⟩
    · cases z
    · obtain ⟨b, ys, r1, r2, r3, r4, r5⟩ := s.own j es z
      have nb : b ≠ a := fun e => ne (s.sep i j ds es a hi z q1 (by rw [r1, e]))
      exact ⟨b, ys, r1, r2, r3.mono up, by rw [upd_ne nb]; exact r4, r5⟩
  · rcases set_some h1 with ⟨rfl, z, _⟩ | ⟨_, z1⟩
    · cases z
    · rcases set_some h2 with ⟨rfl, z, _⟩ | ⟨_, z2⟩
      · cases z
      · exact s.sep j m es fs b z1 z2 h3 h4
theorem sds_frz (i : Nat) (h : PDSs w X rest es) : PDSs w X rest (sFrz i es) := by
  obtain ⟨ts, h1, h2⟩ := h
  refine ⟨ts, h1, fun G0 H0 B σ ρ H D E k ⟨G, s⟩ hd r => ?_⟩
  unfold sFrz at hd
  split at hd
  · rename_i es' hi
    exact h2 G0 H0 B σ _ H D E k (s.frz k hi) hd r
  · exact hd.elim
end
/-! ### the drawing state: a list that every draw turns -/
def wst (a l : Addr) (ns : List Int) : Wd where
  st := fun b => b = a
  fp := fun b => b = a ∨ b = l
  W := fun H => H l = some (.lst (ns.map V.int)) ∧ l ≠ a ∧ ∃ (i : Nat) (v s : Int), H a = some (.lst [.ref l, .int i, .int v, .int s]) ∧ i ≤ ns.length ∧ 0 ≤ v ∧ 0 ≤ s ∧ s < 2147483647
  sf := fun b h => .inl h
  loc := fun {H H'} e h => by
    obtain ⟨h1, h2, i, v, s, h3, h4⟩ := h
    exact ⟨by rw [e l (.inr rfl)]; exact h1, h2, i, v, s, by rw [e a (.inl rfl)]; exact h3, h4⟩
  ex := fun _ _ _ _ => False
/-- the contract of a def whose first argument is the state -/
def spS (K : PySem.W.Frag) (F : D1) : Sp := fun vs H Q _ => ∃ (a l : Addr) (ns : List Int) (G : Hp) (us : List V) (ds : List DD) (P : DD → Prop), vs = .ref a :: us ∧ Okw (wst a l ns) G H ∧ RpAll K G us ds ∧ F ds P ∧
  ∀ v d G2 H2, Stp (wst a l ns) G H G2 H2 → Rp K G2 v d → P d → Q v H2
section
variable {X : Cx} {a l : Addr} {ns : List Int} {es : List Expr} {kf : Nat} {f : Addr} {fd : FuncData} {ps : List Str} {x y : Str} {p py pos : Pos}
def dSt (a : Addr) (i : Nat) (F : D1) (t : DA) : DE := fun ρ P => ρ[i]? = some (.adr a) ∧ t ρ fun ds => F ds P
theorem pd_sfn {F : D1} {t : DA} {i : Nat} (GF : FnOk X.prog X.w X.K X.mg X.base CX0 kf f fd ps (spS X.K F)) (hr : Room kf X.A) (hm : X.mg x = some (.ref f)) (hk : PySem.W.keepIn X.K (.ref f) = true) (hb : Binds X.K fd ps []) (hv : PE X (.Name y py) (tVar i)) (ha : PDA (wst a l ns) X es t) (hg : Gl X x := by rfl)
    (hdb : (x == ("__debug__" : Str)) = false := by decide) (he : starEach (.Name y py :: es) X.env = (false, eval (.Name y py) X.env) :: starEach es X.env := by rfl) (hpl : (backTo pos (starEach es X.env)).any (·.1) = false := by rfl) : PD (wst a l ns) X (.Call (.Name x p) (.Name y py :: es) [] pos) (dSt a i F t) := by
  obtain ⟨t', a1, a2⟩ := ha
  refine ⟨_, pe_call GF hr hg hm hk hb .nil (pass0 (X := X)) (pa_cons hv a1 he) hdb he hpl, fun σ ρ G H P Q k s h q => ?_⟩
  refine ⟨_, s.adr i a h.1, ?_⟩
  refine a2 σ ρ G H _ _ k s h.2 fun vs ds G1 H1 s1 r1 _ p1 => ?_
  show spS X.K F ((V.ref a :: vs) ++ []) H1 Q E0
  rw [List.append_nil]
  exact ⟨a, l, ns, G1, vs, ds, P, rfl, s1.okw k, r1, p1, fun v d G2 H2 s2 => q v d G2 H2 (s1.trans s2)⟩
end
def startS (a : Addr) (N : List Str) (ds : List DD) : En := Ent.adr a :: (ds.map Ent.dat ++ List.replicate (N.length - 1 - ds.length) Ent.un)
theorem pss_any {X : Cx} {st : List Stmt} : PSs X st (fun D σ H => ∃ ts, PSs X st ts ∧ ts D σ H) := ⟨fun pins s σ H D I ⟨ts, h1, h2⟩ => h1.run pins s σ H D I h2⟩
section
variable {P : Program} {wd : World} {K : PySem.W.Frag} {mg : Str → Option Value} {base : Heap} {x qual : Str} {st : Stmt} {f : Addr} {fd : FuncData} {N ps : List Str} {k : Nat} {F : D1} {sd : Addr → DS}
theorem fn_state (Fn : Fun K x qual st f fd) (S : FnScope N ps (defScope st)) (hn : 1 ≤ N.length)
    (body : ∀ (a l : Addr) (ns : List Int) (cdv : Value) (A : Around) (outer : List Env) (s : Shared) (H : Hp) (E : XK), Room k (A.deeper (envOfC qual (defScope st) s.heap.objs.size f cdv)) → PDSs (wst a l ns) (cxOf CX0 P wd K mg base N qual (defScope st) f cdv A outer s H E).nox (defBody st) (sd a))
    (hF : ∀ a ds Q, F ds Q → ds.length + 1 = ps.length ∧ sd a (endsD Q) (startS a N ds)) : FnOk P wd K mg base CX0 (k + 1) f fd ps (spS K F) := by
  refine Fn.ok S (fun vs H Q E h => ?_) (fun cdv A outer s H vs Q E hr h => ?_)
  · obtain ⟨a, l, ns, G, us, ds, P', rfl, hs, r, hf, _⟩ := h
    rw [List.length_cons, r.len]; exact (hF a ds P' hf).1
  · obtain ⟨a, l, ns, G, us, ds, P', rfl, k0, r, hf, q⟩ := h
    refine ⟨_, pss_any, ?_⟩
    obtain ⟨ts, t1, t2⟩ := body a l ns cdv A outer s H E hr
    refine ⟨ts, t1, ?_⟩
    have nown : ∀ (i : Nat) es, (startS a N ds)[i]? ≠ some (.own es) := fun i es h => by
      have z : Ent.own es ∈ startS a N ds := List.mem_of_getElem? h
      unfold startS at z
      rcases List.mem_cons.mp z with z | z
      · cases z
      · rcases List.mem_append.mp z with z | z
        · obtain ⟨d, _, e⟩ := List.mem_map.mp z
          cases e
        · rw [List.mem_replicate] at z
          cases z.2
    have sl : SlOk K G (L2.start N (.ref a :: us)) (startS a N ds) := by
      have hl := r.len
      refine ⟨by simp [L2.start, startS, hl]; omega, fun i d h => ?_, fun i b h => ?_⟩
      · cases i with
        | zero => cases (Option.some.inj h)
        | succ i =>
          have h' : (ds.map Ent.dat ++ List.replicate (N.length - 1 - ds.length) Ent.un)[i]? = some (.dat d) := h
          by_cases hi : i < ds.length
          · rw [List.getElem?_append_left (by simpa using hi), List.getElem?_map] at h'
            cases e : ds[i]? with
            | none => rw [e] at h'; cases h'
            | some d' =>
              rw [e] at h'
              have ed : d' = d := by injection (Option.some.inj h')
              subst ed
              obtain ⟨v, hv, rv⟩ := r.getD e
              refine ⟨v, ?_, rv⟩
              show (us.map some ++ _)[i]? = _
              rw [List.getElem?_append_left (by rw [List.length_map, hl]; exact hi), List.getElem?_map, hv]
              rfl
          · rw [List.getElem?_append_right (by simpa using Nat.le_of_not_lt hi), List.getElem?_replicate] at h'
            split at h' <;> cases h'
      · cases i with
        | zero =>
          have eb : a = b := by injection (Option.some.inj h)
          subst eb
          rfl
        | succ i =>
          have h' : (ds.map Ent.dat ++ List.replicate (N.length - 1 - ds.length) Ent.un)[i]? = some (.adr b) := h
          by_cases hi : i < ds.length
          · rw [List.getElem?_append_left (by simpa using hi), List.getElem?_map] at h'
            cases e : ds[i]? with
            | none => rw [e] at h'; cases h'
            | some d' => rw [e] at h'; cases (Option.some.inj h')
          · rw [List.getElem?_append_right (by simpa using Nat.le_of_not_lt hi), List.getElem?_replicate] at h'
            split at h' <;> cases h'
    refine t2 G H G _ (startS a N ds) H _ (endsD P') k0 ⟨G, k0.stp, Sub.rfl, sl, fun i es h => absurd h (nown i es), fun i j es _ b h => absurd h (nown i es)⟩ (hF a ds P' hf).2 ⟨fun σ ρ H' s' h' => ?_, fun v d G' H' s' r' h' => q v d G' H' s' r' h', fun _ _ _ _ h' => h'.elim, fun _ _ _ _ h' => h'.elim, fun _ _ _ _ _ h' => h'.elim⟩
    obtain ⟨G', s'⟩ := s'
    exact q _ _ G' H' s'.stp .non h'
end
end Z

set_option Elab.async false
set_option linter.all false
set_option maxRecDepth 100000
set_option maxHeartbeats 4000000
namespace Z
open PySem PySem.Spec PyProof.Rows L2
mutual
/-- no list lies within -/
def nol : DD → Bool
  | .list _ => false
  | .tuple ds => nolAll ds
  | .dict _ => false
  | _ => true
def nolAll : List DD → Bool
  | [] => true
  | d :: ds => nol d && nolAll ds
end
section
variable {K : PySem.W.Frag} {G G' : Hp}
mutual
theorem Rp.nolTo (e : ∀ a u, G a = some u → (∀ xs, u ≠ .lst xs) → G' a = some u) : ∀ {v : V} {d : DD}, Rp K G v d → nol d = true → Rp K G' v d
  | _, _, .non, _ => .non
  | _, _, .bl b, _ => .bl b
  | _, _, .int i, _ => .int i
  | _, _, .str x, _ => .str x
  | _, _, .lst _ _, h => by simp [nol] at h
  | _, _, .tup t r, h => by
    rw [nol] at h
    refine .tup ?_ (RpAll.nolTo e r h)
    rcases t with (t | ⟨o, t⟩) | t
    · exact .inl (.inl (e _ _ t (fun _ z => by cases z)))
    · exact .inl (.inr ⟨o, e _ _ t (fun _ z => by cases z)⟩)
    · exact .inr t
theorem RpAll.nolTo (e : ∀ a u, G a = some u → (∀ xs, u ≠ .lst xs) → G' a = some u) : ∀ {vs : List V} {ds : List DD}, RpAll K G vs ds → nolAll ds = true → RpAll K G' vs ds
  | _, _, .nil, _ => .nil
  | _, _, .cons a b, h => by
    rw [nolAll, Bool.and_eq_true] at h
    exact .cons (Rp.nolTo e a h.1) (RpAll.nolTo e b h.2)
end
end
section
variable {w : Wd} {K : PySem.W.Frag} {G0 H0 B G H : Hp} {σ : L2.St} {ρ : En}
open Classical in
/-- behind an expression that saw the own lists: what it made is kept, but for the own lists -/
theorem SOk.afterN (k0 : Okw w G0 H0) (s : SOk w K G0 H0 B σ ρ H G) {G2 H2 : Hp} (t : Stp w (fullG σ ρ G H) H G2 H2) : ∃ G3, SOk w K G0 H0 B σ ρ H2 G3 ∧ ∀ v d, Rp K G2 v d → nol d = true → Rp K G3 v d := by
  have fs := s.fullStp.trans t
  have st : ∀ a, w.st a → H0 a ≠ none := fun a z => k0.here a (w.sf a z)
  have own2 : ∀ a, (∃ (i : Nat) (ds : List DD), ρ[i]? = some (.own ds) ∧ σ[i]? = some (some (.ref a))) → ∃ xs, H2 a = some (.lst xs) := fun a ⟨i, ds, h1, h2⟩ => by
    obtain ⟨b, xs, q1, q2, q3, q4, q5⟩ := s.own i ds h1
    rw [q1] at h2
    have e : b = a := by injection (Option.some.inj (Option.some.inj h2))
    subst e
    exact ⟨xs, t.kp _ _ (fun z => st _ z q5) q2⟩
  let G3 : Hp := fun a => if (∃ (i : Nat) (ds : List DD), ρ[i]? = some (.own ds) ∧ σ[i]? = some (some (.ref a))) then none else G2 a
  have g3y : ∀ a, (∃ (i : Nat) (ds : List DD), ρ[i]? = some (.own ds) ∧ σ[i]? = some (some (.ref a))) → G3 a = none := fun a h => if_pos h
  have g3n : ∀ a, ¬ (∃ (i : Nat) (ds : List DD), ρ[i]? = some (.own ds) ∧ σ[i]? = some (some (.ref a))) → G3 a = G2 a := fun a h => if_neg h
  have up : Sub G G3 := fun a o e => by
    by_cases h : ∃ (i : Nat) (ds : List DD), ρ[i]? = some (.own ds) ∧ σ[i]? = some (some (.ref a))
    · rw [(s.own_at h).1] at e; cases e
    · rw [g3n a h]; exact t.up a o (s.fullSub a o e)
  refine ⟨G3, ⟨⟨fun a o e => ?_, s.stp.up.trans up, fs.kp, fs.th, fun a h1 h2 => ?_, fs.wd⟩, s.lb.trans up, s.sl.mono up, fun i ds h => ?_, s.sep⟩, fun v d r n => r.nolTo (fun a u e nl => ?_) n⟩
  · by_cases h : ∃ (i : Nat) (ds : List DD), ρ[i]? = some (.own ds) ∧ σ[i]? = some (some (.ref a))
    · rw [g3y a h] at e; cases e
    · rw [g3n a h] at e; exact t.sub a o e
  · by_cases h : ∃ (i : Nat) (ds : List DD), ρ[i]? = some (.own ds) ∧ σ[i]? = some (some (.ref a))
    · exact g3y a h
    · rw [g3n a h]; exact fs.nw a h1 h2
  · obtain ⟨a, xs, q1, q2, q3, q4, q5⟩ := s.own i ds h
    exact ⟨a, xs, q1, t.kp a _ (fun z => st a z q5) q2, q3.mono up, g3y a ⟨i, ds, h, q1⟩, q5⟩
  · by_cases h : ∃ (i : Nat) (ds : List DD), ρ[i]? = some (.own ds) ∧ σ[i]? = some (some (.ref a))
    · obtain ⟨xs, hx⟩ := own2 a h
      have := t.sub a u e
      rw [hx] at this
      exact absurd (Option.some.inj this).symm (nl xs)
    · rw [g3n a h]; exact e
end
section
variable {w : Wd} {X : Cx} {e ei : Expr} {td tn : DE} {pos p1 p2 : Pos}
/-- x = a value without lists, that may look at the own lists -/
def sSetT (i : Nat) (td : DE) : DS := fun E ρ => td (full ρ) fun d => nol d = true ∧ E.nx (ρ.set i (.dat d))
theorem sd_setT {x : Str} {i : Nat} {pos' : Pos} (hN : X.N.Nodup) (he : PD w X e td) (hi : X.N[i]? = some x := by rfl) (hx : Loc X.env.scope x := by first | exact Or.inl rfl | exact Or.inr rfl) (hs : swapsWith e (some (.Name x pos')) pos.line X.env = pure false := by rfl)
    (hf : X.fn x = true ∨ X.env.scope.names.lookup x = some .local := by first | exact .inl rfl | exact .inr rfl | assumption) : PDS w X (.Assign [.Name x pos'] e pos) (sSetT i td) := by
  obtain ⟨te, h1, h2⟩ := he
  refine ⟨_, ps_set hN hi hx h1 hs hf, ?_⟩
  intro G0 H0 B σ ρ H D E k ⟨G, s⟩ hd r
  refine h2 σ (full ρ) _ H _ _ (s.fullStp.okw k) s.fullSl hd fun v d G2 H2 s2 rv p => ?_
  obtain ⟨G3, s3, tr⟩ := s.afterN k s2
  exact r.nx _ _ _ ⟨G3, s3.set (tr v d rv p.1)⟩ p.2
def sPut1 (i : Nat) (tn td : DE) : DS := fun E ρ => match ρ[i]? with
  | some (.own ds) => td (full ρ) fun d => nol d = true ∧ tn ρ fun n => match n with
    | .int n => match ixN ds.length n with
      | some j => E.nx (ρ.set i (.own (ds.set j d)))
      | none => False
    | _ => False
  | _ => False
theorem RpAll.set {K : PySem.W.Frag} {G : Hp} {v : V} {d : DD} (r : Rp K G v d) : ∀ {vs : List V} {ds : List DD} (j : Nat), RpAll K G vs ds → RpAll K G (vs.set j v) (ds.set j d)
  | _, _, _, .nil => .nil
  | _, _, 0, .cons _ b => .cons r b
  | _, _, j + 1, .cons a b => .cons a (RpAll.set r j b)
theorem sd_put {x : Str} {i : Nat} (hx : PE X (.Name x p1) (tVar i)) (hn : PD w X ei tn) (he : PD w X e td)
    (ha : ∀ v, assign (.Subscript (.Name x p1) ei p2) X.env v = (do let ov ← holding [v] (eval (.Name x p1) X.env); let iv ← holding [v, ov] (eval ei X.env); standAt p2; holding [v, ov, iv] (setItem ov iv v); release [v, ov, iv] []) := by intro _; rfl)
    (hs : swapsWithSole [.Subscript (.Name x p1) ei p2] e pos.line X.env = pure false := by rfl) (hw : swappedStores [.Subscript (.Name x p1) ei p2] e X.env = pure none := by rfl) (h1 : (assignEach [.Subscript (.Name x p1) ei p2] X.env).map (·.2) = [assign (.Subscript (.Name x p1) ei p2) X.env] := by rfl) :
    PDS w X (.Assign [.Subscript (.Name x p1) ei p2] e pos) (sPut1 i tn td) := by
  obtain ⟨te, e1, e2⟩ := he
  obtain ⟨tn', n1, n2⟩ := hn
  refine ⟨_, ps_asg e1 (pg_sub hx n1 set_list ha) hs hw h1, ?_⟩
  intro G0 H0 B σ ρ H D E k ⟨G, s⟩ hd r
  unfold sPut1 at hd
  split at hd
  · rename_i ds hi
    refine e2 σ (full ρ) _ H _ _ (s.fullStp.okw k) s.fullSl hd fun v d G2 H2 s2 rv p => ?_
    obtain ⟨G3, s3, tr⟩ := s.afterN k s2
    have rv3 := tr v d rv p.1
    obtain ⟨a, xs, q1, q2, q3, q4, q5⟩ := s3.own i ds hi
    refine ⟨_, q1, ?_⟩
    refine n2 σ ρ G3 H2 _ _ (s3.okw k) s3.sl p.2 fun u n G4 H4 s4 rn pn => ?_
    have s5 := s3.step k s4
    cases rn with
    | int m =>
      simp only at pn
      cases hj : ixN ds.length m with
      | none => rw [hj] at pn; exact pn.elim
      | some j =>
        rw [hj] at pn
        have z : H4 a = some (.lst xs) := s4.kp a _ (fun z => k.here a (w.sf a z) q5) q2
        have hg : G4 a = none := s4.nw a (by rw [q2]; exact fun z => nomatch z) q4
        exact ⟨a, xs, m, j, rfl, rfl, z, by rw [q3.len]; exact hj, r.nx _ _ _ ⟨G4, s5.mut k hi q1 hg q5 ((q3.mono s4.up).set (rv3.mono s4.up) j)⟩ pn⟩
    | _ => exact pn.elim
  · exact hd.elim
end
end Z

set_option Elab.async false
set_option linter.all false
set_option maxRecDepth 100000
set_option maxHeartbeats 4000000
namespace Z
open PySem PySem.Spec PyProof.Rows L2
theorem bt_len : bootBuiltins "len" = some (.builtin "len") := by decide +kernel
theorem bt_abs : bootBuiltins "abs" = some (.builtin "abs") := by decide +kernel
theorem bt_ord : bootBuiltins "ord" = some (.builtin "ord") := by decide +kernel
theorem bt_max : bootBuiltins "max" = some (.builtin "max") := by decide +kernel
theorem bt_min : bootBuiltins "min" = some (.builtin "min") := by decide +kernel
theorem bt_int : bootBuiltins "int" = some (.type "int") := by decide +kernel
theorem bt_str : bootBuiltins "str" = some (.type "str") := by decide +kernel
theorem bt_bool : bootBuiltins "bool" = some (.type "bool") := by decide +kernel
theorem bt_tuple : bootBuiltins "tuple" = some (.type "tuple") := by decide +kernel
theorem bt_list : bootBuiltins "list" = some (.type "list") := by decide +kernel
/-- names of the language that the text doesn't take for its own -/
structure Blt (mg : Str → Option Value) : Prop where
  len : mg "len" = none
  abs : mg "abs" = none
  ord : mg "ord" = none
  max : mg "max" = none
  min : mg "min" = none
  int : mg "int" = none
  str : mg "str" = none
  bool : mg "bool" = none
  tuple : mg "tuple" = none
  list : mg "list" = none
  isinstance : mg "isinstance" = none
  range : mg "range" = none
  any : mg "any" = none
  enumerate : mg "enumerate" = none
/-- a constant of the text -/
inductive Cst (mg : Str → Option Value) (x : Str) : DD → Prop where
  | int {i : Int} {u : Tok} (h : mg x = some (.int i u)) : Cst mg x (.int i)
  | str {z : Str} {u : Tok} (h : mg x = some (.str z u)) : Cst mg x (.str z)
structure Fnc (P : Program) (wd : World) (K : PySem.W.Frag) (mg : Str → Option Value) (base : Heap) (k : Nat) (x : Str) (F : D1) : Prop where
  ex : ∃ f fd ps, FnOk P wd K mg base CX0 k f fd ps (spD K F) ∧ mg x = some (.ref f) ∧ PySem.W.keepIn K (.ref f) = true ∧ Binds K fd ps []
structure Sfn (P : Program) (wd : World) (K : PySem.W.Frag) (mg : Str → Option Value) (base : Heap) (k : Nat) (x : Str) (F : D1) : Prop where
  ex : ∃ f fd ps, FnOk P wd K mg base CX0 k f fd ps (spS K F) ∧ mg x = some (.ref f) ∧ PySem.W.keepIn K (.ref f) = true ∧ Binds K fd ps []
/-- a def of the text by its name -/
structure Dfn (K : PySem.W.Frag) (mg : Str → Option Value) (x : Str) (st : Stmt) (ps : List Str) : Prop where
  ex : ∃ f fd, Fun K x x st f fd ∧ mg x = some (.ref f) ∧ Binds K fd ps []
section
variable {w : Wd} {X : Cx} {e : Expr} {es : List Expr} {pos p py : Pos} {x y : Str} {kf j : Nat} {F : D1} {t : DA}
theorem pd_gI {i : Int} (h : Cst X.mg x (.int i)) (hg : Gl X x := by rfl) (hd : (x == ("__debug__" : Str)) = false := by decide) : PD w X (.Name x pos) (dC (.int i)) := by
  cases h with
  | int h => exact pd_gi h hg hd
theorem pd_gS {i : Str} (h : Cst X.mg x (.str i)) (hg : Gl X x := by rfl) (hd : (x == ("__debug__" : Str)) = false := by decide) : PD w X (.Name x pos) (dC (.str i)) := by
  cases h with
  | str h => exact pd_gs h hg hd
theorem pd_f (C : Fnc X.prog X.w X.K X.mg X.base kf x F) (hr : Room j X.A) (ha : PDA w X (e :: es) t) (hj : kf ≤ j := by decide) (hg : Gl X x := by rfl) (hdb : (x == ("__debug__" : Str)) = false := by decide)
    (he : starEach (e :: es) X.env = (false, eval e X.env) :: starEach es X.env := by rfl) (hpl : (backTo pos (starEach es X.env)).any (·.1) = false := by rfl) : PD w X (.Call (.Name x p) (e :: es) [] pos) (dCall F t) := by
  obtain ⟨f, fd, ps, h1, h2, h3, h4⟩ := C
  exact pd_fn h1 (hr.mono hj) h2 h3 h4 ha hg hdb he hpl
theorem pd_f0 (C : Fnc X.prog X.w X.K X.mg X.base kf x F) (hr : Room j X.A) (hj : kf ≤ j := by decide) (hg : Gl X x := by rfl) (hdb : (x == ("__debug__" : Str)) = false := by decide) : PD w X (.Call (.Name x p) [] [] pos) (fun _ P => F [] P) := by
  obtain ⟨f, fd, ps, h1, h2, h3, h4⟩ := C
  exact pd_fn0 h1 (hr.mono hj) h2 h3 h4 hg hdb
theorem pd_s {a l : Addr} {ns : List Int} {i : Nat} (C : Sfn X.prog X.w X.K X.mg X.base kf x F) (hr : Room j X.A) (hv : PE X (.Name y py) (tVar i)) (ha : PDA (wst a l ns) X es t) (hj : kf ≤ j := by decide) (hg : Gl X x := by rfl) (hdb : (x == ("__debug__" : Str)) = false := by decide)
    (he : starEach (.Name y py :: es) X.env = (false, eval (.Name y py) X.env) :: starEach es X.env := by rfl) (hpl : (backTo pos (starEach es X.env)).any (·.1) = false := by rfl) : PD (wst a l ns) X (.Call (.Name x p) (.Name y py :: es) [] pos) (dSt a i F t) := by
  obtain ⟨f, fd, ps, h1, h2, h3, h4⟩ := C
  exact pd_sfn h1 (hr.mono hj) h2 h3 h4 hv ha hg hdb he hpl
end
section
variable {P : Program} {wd : World} {K : PySem.W.Frag} {mg : Str → Option Value} {base : Heap} {x : Str} {st : Stmt} {N ps : List Str} {k : Nat} {F : D1}
theorem fnc_mk {sd : DS} (D : Dfn K mg x st ps) (S : FnScope N ps (defScope st))
    (body : ∀ (f : Addr) (cdv : Value) (A : Around) (outer : List Env) (s : Shared) (H : Hp) (E : XK), Room k (A.deeper (envOfC x (defScope st) s.heap.objs.size f cdv)) → PDSs Wd.zero (cxOf CX0 P wd K mg base N x (defScope st) f cdv A outer s H E).nox (defBody st) sd)
    (hF : ∀ ds Q, F ds Q → ds.length = ps.length ∧ sd (endsD Q) (startD N ds)) : Fnc P wd K mg base (k + 1) x F := by
  obtain ⟨f, fd, Fn, h2, h3⟩ := D
  exact ⟨f, fd, ps, fn_pure Fn S (body f) hF, h2, Fn.kp, h3⟩
theorem sfn_mk {sd : Addr → DS} (D : Dfn K mg x st ps) (S : FnScope N ps (defScope st)) (hn : 1 ≤ N.length)
    (body : ∀ (f a l : Addr) (ns : List Int) (cdv : Value) (A : Around) (outer : List Env) (s : Shared) (H : Hp) (E : XK), Room k (A.deeper (envOfC x (defScope st) s.heap.objs.size f cdv)) → PDSs (wst a l ns) (cxOf CX0 P wd K mg base N x (defScope st) f cdv A outer s H E).nox (defBody st) (sd a))
    (hF : ∀ a ds Q, F ds Q → ds.length + 1 = ps.length ∧ sd a (endsD Q) (startS a N ds)) : Sfn P wd K mg base (k + 1) x F := by
  obtain ⟨f, fd, Fn, h2, h3⟩ := D
  exact ⟨f, fd, ps, fn_state Fn S hn (body f) hF, h2, Fn.kp, h3⟩
end
end Z

set_option Elab.async false
set_option linter.all false
set_option maxRecDepth 100000
set_option maxHeartbeats 4000000
/-! the mathematics of keys: what each def of the text is worth, over plain data -/
namespace Z
open PySem PySem.Spec PyProof.Rows L2
def CH : Str := Str.ofString " !\"#$&'()*+,-./0123456789:;<=>?@ABCDEFGHIJKLMNOPQRSTUVWXYZ[\\]^_`abcdefghijklmnopqrstuvwxyz{|}~"
def okC (c : Nat) : Bool := decide (32 ≤ c ∧ c ≤ 126 ∧ c ≠ 37)
def okV : DD → Bool
  | .int n => decide (-1000000000 ≤ n ∧ n ≤ 1000000000)
  | .str z => decide (z.cps.size ≤ 6) && z.cps.toList.all okC
  | _ => false
def be5 (m : Int) : List Int := [m / 2 ^ 32 % 256, m / 2 ^ 24 % 256, m / 2 ^ 16 % 256, m / 2 ^ 8 % 256, m % 256]
def bytesV : DD → List Int
  | .int n => 1 :: be5 (n + 549755813888)
  | .str z => 2 :: (z.cps.toList.map fun (c : Nat) => (c : Int)) ++ [0]
  | _ => []
def keyI (vs : List DD) : List Int := vs.flatMap bytesV
def iD (ns : List Int) : List DD := ns.map PyData.int
def tD (ns : List Int) : DD := .tuple (iD ns)
def isB (b : Int) : Bool := decide (0 ≤ b ∧ b ≤ 255)
def F_integer_bytes : D1 := fun ds P => match ds with
  | [.int n] => okV (.int n) = true ∧ P (.list (iD (bytesV (.int n))))
  | _ => False
def F_text_bytes : D1 := fun ds P => match ds with
  | [.str z] => okV (.str z) = true ∧ P (.list (iD (bytesV (.str z))))
  | _ => False
def F_key_of : D1 := fun ds P => match ds with
  | [.tuple vs] => (vs.length ≤ 1000 ∧ vs.all okV = true) ∧ P (tD (keyI vs))
  | _ => False
def chD (c : Int) : DD := if 32 ≤ c ∧ c ≤ 126 ∧ c ≠ 37 then .str ⟨#[c.toNat]⟩ else .none
def F_character_of : D1 := fun ds P => match ds with
  | [.int c] => P (chD c)
  | _ => False
def textD (cs : List Int) : DD := if cs.length ≤ 6 ∧ cs.all (fun c => decide (32 ≤ c ∧ c ≤ 126 ∧ c ≠ 37)) = true then .str ⟨(cs.map Int.toNat).toArray⟩ else .none
def F_text_of : D1 := fun ds P => match ds with
  | [.tuple es] => ∃ cs, es = iD cs ∧ cs.length ≤ 100000 ∧ P (textD cs)
  | _ => False
def val5 (ds : List Int) : Int := ds.foldl (fun a d => a * 256 + d) 0
def intB (ds : List Int) : DD := if ds.length < 5 then .none else if -1000000000 ≤ val5 ds - 549755813888 ∧ val5 ds - 549755813888 ≤ 1000000000 then .int (val5 ds - 549755813888) else .none
def F_integer_of : D1 := fun ds P => match ds with
  | [.tuple es] => ∃ cs, es = iD cs ∧ cs.length ≤ 5 ∧ cs.all isB = true ∧ P (intB cs)
  | _ => False
/-- the first value of these bytes (none: there is none), and how many bytes it takes -/
def first (r : List Int) : DD × Nat := match r with
  | 1 :: t => (intB (t.take 5), 6)
  | 2 :: t => match t.findIdx? (· == 0) with
    | some j => (textD (t.take j), j + 2)
    | none => (.none, 0)
  | _ => (.none, 0)
def F_value_at : D1 := fun ds P => match ds with
  | [.tuple es, .int i] => ∃ (cs : List Int) (j : Nat), es = iD cs ∧ i = (j : Nat) ∧ cs.length ≤ 100000 ∧ cs.all isB = true ∧ j < cs.length ∧ P (.tuple [(first (cs.drop j)).1, .int ((j + (first (cs.drop j)).2 : Nat) : Int)])
  | _ => False
/-- all values of these bytes, or none -/
def decode : Nat → List Int → Option (List DD)
  | _, [] => some []
  | 0, _ :: _ => none
  | n + 1, r@(_ :: _) => match first r with
    | (.none, _) => none
    | (v, k) => (decode n (r.drop k)).map (v :: ·)
def decD (cs : List Int) : DD := match decode cs.length cs with
  | some vs => .tuple vs
  | none => .none
def F_values_of : D1 := fun ds P => match ds with
  | [.tuple es] => ∃ cs, es = iD cs ∧ cs.length ≤ 100000 ∧ cs.all isB = true ∧ P (decD cs)
  | _ => False
def F_prefix_range : D1 := fun ds P => match ds with
  | [.tuple es] => ∃ cs, es = iD cs ∧ cs.length ≤ 100000 ∧ P (.tuple [tD cs, tD (cs ++ [3])])
  | _ => False
def isIn (k lo hi : List Int) : Bool := !HT.lexLt k lo && HT.lexLt k hi
def F_is_in : D1 := fun ds P => match ds with
  | [.tuple es, .tuple [.tuple ls, .tuple hs]] => ∃ k lo hi, es = iD k ∧ ls = iD lo ∧ hs = iD hi ∧ P (.bool (isIn k lo hi))
  | _ => False
def mx (a b : List Int) : List Int := if HT.lexLt a b = true then b else a
def mn (a b : List Int) : List Int := if HT.lexLt b a = true then b else a
def F_meet : D1 := fun ds P => match ds with
  | [.tuple [.tuple as, .tuple bs], .tuple [.tuple cs, .tuple es]] => ∃ a b c e, as = iD a ∧ bs = iD b ∧ cs = iD c ∧ es = iD e ∧ P (.bool (HT.lexLt (mx a c) (mn b e)))
  | _ => False
def kind : DD → Int
  | .str _ => 2
  | _ => 1
def ordV (v : DD) : DD := .tuple [.int (kind v), v]
def F_row_order : D1 := fun ds P => match ds with
  | [.tuple vs] => (vs.length ≤ 1000 ∧ vs.all okV = true) ∧ P (.tuple (vs.map ordV))
  | _ => False
def F__law_characters : D1 := fun ds P => ds = [] ∧ P (.str CH)
def F__law_bytes : D1 := F_key_of
def F__law_read : D1 := F_values_of
/-- the order of values, of rows of values: less, equal, greater -/
def cmpV (v u : DD) : Int := if kind v = kind u then (if v.eqv u = true then 0 else if ZO.ord false v u = some true then -1 else 1) else if kind v < kind u then -1 else 1
def cmpR : List DD → List DD → Int
  | [], [] => 0
  | [], _ :: _ => -1
  | _ :: _, [] => 1
  | v :: vs, u :: us => if cmpV v u = 0 then cmpR vs us else cmpV v u
def F__law_order : D1 := fun ds P => match ds with
  | [.tuple vs, .tuple us] => (vs.length ≤ 1000 ∧ us.length ≤ 1000 ∧ vs.all okV = true ∧ us.all okV = true) ∧ P (.int (cmpR vs us))
  | _ => False
def F__law_agrees : D1 := fun ds P => match ds with
  | [.tuple l, .tuple r, .int o] => ∃ p q, (PyData.tuple l).depth ≤ 3 ∧ (PyData.tuple r).depth ≤ 3 ∧ ZO.ord false (.tuple l) (.tuple r) = some p ∧ ZO.ord true (.tuple l) (.tuple r) = some q ∧ p = decide (o < 0) ∧ PyData.eqv (.tuple l) (.tuple r) = decide (o = 0) ∧ q = decide (0 < o) ∧ P (.bool true)
  | _ => False
/-- data that a law compares place by place -/
def okS : Nat → DD → Bool
  | _, .none => true
  | _, .bool _ => true
  | _, .int _ => true
  | _, .str _ => true
  | n + 1, .tuple ds => decide (ds.length ≤ 100000) && ds.all (okS n)
  | n + 1, .list ds => decide (ds.length ≤ 100000) && ds.all (okS n)
  | _, _ => false
def F__law_same : D1 := fun ds P => match ds with
  | [d, e] => d = e ∧ okS 4 e = true ∧ P (.bool true)
  | _ => False
def keysOk (l : List (List Int)) : Prop := l.length ≤ 1000 ∧ ∀ k ∈ l, k.length ≤ 10000
def F__law_ranges : D1 := fun ds P => match ds with
  | [.list ks, .list ss] => ∃ k l m, ks = (k :: l).map tD ∧ ss = m.map tD ∧ keysOk (k :: l) ∧ keysOk m ∧ P (.bool true)
  | _ => False
def F__law_next : D1 := fun ds P => match ds with
  | [.int n] => (0 < n ∧ n < 2 ^ 64) ∧ ∀ r, 0 ≤ r → r < n → P (.int r)
  | _ => False
def F__law_value : D1 := fun ds P => ds = [] ∧ ∀ v, okV v = true → P v
end Z

set_option Elab.async false
set_option linter.all false
set_option maxRecDepth 100000
set_option maxHeartbeats 1000000
/-! how a meaning is reckoned -/
namespace Z
open PySem PySem.Spec PyProof.Rows L2
theorem mv {Q : DD → Prop} {a b : DD} (h : Q a) (e : a = b) : Q b := e ▸ h
theorem e_lt (a b : Int) (P : DD → Prop) : gB ltD (.int a) (.int b) P = P (.bool (decide (a < b))) := rfl
theorem e_gt (a b : Int) (P : DD → Prop) : gB gtD (.int a) (.int b) P = P (.bool (decide (b < a))) := rfl
theorem e_eq (a b : Int) (P : DD → Prop) : gB eqD (.int a) (.int b) P = P (.bool (a == b)) := rfl
theorem e_ne (a b : Int) (P : DD → Prop) : gB neD (.int a) (.int b) P = P (.bool (!(a == b))) := rfl
theorem e_le (a b : Int) (P : DD → Prop) : gLe (.int a) (.int b) P = P (.bool (decide (a ≤ b))) := rfl
theorem e_ge (a b : Int) (P : DD → Prop) : gGe (.int a) (.int b) P = P (.bool (decide (b ≤ a))) := rfl
theorem e_add (a b : Int) (P : DD → Prop) : gAdd (.int a) (.int b) P = P (.int (a + b)) := rfl
theorem e_addL (a b : List DD) (P : DD → Prop) : gAdd (.list a) (.list b) P = (a.length + b.length ≤ 1000000 ∧ P (.list (a ++ b))) := rfl
theorem e_addT (a b : List DD) (P : DD → Prop) : gAdd (.tuple a) (.tuple b) P = (a.length + b.length ≤ 1000000 ∧ P (.tuple (a ++ b))) := rfl
theorem e_I0 (f : Int → Int → Int) (a b : Int) (P : DD → Prop) : gI0 f (.int a) (.int b) P = P (.int (f a b)) := rfl
theorem e_I (C : Int → Int → Prop) (f : Int → Int → Int) (a b : Int) (P : DD → Prop) : gI C f (.int a) (.int b) P = (C a b ∧ P (.int (f a b))) := rfl
theorem e_isN (P : DD → Prop) : gIsN .none .none P = P (.bool true) := rfl
theorem e_isI (i : Int) (P : DD → Prop) : gIsN (.int i) .none P = P (.bool false) := rfl
theorem e_isS (i : Str) (P : DD → Prop) : gIsN (.str i) .none P = P (.bool false) := rfl
theorem e_isB (i : Bool) (P : DD → Prop) : gIsN (.bool i) .none P = P (.bool false) := rfl
theorem e_isT (i : List DD) (P : DD → Prop) : gIsN (.tuple i) .none P = P (.bool false) := rfl
theorem e_isL (i : List DD) (P : DD → Prop) : gIsN (.list i) .none P = P (.bool false) := rfl
theorem e_ixL (ds : List DD) (i : Int) (P : DD → Prop) : gIx (.list ds) (.int i) P = match atI ds i with | some d => P d | none => False := rfl
theorem e_ixT (ds : List DD) (i : Int) (P : DD → Prop) : gIx (.tuple ds) (.int i) P = match atI ds i with | some d => P d | none => False := rfl
theorem e_ixS (z : Str) (i : Int) (P : DD → Prop) : gIx (.str z) (.int i) P = (z.length ≤ 1000000 ∧ match atI z.cps.toList i with | some c => P (.str ⟨#[c]⟩) | none => False) := rfl
theorem e_n0 (d : DD) (r : En) (P : DD → Prop) : dN 0 (.dat d :: r) P = P d := rfl
theorem e_nS (n : Nat) (e : Ent) (r : En) (P : DD → Prop) : dN (n + 1) (e :: r) P = dN n r P := rfl
theorem e_n1 (e : Ent) (r : En) (P : DD → Prop) : dN 1 (e :: r) P = dN 0 r P := rfl
theorem e_n2 (e : Ent) (r : En) (P : DD → Prop) : dN 2 (e :: r) P = dN 1 r P := rfl
theorem e_n3 (e : Ent) (r : En) (P : DD → Prop) : dN 3 (e :: r) P = dN 2 r P := rfl
theorem e_n4 (e : Ent) (r : En) (P : DD → Prop) : dN 4 (e :: r) P = dN 3 r P := rfl
theorem e_n5 (e : Ent) (r : En) (P : DD → Prop) : dN 5 (e :: r) P = dN 4 r P := rfl
theorem e_n6 (e : Ent) (r : En) (P : DD → Prop) : dN 6 (e :: r) P = dN 5 r P := rfl
theorem e_n7 (e : Ent) (r : En) (P : DD → Prop) : dN 7 (e :: r) P = dN 6 r P := rfl
theorem e_n8 (e : Ent) (r : En) (P : DD → Prop) : dN 8 (e :: r) P = dN 7 r P := rfl
theorem e_n9 (e : Ent) (r : En) (P : DD → Prop) : dN 9 (e :: r) P = dN 8 r P := rfl
theorem f_nil : full [] = [] := rfl
theorem f_dat (d : DD) (r : En) : full (.dat d :: r) = .dat d :: full r := rfl
theorem f_un (r : En) : full (.un :: r) = .un :: full r := rfl
theorem f_adr (a : Addr) (r : En) : full (.adr a :: r) = .adr a :: full r := rfl
theorem f_own (ds : List DD) (r : En) : full (.own ds :: r) = .dat (.list ds) :: full r := rfl
theorem nx_ends (P : DD → Prop) (ρ : En) : (endsD P).nx ρ = P .none := rfl
theorem rt_ends (P : DD → Prop) : (endsD P).rt = P := rfl
/-! comprehensions -/
theorem comp_map {ρ : En} {j : Nat} {td : DE} (f : DD → DD) : ∀ {items acc : List DD} {P : DD → Prop}, (∀ x ∈ items, ∀ Q : DD → Prop, Q (f x) → td (ρ.set j (.dat x)) Q) → acc.length + items.length ≤ 1000000 → P (.list (acc ++ items.map f)) → comp ρ j dYes td items acc P
  | [], acc, P, _, _, h => by
    show P (.list acc)
    rw [List.map_nil, List.append_nil] at h; exact h
  | x :: xs, acc, P, hd, hl, h => by
    show td (ρ.set j (.dat x)) fun d => acc.length < 1000000 ∧ comp ρ j dYes td xs (acc ++ [d]) P
    rw [List.length_cons] at hl
    refine hd x List.mem_cons_self _ ⟨by omega, comp_map f (fun y hy => hd y (List.mem_cons_of_mem _ hy)) (by rw [List.length_append, List.length_singleton]; omega) ?_⟩
    rw [List.append_assoc]; exact h
theorem comp_if {ρ : En} {j : Nat} {tt : DT} {td : DE} (p : DD → Bool) (f : DD → DD) : ∀ {items acc : List DD} {P : DD → Prop}, (∀ x ∈ items, ∀ Q : Bool → Prop, Q (p x) → tt (ρ.set j (.dat x)) Q) → (∀ x ∈ items, p x = true → ∀ Q : DD → Prop, Q (f x) → td (ρ.set j (.dat x)) Q) → acc.length + items.length ≤ 1000000 →
    P (.list (acc ++ (items.filter p).map f)) → comp ρ j tt td items acc P
  | [], acc, P, _, _, _, h => by
    show P (.list acc)
    rw [List.filter_nil, List.map_nil, List.append_nil] at h; exact h
  | x :: xs, acc, P, ht, hd, hl, h => by
    show tt (ρ.set j (.dat x)) fun b => if b = true then td (ρ.set j (.dat x)) fun d => acc.length < 1000000 ∧ comp ρ j tt td xs (acc ++ [d]) P else comp ρ j tt td xs acc P
    rw [List.length_cons] at hl
    refine ht x List.mem_cons_self _ ?_
    cases hp : p x with
    | true =>
      rw [if_pos rfl]
      rw [List.filter_cons, if_pos hp] at h
      refine hd x List.mem_cons_self hp _ ⟨by omega, comp_if p f (fun y hy => ht y (List.mem_cons_of_mem _ hy)) (fun y hy => hd y (List.mem_cons_of_mem _ hy)) (by rw [List.length_append, List.length_singleton]; omega) ?_⟩
      rw [List.append_assoc]; exact h
    | false =>
      rw [if_neg Bool.false_ne_true]
      rw [List.filter_cons, if_neg (by rw [hp]; exact Bool.false_ne_true)] at h
      exact comp_if p f (fun y hy => ht y (List.mem_cons_of_mem _ hy)) (fun y hy => hd y (List.mem_cons_of_mem _ hy)) (by omega) h
theorem comp_all {ρ : En} {j : Nat} {td : DE} (p : DD → Prop) : ∀ {items acc : List DD} {P : DD → Prop}, (∀ x ∈ items, ∀ Q : DD → Prop, (∀ d, p d → Q d) → td (ρ.set j (.dat x)) Q) → acc.length + items.length ≤ 1000000 →
    (∀ ds : List DD, ds.length = items.length → (∀ d ∈ ds, p d) → P (.list (acc ++ ds))) → comp ρ j dYes td items acc P
  | [], acc, P, _, _, h => by
    have z := h [] rfl (fun _ hd => by cases hd)
    rw [List.append_nil] at z; exact z
  | x :: xs, acc, P, hd, hl, h => by
    show td (ρ.set j (.dat x)) fun d => acc.length < 1000000 ∧ comp ρ j dYes td xs (acc ++ [d]) P
    rw [List.length_cons] at hl
    refine hd x List.mem_cons_self _ fun d pd => ⟨by omega, comp_all p (fun y hy => hd y (List.mem_cons_of_mem _ hy)) (by rw [List.length_append, List.length_singleton]; omega) fun ds h1 h2 => ?_⟩
    rw [List.append_assoc]
    refine h (d :: ds) (by rw [List.length_cons, List.length_cons, h1]) fun e he => ?_
    rcases List.mem_cons.mp he with rfl | he
    · exact pd
    · exact h2 e he
end Z

set_option Elab.async false
set_option linter.all false
set_option maxRecDepth 100000
set_option maxHeartbeats 4000000
/-! errors that leave a def, and that a def catches -/
namespace Z
open PySem PySem.Spec PyProof.Rows L2
theorem SPo.wish {w : Wd} {W : WX} {K : PySem.W.Frag} {G0 H0 B H : Hp} {σ : L2.St} {ρ : En} : SPo w K G0 H0 B ρ σ H → SPo (w.wish W) K G0 H0 B ρ σ H := fun ⟨G, s⟩ => ⟨G, s.stp.wish, s.lb, s.sl, s.own, s.sep⟩
theorem SPo.unwish {w : Wd} {W : WX} {K : PySem.W.Frag} {G0 H0 B H : Hp} {σ : L2.St} {ρ : En} : SPo (w.wish W) K G0 H0 B ρ σ H → SPo w K G0 H0 B ρ σ H := fun ⟨G, s⟩ => ⟨G, s.stp.unwish, s.lb, s.sl, s.own, s.sep⟩
/-- an expression that may raise: its value, or the error's class -/
abbrev DX := En → (DD → Prop) → (Str → Prop) → Prop
abbrev D1X := List DD → (DD → Prop) → (Str → Prop) → Prop
def REX (w : Wd) (K : PySem.W.Frag) (te : TE) (td : DX) : Prop := ∀ σ ρ G H (P : DD → Prop) (PX : Str → Prop) (Q : VK), Okw w G H → SlOk K G σ ρ → td ρ P PX →
  (∀ v d G2 H2, Stp w G H G2 H2 → Rp K G2 v d → P d → Q v H2) → (∀ x G2 H2, Stp w G H G2 H2 → PX x → w.ex (.ref (He.ga K x)) none σ H2) → te σ H Q
structure PDX (w : Wd) (X : Cx) (e : Expr) (td : DX) : Prop where
  ex : ∃ te, PE X e te ∧ REX w X.K te td
/-- the contract of a def that may raise -/
def spX (K : PySem.W.Frag) (F : D1X) : Sp := fun vs H Q E => ∃ (G : Hp) (ds : List DD) (P : DD → Prop) (PX : Str → Prop), Sub G H ∧ RpAll K G vs ds ∧ F ds P PX ∧ (∀ v d G2 H2, Stp Wd.zero G H G2 H2 → Rp K G2 v d → P d → Q v H2) ∧
  ∀ x G2 H2, Stp Wd.zero G H G2 H2 → PX x → E (.ref (He.ga K x)) none H2
structure FncX (P : Program) (wd : World) (K : PySem.W.Frag) (mg : Str → Option Value) (base : Heap) (k : Nat) (x : Str) (F : D1X) : Prop where
  ex : ∃ f fd ps, FnOk P wd K mg base (L2.CX P wd) k f fd ps (spX K F) ∧ mg x = some (.ref f) ∧ PySem.W.keepIn K (.ref f) = true ∧ Binds K fd ps []
section
variable {w : Wd} {X : Cx} {e tg : Expr} {es : List Expr} {pos p py : Pos} {x y : Str} {kf j : Nat} {F : D1X} {t : DA}
def dCallX (F : D1X) (t : DA) : DX := fun ρ P PX => t ρ fun ds => F ds P PX
theorem pdx_f (C : FncX X.prog X.w X.K X.mg X.base kf x F) (tk : Takes X w.ex) (hr : Room j X.A) (ha : PDA w X (e :: es) t) (hj : kf ≤ j := by decide) (hg : Gl X x := by rfl) (hdb : (x == ("__debug__" : Str)) = false := by decide)
    (he : starEach (e :: es) X.env = (false, eval e X.env) :: starEach es X.env := by rfl) (hpl : (backTo pos (starEach es X.env)).any (·.1) = false := by rfl) : PDX w X (.Call (.Name x p) (e :: es) [] pos) (dCallX F t) := by
  obtain ⟨f, fd, ps, h1, h2, h3, h4⟩ := C
  obtain ⟨t', a1, a2⟩ := ha
  refine ⟨_, pe_callS h1 (hr.mono hj) hg h2 h3 h4 (fun σ => passAt tk σ) a1 hdb he hpl, fun σ ρ G H P PX Q k s h q qx => ?_⟩
  refine a2 σ ρ G H _ _ k s h fun vs ds G1 H1 s1 r1 _ p1 => ?_
  have k1 := s1.okw k
  exact ⟨G1, ds, P, PX, k1.sub, r1, p1, fun v d G2 H2 s2 => q v d G2 H2 (s1.trans (s2.lift k1)), fun y G2 H2 s2 => qx y G2 H2 (s1.trans (s2.lift k1))⟩
/-- .. where it does not raise -/
def noX (F : D1X) : D1 := fun ds P => F ds P fun _ => False
theorem pd_fx (C : FncX X.prog X.w X.K X.mg X.base kf x F) (hr : Room j X.A) (ha : PDA w X (e :: es) t) (hj : kf ≤ j := by decide) (hg : Gl X x := by rfl) (hdb : (x == ("__debug__" : Str)) = false := by decide)
    (he : starEach (e :: es) X.env = (false, eval e X.env) :: starEach es X.env := by rfl) (hpl : (backTo pos (starEach es X.env)).any (·.1) = false := by rfl) : PD w X (.Call (.Name x p) (e :: es) [] pos) (dCall (noX F) t) := by
  obtain ⟨f, fd, ps, h1, h2, h3, h4⟩ := C
  obtain ⟨t', a1, a2⟩ := ha
  refine ⟨_, pe_call h1 (hr.mono hj) hg h2 h3 h4 .nil (passL (X := X)) a1 hdb he hpl, fun σ ρ G H P Q k s h q => ?_⟩
  refine a2 σ ρ G H _ _ k s h fun vs ds G1 H1 s1 r1 _ p1 => ?_
  have k1 := s1.okw k
  show spX X.K F (vs ++ []) H1 Q E0
  rw [List.append_nil]
  exact ⟨G1, ds, P, _, k1.sub, r1, p1, fun v d G2 H2 s2 => q v d G2 H2 (s1.trans (s2.lift k1)), fun y G2 H2 s2 z => z.elim⟩
/-! ### statements -/
def sRaise (x : Str) : DS := fun E ρ => E.ex x ρ
/-- an own class of errors without an __init__ -/
structure ErC (K : PySem.W.Frag) (mg : Str → Option Value) (x : Str) : Prop where
  g : mg x = some (.ref (He.ga K x))
  c : (He.Fa.exc x).ok K = true
theorem sd_raise {m : Str} {jj : Nat} {p2 p3 : Pos} (C : ErC X.K X.mg x) (tk : Takes X w.ex) (hc : X.calm = true := by rfl) (hg : Gl X x := by rfl) (hdb : (x == ("__debug__" : Str)) = false := by decide) : PDS w X (.Raise (some (.Call (.Name x p) [.Constant (.str m) jj p2] [] p3)) none pos) (sRaise x) := by
  obtain ⟨h1, h2, h3, h4⟩ := He.exc_ok C.c
  exact ⟨_, ps_raise hc tk (pmk_own PySem.F.excBase_ValueError h1 C.g h2 (raises_own h3 h4) hg hdb), fun G0 H0 B σ ρ H D E k s hd r => r.ex x σ ρ H s hd⟩
/-- target = a call that may raise -/
def sAsgX (td : DX) (gd : DG) : DS := fun E ρ => td ρ (fun d => gd d ρ E.nx) fun x => E.ex x ρ
theorem sd_asgX {td : DX} {gd : DG} (he : PDX w X e td) (hg : PDG w X tg gd) (hs : swapsWithSole [tg] e pos.line X.env = pure false := by rfl) (hw : swappedStores [tg] e X.env = pure none := by rfl)
    (h1 : (assignEach [tg] X.env).map (·.2) = [assign tg X.env] := by rfl) : PDS w X (.Assign [tg] e pos) (sAsgX td gd) := by
  obtain ⟨te, e1, e2⟩ := he
  obtain ⟨g, g1, g2⟩ := hg
  refine ⟨_, ps_asg e1 g1 hs hw h1, ?_⟩
  intro G0 H0 B σ ρ H D E k ⟨G, s⟩ hd r
  refine e2 σ ρ G H _ _ _ (s.okw k) s.sl hd (fun v d G2 H2 s2 rv p => ?_) fun y G2 H2 s2 p => r.ex y σ ρ H2 ⟨G2, s.step k s2⟩ p
  exact g2 G0 H0 B σ ρ H2 G2 v d _ _ (s.step k s2) rv p r.nx
def sSetX (i : Nat) (td : DX) : DS := fun E ρ => td ρ (fun d => E.nx (ρ.set i (.dat d))) fun x => E.ex x ρ
theorem sd_setX {td : DX} {i : Nat} {pos' : Pos} (hN : X.N.Nodup) (he : PDX w X e td) (hi : X.N[i]? = some x := by rfl) (hx : Loc X.env.scope x := by first | exact Or.inl rfl | exact Or.inr rfl) (hs : swapsWith e (some (.Name x pos')) pos.line X.env = pure false := by rfl)
    (hf : X.fn x = true ∨ X.env.scope.names.lookup x = some .local := by first | exact .inl rfl | exact .inr rfl | assumption) : PDS w X (.Assign [.Name x pos'] e pos) (sSetX i td) := by
  obtain ⟨te, e1, e2⟩ := he
  refine ⟨_, ps_set hN hi hx e1 hs hf, ?_⟩
  intro G0 H0 B σ ρ H D E k ⟨G, s⟩ hd r
  refine e2 σ ρ G H _ _ _ (s.okw k) s.sl hd (fun v d G2 H2 s2 rv p => ?_) fun y G2 H2 s2 p => r.ex y σ ρ H2 ⟨G2, s.step k s2⟩ p
  exact r.nx _ _ _ ⟨G2, (s.step k s2).set rv⟩ p
def sRetX (td : DX) : DS := fun E ρ => td (full ρ) E.rt fun x => E.ex x ρ
theorem sd_retX {td : DX} (he : PDX w X e td) : PDS w X (.Return (some e) pos) (sRetX td) := by
  obtain ⟨te, e1, e2⟩ := he
  refine ⟨_, ps_ret e1, ?_⟩
  intro G0 H0 B σ ρ H D E k ⟨G, s⟩ hd r
  exact e2 σ (full ρ) _ H _ _ _ (s.fullStp.okw k) s.fullSl hd (fun v d G2 H2 s2 rv p => r.rt v d G2 H2 (s.fullStp.trans s2) rv p) fun y G2 H2 s2 p => r.ex y σ ρ H2 ⟨G, s.after k s2⟩ p
end
/-! ### slots: an address, nothing -/
section
variable {w : Wd} {K : PySem.W.Frag} {G0 H0 B G H : Hp} {σ : L2.St} {ρ : En}
theorem SOk.setAdr (s : SOk w K G0 H0 B σ ρ H G) {i : Nat} {a : Addr} : SOk w K G0 H0 B (σ.set i (some (.ref a))) (ρ.set i (.adr a)) H G := by
  refine ⟨s.stp, s.lb, ⟨by rw [List.length_set, List.length_set]; exact s.sl.len, fun j e h => ?_, fun j b h => ?_⟩, fun j ds h => ?_, fun j m ds es b h1 h2 h3 h4 => ?_⟩
  · rcases set_some h with ⟨_, z, _⟩ | ⟨ne, z⟩
    · cases z
    · rw [List.getElem?_set_ne ne]; exact s.sl.dat j e z
  · rcases set_some h with ⟨rfl, z, hl⟩ | ⟨ne, z⟩
    · have e : a = b := by injection z
      subst e
      rw [List.getElem?_set_self (by rw [s.sl.len]; exact hl)]
    · rw [List.getElem?_set_ne ne]; exact s.sl.adr j b z
  · rcases set_some h with ⟨_, z, _⟩ | ⟨ne, z⟩
    · cases z
    · obtain ⟨b, xs, q1, q2⟩ := s.own j ds z
      exact ⟨b, xs, by rw [List.getElem?_set_ne ne]; exact q1, q2⟩
  · rcases set_some h1 with ⟨_, z, _⟩ | ⟨n1, z1⟩
    · cases z
    · rcases set_some h2 with ⟨_, z, _⟩ | ⟨n2, z2⟩
      · cases z
      · rw [List.getElem?_set_ne n1] at h3
        rw [List.getElem?_set_ne n2] at h4
        exact s.sep j m ds es b z1 z2 h3 h4
theorem SOk.setUn (s : SOk w K G0 H0 B σ ρ H G) {i : Nat} {v : Option V} : SOk w K G0 H0 B (σ.set i v) (ρ.set i .un) H G := by
  refine ⟨s.stp, s.lb, ⟨by rw [List.length_set, List.length_set]; exact s.sl.len, fun j e h => ?_, fun j b h => ?_⟩, fun j ds h => ?_, fun j m ds es b h1 h2 h3 h4 => ?_⟩
  · rcases set_some h with ⟨_, z, _⟩ | ⟨ne, z⟩
    · cases z
    · rw [List.getElem?_set_ne ne]; exact s.sl.dat j e z
  · rcases set_some h with ⟨_, z, _⟩ | ⟨ne, z⟩
    · cases z
    · rw [List.getElem?_set_ne ne]; exact s.sl.adr j b z
  · rcases set_some h with ⟨_, z, _⟩ | ⟨ne, z⟩
    · cases z
    · obtain ⟨b, xs, q1, q2⟩ := s.own j ds z
      exact ⟨b, xs, by rw [List.getElem?_set_ne ne]; exact q1, q2⟩
  · rcases set_some h1 with ⟨_, z, _⟩ | ⟨n1, z1⟩
    · cases z
    · rcases set_some h2 with ⟨_, z, _⟩ | ⟨n2, z2⟩
      · cases z
      · rw [List.getElem?_set_ne n1] at h3
        rw [List.getElem?_set_ne n2] at h4
        exact s.sep j m ds es b z1 z2 h3 h4
end
/-! ### try: .. except C as n: .. -/
/-- ct: does the clause catch an error of this class; sh: the suite, of the class and the error's address -/
def sTry (ct : Str → Option Bool) (i : Nat) (sb : DS) (sh : Str → Addr → DS) : DS := fun E ρ => sb { E with ex := fun y ρ1 => ∃ b, ct y = some b ∧
  (b = true → ∀ a, sh y a ⟨fun ρ2 => E.nx (ρ2.set i .un), E.rt, fun ρ2 => E.bk (ρ2.set i .un), fun ρ2 => E.ct (ρ2.set i .un), fun _ _ => False⟩ (ρ1.set i (.adr a))) ∧ (b = false → E.ex y ρ1) } ρ
theorem sd_try {w : Wd} {X : Cx} {x n : Str} {i : Nat} {body suite : List Stmt} {b₀ : Stmt} {np pos pos' : Pos} {sb : DS} {sh : Str → Addr → DS} {ct : Str → Option Bool} (hN : X.N.Nodup) (hc : Names X x (.ref (He.ga X.K x))) (tk : Takes X w.ex)
    (hct : ∀ y b, ct y = some b → PySem.W.exmOne X.K (.ref (He.ga X.K y)) (.ref (He.ga X.K x)) = some b)
    (hb : ∀ (W : WX) (pn : List (Addr × Obj)) (xe : Value → Shared → Prop), Takes (X.tr pn xe) W → PassesOwn (model X.prog X.w) X.A X.env xe → PDSs (w.wish W) (X.tr pn xe) body sb)
    (hsu : ∀ (y : Str), ct y = some true → ∀ (a : Addr) (oe : Obj) (pn : List (Addr × Obj)), Zc (.ref (He.ga X.K y)) none oe → (∃ vs, oe.data = .fields vs) → PDSs (w.wish fun _ _ _ _ => False) (X.suite a ((a, oe) :: pn)) (b₀ :: suite) (sh y a))
    (hs : X.stack = X.env :: X.outer := by rfl) (hf : X.env.frame = some X.env.locals := by rfl) (hi : X.N[i]? = some n := by rfl) (hln : X.env.kindOf n = some .local := by rfl) :
    PDS w X (.Try body [.ExceptHandler (some (.Name x np)) (some n) (b₀ :: suite) pos'] [] [] pos) (sTry ct i sb sh) := by
  refine ⟨_, ps_try_as (tb := fun W D σ H => ∀ (pn : List (Addr × Obj)) (xe : Value → Shared → Prop), Takes (X.tr pn xe) W → PassesOwn (model X.prog X.w) X.A X.env xe → ∃ t, PSs (X.tr pn xe) body t ∧ t D σ H)
    (ts := fun a cls d D σ H => ∀ (oe : Obj) (pn : List (Addr × Obj)), Zc cls d oe → (∃ vs, oe.data = .fields vs) → ∃ t, PSs (X.suite a ((a, oe) :: pn)) (b₀ :: suite) t ∧ t D σ H) hs hf hN hi hln hc tk ?_ ?_, ?_⟩
  · exact fun W pn xe tk2 pa => ⟨fun pins s σ H D I h => by
      obtain ⟨t, h1, h2⟩ := h pn xe tk2 pa
      exact h1.run pins s σ H D I h2⟩
  · exact fun a oe cls d pn hz hfd => ⟨fun pins s σ H D I h => by
      obtain ⟨t, h1, h2⟩ := h oe pn hz hfd
      exact h1.run pins s σ H D I h2⟩
  intro G0 H0 B σ ρ H D E k s hd r pn xe tk2 pa
  obtain ⟨t, h1, h2⟩ := hb _ pn xe tk2 pa
  refine ⟨t, h1, h2 G0 H0 B σ ρ H D _ k.wish s.wish hd ⟨fun σ1 ρ1 H1 s1 => r.nx σ1 ρ1 H1 s1.unwish, fun v d G2 H2 s2 => r.rt v d G2 H2 s2.unwish, fun σ1 ρ1 H1 s1 => r.bk σ1 ρ1 H1 s1.unwish, fun σ1 ρ1 H1 s1 => r.ct σ1 ρ1 H1 s1.unwish, fun y σ1 ρ1 H1 s1 h => ?_⟩⟩
  obtain ⟨b, hb1, hyes, hno⟩ := h
  refine ⟨b, hct y b hb1, fun eb a na oe pn2 hz hfd => ?_, fun eb => r.ex y σ1 ρ1 H1 s1.unwish (hno eb)⟩
  subst eb
  obtain ⟨t2, q1, q2⟩ := hsu y hb1 a oe pn2 hz hfd
  obtain ⟨G1, s1'⟩ := s1.unwish
  refine ⟨t2, q1, q2 G0 H0 B _ _ H1 _ _ k.wish (SPo.wish ⟨G1, s1'.setAdr⟩) (hyes rfl a) ⟨fun σ2 ρ2 H2 s2 h2 => ?_, fun v d G2 H2 s2 => r.rt v d G2 H2 s2.unwish, fun σ2 ρ2 H2 s2 h2 => ?_, fun σ2 ρ2 H2 s2 h2 => ?_, fun _ _ _ _ _ z => z.elim⟩⟩
  · obtain ⟨G2, s2⟩ := s2.unwish
    exact r.nx _ _ _ ⟨G2, s2.setUn⟩ h2
  · obtain ⟨G2, s2⟩ := s2.unwish
    exact r.bk _ _ _ ⟨G2, s2.setUn⟩ h2
  · obtain ⟨G2, s2⟩ := s2.unwish
    exact r.ct _ _ _ ⟨G2, s2.setUn⟩ h2
/-- isinstance of the error that the suite holds -/
def dIsE (i : Nat) (a : Addr) (b : Bool) : DE := fun ρ P => ρ[i]? = some (.adr a) ∧ P (.bool b)
section
variable {w : Wd} {X : Cx} {a : Addr} {oe : Obj} {pn : List (Addr × Obj)} {y x : Str} {i : Nat} {p py pc pos : Pos} {b : Bool}
theorem pd_isE {z : Str} (C : ExcC X.K (He.ga X.K y)) (hz : Zc (.ref (He.ga X.K y)) none oe) (hf : ∃ vs, oe.data = .fields vs) (hm : X.mg "isinstance" = none) (hv : PE (X.suite a ((a, oe) :: pn)) (.Name z py) (tVar i)) (hg : Gl X "isinstance" := by rfl)
    (hx : X.mg x = some (.ref (He.ga X.K x))) (hgx : Gl X x := by rfl) (hdx : (x == ("__debug__" : Str)) = false := by decide) (hk : PySem.W.kitOne X.K (.ref (He.ga X.K y)) (.ref (He.ga X.K x)) = some b) :
    PD w (X.suite a ((a, oe) :: pn)) (.Call (.Name "isinstance" p) [.Name z py, .Name x pc] [] pos) (dIsE i a b) := by
  refine ⟨_, pe_callB (call_isE C hz hf) hg hm (by decide +kernel) (pa_cons hv (pa_cons (pe_glob (v := .ref (He.ga X.K x)) hgx hx rfl hdx) pa_nil)), fun σ ρ G H P Q k s h q => ?_⟩
  refine ⟨_, s.adr i a h.1, ?_⟩
  exact ⟨_, _, b, rfl, fun u e => e, hk, q _ _ G H k.stp (.bl b) h.2⟩
end
/-- a clause that catches the errors of the class x, where no other come -/
def ctOne (x : Str) : Str → Option Bool := fun y => if y = x then some true else none
theorem ctOne_eq {x y : Str} {b : Bool} (h : ctOne x y = some b) : y = x ∧ b = true := by
  unfold ctOne at h
  split at h
  · rename_i e
    exact ⟨e, (Option.some.inj h).symm⟩
  · cases h
/-! ### a def that may raise -/
def endsX (P : DD → Prop) (PX : Str → Prop) : DEn := ⟨fun _ => P .none, P, fun _ => False, fun _ => False, fun x _ => PX x⟩
/-- the world of a def that may raise -/
def wx (E : XK) : Wd := Wd.zero.wish fun cls d _ H => E cls d H
section
variable {P : Program} {wd : World} {K : PySem.W.Frag} {mg : Str → Option Value} {base : Heap} {x : Str} {st : Stmt} {N ps : List Str} {k : Nat} {F : D1X} {sd : DS}
theorem fncx_mk (D : Dfn K mg x st ps) (S : FnScope N ps (defScope st))
    (body : ∀ (f : Addr) (cdv : Value) (A : Around) (outer : List Env) (s : Shared) (H : Hp) (E : XK), Room k (A.deeper (envOfC x (defScope st) s.heap.objs.size f cdv)) → PDSs (wx E) (cxOf (L2.CX P wd) P wd K mg base N x (defScope st) f cdv A outer s H E) (defBody st) sd)
    (hF : ∀ ds Q QX, F ds Q QX → ds.length = ps.length ∧ sd (endsX Q QX) (startD N ds)) : FncX P wd K mg base (k + 1) x F := by
  obtain ⟨f, fd, Fn, h2, h3⟩ := D
  refine ⟨f, fd, ps, Fn.okX S (fun vs H Q E h => ?_) (fun cdv A outer s H vs Q E hr h => ?_), h2, Fn.kp, h3⟩
  · obtain ⟨G, ds, P', PX, hs, r, hf, _⟩ := h
    rw [r.len]; exact (hF ds P' PX hf).1
  · obtain ⟨G, ds, P', PX, hs, r, hf, q, qx⟩ := h
    obtain ⟨ts, t1, t2⟩ := body f cdv A outer s H E hr
    refine ⟨ts, t1, ?_⟩
    have k0 : Okw Wd.zero G H := ⟨hs, trivial, fun _ h => h.elim, fun _ h => h.elim⟩
    have nown : ∀ (i : Nat) es, (startD N ds)[i]? ≠ some (.own es) := fun i es h => by
      have z : Ent.own es ∈ startD N ds := List.mem_of_getElem? h
      unfold startD at z
      rcases List.mem_append.mp z with z | z
      · obtain ⟨d, _, e⟩ := List.mem_map.mp z
        cases e
      · rw [List.mem_replicate] at z
        cases z.2
    refine t2 G H G (start N vs) (startD N ds) H _ (endsX P' PX) k0.wish ⟨G, k0.stp.wish, Sub.rfl, sl_start r, fun i es h => absurd h (nown i es), fun i j es _ a h => absurd h (nown i es)⟩ (hF ds P' PX hf).2 ⟨fun σ ρ H' s' h' => ?_, fun v d G' H' s' r' h' => q v d G' H' s'.unwish r' h', fun _ _ _ _ h' => h'.elim, fun _ _ _ _ h' => h'.elim, fun y σ ρ H' s' h' => ?_⟩
    · obtain ⟨G', s'⟩ := s'.unwish
      exact q _ _ G' H' s'.stp .non h'
    · obtain ⟨G', s'⟩ := s'.unwish
      exact qx y G' H' s'.stp h'
end
end Z

set_option Elab.async false
set_option linter.all false
set_option maxRecDepth 100000
set_option maxHeartbeats 4000000
/-! enumerate over a tuple, any of ints, a list some times over, truth of lists and tuples -/
namespace PySem
theorem enumT_made (t : Addr) (xs : Array Value) (m : Nat) (od : Option Addr) (os : Array (Option Value)) :
    Meets (Builtin.«enumerate.__new__» ⟨[.type "enumerate", .ref t], []⟩) (fun _ R s => s.heap.get? t = some { cls := .type "tuple", dict := od, data := .seq xs m, slots := os } ∧
      R (.ok (.ret (.ref (s.heap.push { cls := .type "tuple_iterator", data := .fields #[.ref t, .int 0 0] }).objs.size)))
        { s with heap := (s.heap.push { cls := .type "tuple_iterator", data := .fields #[.ref t, .int 0 0] }).push { cls := .type "enumerate", data := .fields #[.none, .bool false, .ref s.heap.objs.size, rawInt 0, .none, .none] } }) :=
  .of_wp fun P w A R s hyp => by
    obtain ⟨hp, g, d, tk, zs⟩ := s
    obtain ⟨ht, hyp⟩ := hyp
    have e1 := sub_enumerate
    have e2 : Heap.IsTuple (Shared.heap ⟨hp, g, d, tk, zs⟩) t xs := ⟨_, ht, rfl, m, rfl⟩
    wp_walk using AutoSeq1.wpAny_loadPart' ht
    refine wpAny_stack_any fun below => wpAny_pure ?_
    split
    · rename_i c _ _ _ _ _
      cases (c == Value.type "enumerate") <;> (wp_walk using AutoSeq1.wpAny_loadPart' ht, wpAny_pyIter_tuple e2; exact ⟨_, rfl, hyp⟩)
    · wp_walk using AutoSeq1.wpAny_loadPart' ht, wpAny_pyIter_tuple e2
      exact ⟨_, rfl, hyp⟩
section
variable {prog : Program} {w : World} {A : Around} {E : Value → Shared → Prop} {s : Shared}
theorem enumT_call {t : Addr} {xs : Array Value} {Q : Value → Shared → Prop} (hT : s.heap.IsTuple t xs)
    (k : ∀ h2, IsEnum h2 (s.heap.objs.size + 1) s.heap.objs.size 0 .none → h2.IsTupleIter s.heap.objs.size t 0 → h2.objs.size = s.heap.objs.size + 2 → (∀ b o, s.heap.get? b = some o → h2.get? b = some o) → Q (.ref (s.heap.objs.size + 1)) { s with heap := h2 }) :
    wpAny (model prog w) A (call (.type "enumerate") [.ref t]) Q E s := by
  obtain ⟨⟨oc, od, dt, sl⟩, ht, hc, m, hd⟩ := hT
  have hc : oc = .type "tuple" := hc
  have hd : dt = .seq xs m := hd
  subst hc hd
  refine callType_new F.called_enumerate (by decide) (F.typeCall_enumerate_1 _) (F.newCall_enumerate_1 _) (fun obj => F.args_object_init_2 obj _) F.entry_enumerate_new (enumT_made t xs m od sl) ⟨ht, ?_⟩
  have z1 : (s.heap.push { cls := .type "tuple_iterator", data := .fields #[.ref t, .int 0 0] }).objs.size = s.heap.objs.size + 1 := Heap.size_push ..
  show _ ∧ _
  rw [z1]
  have he : IsEnum ((s.heap.push { cls := .type "tuple_iterator", data := .fields #[.ref t, .int 0 0] }).push { cls := .type "enumerate", data := .fields #[.none, .bool false, .ref s.heap.objs.size, rawInt 0, .none, .none] }) (s.heap.objs.size + 1) s.heap.objs.size 0 .none := by
    have q := Heap.get?_push_size (s.heap.push { cls := .type "tuple_iterator", data := .fields #[.ref t, .int 0 0] }) (o := { cls := .type "enumerate", data := .fields #[.none, .bool false, .ref s.heap.objs.size, rawInt 0, .none, .none] }) rfl
    rw [z1] at q; exact q
  exact ⟨⟨_, he, rfl⟩, k _ he ⟨_, Heap.get?_push_of_some _ (Heap.get?_push_size _ rfl), rfl, rfl⟩ (by rw [Heap.size_push, z1]) fun b o q => Heap.get?_push_of_some _ (Heap.get?_push_of_some _ q)⟩
end
end PySem
namespace Z
open PySem PySem.Spec PyProof.Rows L2
/-- the tuple at a, item by item, each in a new pair behind its number -/
def ItE (K : PySem.W.Frag) (a : Addr) : It :=
  ⟨fun i H => ∃ (xs : List V) (x : V), SqT K H a xs ∧ xs[i]? = some x, fun i H v H' => ∃ T x, v = .ref T ∧ H T = none ∧ H' = upd H T (.tup [.int (i : Nat), x]) ∧ ∀ xs, SqT K H a xs → xs[i]? = some x, fun i H => ∃ xs : List V, SqT K H a xs ∧ xs.length ≤ i⟩
theorem turn_enumT {P : Program} {w : World} {K : PySem.W.Frag} {elts : List Expr} {kk : Nat} {tpos : Pos} (a e it : Addr) :
    Turn P w K (.Tuple elts kk tpos) (ItE K a) [e, it] e (fun i h => (∃ old, IsEnum h e it ((i : Nat) : Int) old) ∧ h.IsTupleIter it a i ∧ e ≠ it ∧ a ≠ it ∧ a ≠ e) where
  mem := List.mem_cons_self
  obj := fun i h st b hb => by
    obtain ⟨⟨old, he⟩, ⟨o, ho, hc, hd⟩, _⟩ := st
    rcases List.mem_cons.mp hb with z | z
    · rw [z]; exact ⟨_, he, fun v q => nomatch q⟩
    · rw [List.mem_singleton.mp z]; exact ⟨o, ho, fun v q => by rw [hd] at q; cases q⟩
  keep := fun i h h' st k => let ⟨⟨old, he⟩, hi, r⟩ := st; ⟨⟨old, k e List.mem_cons_self _ he⟩, hi.at fun o q => k it (List.mem_cons_of_mem _ List.mem_cons_self) o q, r⟩
  item := by
    intro X hP hw hK hc i pins s σ H E I hf st hg
    subst hP hw hK
    obtain ⟨⟨old, he⟩, hit, hne, hai, hae⟩ := st
    obtain ⟨xs, x, hq, hx⟩ := hg
    obtain ⟨its, rv, p, hz⟩ := I.tuple hq
    obtain ⟨u, hu, ru⟩ := rv.get hx
    have hel : e < s.heap.objs.size := Heap.lt_size he
    have hil : it < s.heap.objs.size := by obtain ⟨_, q, _⟩ := hit; exact Heap.lt_size q
    have pt : s.heap.IsTuple a its.toArray := p
    have hlt : i < its.toArray.size := by
      have := (List.getElem?_eq_some_iff.mp hu).1
      simpa using this
    have hnf : e ∉ [it, a] := fun z => by
      rcases List.mem_cons.mp z with z | z
      · exact hne z
      · exact hae (List.mem_singleton.mp z).symm
    have D : Draws X.prog X.w X.A.in1 it [it, a] its.toArray.size (fun j v => its.toArray[j]? = some v) (fun j h => h.IsTupleIter it a j ∧ h.IsTuple a its.toArray) := Draws.tuple (A := X.A.in1) (I.ok.hd hc) it a hai its.toArray
    refine wpAny_pyNext_enum_itemD D he ⟨hit, pt⟩ hlt hne hnf fun v h' tk hv ho hit' hT hsz hk => ?_
    have ev : v = u := by
      have h1 : its[i]? = some v := by simpa using hv
      rw [hu] at h1
      exact (Option.some.inj h1).symm
    subst ev
    refine ⟨_, rfl, wpAny_letOwnedTupleGo_enum (s := { s with heap := h', toks := tk + 1 }) ho fun h'' he' sb => ?_⟩
    have hT2 : h''.get? s.heap.objs.size = some { cls := .type "tuple", data := .seq #[.int i tk, v] } := (sb.2 _ (Nat.ne_of_gt hel)).trans hT
    have new : ObjOk X.prog X.w (upd H s.heap.objs.size (.tup [.int (i : Nat), x])) h'' s.heap.objs.size (.tup [.int (i : Nat), x]) :=
      ⟨by show 2 ≤ sizeLine; decide, [.int i tk, v], .cons ⟨_, rfl⟩ (.cons ru .nil), ⟨_, hT2, rfl, _, rfl⟩⟩
    have I1 : Inv X pins σ (upd H s.heap.objs.size (.tup [.int (i : Nat), x])) { s with heap := h'', toks := tk + 1 } :=
      I.turnedNew (ch := [e, it]) (fun b ob hb q => (sb.2 b (fun z => hb (by simp [z]))).trans (hk b ob (fun z => hb (by simp [z])) (fun z => hb (by simp [z])) q)) hf (Nat.le_refl _) new
    refine ⟨.ref s.heap.objs.size, _, I1, rfl, ⟨_, x, rfl, I.hok.fresh (Nat.le_refl _), rfl, fun ys hy => by rw [I.tuple_inj hy hq]; exact hx⟩, ⟨⟨v, ?_⟩, hit'.1.at fun o q => (sb.2 it (Ne.symm hne)).trans q, hne, hai, hae⟩, fun b hb => ?_⟩
    · have e1 : ((i + 1 : Nat) : Int) = (i : Int) + 1 := by omega
      rw [e1]; exact he'
    · have hb' : b < s.heap.objs.size := by
        rcases List.mem_cons.mp hb with z | z
        · rw [z]; exact hel
        · rw [List.mem_singleton.mp z]; exact hil
      rw [upd_ne (Nat.ne_of_lt hb')]
      exact (hf b hb).1
  done := by
    intro X hP hw hK hc i pins s σ H E I hf st hg
    subst hP hw hK
    obtain ⟨⟨old, he⟩, hit, hne, hai, hae⟩ := st
    obtain ⟨xs, hq, hx⟩ := hg
    obtain ⟨its, rv, p, hz⟩ := I.tuple hq
    obtain ⟨f0, f1, f2, f3, f4, f5⟩ := hf it (by simp)
    have hl := rv.length
    have pt : s.heap.IsTuple a its.toArray := p
    have hT : s.TypeIs (.ref e) "enumerate" := ⟨_, he, rfl⟩
    unfold pyNext
    refine wpAny_bind (wpAny_attempt (wpAny_callSpecial?_slot (name := Str.ofString "__next__") hT F.slot_enumerate_next (wpAny_call_entry F.slot_enumerate_next hT F.entry_enumerate_next ?_ (F.args_enumerate_next_1 _))))
    show wpAny _ _ (field (.ref e) 2 >>= _) _ _ _
    refine wpAny_bind (wpAny_field he rfl (x := .ref it) rfl (wpAny_bind (wpAny_nextOf_tuple_end (I.ok.hd hc) hit pt (by simp; omega) fun h' y he' hy => ?_)))
    obtain ⟨o, ho, hcl⟩ := hy
    refine wpAny_bind (wpAny_isInstance (T := "StopIteration") (b := true) ⟨o, ho, hcl⟩ isSubtype_stop ?_)
    exact wpAny_pure ⟨rfl, I.turned (t' := s.toks) (fun b o hb q => he' b o hb q) f0 f1 f3 f4 f5⟩
  self := fun A i s Q E st h => let ⟨⟨_, he⟩, _⟩ := st; wpAny_pyIter_enum he h
def iEnumT (K : PySem.W.Frag) (ta : TA) : TI := fun σ H R => ta σ H fun vs H1 => ∃ a xs, vs = [.ref a] ∧ SqT K H1 a xs ∧ R (ItE K a) H1
theorem pi_enumT {X : Cx} {e : Expr} {ta : TA} {p pos tpos : Pos} {elts : List Expr} {kk : Nat} (hg : Gl X "enumerate") (hm : X.mg "enumerate" = none) (ha : PA X [e] ta) (hs : starEach [e] X.env = [(false, eval e X.env)] := by rfl) :
    PI X (.Tuple elts kk tpos) (.Call (.Name "enumerate" p) [e] [] pos) (iEnumT X.K ta) := by
  refine ⟨fun pins s σ H R I h => ?_⟩
  refine Call_ (ld_blt I hg hm boot_enumerate (PyProof.Rows.callWith_type1 (thn (ha.run pos pins s σ H _ I h) fun us s1 ⟨vs, H1, I1, r1, q1⟩ => ?_) hs rfl))
  obtain ⟨a, xs, ex, hq, q⟩ := q1
  subst ex
  cases r1 with
  | cons r rr =>
    cases rr
    cases r
    obtain ⟨its, rv, pt, hz⟩ := I1.tuple hq
    have hal : a < s1.heap.objs.size := by obtain ⟨_, z, _⟩ := pt; exact Heap.lt_size z
    refine enumT_call pt fun h' he hit hsz hk => wpAny_pyIter_enum he ?_
    refine ⟨s1.heap.objs.size + 1, [s1.heap.objs.size + 1, s1.heap.objs.size], _, _, H1, rfl, I1.kept (t' := s1.toks) hk, turn_enumT a (s1.heap.objs.size + 1) s1.heap.objs.size, ⟨⟨.none, he⟩, hit, Nat.succ_ne_self _, Nat.ne_of_lt hal, Nat.ne_of_lt (Nat.lt_succ_of_lt hal)⟩, fun b hb => ?_, q⟩
    have hle : s1.heap.objs.size ≤ b := by
      rcases List.mem_cons.mp hb with z | z
      · rw [z]; exact Nat.le_succ _
      · rw [List.mem_singleton.mp z]; exact Nat.le_refl _
    exact I1.fpOk hle (I1.hok.fresh hle)
/-! the same over data -/
def numbered : Nat → List DD → List DD
  | _, [] => []
  | n, d :: ds => .tuple [.int (n : Nat), d] :: numbered (n + 1) ds
theorem numbered_at : ∀ (ds : List DD) (n i : Nat) (d : DD), ds[i]? = some d → (numbered n ds)[i]? = some (.tuple [.int ((n + i : Nat) : Int), d])
  | [], _, _, _, h => by simp at h
  | c :: cs, n, 0, d, h => by
    have e := Option.some.inj h
    subst e
    rfl
  | c :: cs, n, i + 1, d, h => by
    have z := numbered_at cs (n + 1) i d h
    rw [show n + (i + 1) = n + 1 + i by omega]
    exact z
theorem numbered_len : ∀ (ds : List DD) (n : Nat), (numbered n ds).length = ds.length
  | [], _ => rfl
  | _ :: ds, n => congrArg (· + 1) (numbered_len ds (n + 1))
theorem wk_enumT {K : PySem.W.Frag} {B : Hp} {p : Addr} {xs : List V} {ds : List DD} (h : SqT K B p xs) (r : RpAll K B xs ds) : Wk K (ItE K p) (numbered 0 ds) B := by
  refine ⟨fun i H x H' => ∃ T y, x = .ref T ∧ H T = none ∧ H' = upd H T (.tup [.int (i : Nat), y]) ∧ xs[i]? = some y, ⟨fun i H hi hs => ?_, fun H hs => ⟨xs, hs.sqT h, by rw [r.len, numbered_len]; exact Nat.le_refl _⟩, fun i H x H' hi hs y => ?_⟩, fun i H x H' y => ?_⟩
  · have hi' : i < xs.length := by rw [r.len, ← numbered_len ds 0]; exact hi
    exact ⟨xs, xs[i], hs.sqT h, List.getElem?_eq_getElem hi'⟩
  · obtain ⟨T, z, e1, e2, e3, e4⟩ := y
    exact ⟨T, z, e1, e2, e3, e4 xs (hs.sqT h)⟩
  · obtain ⟨T, z, e1, e2, e3, e4⟩ := y
    obtain ⟨d, hd, rd⟩ := r.get e4
    have hn := numbered_at ds 0 i d hd
    rw [Nat.zero_add] at hn
    exact ⟨_, hn, .inr ⟨T, _, _, e2, e3, e1, .cons (.int _) (.cons rd .nil), rfl⟩⟩
section
variable {w : Wd} {X : Cx} {a b c e : Expr} {ta tb : DE} {p pos : Pos}
def dIe (ta : DE) : DA := fun ρ P => ta ρ fun d => match d with
  | .tuple ds => P (numbered 0 ds)
  | _ => False
theorem di_enum {elts : List Expr} {kk : Nat} {tpos : Pos} (hm : X.mg "enumerate" = none) (ha : PD w X a ta) (hg : Gl X "enumerate" := by rfl) (hs : starEach [a] X.env = (false, eval a X.env) :: starEach [] X.env := by rfl) (hs2 : starEach [a] X.env = [(false, eval a X.env)] := by rfl) : PDI w X (.Tuple elts kk tpos) (.Call (.Name "enumerate" p) [a] [] pos) (dIe ta) := by
  obtain ⟨ta', a1, a2⟩ := ha
  refine ⟨_, pi_enumT hg hm (pa_cons a1 pa_nil hs) hs2, fun σ ρ G H P R k s h q => ?_⟩
  refine a2 σ ρ G H _ _ k s h fun v d G1 H1 s1 r1 p1 => ?_
  cases r1 with
  | @tup t xs ds t1 q1 => exact ⟨t, xs, rfl, (s1.okw k).sub.sqT t1, q _ _ G1 H1 s1 (wk_enumT t1 q1) p1⟩
  | _ => exact p1.elim
/-! any of a list of ints -/
theorem truth_ints {prog : Program} {w : World} {A : Around} {ns : List Int} {its : List Value} (r : Vals (ns.map V.int) its) :
    TruthOf prog w A (fun i v => its.toArray[i]? = some v) (fun i => ns.getD i 0 != 0) := fun i v s Q E hv hq => by
  have hv' : its[i]? = some v := by simpa using hv
  have hi : i < (ns.map V.int).length := by rw [r.length]; exact (List.getElem?_eq_some_iff.mp hv').1
  obtain ⟨u, hu, ru⟩ := r.get (List.getElem?_eq_getElem hi)
  rw [hv'] at hu
  have e := Option.some.inj hu
  subst e
  rw [List.getElem_map] at ru
  obtain ⟨t, rfl⟩ := ru
  have hg : ns.getD i 0 = ns[i]'(by simpa using hi) := by rw [List.getD_eq_getElem?_getD, List.getElem?_eq_getElem (by simpa using hi)]; rfl
  have hq' : Q (ns.getD i 0 != 0) s := hq
  rw [hg] at hq'
  exact PySem.P.truthy_int hq'
theorem any_ints : ∀ ns : List Int, (List.range ns.length).any (fun i => ns.getD i 0 != 0) = ns.any (· != 0)
  | [] => rfl
  | n :: ns => by
    rw [List.length_cons, List.range_succ_eq_map, List.any_cons, List.any_map, List.any_cons, ← any_ints ns]
    rfl
def rAnyI (K : PySem.W.Frag) : List V → Hp → VK → Prop := fun vs H Q => ∃ (a : Addr) (ns : List Int), vs = [V.ref a] ∧ SqL K H a (ns.map V.int) ∧ Q (.bl (ns.any (· != 0))) H
theorem call_anyI (hc : X.calm = true) : CallR X (.builtin "any") (rAnyI X.K) := by
  intro pins s σ H vs us Q I r h
  obtain ⟨a, ns, rfl, hs, q⟩ := h
  obtain ⟨its, rv, hl, _⟩ := I.list hs
  rw [Vals.ref1 r]
  refine call_any_walk (iter_any hl.isList fun s₂ e2 st hne => ?_)
  subst e2
  refine ⟨_, _, _, _, _, _, _, rfl, Walks.list (A := X.A.in1) (I.ok.hd hc) _ a hne its.toArray, st, truth_ints rv, fun h' tk hk => ⟨.bl _, H, I.kept fun b o eo => hk b o (fun hmem => ?_) (Heap.get?_push_of_some _ eo), ?_, q⟩⟩
  · rcases List.mem_cons.mp hmem with e1 | hmem
    · exact absurd (e1 ▸ Heap.lt_size eo) (Nat.lt_irrefl _)
    · cases hmem
  · show Value.bool _ = Value.bool _
    rw [← any_ints, List.size_toArray, ← rv.length, List.length_map]
def gAnyI : DD → (DD → Prop) → Prop := fun d P => match d with
  | .list ds => match intsD ds with
    | some ns => P (.bool (ns.any (· != 0)))
    | none => False
  | _ => False
theorem cd_any (hc : X.calm = true := by rfl) : CallD w X (.builtin "any") (g1 gAnyI) := by
  refine ⟨_, call_anyI hc, fun vs ds G H P Q k r h q => ?_⟩
  obtain ⟨v, d, rfl, r1, h⟩ := one_of r h
  unfold gAnyI at h
  cases r1 with
  | @lst t xs es t1 q1 =>
    simp only at h
    cases h1 : intsD es with
    | none => rw [h1] at h; exact h.elim
    | some ns =>
      rw [h1] at h
      have e1 := intsD_eq h1
      subst e1
      have v1 := rp_ints q1
      subst v1
      exact ⟨t, ns, rfl, SqL.of (k.sub _ _ t1), q _ _ G H k.stp (.bl _) h⟩
  | _ => exact h.elim
theorem bt_any : bootBuiltins "any" = some (.builtin "any") := by decide +kernel
/-! [..] * n -/
def gRep : D2 := fun x y P => match x, y with
  | .list ds, .int n => ((-1000000 ≤ n ∧ n ≤ 1000000) ∧ ds.length * n.toNat ≤ 1000000) ∧ P (.list (List.replicate n.toNat ds).flatten)
  | _, _ => False
theorem rpAll_rep {K : PySem.W.Frag} {G : Hp} {xs : List V} {ds : List DD} (r : RpAll K G xs ds) : ∀ n : Nat, RpAll K G (List.replicate n xs).flatten (List.replicate n ds).flatten
  | 0 => .nil
  | n + 1 => by
    rw [List.replicate_succ, List.replicate_succ, List.flatten_cons, List.flatten_cons]
    exact r.append (rpAll_rep r n)
theorem od_rep : OpD w X (binaryOp .Mult) gRep := by
  refine ⟨_, op_rep, fun x y d e G H P Q k r1 r2 h q => ?_⟩
  cases r1 with
  | @lst l xs ds t1 q1 =>
    cases r2 with
    | int n =>
      obtain ⟨⟨h1, h2⟩, h3⟩ := h
      refine ⟨l, n, xs, rfl, rfl, k.sub _ _ t1, by omega, by omega, line_le (by rw [q1.len]; exact h2), fun p hp => ?_⟩
      exact q _ _ _ _ (Stp.new k hp) (.lst upd_same ((rpAll_rep q1 _).mono (Sub.new (k.g_none hp)))) h3
    | _ => exact h.elim
  | _ => cases r2 <;> exact h.elim
/-! not in -/
def ninD (x y : DD) : Option Bool := (inD x y).map (!·)
theorem od_notin : OpD w X (compareOp .NotIn) (gB ninD) := by
  refine ⟨_, op_notIn_seq, fun x y d e G H P Q k r1 r2 h q => ?_⟩
  unfold gB ninD inD at h
  have main : ∀ (p : Addr) (xs : List V) (ds : List DD), y = .ref p → (SqL X.K H p xs ∨ SqT X.K H p xs) → RpAll X.K G xs ds → flatD d = true → ds.all flatD = true → P (.bool (!(ds.any fun z => PyData.eqv z d))) → rIn X.K true x y H Q := by
    intro p xs ds ey hs ha fx fa hp
    refine ⟨p, xs, ey, hs, r1.flat fx, ha.flat fa, ?_⟩
    have z : (if true = true then !L2.inV x xs else L2.inV x xs) = !(ds.any fun z => PyData.eqv z d) := by
      rw [if_pos rfl]; exact congrArg _ (ha.inV r1 fx fa)
    rw [z]
    exact q _ _ G H k.stp (.bl _) hp
  cases r2 with
  | @lst a xs ds t a1 =>
    simp only [seqOf] at h
    split at h
    · rename_i b hb
      split at hb
      · rename_i hf
        have eb := Option.some.inj hb
        subst eb
        exact main a xs ds rfl (.inl (SqL.of (k.sub _ _ t))) a1 hf.1 hf.2 h
      · cases hb
    · exact h.elim
  | @tup a xs ds t a1 =>
    simp only [seqOf] at h
    split at h
    · rename_i b hb
      split at hb
      · rename_i hf
        have eb := Option.some.inj hb
        subst eb
        exact main a xs ds rfl (.inr (k.sub.sqT t)) a1 hf.1 hf.2 h
      · cases hb
    · exact h.elim
  | _ => exact h.elim
/-! truth of a list, a tuple -/
def dTr (ta : DE) : DT := fun ρ P => ta ρ fun d => match d with
  | .list ds => P (!ds.isEmpty)
  | .tuple ds => P (!ds.isEmpty)
  | _ => False
theorem RpAll.empty {K : PySem.W.Frag} {G : Hp} {xs : List V} {ds : List DD} (r : RpAll K G xs ds) : xs.isEmpty = ds.isEmpty := by
  cases r <;> rfl
theorem pt_tr (ha : PD w X a ta) (he : ∀ whole, isTrue a X.env whole = (do let v ← whole; standAt a.pos; holding [v] (truthy v)) := by intro _; rfl) : PDT w X a (dTr ta) := by
  obtain ⟨ta', a1, a2⟩ := ha
  refine ⟨_, pt_truth a1 he, fun σ ρ G H P Q k s h q => ?_⟩
  refine a2 σ ρ G H _ _ k s h fun v d G1 H1 s1 r1 p1 => ?_
  have k1 := s1.okw k
  cases r1 with
  | @lst t xs ds t1 q1 =>
    refine ⟨!ds.isEmpty, .inl ⟨xs, SqL.of (k1.sub _ _ t1), by rw [q1.empty]⟩, q _ G1 H1 s1 p1⟩
  | @tup t xs ds t1 q1 =>
    refine ⟨!ds.isEmpty, .inr (.inl ⟨xs, k1.sub.sqT t1, by rw [q1.empty]⟩), q _ G1 H1 s1 p1⟩
  | _ => exact p1.elim
/-! for i, (j, k) in .. -/
def tT2 (i j k : Nat) : DG := fun d ρ f => match d with
  | .tuple [d1, .tuple [d2, d3]] => f (((ρ.set i (.dat d1)).set j (.dat d2)).set k (.dat d3))
  | _ => False
theorem dg_t2 {i j k : Nat} {x y z : Str} {px py pz pp : Pos} {k1 k2 : Nat} (hN : X.N.Nodup) (hi : X.N[i]? = some x := by rfl) (hj : X.N[j]? = some y := by rfl) (hk : X.N[k]? = some z := by rfl)
    (hx : Loc X.env.scope x := by first | exact Or.inl rfl | exact Or.inr rfl) (hy : Loc X.env.scope y := by first | exact Or.inl rfl | exact Or.inr rfl) (hz : Loc X.env.scope z := by first | exact Or.inl rfl | exact Or.inr rfl)
    (fx : X.fn x = true ∨ X.env.scope.names.lookup x = some .local := by first | exact .inl rfl | exact .inr rfl | assumption) (fy : X.fn y = true ∨ X.env.scope.names.lookup y = some .local := by first | exact .inl rfl | exact .inr rfl | assumption) (fz : X.fn z = true ∨ X.env.scope.names.lookup z = some .local := by first | exact .inl rfl | exact .inr rfl | assumption)
    (hc : X.calm = true := by rfl) (n1 : (assignEach [.Name x px, .Tuple [.Name y py, .Name z pz] k1 pp] X.env).length = 2 := by rfl) (s1 : (assignEach [.Name x px, .Tuple [.Name y py, .Name z pz] k1 pp] X.env).findIdx? (·.1) = none := by rfl)
    (n2 : (assignEach [.Name y py, .Name z pz] X.env).length = 2 := by rfl) (s2 : (assignEach [.Name y py, .Name z pz] X.env).findIdx? (·.1) = none := by rfl)
    (m1 : (assignEach (.Name x px :: [.Tuple [.Name y py, .Name z pz] k1 pp]) X.env).map (·.2) = assign (.Name x px) X.env :: (assignEach [.Tuple [.Name y py, .Name z pz] k1 pp] X.env).map (·.2) := by rfl)
    (m2 : (assignEach (.Tuple [.Name y py, .Name z pz] k1 pp :: []) X.env).map (·.2) = assign (.Tuple [.Name y py, .Name z pz] k1 pp) X.env :: (assignEach [] X.env).map (·.2) := by rfl)
    (m3 : (assignEach (.Name y py :: [.Name z pz]) X.env).map (·.2) = assign (.Name y py) X.env :: (assignEach [.Name z pz] X.env).map (·.2) := by rfl) (m4 : (assignEach (.Name z pz :: []) X.env).map (·.2) = assign (.Name z pz) X.env :: (assignEach [] X.env).map (·.2) := by rfl) :
    PDG w X (.Tuple [.Name x px, .Tuple [.Name y py, .Name z pz] k1 pp] k2 pos) (tT2 i j k) := by
  refine ⟨_, pg_tup (n := 2) hc (pgs_cons (pg_name hN hi hx fx) (pgs_cons (pg_tup (n := 2) hc (pgs_cons (pg_name hN hj hy fy) (pgs_cons (pg_name hN hk hz fz) pgs_nil m4) m3) n2 s2) pgs_nil m2) m1) n1 s1, fun G0 H0 B σ ρ H G v d f Q s r h q => ?_⟩
  unfold tT2 at h
  split at h
  · rename_i d1 d2 d3
    cases r with
    | @tup t xs ds t1 r1 =>
      cases r1 with
      | cons ra rb =>
        cases rb with
        | cons rc rd =>
          cases rd
          cases rc with
          | @tup u ys es t2 r2 =>
            cases r2 with
            | cons re rf =>
              cases rf with
              | cons rg rh =>
                cases rh
                refine ⟨t, _, rfl, s.stp.sub.sqT t1, rfl, ?_⟩
                refine ⟨_, _, rfl, ?_⟩
                have s1 := s.set (i := i) ra
                refine ⟨_, _, rfl, ?_⟩
                refine ⟨u, _, rfl, s1.stp.sub.sqT t2, rfl, ?_⟩
                refine ⟨_, _, rfl, ?_⟩
                refine ⟨_, _, rfl, ?_⟩
                have s3 := (s1.set (i := j) re).set (i := k) rg
                exact ⟨rfl, ⟨rfl, q _ _ _ ⟨G, s3⟩ h⟩⟩
  · exact h.elim
/-- isinstance(error, a class of the language) -/
theorem pd_isET {a : Addr} {oe : Obj} {pn : List (Addr × Obj)} {y x z : Str} {i : Nat} {py pc : Pos} {b : Bool} {T : String} (C : ExcC X.K (He.ga X.K y)) (hz : Zc (.ref (He.ga X.K y)) none oe) (hf : ∃ vs, oe.data = .fields vs) (hm : X.mg "isinstance" = none) (hv : PE (X.suite a ((a, oe) :: pn)) (.Name z py) (tVar i)) (hm2 : X.mg x = none) (hv2 : bootBuiltins x = some (.type T))
    (hk : PySem.W.kitOne X.K (.ref (He.ga X.K y)) (.type T) = some b) (hg : Gl X "isinstance" := by rfl) (hgx : Gl X x := by rfl) (hnx : x ≠ "__name__" := by decide) (hdx : (x == ("__debug__" : Str)) = false := by decide) :
    PD w (X.suite a ((a, oe) :: pn)) (.Call (.Name "isinstance" p) [.Name z py, .Name x pc] [] pos) (dIsE i a b) := by
  refine ⟨_, pe_callB (call_isE C hz hf) hg hm (by decide +kernel) (pa_cons hv (pa_cons (pe_bltn (v := .ty T) hgx hm2 hv2 rfl hnx hdx) pa_nil)), fun σ ρ G H P Q k s h q => ?_⟩
  refine ⟨_, s.adr i a h.1, ?_⟩
  exact ⟨_, .type T, b, rfl, fun u e => e, hk, q _ _ G H k.stp (.bl b) h.2⟩
end
theorem bt_ValueError : bootBuiltins "ValueError" = some (.type "ValueError") := by decide +kernel
/-- what the text's own errors are -/
structure ErF (K : PySem.W.Frag) (mg : Str → Option Value) : Prop where
  x_DamagedData : ErC K mg "DamagedData"
  g_AnswerError : mg "AnswerError" = some (.ref (He.ga K "AnswerError"))
  g_DamagedData : mg "DamagedData" = some (.ref (He.ga K "DamagedData"))
  ct_AnswerError : ∀ y b, ctOne "DamagedData" y = some b → PySem.W.exmOne K (.ref (He.ga K y)) (.ref (He.ga K "AnswerError")) = some b
  isx : ExcC K (He.ga K "DamagedData")
  k_DamagedData : PySem.W.kitOne K (.ref (He.ga K "DamagedData")) (.ref (He.ga K "DamagedData")) = some true
  ve : mg "ValueError" = none
  kve : PySem.W.kitOne K (.ref (He.ga K "DamagedData")) (.type "ValueError") = some true
end Z

set_option Elab.async false
set_option linter.all false
set_option maxRecDepth 100000
set_option maxHeartbeats 4000000
/-! pages: what each def of the text is worth, over plain data -/
namespace Z
open PySem PySem.Spec PyProof.Rows L2
inductive Pg where
  | leaf (es : List (List Int × List DD))
  | inner (cs : List (List Int × Int))
def entD (e : List Int × List DD) : DD := .tuple [tD e.1, .tuple e.2]
def chlD (c : List Int × Int) : DD := .tuple [tD c.1, .int c.2]
def LEAFS : Str := Str.ofString "leaf"
def INNERS : Str := Str.ofString "inner"
def pgD : Pg → DD
  | .leaf es => .tuple [.str LEAFS, .tuple (es.map entD)]
  | .inner cs => .tuple [.str INNERS, .tuple (cs.map chlD)]
def cntI (k : List Int) : List Int := (k.length : Int) :: k
def entB (e : List Int × List DD) : List Int := cntI e.1 ++ cntI (keyI e.2)
def chlB (c : List Int × Int) : List Int := c.2 / 256 :: c.2 % 256 :: cntI c.1
def leafB (es : List (List Int × List DD)) : List Int := 0 :: (es.length : Int) :: es.flatMap entB
def innerB (cs : List (List Int × Int)) : List Int := 1 :: (cs.length : Int) :: cs.flatMap chlB
def pgB : Pg → List Int
  | .leaf es => leafB es
  | .inner cs => innerB cs
structure OkEnt (e : List Int × List DD) : Prop where
  kl : e.1.length ≤ 300
  kb : e.1.all isB = true
  vl : e.2.length ≤ 300
  vb : e.2.all okV = true
structure OkChl (c : List Int × Int) : Prop where
  kl : c.1.length ≤ 300
  kb : c.1.all isB = true
  n0 : 0 ≤ c.2
  n1 : c.2 < 65536
def OkPg : Pg → Prop
  | .leaf es => es.length ≤ 300 ∧ ∀ e ∈ es, OkEnt e
  | .inner cs => cs.length ≤ 300 ∧ (∀ c ∈ cs, OkChl c) ∧ ∀ c r, cs = c :: r → c.1 = []
def padI (l : List Int) : List Int := l ++ List.replicate (256 - l.length) 0
def wrD (p : Pg) : DD := if (pgB p).length ≤ 256 then .list (iD (padI (pgB p))) else .none
/-! the reading -/
def cntR : List Int → Option (List Int)
  | [] => none
  | n :: t => if n.toNat ≤ t.length then some (t.take n.toNat) else none
def ents : Nat → List Int → Option (List (List Int × List DD) × List Int)
  | 0, r => some ([], r)
  | n + 1, r => match cntR r with
    | none => none
    | some k => match cntR (r.drop (1 + k.length)) with
      | none => none
      | some v => match decode v.length v with
        | none => none
        | some vs => match ents n ((r.drop (1 + k.length)).drop (1 + v.length)) with
          | none => none
          | some (es, r') => some ((k, vs) :: es, r')
/-- b: nothing stands before it -/
def chls : Bool → Nat → List Int → Option (List (List Int × Int) × List Int)
  | _, 0, r => some ([], r)
  | b, n + 1, r => match cntR (r.drop 2) with
    | none => none
    | some k => if b = true ∧ k ≠ [] then none else match chls false n ((r.drop 2).drop (1 + k.length)) with
      | none => none
      | some (cs, r') => some ((k, r.getD 0 0 * 256 + r.getD 1 0) :: cs, r')
def rdP (cs : List Int) : Option Pg := if cs.length = 256 then match cs with
    | 0 :: n :: t => match ents n.toNat t with
      | some (es, r) => if r.any (· != 0) = true then none else some (.leaf es)
      | none => none
    | 1 :: n :: t => match chls true n.toNat t with
      | some (cs, r) => if r.any (· != 0) = true then none else some (.inner cs)
      | none => none
    | _ => none
  else none
def F_counted : D1 := fun ds P => match ds with
  | [.tuple es] => ∃ cs, es = iD cs ∧ cs.length ≤ 100000 ∧ P (.list (iD (cntI cs)))
  | _ => False
def F_leaf_bytes : D1 := fun ds P => match ds with
  | [.tuple es] => ∃ l : List (List Int × List DD), es = l.map entD ∧ l.length ≤ 300 ∧ (∀ e ∈ l, OkEnt e) ∧ P (.list (iD (leafB l)))
  | _ => False
def F_inner_bytes : D1 := fun ds P => match ds with
  | [.tuple es] => ∃ l : List (List Int × Int), es = l.map chlD ∧ l.length ≤ 300 ∧ (∀ c ∈ l, OkChl c) ∧ (∀ c r, l = c :: r → c.1 = []) ∧ P (.list (iD (innerB l)))
  | _ => False
def F_write_page : D1 := fun ds P => ∃ p, ds = [pgD p] ∧ OkPg p ∧ P (wrD p)
def F__law_page_bytes : D1 := F_write_page
def F_read_counted : D1X := fun ds P PX => match ds with
  | [.list es, .int i] => ∃ (cs : List Int) (j : Nat), es = iD cs ∧ i = (j : Nat) ∧ cs.length ≤ 100000 ∧ j ≤ 100000 ∧ cs.all isB = true ∧ match cntR (cs.drop j) with
    | some k => P (.tuple [tD k, .int ((j + (1 + k.length) : Nat) : Int)])
    | none => PX "DamagedData"
  | _ => False
def F_read_entries : D1X := fun ds P PX => match ds with
  | [.list es] => ∃ (cs : List Int) (n : Int), es = iD cs ∧ cs.length = 256 ∧ cs.all isB = true ∧ cs[1]? = some n ∧ match ents n.toNat (cs.drop 2) with
    | some (l, r) => P (.tuple [.tuple (l.map entD), .int ((256 - r.length : Nat) : Int)])
    | none => PX "DamagedData"
  | _ => False
def F_read_children : D1X := fun ds P PX => match ds with
  | [.list es] => ∃ (cs : List Int) (n : Int), es = iD cs ∧ cs.length = 256 ∧ cs.all isB = true ∧ cs[1]? = some n ∧ match chls true n.toNat (cs.drop 2) with
    | some (l, r) => P (.tuple [.tuple (l.map chlD), .int ((256 - r.length : Nat) : Int)])
    | none => PX "DamagedData"
  | _ => False
def F_read_page : D1X := fun ds P PX => match ds with
  | [.list es] => ∃ cs : List Int, es = iD cs ∧ cs.length ≤ 100000 ∧ cs.all isB = true ∧ match rdP cs with
    | some p => P (pgD p)
    | none => PX "DamagedData"
  | _ => False
def F__law_tried : D1 := fun ds P => match ds with
  | [.list es] => ∃ cs : List Int, es = iD cs ∧ cs.length ≤ 100000 ∧ cs.all isB = true ∧ P (.bool true)
  | _ => False
def F__law_key : D1 := fun ds P => ds = [] ∧ ∀ k : List Int, k.length ≤ 120 → k.all isB = true → P (tD k)
def F__law_page : D1 := fun ds P => ds = [] ∧ ∀ p, OkPg p → P (pgD p)
end Z

set_option Elab.async false
set_option linter.all false
set_option maxRecDepth 100000
set_option maxHeartbeats 4000000
/-! a list or a tuple gone through, a list taken apart, == in an except suite -/
namespace Z
open PySem PySem.Spec PyProof.Rows L2
section
variable {w : Wd} {X : Cx} {a tg : Expr} {es : List Expr} {ta : DE} {pos : Pos}
theorem od_eqU (hu : X.A.units + 64 < cLine) : OpD w X (compareOp .Eq) (gB eqD) := by
  refine ⟨_, opr_dat (g := eqD) fun pins s σ H d e x y v u k as bs Q I p1 p2 r1 r2 hg q => ?_, ro_dat⟩
  unfold eqD at hg
  split at hg
  · have ez := Option.some.inj hg
    subst ez
    exact SeqAt.eq_plain r1 r2 p1 p2 (by omega) q
  · cases hg
def iSeq (K : PySem.W.Frag) (tl : TE) : TI := fun σ H R => tl σ H fun x H1 => ∃ b, x = .ref b ∧ (((∃ xs, SqL K H1 b xs) ∧ R (Itl K b) H1) ∨ ((∃ xs, SqT K H1 b xs) ∧ R (Itt K b) H1))
theorem pi_seq {l : Expr} {tl : TE} (hl : PE X l tl) : PI X tg l (iSeq X.K tl) := by
  refine ⟨fun pins s σ H R I h => thn (hl.run pins s σ H _ I h) fun v s1 ⟨x, H1, I1, r1, q1⟩ => ?_⟩
  obtain ⟨b, e, q1⟩ := q1
  subst e
  cases r1
  have fp : ∀ b ∈ [s1.heap.objs.size], FpOk X pins H1 b := fun b hb => by
    rw [List.mem_singleton.mp hb]
    exact I1.fpOk (Nat.le_refl _) (I1.hok.fresh (Nat.le_refl _))
  rcases q1 with ⟨⟨xs, hq⟩, q⟩ | ⟨⟨xs, hq⟩, q⟩
  · obtain ⟨its, rv, p, hz⟩ := I1.list hq
    exact wpAny_pyIter_list p.isList ⟨s1.heap.objs.size, [s1.heap.objs.size], _, _, H1, rfl, I1.kept (t' := s1.toks) fun b o e => Heap.get?_push_of_some _ e, turn_list b _, ⟨_, Heap.get?_push_size _ rfl, rfl, rfl⟩, fp, q⟩
  · obtain ⟨its, rv, p, hz⟩ := I1.tuple hq
    exact wpAny_pyIter_tuple (show s1.heap.IsTuple b its.toArray from p) ⟨s1.heap.objs.size, [s1.heap.objs.size], _, _, H1, rfl, I1.kept (t' := s1.toks) fun b o e => Heap.get?_push_of_some _ e, turn_tuple b _, ⟨_, Heap.get?_push_size _ rfl, rfl, rfl⟩, fp, q⟩
def dIq (ta : DE) : DA := fun ρ P => ta ρ fun d => match d with
  | .list ds => P ds
  | .tuple ds => P ds
  | _ => False
theorem di_seq (ha : PD w X a ta) : PDI w X tg a (dIq ta) := by
  obtain ⟨ta', a1, a2⟩ := ha
  refine ⟨_, pi_seq a1, fun σ ρ G H P R k s h q => ?_⟩
  refine a2 σ ρ G H _ _ k s h fun v d G1 H1 s1 r1 p1 => ?_
  cases r1 with
  | @lst p xs ds t1 q1 => exact ⟨p, rfl, .inl ⟨⟨xs, SqL.of ((s1.okw k).sub _ _ t1)⟩, q _ ds G1 H1 s1 (wk_list t1 q1) p1⟩⟩
  | @tup p xs ds t1 q1 => exact ⟨p, rfl, .inr ⟨⟨xs, (s1.okw k).sub.sqT t1⟩, q _ ds G1 H1 s1 (wk_tup t1 q1) p1⟩⟩
  | _ => exact p1.elim
/-! a, b = a list -/
def tL (is : List Nat) : DG := fun d ρ k => match d with
  | .list ds => tNs is ds ρ k
  | _ => False
theorem tNs_len : ∀ (is : List Nat) (ds : List DD) (ρ : En) (k : En → Prop), tNs is ds ρ k → ds.length = is.length
  | [], [], _, _, _ => rfl
  | [], _ :: _, _, _, h => h.elim
  | _ :: _, [], _, _, h => h.elim
  | _ :: is, _ :: ds, _, k, h => congrArg (· + 1) (tNs_len is ds _ k h)
theorem dg_l {is : List Nat} {kx : Nat} (hr : PDGs w X es (tNs is)) (hl : es.length = is.length := by rfl) (hc : X.calm = true := by rfl) (hn : (assignEach es X.env).length = es.length := by rfl) (hst : (assignEach es X.env).findIdx? (·.1) = none := by rfl) : PDG w X (.Tuple es kx pos) (tL is) := by
  obtain ⟨g, h1, h2⟩ := hr
  refine ⟨_, pg_lst hc h1 hn hst, fun G0 H0 B σ ρ H G x d k Q s r h q => ?_⟩
  cases r with
  | @lst a xs ds t1 r1 => exact ⟨a, xs, rfl, SqL.of (s.stp.sub _ _ t1), by rw [r1.len, tNs_len is ds ρ k h, hl], h2 G0 H0 B σ ρ H G xs ds k Q s r1 h q⟩
  | _ => exact h.elim
end
/-! the other law of pages -/
def F__law_values : D1 := fun ds P => match ds with
  | [.tuple es] => ∃ cs, es = iD cs ∧ cs.length ≤ 255 ∧ cs.all isB = true ∧ P (decD cs)
  | _ => False
def rdD (cs : List Int) : DD := match rdP cs with
  | some p => pgD p
  | none => .none
def F__law_read40 : D1 := fun ds P => match ds with
  | [.list es] => ∃ cs, es = iD cs ∧ cs.length ≤ 100000 ∧ cs.all isB = true ∧ P (rdD cs)
  | _ => False
def F__law_told : D1 := fun ds P => match ds with
  | [.list es] => ∃ cs, es = iD cs ∧ cs.length ≤ 100000 ∧ cs.all isB = true ∧ P (.list [.bool true, rdD cs])
  | _ => False
def pgL : Pg → DD
  | .leaf es => .tuple [.str LEAFS, .list (es.map entD)]
  | .inner cs => .tuple [.str INNERS, .list (cs.map chlD)]
def F__law_page_bytes40 : D1 := fun ds P => ∃ p, (ds = [pgD p] ∨ ds = [pgL p]) ∧ OkPg p ∧ P (wrD p)
def F__law_page40 : D1 := fun ds P => ds = [] ∧ ∀ p, OkPg p → (pgB p).length ≤ 256 → P (pgD p)
end Z

set_option Elab.async false
set_option linter.all false
set_option maxRecDepth 100000
set_option maxHeartbeats 4000000
/-! M: a def's meaning over plain data and things that turn (lists, dicts, instances), each thing told by a cell at its address -/
namespace M
open PySem PySem.Spec PyProof.Rows L2 Z
/-- a value: a plain datum, or the address of a thing that may turn -/
inductive MV where
  | d (x : DD)
  | a (p : Addr)
inductive Cell where
  | L (xs : List MV)
  | D (kvs : List (Key × MV))
  | O (C : Addr) (fs : List (Str × MV))
  /-- the drawing state over these numbers -/
  | S (ns : List Int)
abbrev Mu := Addr → Option Cell
def up (μ : Mu) (p : Addr) (c : Cell) : Mu := fun b => if b = p then some c else μ b
def dn (μ : Mu) (p : Addr) : Mu := fun b => if b = p then none else μ b
theorem up_same {μ : Mu} {p : Addr} {c : Cell} : up μ p c p = some c := by unfold up; rw [if_pos rfl]
theorem up_ne {μ : Mu} {p b : Addr} {c : Cell} (h : b ≠ p) : up μ p c b = μ b := by unfold up; rw [if_neg h]
theorem dn_same {μ : Mu} {p : Addr} : dn μ p p = none := by unfold dn; rw [if_pos rfl]
theorem dn_ne {μ : Mu} {p b : Addr} (h : b ≠ p) : dn μ p b = μ b := by unfold dn; rw [if_neg h]
def Rm (K : PySem.W.Frag) (G : Hp) (v : V) : MV → Prop
  | .d x => Rp K G v x
  | .a p => v = .ref p
abbrev RmL (K : PySem.W.Frag) (G : Hp) : List V → List MV → Prop := Paired (Rm K G)
abbrev RmK (κ : Type) (K : PySem.W.Frag) (G : Hp) : List (κ × V) → List (κ × MV) → Prop := Paired fun p q => p.1 = q.1 ∧ Rm K G p.2 q.2
def Rc (K : PySem.W.Frag) (G : Hp) : HO → Cell → Prop
  | .lst vs, .L xs => RmL K G vs xs
  | .dK kvs, .D ms => RmK Key K G kvs ms
  | .ins C _ fs, .O C' ms => C = C' ∧ RmK Str K G fs ms
  | .lst vs, .S ns => ∃ (l : Addr) (i : Nat) (v s : Int), G l = some (.lst (ns.map V.int)) ∧ vs = [.ref l, .int i, .int v, .int s] ∧ i ≤ ns.length ∧ 0 ≤ v ∧ 0 ≤ s ∧ s < 2147483647
  | _, _ => False
section
variable {K : PySem.W.Frag} {G H G2 H2 G3 H3 : Hp}
theorem Rm.mono (s : Sub G H) {v : V} {m : MV} (h : Rm K G v m) : Rm K H v m := by
  cases m with
  | d x => exact Rp.mono s h
  | a p => exact h
theorem RmL.mono (s : Sub G H) {vs : List V} {ms : List MV} (h : RmL K G vs ms) : RmL K H vs ms := Paired.mapP h fun _ _ r => Rm.mono s r
theorem RmK.mono {κ : Type} (s : Sub G H) {vs : List (κ × V)} {ms : List (κ × MV)} (h : RmK κ K G vs ms) : RmK κ K H vs ms := Paired.mapP h fun _ _ r => ⟨r.1, Rm.mono s r.2⟩
theorem Rc.mono (s : Sub G H) {o : HO} {c : Cell} (h : Rc K G o c) : Rc K H o c := by
  cases c <;> cases o <;> first | exact h.elim | skip
  · exact RmL.mono s h
  · exact RmK.mono s h
  · exact ⟨h.1, RmK.mono s h.2⟩
  · obtain ⟨l, i, v, z, h1, h2⟩ := h
    exact ⟨l, i, v, z, s _ _ h1, h2⟩
theorem RmL.of {vs : List V} {ds : List DD} : RpAll K G vs ds → RmL K G vs (ds.map MV.d)
  | .nil => .nil
  | .cons r t => .cons r (RmL.of t)
/-- a list of plain data, read as such -/
theorem RmL.data : ∀ {vs : List V} {ds : List DD}, RmL K G vs (ds.map MV.d) → RpAll K G vs ds
  | [], [], .nil => .nil
  | _ :: _, _ :: _, .cons r t => .cons r (RmL.data t)
/-- the things that turn stand as told -/
structure OkM (K : PySem.W.Frag) (μ : Mu) (G H : Hp) : Prop where
  sub : Sub G H
  cell : ∀ a c, μ a = some c → ∃ o, H a = some o ∧ Rc K G o c
  sep : ∀ a, μ a ≠ none → G a = none
structure StpM (K : PySem.W.Frag) (μ : Mu) (G H : Hp) (μ2 : Mu) (G2 H2 : Hp) : Prop where
  up : Sub G G2
  kp : ∀ a o, μ a = none → H a = some o → H2 a = some o
  th : ∀ a, H a ≠ none → H2 a ≠ none
  nw : ∀ a, H a ≠ none → G a = none → μ a = none → G2 a = none ∧ μ2 a = none
  ok : OkM K μ2 G2 H2
variable {μ μ2 μ3 : Mu}
theorem OkM.here (k : OkM K μ G H) {a : Addr} (h : μ a ≠ none) : H a ≠ none := by
  cases e : μ a with
  | none => exact absurd e h
  | some c =>
    obtain ⟨o, h1, _⟩ := k.cell a c e
    rw [h1]; exact fun z => nomatch z
theorem OkM.fresh (k : OkM K μ G H) {a : Addr} (h : H a = none) : μ a = none := by
  cases e : μ a with
  | none => rfl
  | some c => exact absurd h (k.here (by rw [e]; exact fun z => nomatch z))
theorem OkM.gnone (k : OkM K μ G H) {a : Addr} (h : H a = none) : G a = none := by
  cases e : G a with
  | none => rfl
  | some o => rw [k.sub a o e] at h; cases h
theorem OkM.stp (k : OkM K μ G H) : StpM K μ G H μ G H := ⟨Sub.rfl, fun _ _ _ h => h, fun _ h => h, fun _ _ h n => ⟨h, n⟩, k⟩
theorem StpM.trans (a : StpM K μ G H μ2 G2 H2) (b : StpM K μ2 G2 H2 μ3 G3 H3) : StpM K μ G H μ3 G3 H3 := by
  refine ⟨a.up.trans b.up, fun x o n h => b.kp x o ?_ (a.kp x o n h), fun x h => b.th x (a.th x h), fun x h g n => b.nw x (a.th x h) (a.nw x h g n).1 (a.nw x h g n).2, b.ok⟩
  have hh : H x ≠ none := by rw [h]; exact fun z => nomatch z
  cases e : G x with
  | none => exact (a.nw x hh e n).2
  | some u =>
    cases e2 : μ2 x with
    | none => rfl
    | some c =>
      have := a.ok.sep x (by rw [e2]; exact fun z => nomatch z)
      rw [a.up x u e] at this
      cases this
/-! ### what an expression without turning does -/
/-- everything that may turn stays just as it is -/
def wdM (μ : Mu) (H : Hp) : Wd where
  st := fun a => μ a ≠ none
  fp := fun a => μ a ≠ none
  W := fun H' => ∀ a, μ a ≠ none → H' a = H a
  sf := fun _ h => h
  loc := fun e h a n => by rw [e a n]; exact h a n
  ex := fun _ _ _ _ => False
theorem OkM.okw (k : OkM K μ G H) : Okw (wdM μ H) G H := ⟨k.sub, fun _ _ => rfl, fun a h => k.sep a h, fun a h => k.here h⟩
theorem OkM.lift (k : OkM K μ G H) (s : Stp (wdM μ H) G H G2 H2) : StpM K μ G H μ G2 H2 := by
  refine ⟨s.up, fun x o n h => s.kp x o (fun z => z n) h, s.th, fun x h g n => ⟨s.nw x h g, n⟩, s.sub, fun x c e => ?_, fun x n => s.nw x (k.here n) (k.sep x n)⟩
  obtain ⟨o, h1, h2⟩ := k.cell x c e
  exact ⟨o, by rw [s.wd x (by rw [e]; exact fun z => nomatch z)]; exact h1, h2.mono s.up⟩
/-- a new thing -/
theorem OkM.new (k : OkM K μ G H) {p : Addr} {o : HO} {c : Cell} (h : H p = none) (r : Rc K G o c) : StpM K μ G H (M.up μ p c) G (L2.upd H p o) := by
  have ne : ∀ {b : Addr} {u : HO}, H b = some u → b ≠ p := fun e => ne_of_none e h
  refine ⟨Sub.rfl, fun x u _ e => by rw [upd_ne (ne e)]; exact e, fun x e => ?_, fun x e g n => ⟨g, ?_⟩, fun x u e => ?_, fun x u e => ?_, fun x n => ?_⟩
  · rw [upd_ne (fun z => e (by rw [z]; exact h))]; exact e
  · rw [up_ne (fun z => e (by rw [z]; exact h))]; exact n
  · rw [upd_ne (ne (k.sub x u e))]; exact k.sub x u e
  · by_cases z : x = p
    · subst z
      rw [up_same] at e; cases e
      exact ⟨o, upd_same, r⟩
    · rw [up_ne z] at e
      rw [upd_ne z]; exact k.cell x u e
  · by_cases z : x = p
    · subst z; exact k.gnone h
    · rw [up_ne z] at n; exact k.sep x n
/-- a thing turns -/
theorem OkM.turn (k : OkM K μ G H) {p : Addr} {o : HO} {c c0 : Cell} (h : μ p = some c0) (r : Rc K G o c) : StpM K μ G H (M.up μ p c) G (L2.upd H p o) := by
  have hp : μ p ≠ none := by rw [h]; exact fun z => nomatch z
  refine ⟨Sub.rfl, fun x u n e => ?_, fun x e => ?_, fun x e g n => ⟨g, ?_⟩, fun x u e => ?_, fun x u e => ?_, fun x n => ?_⟩
  · rw [upd_ne (fun z => hp (by rw [← z]; exact n))]; exact e
  · by_cases z : x = p
    · subst z; rw [upd_same]; exact fun z => nomatch z
    · rw [upd_ne z]; exact e
  · rw [up_ne (fun z => hp (by rw [← z]; exact n))]; exact n
  · have : x ≠ p := fun z => by
      have := k.sep p hp
      rw [z, this] at e; cases e
    rw [upd_ne this]; exact k.sub x u e
  · by_cases z : x = p
    · subst z
      rw [up_same] at e; cases e
      exact ⟨o, upd_same, r⟩
    · rw [up_ne z] at e
      rw [upd_ne z]; exact k.cell x u e
  · by_cases z : x = p
    · subst z; exact k.sep x hp
    · rw [up_ne z] at n; exact k.sep x n
/-- a thing is no longer told of -/
theorem OkM.drop (k : OkM K μ G H) (p : Addr) : StpM K μ G H (dn μ p) G H := by
  refine ⟨Sub.rfl, fun _ _ _ e => e, fun _ e => e, fun x e g n => ⟨g, ?_⟩, k.sub, fun x u e => ?_, fun x n => ?_⟩
  · by_cases z : x = p
    · subst z; exact dn_same
    · rw [dn_ne z]; exact n
  · by_cases z : x = p
    · subst z; rw [dn_same] at e; cases e
    · rw [dn_ne z] at e; exact k.cell x u e
  · by_cases z : x = p
    · subst z; exact absurd dn_same n
    · rw [dn_ne z] at n; exact k.sep x n
/-- a new thing that somebody has made meanwhile -/
theorem StpM.adopt (s : StpM K μ G H μ2 G2 H2) {p : Addr} {o : HO} {c : Cell} (h : H p = none) (g2 : G2 p = none) (e2 : H2 p = some o) (r : Rc K G2 o c) : StpM K μ G H (M.up μ2 p c) G2 H2 := by
  refine ⟨s.up, s.kp, s.th, fun x z g n => ?_, s.ok.sub, fun x u z => ?_, fun x z => ?_⟩
  · have : x ≠ p := fun y => z (by rw [y]; exact h)
    rw [up_ne this]; exact s.nw x z g n
  · by_cases y : x = p
    · subst y; rw [up_same] at z; cases z; exact ⟨o, e2, r⟩
    · rw [up_ne y] at z; exact s.ok.cell x u z
  · by_cases y : x = p
    · subst y; exact g2
    · rw [up_ne y] at z; exact s.ok.sep x z
/-- a list of plain data becomes a datum: from now on it does not turn -/
theorem OkM.freeze (k : OkM K μ G H) {p : Addr} {ds : List DD} (h : μ p = some (.L (ds.map MV.d))) : ∃ G2, StpM K μ G H (dn μ p) G2 H ∧ Rp K G2 (.ref p) (.list ds) := by
  obtain ⟨o, h1, h2⟩ := k.cell p _ h
  have hp : μ p ≠ none := by rw [h]; exact fun z => nomatch z
  have gp := k.sep p hp
  cases o with
  | lst vs =>
    have r : RpAll K G vs ds := RmL.data h2
    have sb : Sub G (upd G p (.lst vs)) := Sub.new gp
    refine ⟨upd G p (.lst vs), ⟨sb, fun _ _ _ e => e, fun _ e => e, fun x e g n => ?_, fun x u e => ?_, fun x u e => ?_, fun x n => ?_⟩, .lst upd_same (r.mono sb)⟩
    · have : x ≠ p := fun z => hp (by rw [← z]; exact n)
      rw [upd_ne this, dn_ne this]; exact ⟨g, n⟩
    · by_cases z : x = p
      · subst z; rw [upd_same] at e; rw [← e]; exact h1
      · rw [upd_ne z] at e; exact k.sub x u e
    · by_cases z : x = p
      · subst z; rw [dn_same] at e; cases e
      · rw [dn_ne z] at e
        obtain ⟨o, q1, q2⟩ := k.cell x u e
        exact ⟨o, q1, q2.mono sb⟩
    · by_cases z : x = p
      · subst z; exact absurd dn_same n
      · rw [dn_ne z] at n
        rw [upd_ne z]; exact k.sep x n
  | _ => exact h2.elim
end
end M

set_option Elab.async false
set_option linter.all false
set_option maxRecDepth 100000
set_option maxHeartbeats 4000000
/-! M: expressions -/
namespace M
open PySem PySem.Spec PyProof.Rows L2 Z
abbrev ME := En → Mu → (MV → Mu → Prop) → (Str → Mu → Prop) → Prop
abbrev MT := En → Mu → (Bool → Mu → Prop) → (Str → Mu → Prop) → Prop
abbrev MA := En → Mu → (List MV → Mu → Prop) → (Str → Mu → Prop) → Prop
/-- what is wished where an error leaves -/
def XM (W : WX) (K : PySem.W.Frag) (σ : L2.St) (μ : Mu) (G H : Hp) (PX : Str → Mu → Prop) : Prop := ∀ x μ2 G2 H2, StpM K μ G H μ2 G2 H2 → PX x μ2 → W (.ref (He.ga K x)) none σ H2
def REM (W : WX) (K : PySem.W.Frag) (te : TE) (tm : ME) : Prop := ∀ σ ρ μ G H (P : MV → Mu → Prop) (PX : Str → Mu → Prop) (Q : VK), OkM K μ G H → SlOk K G σ ρ → tm ρ μ P PX →
  (∀ v m μ2 G2 H2, StpM K μ G H μ2 G2 H2 → Rm K G2 v m → P m μ2 → Q v H2) → XM W K σ μ G H PX → te σ H Q
def RTM (W : WX) (K : PySem.W.Frag) (tt : TT) (tm : MT) : Prop := ∀ σ ρ μ G H (P : Bool → Mu → Prop) (PX : Str → Mu → Prop) (Q : Bool → Hp → Prop), OkM K μ G H → SlOk K G σ ρ → tm ρ μ P PX →
  (∀ b μ2 G2 H2, StpM K μ G H μ2 G2 H2 → P b μ2 → Q b H2) → XM W K σ μ G H PX → tt σ H Q
def RAM (W : WX) (K : PySem.W.Frag) (n : Nat) (ta : TA) (tm : MA) : Prop := ∀ σ ρ μ G H (P : List MV → Mu → Prop) (PX : Str → Mu → Prop) (Q : List V → Hp → Prop), OkM K μ G H → SlOk K G σ ρ → tm ρ μ P PX →
  (∀ vs ms μ2 G2 H2, StpM K μ G H μ2 G2 H2 → RmL K G2 vs ms → vs.length = n → P ms μ2 → Q vs H2) → XM W K σ μ G H PX → ta σ H Q
structure PM (W : WX) (X : Cx) (e : Expr) (tm : ME) : Prop where
  ex : ∃ te, PE X e te ∧ REM W X.K te tm
structure PMT (W : WX) (X : Cx) (e : Expr) (tm : MT) : Prop where
  ex : ∃ te, PT X e te ∧ RTM W X.K te tm
structure PMW (W : WX) (X : Cx) (e : Expr) (tm : MT) : Prop where
  ex : ∃ te, PW X e te ∧ RTM W X.K te tm
structure PMA (W : WX) (X : Cx) (es : List Expr) (tm : MA) : Prop where
  ex : ∃ te, PA X es te ∧ RAM W X.K es.length te tm
theorem XM.step {W : WX} {K : PySem.W.Frag} {σ : L2.St} {μ μ2 : Mu} {G H G2 H2 : Hp} {PX : Str → Mu → Prop} (h : XM W K σ μ G H PX) (s : StpM K μ G H μ2 G2 H2) : XM W K σ μ2 G2 H2 PX :=
  fun x μ3 G3 H3 s3 p => h x μ3 G3 H3 (s.trans s3) p
section
variable {W : WX} {X : Cx} {a b e o : Expr} {es : List Expr} {ta tb to : ME} {pos apos : Pos}
/-! ### what turns nothing: the rules over plain data -/
def mP (td : DE) : ME := fun ρ μ P _ => td ρ fun d => P (.d d) μ
def mPT (td : DT) : MT := fun ρ μ P _ => td ρ fun d => P d μ
def mPN (td : DA) : ME := fun ρ μ P _ => td ρ fun ds => ∀ p, μ p = none → P (.a p) (M.up μ p (.L (ds.map MV.d)))
theorem pm_pd {td : DE} (h : ∀ w : Wd, PD w X e td) : PM W X e (mP td) := by
  refine ⟨fun σ H Q => ∃ w : Wd, Classical.choose (h w).ex σ H Q, ⟨fun pins s σ H Q I ⟨w, q⟩ => (Classical.choose_spec (h w).ex).1.run pins s σ H Q I q⟩, fun σ ρ μ G H P PX Q k s h1 q _ => ?_⟩
  exact ⟨wdM μ H, (Classical.choose_spec (h (wdM μ H)).ex).2 σ ρ G H _ Q k.okw s h1 fun v d G2 H2 s2 r p => q v (.d d) μ G2 H2 (k.lift s2) r p⟩
theorem pm_pt {td : DT} (h : ∀ w : Wd, PDT w X e td) : PMT W X e (mPT td) := by
  refine ⟨fun σ H Q => ∃ w : Wd, Classical.choose (h w).ex σ H Q, ⟨fun pins s σ H Q I ⟨w, q⟩ => (Classical.choose_spec (h w).ex).1.run pins s σ H Q I q⟩, fun σ ρ μ G H P PX Q k s h1 q _ => ?_⟩
  exact ⟨wdM μ H, (Classical.choose_spec (h (wdM μ H)).ex).2 σ ρ G H _ Q k.okw s h1 fun d G2 H2 s2 p => q d μ G2 H2 (k.lift s2) p⟩
/-- a new list of plain data that may turn -/
theorem pm_pn {td : DA} (h : ∀ w : Wd, PDN w X e td) : PM W X e (mPN td) := by
  refine ⟨fun σ H Q => ∃ w : Wd, Classical.choose (h w).ex σ H Q, ⟨fun pins s σ H Q I ⟨w, q⟩ => (Classical.choose_spec (h w).ex).1.run pins s σ H Q I q⟩, fun σ ρ μ G H P PX Q k s h1 q _ => ?_⟩
  refine ⟨wdM μ H, (Classical.choose_spec (h (wdM μ H)).ex).2 σ ρ G H _ Q k.okw s h1 fun p xs ds G2 H2 s2 n1 n2 n3 r p1 => ?_⟩
  exact q (.ref p) (.a p) (M.up μ p (.L (ds.map MV.d))) G2 H2 ((k.lift s2).adopt n1 n2 n3 (RmL.of r)) rfl (p1 p (k.fresh n1))
/-- a name -/
def mN (i : Nat) : ME := fun ρ μ P _ => match ρ[i]? with
  | some (.dat d) => P (.d d) μ
  | some (.adr a) => P (.a a) μ
  | _ => False
theorem pm_n (i : Nat) {x : Str} {pos : Pos} (hN : X.N[i]? = some x := by rfl) (hv : Vis X.env.scope x := by first | exact Or.inl rfl | exact Or.inr (Or.inl rfl) | exact Or.inr (Or.inr rfl)) (hd : (x == ("__debug__" : Str)) = false := by decide)
    (hcd : (x == ("__classdict__" : Str)) = false := by decide) : PM W X (.Name x pos) (mN i) := by
  refine ⟨_, pe_var hN hv hd hcd, fun σ ρ μ G H P PX Q k s h q _ => ?_⟩
  unfold mN at h
  split at h
  · rename_i d e1
    obtain ⟨v, e2, r⟩ := s.dat _ _ e1
    exact ⟨v, e2, q v (.d d) μ G H k.stp r h⟩
  · rename_i a e1
    exact ⟨_, s.adr _ _ e1, q _ (.a a) μ G H k.stp rfl h⟩
  · exact h.elim
/-- a list of plain data, read as a datum from here on -/
def mFz (tm : ME) : ME := fun ρ μ P PX => tm ρ μ (fun m μ1 => match m with
  | .d d => P (.d d) μ1
  | .a p => ∃ ds : List DD, μ1 p = some (.L (ds.map MV.d)) ∧ P (.d (.list ds)) (dn μ1 p)) PX
theorem pm_fz (h : PM W X e ta) : PM W X e (mFz ta) := by
  obtain ⟨te, h1, h2⟩ := h
  refine ⟨te, h1, fun σ ρ μ G H P PX Q k s h q x => h2 σ ρ μ G H _ PX Q k s h (fun v m μ1 G1 H1 s1 r1 p1 => ?_) x⟩
  cases m with
  | d d => exact q v (.d d) μ1 G1 H1 s1 r1 p1
  | a p =>
    obtain ⟨ds, e1, p1⟩ := p1
    have e2 : v = .ref p := r1
    subst e2
    obtain ⟨G2, s2, r2⟩ := s1.ok.freeze e1
    exact q _ (.d (.list ds)) (dn μ1 p) G2 H1 (s1.trans s2) r2 p1
/-! ### argument lists -/
def mNil : MA := fun _ μ P _ => P [] μ
def mCons (ta : ME) (tr : MA) : MA := fun ρ μ P PX => ta ρ μ (fun x μ1 => tr ρ μ1 (fun xs μ2 => P (x :: xs) μ2) PX) PX
theorem ma_nil : PMA W X [] mNil := ⟨_, pa_nil, fun _ _ μ G H _ _ _ k _ h q _ => q _ _ μ G H k.stp .nil rfl h⟩
theorem ma_cons {tr : MA} (ha : PM W X e ta) (hr : PMA W X es tr) (hs : starEach (e :: es) X.env = (false, eval e X.env) :: starEach es X.env := by rfl) : PMA W X (e :: es) (mCons ta tr) := by
  obtain ⟨te, a1, a2⟩ := ha
  obtain ⟨ts, b1, b2⟩ := hr
  refine ⟨_, pa_cons a1 b1 hs, fun σ ρ μ G H P PX Q k s h q x => ?_⟩
  refine a2 σ ρ μ G H _ PX _ k s h (fun v m μ1 G1 H1 s1 r1 p1 => ?_) x
  refine b2 σ ρ μ1 G1 H1 _ PX _ s1.ok (s.mono s1.up) p1 (fun vs ms μ2 G2 H2 s2 r2 l2 p2 => ?_) (x.step s1)
  exact q _ (m :: ms) μ2 G2 H2 (s1.trans s2) (.cons (r1.mono s2.up) r2) (by rw [List.length_cons, List.length_cons, l2]) p2
/-! ### operations on data, whose parts may turn something -/
def mOp (g : D2) (ta tb : ME) : ME := fun ρ μ P PX => ta ρ μ (fun x μ1 => tb ρ μ1 (fun y μ2 => match x, y with
  | .d d, .d e => g d e fun z => P (.d z) μ2
  | _, _ => False) PX) PX
theorem opM {f : Value → Value → Sem Value} {g : D2} (h : ∀ w : Wd, OpD w X f g) : ∃ r, OpR X f r ∧ ∀ w, RO w X.K r g :=
  ⟨fun x y H Q => ∃ w : Wd, Classical.choose (h w) x y H Q, fun pins s σ H x y v u Q I r1 r2 ⟨w, q⟩ => (Classical.choose_spec (h w)).1 pins s σ H x y v u Q I r1 r2 q,
    fun w x y d e G H P Q k r1 r2 h1 q => ⟨w, (Classical.choose_spec (h w)).2 x y d e G H P Q k r1 r2 h1 q⟩⟩
theorem rem_op {r : R2} {g : D2} {ta' tb' : TE} (ho : ∀ w, RO w X.K r g) (ha : REM W X.K ta' ta) (hb : REM W X.K tb' tb) : REM W X.K (tOp r ta' tb') (mOp g ta tb) := by
  intro σ ρ μ G H P PX Q k s h q x
  refine ha σ ρ μ G H _ PX _ k s h (fun v m μ1 G1 H1 s1 r1 p1 => ?_) x
  refine hb σ ρ μ1 G1 H1 _ PX _ s1.ok (s.mono s1.up) p1 (fun v2 m2 μ2 G2 H2 s2 r2 p2 => ?_) (x.step s1)
  cases m with
  | a p => exact p2.elim
  | d d =>
    cases m2 with
    | a p => exact p2.elim
    | d e =>
      have k2 := s2.ok
      exact ho (wdM μ2 H2) v v2 d e G2 H2 _ Q k2.okw (Rp.mono s2.up r1) r2 p2 fun z dz G3 H3 s3 r3 p3 => q z (.d dz) μ2 G3 H3 ((s1.trans s2).trans (k2.lift s3)) r3 p3
theorem pm_op {op : Operator} {g : D2} (ho : ∀ w : Wd, OpD w X (binaryOp op) g) (ha : PM W X a ta) (hb : PM W X b tb) : PM W X (.BinOp a op b pos) (mOp g ta tb) := by
  obtain ⟨r, o1, o2⟩ := opM ho
  obtain ⟨ta', a1, a2⟩ := ha
  obtain ⟨tb', b1, b2⟩ := hb
  exact ⟨_, pe_op o1 a1 b1, rem_op o2 a2 b2⟩
theorem pm_cmp {op : CmpOp} {g : D2} (ho : ∀ w : Wd, OpD w X (compareOp op) g) (ha : PM W X a ta) (hb : PM W X b tb) (hm : behindInMarks op b = false := by first | exact nomark _ (by decide) (by decide) | rfl) : PM W X (.Compare a [op] [b] pos) (mOp g ta tb) := by
  obtain ⟨r, o1, o2⟩ := opM ho
  obtain ⟨ta', a1, a2⟩ := ha
  obtain ⟨tb', b1, b2⟩ := hb
  exact ⟨_, pe_cmpR o1 a1 b1 hm, rem_op o2 a2 b2⟩
end
end M

set_option Elab.async false
set_option linter.all false
set_option maxRecDepth 100000
set_option maxHeartbeats 4000000
/-! M: fields, places of lists, keys of dicts; calls -/
namespace M
open PySem PySem.Spec PyProof.Rows L2 Z
section
variable {κ : Type} [DecidableEq κ]
def valM (ms : List (κ × MV)) (k : κ) : Option MV := (ms.find? fun kv => decide (kv.1 = k)).map (·.2)
def putM (ms : List (κ × MV)) (k : κ) (v : MV) : List (κ × MV) :=
  if (ms.any fun kv => decide (kv.1 = k)) = true then ms.map (fun kv => if kv.1 = k then (kv.1, v) else kv) else ms ++ [(k, v)]
variable {K : PySem.W.Frag} {G : Hp}
theorem RmK.val {k : κ} : ∀ {vs : List (κ × V)} {ms : List (κ × MV)}, RmK κ K G vs ms → (valM ms k = none → valV vs k = none) ∧ ∀ m, valM ms k = some m → ∃ v, valV vs k = some v ∧ Rm K G v m
  | _, _, .nil => ⟨fun _ => rfl, fun _ h => (by cases h)⟩
  | p :: vs, q :: ms, .cons r t => by
    have ih := RmK.val (k := k) t
    by_cases e : q.1 = k
    · have e' : p.1 = k := r.1.trans e
      have h1 : valM (q :: ms) k = some q.2 := by simp [valM, List.find?_cons, e]
      have h2 : valV (p :: vs) k = some p.2 := by simp [valV, List.find?_cons, e']
      rw [h1, h2]
      exact ⟨fun z => (nomatch z), fun m z => ⟨p.2, rfl, by cases z; exact r.2⟩⟩
    · have e' : ¬ p.1 = k := fun z => e (r.1.symm.trans z)
      have h1 : valM (q :: ms) k = valM ms k := by simp [valM, List.find?_cons, e]
      have h2 : valV (p :: vs) k = valV vs k := by simp [valV, List.find?_cons, e']
      rw [h1, h2]; exact ih
theorem RmK.any {k : κ} : ∀ {vs : List (κ × V)} {ms : List (κ × MV)}, RmK κ K G vs ms → (vs.any fun kv => decide (kv.1 = k)) = (ms.any fun kv => decide (kv.1 = k))
  | _, _, .nil => rfl
  | _, _, .cons r t => by rw [List.any_cons, List.any_cons, r.1, RmK.any t]
theorem RmK.map {k : κ} {v : V} {m : MV} (h : Rm K G v m) : ∀ {vs : List (κ × V)} {ms : List (κ × MV)}, RmK κ K G vs ms →
    RmK κ K G (vs.map fun kv => if kv.1 = k then (kv.1, v) else kv) (ms.map fun kv => if kv.1 = k then (kv.1, m) else kv)
  | _, _, .nil => .nil
  | p :: _, q :: _, .cons r t => by
    refine .cons ?_ (RmK.map h t)
    by_cases e : q.1 = k
    · simp only [if_pos e, if_pos (r.1.trans e)]; exact ⟨r.1, h⟩
    · simp only [if_neg e, if_neg (fun z : p.1 = k => e (r.1.symm.trans z))]; exact r
theorem RmK.snoc {k : κ} {v : V} {m : MV} (h : Rm K G v m) : ∀ {vs : List (κ × V)} {ms : List (κ × MV)}, RmK κ K G vs ms → RmK κ K G (vs ++ [(k, v)]) (ms ++ [(k, m)])
  | _, _, .nil => .cons ⟨rfl, h⟩ .nil
  | _, _, .cons r t => .cons r (RmK.snoc h t)
theorem RmK.put {k : κ} {v : V} {m : MV} {vs : List (κ × V)} {ms : List (κ × MV)} (r : RmK κ K G vs ms) (h : Rm K G v m) : RmK κ K G (putK vs k v) (putM ms k m) := by
  unfold putK putM
  rw [r.any]
  split
  · exact r.map h
  · exact r.snoc h
end
section
variable {K : PySem.W.Frag} {G : Hp}
theorem RmL.len : ∀ {vs : List V} {ms : List MV}, RmL K G vs ms → vs.length = ms.length
  | _, _, .nil => rfl
  | _, _, .cons _ t => congrArg (· + 1) (RmL.len t)
theorem RmL.getM : ∀ {vs : List V} {ms : List MV} {i : Nat} {m : MV}, RmL K G vs ms → ms[i]? = some m → ∃ v, vs[i]? = some v ∧ Rm K G v m
  | _, _, _, _, .nil, h => by simp at h
  | _, _, 0, _, .cons r _, h => by
    have e := Option.some.inj h
    subst e
    exact ⟨_, rfl, r⟩
  | _, _, i + 1, _, .cons _ t, h => RmL.getM (i := i) t h
theorem RmL.at_ {vs : List V} {ms : List MV} {i : Int} {m : MV} (r : RmL K G vs ms) (h : atI ms i = some m) : ∃ v, atI vs i = some v ∧ Rm K G v m := by
  unfold atI at h ⊢
  rw [r.len]
  cases e : ixN ms.length i with
  | none => rw [e] at h; cases h
  | some j =>
    rw [e] at h
    exact r.getM h
theorem RmL.app : ∀ {vs ws : List V} {ms ns : List MV}, RmL K G vs ms → RmL K G ws ns → RmL K G (vs ++ ws) (ms ++ ns)
  | _, _, _, _, .nil, h => h
  | _, _, _, _, .cons r t, h => .cons r (RmL.app t h)
theorem RmL.setAt {v : V} {m : MV} (h : Rm K G v m) : ∀ {vs : List V} {ms : List MV} (j : Nat), RmL K G vs ms → RmL K G (vs.set j v) (ms.set j m)
  | _, _, _, .nil => .nil
  | _, _, 0, .cons _ t => .cons h t
  | _, _, j + 1, .cons r t => .cons r (RmL.setAt h j t)
theorem RmK.look {f : Str} : ∀ {vs : List (Str × V)} {ms : List (Str × MV)}, RmK Str K G vs ms → (ms.lookup f = none → vs.lookup f = none) ∧ ∀ m, ms.lookup f = some m → ∃ v, vs.lookup f = some v ∧ Rm K G v m
  | _, _, .nil => ⟨fun _ => rfl, fun _ h => (by cases h)⟩
  | p :: vs, q :: ms, .cons r t => by
    have ih := RmK.look (f := f) t
    obtain ⟨p1, p2⟩ := p
    obtain ⟨q1, q2⟩ := q
    have e : p1 = q1 := r.1
    subst e
    simp only [List.lookup_cons]
    cases h : f == p1 with
    | true => exact ⟨fun z => (nomatch z), fun m z => ⟨p2, rfl, by cases z; exact r.2⟩⟩
    | false => exact ih
def putFM (f : Str) (v : MV) : List (Str × MV) → List (Str × MV)
  | [] => [(f, v)]
  | (g, x) :: r => if g = f then (g, v) :: r else (g, x) :: putFM f v r
theorem RmK.putF {f : Str} {v : V} {m : MV} (h : Rm K G v m) : ∀ {vs : List (Str × V)} {ms : List (Str × MV)}, RmK Str K G vs ms → RmK Str K G (L2.putF f v vs) (putFM f m ms)
  | _, _, .nil => .cons ⟨rfl, h⟩ .nil
  | p :: vs, q :: ms, .cons r t => by
    obtain ⟨p1, p2⟩ := p
    obtain ⟨q1, q2⟩ := q
    have e : p1 = q1 := r.1
    subst e
    unfold L2.putF putFM
    split
    · exact .cons ⟨rfl, h⟩ t
    · exact .cons r (RmK.putF h t)
end
/-- a cell of each kind, as it stands in the heap -/
theorem OkM.lst {K : PySem.W.Frag} {μ : Mu} {G H : Hp} (k : OkM K μ G H) {p : Addr} {xs : List MV} (h : μ p = some (.L xs)) : ∃ vs, H p = some (.lst vs) ∧ RmL K G vs xs := by
  obtain ⟨o, h1, h2⟩ := k.cell p _ h
  cases o <;> first | exact h2.elim | exact ⟨_, h1, h2⟩
theorem OkM.dct {K : PySem.W.Frag} {μ : Mu} {G H : Hp} (k : OkM K μ G H) {p : Addr} {ms : List (Key × MV)} (h : μ p = some (.D ms)) : ∃ vs, H p = some (.dK vs) ∧ RmK Key K G vs ms := by
  obtain ⟨o, h1, h2⟩ := k.cell p _ h
  cases o <;> first | exact h2.elim | exact ⟨_, h1, h2⟩
theorem OkM.ins {K : PySem.W.Frag} {μ : Mu} {G H : Hp} (k : OkM K μ G H) {p C : Addr} {ms : List (Str × MV)} (h : μ p = some (.O C ms)) : ∃ dx fs, H p = some (.ins C dx fs) ∧ RmK Str K G fs ms := by
  obtain ⟨o, h1, h2⟩ := k.cell p _ h
  cases o <;> first | exact h2.elim | (obtain ⟨rfl, h2⟩ := h2; exact ⟨_, _, h1, h2⟩)
section
variable {W : WX} {X : Cx} {a b e o : Expr} {es : List Expr} {ta tb to : ME} {pos apos : Pos} {C : Addr} {f : Str}
/-- e.f, an attribute of an instance of C -/
def mFld (C : Addr) (f : Str) (ta : ME) : ME := fun ρ μ P PX => ta ρ μ (fun x μ1 => match x with
  | .a p => ∃ fs v, μ1 p = some (.O C fs) ∧ fs.lookup f = some v ∧ P v μ1
  | _ => False) PX
theorem pm_fld (c : Cls X.K C) (n : NoAttr X.K C f) (ha : PM W X e ta) (hb : attributeBase e f X.env (eval e X.env) = eval e X.env := by rfl) : PM W X (.Attribute e f pos) (mFld C f ta) := by
  obtain ⟨te, a1, a2⟩ := ha
  refine ⟨_, pe_fld a1 hb, fun σ ρ μ G H P PX Q k s h q x => a2 σ ρ μ G H _ PX _ k s h (fun v m μ1 G1 H1 s1 r1 p1 => ?_) x⟩
  cases m with
  | d d => exact p1.elim
  | a p =>
    obtain ⟨fs, mv, h1, h2, p1⟩ := p1
    obtain ⟨dx, vs, e1, r2⟩ := s1.ok.ins h1
    obtain ⟨v', e2, r3⟩ := r2.look.2 mv h2
    have e3 : v = .ref p := r1
    exact ⟨p, C, dx, vs, v', e3, e1, c, n, e2, q v' mv μ1 G1 H1 s1 r3 p1⟩
/-- xs[i], xs a list that may turn -/
def mIx (ta tb : ME) : ME := fun ρ μ P PX => ta ρ μ (fun x μ1 => tb ρ μ1 (fun y μ2 => match x, y with
  | .a p, .d (.int i) => ∃ xs v, μ2 p = some (.L xs) ∧ atI xs i = some v ∧ P v μ2
  | _, _ => False) PX) PX
theorem pm_ix (ha : PM W X a ta) (hb : PM W X b tb) (hs : PlainIx b := by exact fun _ _ => rfl) : PM W X (.Subscript a b pos) (mIx ta tb) := by
  obtain ⟨ta', a1, a2⟩ := ha
  obtain ⟨tb', b1, b2⟩ := hb
  refine ⟨_, pe_ix ix_seq a1 b1 hs, fun σ ρ μ G H P PX Q k s h q x => a2 σ ρ μ G H _ PX _ k s h (fun v m μ1 G1 H1 s1 r1 p1 => b2 σ ρ μ1 G1 H1 _ PX _ s1.ok (s.mono s1.up) p1 (fun v2 m2 μ2 G2 H2 s2 r2 p2 => ?_) (x.step s1)) x⟩
  cases m with
  | d d => exact p2.elim
  | a p =>
    cases m2 with
    | a _ => exact p2.elim
    | d d =>
      cases r2' : d with
      | int i =>
        subst r2'
        obtain ⟨xs, mv, h1, h2, p2⟩ := p2
        obtain ⟨vs, e1, r3⟩ := s2.ok.lst h1
        obtain ⟨v', e2, r4⟩ := r3.at_ h2
        have e3 : v = .ref p := r1
        have e4 : v2 = .int i := by cases (show Rp X.K G2 v2 (.int i) from r2); rfl
        exact .inl ⟨p, vs, i, v', e3, e4, SqL.of e1, e2, q v' mv μ2 G2 H2 (s1.trans s2) r4 p2⟩
      | _ => subst r2'; exact p2.elim
/-- d[k], d a dict that may turn; k an int or a text -/
def keyD : DD → Option Key
  | .int i => some (.inl i)
  | .str z => some (.inr z)
  | _ => none
theorem keyD_V {K : PySem.W.Frag} {G : Hp} {v : V} {d : DD} {k : Key} (h : keyD d = some k) (r : Rp K G v d) : v = kV k := by
  cases r <;> first | (cases h; rfl) | cases h
def mGet (ta tb : ME) : ME := fun ρ μ P PX => ta ρ μ (fun x μ1 => tb ρ μ1 (fun y μ2 => match x, y with
  | .a p, .d d => ∃ ms k v, μ2 p = some (.D ms) ∧ keyD d = some k ∧ valM ms k = some v ∧ P v μ2
  | _, _ => False) PX) PX
theorem pm_get (hu : X.A.units + 1 < cLine) (ha : PM W X a ta) (hb : PM W X b tb) (hs : NoSl b) : PM W X (.Subscript a b pos) (mGet ta tb) := by
  obtain ⟨ta', a1, a2⟩ := ha
  obtain ⟨tb', b1, b2⟩ := hb
  refine ⟨_, pe_dget hu a1 b1 hs, fun σ ρ μ G H P PX Q k s h q x => a2 σ ρ μ G H _ PX _ k s h (fun v m μ1 G1 H1 s1 r1 p1 => b2 σ ρ μ1 G1 H1 _ PX _ s1.ok (s.mono s1.up) p1 (fun v2 m2 μ2 G2 H2 s2 r2 p2 => ?_) (x.step s1)) x⟩
  cases m with
  | d d => exact p2.elim
  | a p =>
    cases m2 with
    | a _ => exact p2.elim
    | d d =>
      obtain ⟨ms, ky, mv, h1, h2, h3, p2⟩ := p2
      obtain ⟨vs, e1, r3⟩ := s2.ok.dct h1
      obtain ⟨v', e2, r4⟩ := r3.val.2 mv h3
      have e3 : v = .ref p := r1
      have e4 := keyD_V h2 (show Rp X.K G2 v2 d from r2)
      subst e4
      exact ⟨p, v', e3, by rw [← e2]; exact DGet.k e1, q v' mv μ2 G2 H2 (s1.trans s2) r4 p2⟩
end
end M

set_option Elab.async false
set_option linter.all false
set_option maxRecDepth 100000
set_option maxHeartbeats 4000000
/-! M: calls of defs, of methods, of classes; tests -/
namespace M
open PySem PySem.Spec PyProof.Rows L2 Z
abbrev F1 := List MV → Mu → (MV → Mu → Prop) → (Str → Mu → Prop) → Prop
/-- the contract of a def over things that turn -/
def spM (K : PySem.W.Frag) (F : F1) : Sp := fun vs H Q E => ∃ (μ : Mu) (G : Hp) (ms : List MV) (P : MV → Mu → Prop) (PX : Str → Mu → Prop), OkM K μ G H ∧ RmL K G vs ms ∧ F ms μ P PX ∧
  (∀ v m μ2 G2 H2, StpM K μ G H μ2 G2 H2 → Rm K G2 v m → P m μ2 → Q v H2) ∧ ∀ x μ2 G2 H2, StpM K μ G H μ2 G2 H2 → PX x μ2 → E (.ref (He.ga K x)) none H2
structure FnM (P : Program) (wd : World) (K : PySem.W.Frag) (mg : Str → Option Value) (base : Heap) (k : Nat) (x : Str) (F : F1) : Prop where
  ex : ∃ f fd ps, FnOk P wd K mg base (L2.CX P wd) k f fd ps (spM K F) ∧ mg x = some (.ref f) ∧ PySem.W.keepIn K (.ref f) = true ∧ Binds K fd ps []
/-- a method m of the class C -/
structure MtM (P : Program) (wd : World) (K : PySem.W.Frag) (mg : Str → Option Value) (base : Heap) (k : Nat) (C : Addr) (m : Str) (F : F1) : Prop where
  ex : ∃ f fd ps, FnOk P wd K mg base (L2.CX P wd) k f fd ps (spM K F) ∧ Meth K C m f ∧ Binds K fd ps []
section
variable {P : Program} {wd : World} {K : PySem.W.Frag} {mg : Str → Option Value} {base : Heap} {k : Nat} {x : Str}
theorem fnOk_cx {f : Addr} {fd : FuncData} {ps : List Str} {sp : Sp} (h : FnOk P wd K mg base CX0 k f fd ps sp) : FnOk P wd K mg base (L2.CX P wd) k f fd ps sp := by
  refine ⟨h.len, fun A outer s H args us vs Q E hr he hb hv hs => codeAny_mono (h.run A outer s H args us vs Q E hr he hb hv hs) fun r s' q => ?_⟩
  cases r with
  | error e => exact q.elim
  | ok fl => cases fl <;> exact q
/-- a pure def, over plain data -/
def fP (F : D1) : F1 := fun ms μ P _ => ∃ ds : List DD, ms = ds.map MV.d ∧ F ds fun d => P (.d d) μ
/-- a pure def that may raise -/
def fX (F : D1X) : F1 := fun ms μ P PX => ∃ ds : List DD, ms = ds.map MV.d ∧ F ds (fun d => P (.d d) μ) fun x => PX x μ
/-- a def of the drawing state -/
def fS (F : D1) : F1 := fun ms μ P _ => ∃ (a : Addr) (ns : List Int) (ds : List DD), ms = .a a :: ds.map MV.d ∧ μ a = some (.S ns) ∧ F ds fun d => P (.d d) μ
theorem OkM.zero {μ : Mu} {G H : Hp} (k : OkM K μ G H) {G2 H2 : Hp} (s : Stp Wd.zero G H G2 H2) : StpM K μ G H μ G2 H2 := k.lift (s.lift k.okw)
theorem fnm_p {F : D1} (h : Fnc P wd K mg base k x F) : FnM P wd K mg base k x (fP F) := by
  obtain ⟨f, fd, ps, h1, h2⟩ := h
  refine ⟨f, fd, ps, (fnOk_cx h1).imp fun vs H Q E q => ?_, h2⟩
  obtain ⟨μ, G, ms, P, PX, ok, r, ⟨ds, rfl, hf⟩, q, _⟩ := q
  exact ⟨G, ds, _, ok.sub, RmL.data r, hf, fun v d G2 H2 s r2 p => q v (.d d) μ G2 H2 (ok.zero s) r2 p⟩
theorem fnm_x {F : D1X} (h : FncX P wd K mg base k x F) : FnM P wd K mg base k x (fX F) := by
  obtain ⟨f, fd, ps, h1, h2⟩ := h
  refine ⟨f, fd, ps, h1.imp fun vs H Q E q => ?_, h2⟩
  obtain ⟨μ, G, ms, P, PX, ok, r, ⟨ds, rfl, hf⟩, q, qx⟩ := q
  exact ⟨G, ds, _, _, ok.sub, RmL.data r, hf, fun v d G2 H2 s r2 p => q v (.d d) μ G2 H2 (ok.zero s) r2 p, fun y G2 H2 s p => qx y μ G2 H2 (ok.zero s) p⟩
theorem fnm_s {F : D1} (h : Sfn P wd K mg base k x F) : FnM P wd K mg base k x (fS F) := by
  obtain ⟨f, fd, ps, h1, h2⟩ := h
  refine ⟨f, fd, ps, (fnOk_cx h1).imp fun vs H Q E q => ?_, h2⟩
  obtain ⟨μ, G, ms, P, PX, ok, r, ⟨a, ns, ds, rfl, ha, hf⟩, q, _⟩ := q
  cases r with
  | @cons v _ vs _ r0 r =>
    have e0 : v = .ref a := r0
    subst e0
    obtain ⟨o, c1, c2⟩ := ok.cell a _ ha
    cases o <;> first | exact c2.elim | skip
    rename_i xs
    obtain ⟨l, i, v, z, g1, rfl, b1, b2, b3, b4⟩ := c2
    have hne : μ a ≠ none := by rw [ha]; exact fun z => nomatch z
    have ga := ok.sep a hne
    have la : l ≠ a := fun z => by rw [z, ga] at g1; cases g1
    have k0 : Okw (wst a l ns) G H := by
      refine ⟨ok.sub, ⟨ok.sub _ _ g1, la, i, v, z, c1, b1, b2, b3, b4⟩, fun b hb => by rw [show b = a from hb]; exact ga, fun b hb => ?_⟩
      rcases hb with rfl | rfl
      · exact ok.here hne
      · rw [ok.sub _ _ g1]; exact fun z => nomatch z
    refine ⟨a, l, ns, G, vs, ds, _, rfl, k0, RmL.data r, hf, fun v d G2 H2 s r2 p => q v (.d d) μ G2 H2 ?_ r2 p⟩
    refine ⟨s.up, fun b o n hb => s.kp b o (fun z : b = a => hne (by rw [← z]; exact n)) hb, s.th, fun b hb g n => ⟨s.nw b hb g, n⟩, s.sub, fun b c hb => ?_, fun b hb => s.nw b (ok.here hb) (ok.sep b hb)⟩
    by_cases e : b = a
    · subst e
      rw [ha] at hb; cases hb
      obtain ⟨_, _, i', v', z', w1, w2⟩ := s.wd
      exact ⟨_, w1, l, i', v', z', s.up _ _ g1, rfl, w2⟩
    · obtain ⟨o, d1, d2⟩ := ok.cell b c hb
      exact ⟨o, s.kp b o (fun z : b = a => e z) d1, d2.mono s.up⟩
end
section
variable {W : WX} {X : Cx} {a b e o : Expr} {es : List Expr} {ta to : ME} {t : MA} {pos apos p : Pos} {C : Addr} {x m : Str} {F : F1} {kf j : Nat}
def mCall (F : F1) (t : MA) : ME := fun ρ μ P PX => t ρ μ (fun ms μ1 => F ms μ1 P PX) PX
theorem pm_f (C : FnM X.prog X.w X.K X.mg X.base kf x F) (tk : Takes X W) (hr : Room j X.A) (ha : PMA W X (e :: es) t) (hj : kf ≤ j := by decide) (hg : Gl X x := by rfl) (hdb : (x == ("__debug__" : Str)) = false := by decide)
    (he : starEach (e :: es) X.env = (false, eval e X.env) :: starEach es X.env := by rfl) (hpl : (backTo pos (starEach es X.env)).any (·.1) = false := by rfl) : PM W X (.Call (.Name x p) (e :: es) [] pos) (mCall F t) := by
  obtain ⟨f, fd, ps, h1, h2, h3, h4⟩ := C
  obtain ⟨t', a1, a2⟩ := ha
  refine ⟨_, pe_callS h1 (hr.mono hj) hg h2 h3 h4 (fun σ => passAt tk σ) a1 hdb he hpl, fun σ ρ μ G H P PX Q k s h q qx => ?_⟩
  refine a2 σ ρ μ G H _ PX _ k s h (fun vs ms μ1 G1 H1 s1 r1 _ p1 => ?_) qx
  exact ⟨μ1, G1, ms, P, PX, s1.ok, r1, p1, fun v m μ2 G2 H2 s2 => q v m μ2 G2 H2 (s1.trans s2), qx.step s1⟩
/-- a method call's tree, as the machine runs it -/
abbrev MTree (X : Cx) (o : Expr) (m : Str) (apos pos : Pos) (as : List Expr) (pl : Sem Bool) : Prop :=
  eval (.Call (.Attribute o m apos) as [] pos) X.env = (do let u ← eval o X.env; standAt apos.atName; let (g, us) ← holding [u] (getMethod u m pl); callWith pos g us (backTo pos (starEach as X.env)) (backToKw pos (keywordEach [] X.env)))
/-- o.m(e, ..), where it may raise at these slots -/
theorem pe_methW {sp : Sp} {E : L2.St → XK} {pl : Sem Bool} {to' : TE} {t' : TA} {CX : CXT} {f : Addr} {fd : FuncData} {ps : List Str} (ho : PE X o to') (cC : Cls X.K C) (hm : Meth X.K C m f) (F : FnOk X.prog X.w X.K X.mg X.base CX kf f fd ps sp) (hr : Room kf X.A) (hb : Binds X.K fd ps []) (hx : ∀ σ, PassesAt CX X σ (E σ)) (ha : PA X (e :: es) t')
    (hst : starEach (e :: es) X.env = (false, eval e X.env) :: starEach es X.env) (hpl : (backTo pos (starEach es X.env)).any (·.1) = false) (ht : MTree X o m apos pos (e :: es) pl) :
    PE X (.Call (.Attribute o m apos) (e :: es) [] pos) (fun σ H Q => to' σ H fun x H1 => ∃ p dx fs, x = .ref p ∧ H1 p = some (.ins C dx fs) ∧ fs.lookup m = none ∧ t' σ H1 fun vs H2 => sp (.ref p :: vs) H2 Q (E σ)) := by
  constructor
  intro pins st0 σ H Q I0 dm
  refine PySem.W.methodCall_KW (pl := pl) (thn (ho.run pins st0 σ H _ I0 dm) fun uo st1 told => ?_) ht
  obtain ⟨x, H1, I1, rx, p, dx, fs, rfl, hp, hl, dm1⟩ := told
  cases (show uo = Value.ref p from rx)
  refine getmeth_ok I1 hp cC hm hl (PySem.W.callWith_K (first := [.ref p]) (h₀ := X.base) I1.ok.mod.kin hm.kp (thn (ha.run pos pins st1 σ H1 _ I1 dm1) fun us st2 told2 => ?_) hst hpl)
  obtain ⟨vs, H2, I2, rv, dm2⟩ := told2
  exact ⟨I2.kIn, run_fnS (us := Value.ref p :: us) (vs := V.ref p :: vs) F hr hb (hx σ) I2 (.cons rfl rv) dm2⟩
theorem pe_methW0 {sp : Sp} {E : L2.St → XK} {pl : Sem Bool} {to' : TE} {CX : CXT} {f : Addr} {fd : FuncData} {ps : List Str} (ho : PE X o to') (cC : Cls X.K C) (hm : Meth X.K C m f) (F : FnOk X.prog X.w X.K X.mg X.base CX kf f fd ps sp) (hr : Room kf X.A) (hb : Binds X.K fd ps []) (hx : ∀ σ, PassesAt CX X σ (E σ)) (ht : MTree X o m apos pos [] pl) :
    PE X (.Call (.Attribute o m apos) [] [] pos) (fun σ H Q => to' σ H fun x H1 => ∃ p dx fs, x = .ref p ∧ H1 p = some (.ins C dx fs) ∧ fs.lookup m = none ∧ sp [.ref p] H1 Q (E σ)) := by
  constructor
  intro pins st0 σ H Q I0 dm
  refine PySem.W.methodCall_KW (pl := pl) (thn (ho.run pins st0 σ H _ I0 dm) fun uo st1 told => ?_) ht
  obtain ⟨x, H1, I1, rx, p, dx, fs, rfl, hp, hl, dm1⟩ := told
  cases (show uo = Value.ref p from rx)
  exact getmeth_ok I1 hp cC hm hl (PySem.W.callWith_K0 (first := [.ref p]) I1.kIn hm.kp (run_fnS (us := [Value.ref p]) (vs := [V.ref p]) F hr hb (hx σ) I1 (.cons rfl .nil) dm1))
/-- o.m(e, ..), o an instance of C whose class has m (and it itself has no attribute of that name) -/
def mMth (C : Addr) (m : Str) (F : F1) (to : ME) (t : MA) : ME := fun ρ μ P PX => to ρ μ (fun x μ1 => match x with
  | .a p => (∃ fs, μ1 p = some (.O C fs) ∧ fs.lookup m = none) ∧ t ρ μ1 (fun ms μ2 => F (.a p :: ms) μ2 P PX) PX
  | _ => False) PX
theorem pm_m {pl : Sem Bool} (MM : MtM X.prog X.w X.K X.mg X.base kf C m F) (c : Cls X.K C) (tk : Takes X W) (hr : Room j X.A) (ho : PM W X o to) (ha : PMA W X (e :: es) t) (hj : kf ≤ j := by decide)
    (hst : starEach (e :: es) X.env = (false, eval e X.env) :: starEach es X.env := by rfl) (hpl : (backTo pos (starEach es X.env)).any (·.1) = false := by rfl)
    (ht : MTree X o m apos pos (e :: es) pl := by rfl) : PM W X (.Call (.Attribute o m apos) (e :: es) [] pos) (mMth C m F to t) := by
  obtain ⟨f, fd, ps, h1, h2, h3⟩ := MM
  obtain ⟨to', o1, o2⟩ := ho
  obtain ⟨t', a1, a2⟩ := ha
  refine ⟨_, pe_methW o1 c h2 h1 (hr.mono hj) h3 (fun σ => passAt tk σ) a1 hst hpl ht, fun σ ρ μ G H P PX Q k s h q qx => ?_⟩
  refine o2 σ ρ μ G H _ PX _ k s h (fun v m1 μ1 G1 H1 s1 r1 p1 => ?_) qx
  cases m1 with
  | d d => exact p1.elim
  | a p =>
    obtain ⟨⟨fs, e1, e2⟩, p1⟩ := p1
    obtain ⟨dx, vs, e3, r2⟩ := s1.ok.ins e1
    refine ⟨p, dx, vs, r1, e3, r2.look.1 e2, ?_⟩
    refine a2 σ ρ μ1 G1 H1 _ PX _ s1.ok (s.mono s1.up) p1 (fun us ms μ2 G2 H2 s2 r2 _ p2 => ?_) (qx.step s1)
    exact ⟨μ2, G2, .a p :: ms, P, PX, s2.ok, .cons rfl r2, p2, fun v m μ3 G3 H3 s3 => q v m μ3 G3 H3 ((s1.trans s2).trans s3), (qx.step s1).step s2⟩
def mMth0 (C : Addr) (m : Str) (F : F1) (to : ME) : ME := fun ρ μ P PX => to ρ μ (fun x μ1 => match x with
  | .a p => (∃ fs, μ1 p = some (.O C fs) ∧ fs.lookup m = none) ∧ F [.a p] μ1 P PX
  | _ => False) PX
theorem pm_m0 {pl : Sem Bool} (MM : MtM X.prog X.w X.K X.mg X.base kf C m F) (c : Cls X.K C) (tk : Takes X W) (hr : Room j X.A) (ho : PM W X o to) (hj : kf ≤ j := by decide)
    (ht : MTree X o m apos pos [] pl := by rfl) : PM W X (.Call (.Attribute o m apos) [] [] pos) (mMth0 C m F to) := by
  obtain ⟨f, fd, ps, h1, h2, h3⟩ := MM
  obtain ⟨to', o1, o2⟩ := ho
  refine ⟨_, pe_methW0 o1 c h2 h1 (hr.mono hj) h3 (fun σ => passAt tk σ) ht, fun σ ρ μ G H P PX Q k s h q qx => ?_⟩
  refine o2 σ ρ μ G H _ PX _ k s h (fun v m1 μ1 G1 H1 s1 r1 p1 => ?_) qx
  cases m1 with
  | d d => exact p1.elim
  | a p =>
    obtain ⟨⟨fs, e1, e2⟩, p1⟩ := p1
    obtain ⟨dx, vs, e3, r2⟩ := s1.ok.ins e1
    refine ⟨p, dx, vs, r1, e3, r2.look.1 e2, ?_⟩
    exact ⟨μ1, G1, [.a p], P, PX, s1.ok, .cons rfl .nil, p1, fun v m μ3 G3 H3 s3 => q v m μ3 G3 H3 (s1.trans s3), qx.step s1⟩
end
end M

set_option Elab.async false
set_option linter.all false
set_option maxRecDepth 100000
set_option maxHeartbeats 4000000
/-! M: statements -/
namespace M
open PySem PySem.Spec PyProof.Rows L2 Z
structure MEn where
  nx : En → Mu → Prop
  rt : MV → Mu → Prop
  bk : En → Mu → Prop
  ct : En → Mu → Prop
  ex : Str → En → Mu → Prop
abbrev MS := MEn → En → Mu → Prop
def SPm (K : PySem.W.Frag) (μ0 : Mu) (G0 H0 : Hp) (ρ : En) (μ : Mu) (σ : L2.St) (H : Hp) : Prop := ∃ G, StpM K μ0 G0 H0 μ G H ∧ SlOk K G σ ρ
structure RelM (W : WX) (K : PySem.W.Frag) (μ0 : Mu) (G0 H0 : Hp) (D : Ends) (E : MEn) : Prop where
  nx : ∀ σ ρ μ H, SPm K μ0 G0 H0 ρ μ σ H → E.nx ρ μ → D.nx σ H
  rt : ∀ v m μ G H, StpM K μ0 G0 H0 μ G H → Rm K G v m → E.rt m μ → D.rt v H
  bk : ∀ σ ρ μ H, SPm K μ0 G0 H0 ρ μ σ H → E.bk ρ μ → D.bk σ H
  ct : ∀ σ ρ μ H, SPm K μ0 G0 H0 ρ μ σ H → E.ct ρ μ → D.ct σ H
  ex : ∀ x σ ρ μ H, SPm K μ0 G0 H0 ρ μ σ H → E.ex x ρ μ → W (.ref (He.ga K x)) none σ H
def RSM (W : WX) (K : PySem.W.Frag) (ts : TS) (ms : MS) : Prop := ∀ μ0 G0 H0 σ ρ μ H (D : Ends) (E : MEn), SPm K μ0 G0 H0 ρ μ σ H → ms E ρ μ → RelM W K μ0 G0 H0 D E → ts D σ H
structure PMS (W : WX) (X : Cx) (st : Stmt) (ms : MS) : Prop where
  ex : ∃ ts, PS X st ts ∧ RSM W X.K ts ms
structure PMSs (W : WX) (X : Cx) (st : List Stmt) (ms : MS) : Prop where
  ex : ∃ ts, PSs X st ts ∧ RSM W X.K ts ms
def entM : MV → Ent
  | .d d => .dat d
  | .a p => .adr p
theorem SlOk.setM {K : PySem.W.Frag} {G : Hp} {σ : L2.St} {ρ : En} (s : SlOk K G σ ρ) {j : Nat} {v : V} {m : MV} (r : Rm K G v m) : SlOk K G (σ.set j (some v)) (ρ.set j (entM m)) := by
  cases m with
  | d d => exact s.set r
  | a p =>
    have e : v = .ref p := r
    subst e
    refine ⟨by rw [List.length_set, List.length_set]; exact s.len, fun i e h => ?_, fun i b h => ?_⟩
    · rcases set_some h with ⟨_, z, _⟩ | ⟨ne, z⟩
      · cases z
      · rw [List.getElem?_set_ne ne]; exact s.dat i e z
    · rcases set_some h with ⟨rfl, z, hl⟩ | ⟨ne, z⟩
      · have e : p = b := by injection z
        subst e
        rw [List.getElem?_set_self (by rw [s.len]; exact hl)]
      · rw [List.getElem?_set_ne ne]; exact s.adr i b z
theorem SlOk.setUnM {K : PySem.W.Frag} {G : Hp} {σ : L2.St} {ρ : En} (s : SlOk K G σ ρ) {j : Nat} {v : Option V} : SlOk K G (σ.set j v) (ρ.set j .un) := by
  refine ⟨by rw [List.length_set, List.length_set]; exact s.len, fun i e h => ?_, fun i b h => ?_⟩
  · rcases set_some h with ⟨_, z, _⟩ | ⟨ne, z⟩
    · cases z
    · rw [List.getElem?_set_ne ne]; exact s.dat i e z
  · rcases set_some h with ⟨_, z, _⟩ | ⟨ne, z⟩
    · cases z
    · rw [List.getElem?_set_ne ne]; exact s.adr i b z
section
variable {K : PySem.W.Frag} {μ0 μ μ2 : Mu} {G0 H0 G H G2 H2 : Hp} {σ : L2.St} {ρ : En}
theorem RelM.xm {W : WX} {D : Ends} {E : MEn} (r : RelM W K μ0 G0 H0 D E) (s : StpM K μ0 G0 H0 μ G H) (sl : SlOk K G σ ρ) : XM W K σ μ G H fun x μ => E.ex x ρ μ :=
  fun x μ2 G2 H2 s2 p => r.ex x σ ρ μ2 H2 ⟨G2, s.trans s2, sl.mono s2.up⟩ p
end
section
variable {W : WX} {X : Cx} {st : Stmt} {rest a b : List Stmt} {ms ns : MS} {c e o i : Expr} {te to ti : ME} {tc : MT} {pos pos' tpos : Pos}
def xNx : MS := fun E ρ μ => E.nx ρ μ
def xSeq (a b : MS) : MS := fun E ρ μ => a { E with nx := fun ρ' μ' => b E ρ' μ' } ρ μ
theorem pms_nil : PMSs W X [] xNx := ⟨_, pss_nil, fun _ _ _ σ ρ μ H _ _ s h r => r.nx σ ρ μ H s h⟩
theorem rsm_seq {K : PySem.W.Frag} {t u : TS} (h1 : RSM W K t ms) (h2 : RSM W K u ns) : RSM W K (tSeq t u) (xSeq ms ns) := fun μ0 G0 H0 σ ρ μ H D E s h r =>
  h1 μ0 G0 H0 σ ρ μ H _ _ s h ⟨fun σ' ρ' μ' H' s' h' => h2 μ0 G0 H0 σ' ρ' μ' H' D E s' h' r, r.rt, r.bk, r.ct, r.ex⟩
theorem pms_cons (h1 : PMS W X st ms) (h2 : PMSs W X rest ns) : PMSs W X (st :: rest) (xSeq ms ns) := by
  obtain ⟨t, a1, a2⟩ := h1
  obtain ⟨u, b1, b2⟩ := h2
  exact ⟨_, pss_cons a1 b1, rsm_seq a2 b2⟩
theorem pms_one (h1 : PMS W X st ms) : PMSs W X [st] ms := by
  obtain ⟨t, a1, a2⟩ := h1
  exact ⟨_, pss_one a1, a2⟩
theorem px_pass : PMS W X (.Pass pos) xNx := ⟨_, ps_pass, fun _ _ _ σ ρ μ H _ _ s h r => r.nx σ ρ μ H s h⟩
def xBk : MS := fun E ρ μ => E.bk ρ μ
def xCt : MS := fun E ρ μ => E.ct ρ μ
theorem px_break : PMS W X (.Break pos) xBk := ⟨_, ps_break, fun _ _ _ σ ρ μ H _ _ s h r => r.bk σ ρ μ H s h⟩
theorem px_continue : PMS W X (.Continue pos) xCt := ⟨_, ps_continue, fun _ _ _ σ ρ μ H _ _ s h r => r.ct σ ρ μ H s h⟩
/-- x = e -/
def xSet (j : Nat) (te : ME) : MS := fun E ρ μ => te ρ μ (fun m μ1 => E.nx (ρ.set j (entM m)) μ1) fun x μ1 => E.ex x ρ μ1
theorem px_set {x : Str} {j : Nat} (hN : X.N.Nodup) (he : PM W X e te) (hi : X.N[j]? = some x := by rfl) (hx : Loc X.env.scope x := by first | exact Or.inl rfl | exact Or.inr rfl) (hs : swapsWith e (some (.Name x pos')) pos.line X.env = pure false := by rfl)
    (hf : X.fn x = true ∨ X.env.scope.names.lookup x = some .local := by first | exact .inl rfl | exact .inr rfl | assumption) : PMS W X (.Assign [.Name x pos'] e pos) (xSet j te) := by
  obtain ⟨t, h1, h2⟩ := he
  refine ⟨_, ps_set hN hi hx h1 hs hf, fun μ0 G0 H0 σ ρ μ H D E ⟨G, s, sl⟩ h r => ?_⟩
  exact h2 σ ρ μ G H _ _ _ s.ok sl h (fun v m μ1 G1 H1 s1 r1 p1 => r.nx _ _ _ _ ⟨G1, s.trans s1, SlOk.setM (sl.mono s1.up) r1⟩ p1) (r.xm s sl)
/-- e -/
def xDo (te : ME) : MS := fun E ρ μ => te ρ μ (fun _ μ1 => E.nx ρ μ1) fun x μ1 => E.ex x ρ μ1
theorem px_do (he : PM W X e te) (hs : swapsWith e none pos.line X.env = pure false := by rfl) : PMS W X (.Expr e pos) (xDo te) := by
  obtain ⟨t, h1, h2⟩ := he
  refine ⟨_, ps_expr h1 hs, fun μ0 G0 H0 σ ρ μ H D E ⟨G, s, sl⟩ h r => ?_⟩
  exact h2 σ ρ μ G H _ _ _ s.ok sl h (fun v m μ1 G1 H1 s1 r1 p1 => r.nx _ _ _ _ ⟨G1, s.trans s1, sl.mono s1.up⟩ p1) (r.xm s sl)
def xRet (te : ME) : MS := fun E ρ μ => te ρ μ (fun m μ1 => E.rt m μ1) fun x μ1 => E.ex x ρ μ1
theorem px_ret (he : PM W X e te) : PMS W X (.Return (some e) pos) (xRet te) := by
  obtain ⟨t, h1, h2⟩ := he
  refine ⟨_, ps_ret h1, fun μ0 G0 H0 σ ρ μ H D E ⟨G, s, sl⟩ h r => ?_⟩
  exact h2 σ ρ μ G H _ _ _ s.ok sl h (fun v m μ1 G1 H1 s1 r1 p1 => r.rt v m μ1 G1 H1 (s.trans s1) r1 p1) (r.xm s sl)
def xRetN : MS := fun E _ μ => E.rt (.d .none) μ
theorem px_retN : PMS W X (.Return none pos) xRetN := ⟨_, ps_retN, fun μ0 G0 H0 σ ρ μ H D E ⟨G, s, sl⟩ h r => r.rt .non (.d .none) μ G H s Rp.non h⟩
def xIf (tc : MT) (a b : MS) : MS := fun E ρ μ => tc ρ μ (fun k μ1 => if k = true then a E ρ μ1 else b E ρ μ1) fun x μ1 => E.ex x ρ μ1
theorem px_if (hc : PMT W X c tc) (ha : PMSs W X a ms) (hb : PMSs W X b ns) : PMS W X (.If c a b pos) (xIf tc ms ns) := by
  obtain ⟨t, c1, c2⟩ := hc
  obtain ⟨u, a1, a2⟩ := ha
  obtain ⟨v, b1, b2⟩ := hb
  refine ⟨_, ps_if c1 a1 b1, fun μ0 G0 H0 σ ρ μ H D E ⟨G, s, sl⟩ h r => ?_⟩
  refine c2 σ ρ μ G H _ _ _ s.ok sl h (fun k μ1 G1 H1 s1 p1 => ?_) (r.xm s sl)
  cases k with
  | true => exact a2 μ0 G0 H0 σ ρ μ1 H1 D E ⟨G1, s.trans s1, sl.mono s1.up⟩ p1 r
  | false => exact b2 μ0 G0 H0 σ ρ μ1 H1 D E ⟨G1, s.trans s1, sl.mono s1.up⟩ p1 r
/-- o.f = e, o an instance of C -/
def xFld (C : Addr) (f : Str) (to te : ME) : MS := fun E ρ μ => te ρ μ (fun y μ1 => to ρ μ1 (fun x μ2 => match x with
  | .a p => ∃ fs, μ2 p = some (.O C fs) ∧ fs.length < 1000 ∧ E.nx ρ (M.up μ2 p (.O C (putFM f y fs)))
  | _ => False) fun x μ1 => E.ex x ρ μ1) fun x μ1 => E.ex x ρ μ1
theorem RmK.len {κ : Type} {K : PySem.W.Frag} {G : Hp} : ∀ {vs : List (κ × V)} {ms : List (κ × MV)}, RmK κ K G vs ms → vs.length = ms.length
  | _, _, .nil => rfl
  | _, _, .cons _ t => congrArg (· + 1) (RmK.len t)
theorem px_fld {C : Addr} {f : Str} (cC : Cls X.K C) (n : NoAttr X.K C f) (ho : PM W X o to) (he : PM W X e te) (hs : swapsWith e (some (.Attribute o f pos')) pos.line X.env = pure false := by rfl) : PMS W X (.Assign [.Attribute o f pos'] e pos) (xFld C f to te) := by
  obtain ⟨t, h1, h2⟩ := he
  obtain ⟨u, o1, o2⟩ := ho
  refine ⟨_, ps_fld o1 h1 hs, fun μ0 G0 H0 σ ρ μ H D E ⟨G, s, sl⟩ h r => ?_⟩
  refine h2 σ ρ μ G H _ _ _ s.ok sl h (fun v m μ1 G1 H1 s1 r1 p1 => ?_) (r.xm s sl)
  refine o2 σ ρ μ1 G1 H1 _ _ _ s1.ok (sl.mono s1.up) p1 (fun v2 m2 μ2 G2 H2 s2 r2 p2 => ?_) (r.xm (s.trans s1) (sl.mono s1.up))
  cases m2 with
  | d d => exact p2.elim
  | a p =>
    obtain ⟨fs, e1, e2, p2⟩ := p2
    obtain ⟨dx, vs, q1, q2⟩ := s2.ok.ins e1
    refine ⟨p, C, dx, vs, r2, q1, cC, n, by rw [q2.len]; exact e2, ?_⟩
    have s3 := s2.ok.turn (o := .ins C dx (L2.putF f v vs)) (c := .O C (putFM f m fs)) e1 ⟨rfl, q2.putF (r1.mono s2.up)⟩
    exact r.nx _ _ _ _ ⟨G2, ((s.trans s1).trans s2).trans s3, (sl.mono s1.up).mono s2.up⟩ p2
/-- xs[i] = e, xs a list that may turn -/
def xPutL (to ti te : ME) : MS := fun E ρ μ => te ρ μ (fun y μ1 => to ρ μ1 (fun x μ2 => ti ρ μ2 (fun z μ3 => match x, z with
  | .a p, .d (.int k) => ∃ xs j, μ3 p = some (.L xs) ∧ ixN xs.length k = some j ∧ E.nx ρ (M.up μ3 p (.L (xs.set j y)))
  | _, _ => False) fun x μ1 => E.ex x ρ μ1) fun x μ1 => E.ex x ρ μ1) fun x μ1 => E.ex x ρ μ1
/-- d[k] = e, d a dict that may turn -/
def xPutD (to ti te : ME) : MS := fun E ρ μ => te ρ μ (fun y μ1 => to ρ μ1 (fun x μ2 => ti ρ μ2 (fun z μ3 => match x, z with
  | .a p, .d d => ∃ ds k, μ3 p = some (.D ds) ∧ keyD d = some k ∧ ds.length < 1000000 ∧ E.nx ρ (M.up μ3 p (.D (putM ds k y)))
  | _, _ => False) fun x μ1 => E.ex x ρ μ1) fun x μ1 => E.ex x ρ μ1) fun x μ1 => E.ex x ρ μ1
theorem px_putD (hu : X.A.units + 1 < cLine) (ho : PM W X o to) (hi : PM W X i ti) (he : PM W X e te) (hs : swapsWith e (some (.Subscript o i pos')) pos.line X.env = pure false := by rfl) : PMS W X (.Assign [.Subscript o i pos'] e pos) (xPutD to ti te) := by
  obtain ⟨t, h1, h2⟩ := he
  obtain ⟨u, o1, o2⟩ := ho
  obtain ⟨w, i1, i2⟩ := hi
  refine ⟨_, ps_dput hu o1 i1 h1 hs, fun μ0 G0 H0 σ ρ μ H D E ⟨G, s, sl⟩ h r => ?_⟩
  refine h2 σ ρ μ G H _ _ _ s.ok sl h (fun v m μ1 G1 H1 s1 r1 p1 => ?_) (r.xm s sl)
  refine o2 σ ρ μ1 G1 H1 _ _ _ s1.ok (sl.mono s1.up) p1 (fun v2 m2 μ2 G2 H2 s2 r2 p2 => ?_) (r.xm (s.trans s1) (sl.mono s1.up))
  refine i2 σ ρ μ2 G2 H2 _ _ _ s2.ok ((sl.mono s1.up).mono s2.up) p2 (fun v3 m3 μ3 G3 H3 s3 r3 p3 => ?_) (r.xm ((s.trans s1).trans s2) ((sl.mono s1.up).mono s2.up))
  cases m2 with
  | d d => exact p3.elim
  | a p =>
    cases m3 with
    | a _ => exact p3.elim
    | d d =>
      obtain ⟨ds, k, e1, e2, e3, p3⟩ := p3
      obtain ⟨vs, q1, q2⟩ := s3.ok.dct e1
      have ek := keyD_V e2 (show Rp X.K G3 v3 d from r3)
      subst ek
      refine ⟨p, _, r2, .inl ⟨vs, k, q1, rfl, by rw [q2.len]; exact line_lt e3, rfl⟩, ?_⟩
      have s4 := s3.ok.turn (o := .dK (putK vs k v)) (c := .D (putM ds k m)) e1 (q2.put ((r1.mono s2.up).mono s3.up))
      exact r.nx _ _ _ _ ⟨G3, (((s.trans s1).trans s2).trans s3).trans s4, ((sl.mono s1.up).mono s2.up).mono s3.up⟩ p3
theorem px_putL (ho : PM W X o to) (hi : PM W X i ti) (he : PM W X e te) (hs : swapsWithSole [.Subscript o i pos'] e pos.line X.env = pure false := by rfl) (hw : swappedStores [.Subscript o i pos'] e X.env = pure none := by rfl)
    (h1 : (assignEach [.Subscript o i pos'] X.env).map (·.2) = [assign (.Subscript o i pos') X.env] := by rfl)
    (ha : ∀ v, assign (.Subscript o i pos') X.env v = (do let u ← holding [v] (eval o X.env); let z ← holding [v, u] (eval i X.env); standAt pos'; holding [v, u, z] (setItem u z v); release [v, u, z] []) := by intro _; rfl) : PMS W X (.Assign [.Subscript o i pos'] e pos) (xPutL to ti te) := by
  obtain ⟨t, h1', h2⟩ := he
  obtain ⟨u, o1, o2⟩ := ho
  obtain ⟨w, i1, i2⟩ := hi
  refine ⟨_, ps_asg h1' (pg_sub o1 i1 set_list ha) hs hw h1, fun μ0 G0 H0 σ ρ μ H D E ⟨G, s, sl⟩ h r => ?_⟩
  refine h2 σ ρ μ G H _ _ _ s.ok sl h (fun v m μ1 G1 H1 s1 r1 p1 => ?_) (r.xm s sl)
  refine o2 σ ρ μ1 G1 H1 _ _ _ s1.ok (sl.mono s1.up) p1 (fun v2 m2 μ2 G2 H2 s2 r2 p2 => ?_) (r.xm (s.trans s1) (sl.mono s1.up))
  refine i2 σ ρ μ2 G2 H2 _ _ _ s2.ok ((sl.mono s1.up).mono s2.up) p2 (fun v3 m3 μ3 G3 H3 s3 r3 p3 => ?_) (r.xm ((s.trans s1).trans s2) ((sl.mono s1.up).mono s2.up))
  cases m2 with
  | d d => exact p3.elim
  | a p =>
    cases m3 with
    | a _ => exact p3.elim
    | d d =>
      cases d with
      | int k =>
        obtain ⟨xs, j, e1, e2, p3⟩ := p3
        obtain ⟨vs, q1, q2⟩ := s3.ok.lst e1
        have e4 : v3 = .int k := by cases (show Rp X.K G3 v3 (.int k) from r3); rfl
        refine ⟨p, vs, k, j, r2, e4, q1, by rw [q2.len]; exact e2, ?_⟩
        have s4 := s3.ok.turn (o := .lst (vs.set j v)) (c := .L (xs.set j m)) e1 (RmL.setAt ((r1.mono s2.up).mono s3.up) j q2)
        exact r.nx _ _ _ _ ⟨G3, (((s.trans s1).trans s2).trans s3).trans s4, ((sl.mono s1.up).mono s2.up).mono s3.up⟩ p3
      | _ => exact p3.elim
end
end M

set_option Elab.async false
set_option linter.all false
set_option maxRecDepth 100000
set_option maxHeartbeats 4000000
/-! M: loops, try, defs -/
namespace M
open PySem PySem.Spec PyProof.Rows L2 Z
/-! ### targets that are names, or tuples of names -/
abbrev MG := MV → En → (En → Prop) → Prop
def RGM (K : PySem.W.Frag) (g : TG) (gm : MG) : Prop := ∀ σ ρ (μ : Mu) G H v m (P : En → Prop) (Q : L2.St → Hp → Prop), OkM K μ G H → SlOk K G σ ρ → Rm K G v m → gm m ρ P → (∀ σ' ρ', SlOk K G σ' ρ' → P ρ' → Q σ' H) → g v σ H Q
structure PMG (X : Cx) (tg : Expr) (gm : MG) : Prop where
  ex : ∃ g, PG X tg g ∧ RGM X.K g gm
def RGMs (K : PySem.W.Frag) (g : TGs) (gm : List DD → En → (En → Prop) → Prop) : Prop := ∀ σ ρ G H vs ds (P : En → Prop) (Q : L2.St → Hp → Prop), SlOk K G σ ρ → RpAll K G vs ds → gm ds ρ P → (∀ σ' ρ', SlOk K G σ' ρ' → P ρ' → Q σ' H) → g vs σ H Q
structure PMGs (X : Cx) (es : List Expr) (gm : List DD → En → (En → Prop) → Prop) : Prop where
  ex : ∃ g, PGs X es g ∧ RGMs X.K g gm
def gmN (j : Nat) : MG := fun m ρ P => P (ρ.set j (entM m))
/-- names in a tuple: their slots -/
def gmNs : List Nat → List DD → En → (En → Prop) → Prop
  | [] => fun ds ρ P => ds = [] ∧ P ρ
  | j :: js => fun ds ρ P => match ds with
    | d :: ds => gmNs js ds (ρ.set j (.dat d)) P
    | [] => False
def gmT (js : List Nat) : MG := fun m ρ P => match m with
  | .d (.tuple ds) => gmNs js ds ρ P
  | _ => False
section
variable {X : Cx} {es : List Expr} {js : List Nat} {pos : Pos} {x : Str} {j : Nat}
theorem mg_n (hN : X.N.Nodup) (hi : X.N[j]? = some x := by rfl) (hx : Loc X.env.scope x := by first | exact Or.inl rfl | exact Or.inr rfl) (hf : X.fn x = true ∨ X.env.scope.names.lookup x = some .local := by first | exact .inl rfl | exact .inr rfl | assumption) : PMG X (.Name x pos) (gmN j) :=
  ⟨_, pg_name hN hi hx hf, fun σ ρ μ G H v m P Q k s r h q => q _ _ (SlOk.setM s r) h⟩
theorem mgs_nil : PMGs X [] (gmNs []) := ⟨_, pgs_nil, fun σ ρ G H vs ds P Q s r h q => by
  obtain ⟨rfl, h⟩ := h
  cases r
  exact ⟨rfl, q _ _ s h⟩⟩
theorem mgs_cons (hN : X.N.Nodup) (hr : PMGs X es (gmNs js)) (hi : X.N[j]? = some x := by rfl) (hx : Loc X.env.scope x := by first | exact Or.inl rfl | exact Or.inr rfl) (hf : X.fn x = true ∨ X.env.scope.names.lookup x = some .local := by first | exact .inl rfl | exact .inr rfl | assumption)
    (he : (assignEach (.Name x pos :: es) X.env).map (·.2) = assign (.Name x pos) X.env :: (assignEach es X.env).map (·.2) := by rfl) : PMGs X (.Name x pos :: es) (gmNs (j :: js)) := by
  obtain ⟨g, g1, g2⟩ := hr
  refine ⟨_, pgs_cons (pg_name hN hi hx hf) g1 he, fun σ ρ G H vs ds P Q s r h q => ?_⟩
  cases r with
  | nil => exact h.elim
  | cons r t => exact ⟨_, _, rfl, g2 _ _ G H _ _ P Q (s.set r) t h q⟩
theorem gmNs_len : ∀ {js : List Nat} {ds : List DD} {ρ : En} {P : En → Prop}, gmNs js ds ρ P → ds.length = js.length
  | [], _, _, _, h => by rw [h.1]; rfl
  | _ :: _, [], _, _, h => h.elim
  | _ :: js, _ :: ds, _, _, h => congrArg (· + 1) (gmNs_len (js := js) (ds := ds) h)
theorem mg_t {k : Nat} (hr : PMGs X es (gmNs js)) (hl : es.length = js.length := by rfl) (hc : X.calm = true := by rfl) (hn : (assignEach es X.env).length = js.length := by rfl) (hst : (assignEach es X.env).findIdx? (·.1) = none := by rfl) : PMG X (.Tuple es k pos) (gmT js) := by
  obtain ⟨g, g1, g2⟩ := hr
  refine ⟨_, pg_tup hc g1 hn hst, fun σ ρ μ G H v m P Q k s r h q => ?_⟩
  cases m with
  | a p => exact h.elim
  | d d =>
    cases d with
    | tuple ds =>
      have r' : Rp X.K G v (.tuple ds) := r
      cases r' with
      | tup h1 h2 =>
        exact ⟨_, _, rfl, k.sub.sqT h1, by rw [h2.len]; exact gmNs_len h, g2 σ ρ G H _ ds P Q s h2 h q⟩
    | _ => exact h.elim
end
/-! ### for -/
def loopM (gm : MG) (sb : MS) (E : MEn) : List DD → En → Mu → Prop
  | [] => fun ρ μ => E.nx ρ μ
  | x :: xs => fun ρ μ => gm (.d x) ρ fun ρ1 => sb ⟨loopM gm sb E xs, E.rt, E.nx, loopM gm sb E xs, E.ex⟩ ρ1 μ
/-- over plain data -/
def xFor (ti : DA) (gm : MG) (sb : MS) : MS := fun E ρ μ => ti ρ fun items => loopM gm sb E items ρ μ
/-- over a list that may turn, but does not meanwhile -/
def loopC (gm : MG) (sb : MS) (E : MEn) (p : Addr) (all : List MV) : List MV → En → Mu → Prop
  | [] => fun ρ μ => μ p = some (.L all) ∧ E.nx ρ μ
  | x :: xs => fun ρ μ => μ p = some (.L all) ∧ gm x ρ fun ρ1 => sb ⟨loopC gm sb E p all xs, E.rt, E.nx, loopC gm sb E p all xs, E.ex⟩ ρ1 μ
def xForC (tl : ME) (gm : MG) (sb : MS) : MS := fun E ρ μ => tl ρ μ (fun m μ1 => match m with
  | .a p => ∃ all, μ1 p = some (.L all) ∧ loopC gm sb E p all all ρ μ1
  | _ => False) fun x μ1 => E.ex x ρ μ1
section
variable {W : WX} {X : Cx} {tg iter : Expr} {body : List Stmt} {pos : Pos} {sb : MS} {gm : MG}
theorem px_for {ti : DA} (hi : ∀ w : Wd, PDI w X tg iter ti) (hg : PMG X tg gm) (hb : PMSs W X body sb) (hp : PassesOwn (model X.prog X.w) X.A X.env X.xe := by exact PassesOwn.never) (hc : X.calm = true := by rfl)
    (hs : ∀ x, foldedSetIterable iter X.env x = pure x := by intro _; rfl) : PMS W X (.For tg iter body [] pos) (xFor ti gm sb) := by
  obtain ⟨g, g1, g2⟩ := hg
  obtain ⟨tb, b1, b2⟩ := hb
  have hu : ∃ wi, PI X tg iter wi ∧ ∀ w : Wd, RI w X.K wi ti := ⟨fun σ H R => ∃ w : Wd, Classical.choose (hi w).ex σ H R,
    ⟨fun pins s σ H R I ⟨w, q⟩ => (Classical.choose_spec (hi w).ex).1.run pins s σ H R I q⟩, fun w σ ρ G H P R k s h q => ⟨w, (Classical.choose_spec (hi w).ex).2 σ ρ G H P R k s h q⟩⟩
  obtain ⟨wi, i1, i2⟩ := hu
  refine ⟨_, ps_for hp hc i1 g1 b1 hs, fun μ0 G0 H0 σ ρ μ H D E ⟨G, s, sl⟩ hd r => ?_⟩
  refine i2 (wdM μ H) σ ρ G H _ _ s.ok.okw sl hd fun J items G2 H2 s2 wk p => ?_
  obtain ⟨Y, wlk, hy⟩ := wk
  refine for_it wlk (fun i σ' H' => ∃ ρ' μ' G', StpM X.K μ0 G0 H0 μ' G' H' ∧ SlOk X.K G' σ' ρ' ∧ Sub G2 G' ∧ loopM gm sb E (items.drop i) ρ' μ') ?_ ?_ ?_ ?_
  · exact ⟨ρ, μ, G2, s.trans (s.ok.lift s2), sl.mono s2.up, Sub.rfl, p⟩
  · rintro i σ' H' _ ⟨ρ', μ', G', s1, _, s3, _⟩
    exact s3.trans s1.ok.sub
  · rintro i x σ' H' H'' hlt ⟨ρ', μ', G', s1, sl1, sb1, hl⟩ y
    obtain ⟨d, hd, alt⟩ := hy i H' x H'' y
    have hdr : items.drop i = d :: items.drop (i + 1) := by
      obtain ⟨h1, h2⟩ := List.getElem?_eq_some_iff.mp hd
      rw [List.drop_eq_getElem_cons h1, h2]
    rw [hdr] at hl
    obtain ⟨G3, s3, up3, rx⟩ : ∃ G3, StpM X.K μ0 G0 H0 μ' G3 H'' ∧ Sub G' G3 ∧ Rp X.K G3 x d := by
      rcases alt with ⟨rfl, rx⟩ | ⟨pp, xs, es, hp, rfl, rfl, rx, rfl⟩
      · exact ⟨G', s1, Sub.rfl, rx.mono sb1⟩
      · have sn := Stp.new (w := wdM μ' H') (o := .tup xs) s1.ok.okw hp
        exact ⟨_, s1.trans (s1.ok.lift sn), sn.up, .tup (SqT.of upd_same) ((rx.mono sb1).mono sn.up)⟩
    refine g2 σ' ρ' μ' G3 H'' x (.d d) _ _ s3.ok (sl1.mono up3) rx hl fun σ4 ρ4 s4 h4 => ?_
    have s5 : StpM X.K μ' G3 H'' μ' G3 H'' := s3.ok.stp
    refine b2 μ' G3 H'' σ4 ρ4 μ' H'' _ _ ⟨G3, s5, s4⟩ h4 ⟨fun σ5 ρ5 μ5 H5 ⟨G5, q1, q2⟩ h5 => ⟨ρ5, μ5, G5, s3.trans q1, q2, (sb1.trans up3).trans q1.up, h5⟩, fun v m μ5 G5 H5 q1 r5 h5 => r.rt v m μ5 G5 H5 (s3.trans q1) r5 h5,
      fun σ5 ρ5 μ5 H5 ⟨G5, q1, q2⟩ h5 => r.nx _ _ _ _ ⟨G5, s3.trans q1, q2⟩ h5, fun σ5 ρ5 μ5 H5 ⟨G5, q1, q2⟩ h5 => ⟨ρ5, μ5, G5, s3.trans q1, q2, (sb1.trans up3).trans q1.up, h5⟩, fun y σ5 ρ5 μ5 H5 ⟨G5, q1, q2⟩ h5 => r.ex y _ _ _ _ ⟨G5, s3.trans q1, q2⟩ h5⟩
  · rintro σ' H' ⟨ρ', μ', G', s1, sl1, _, hl⟩
    rw [List.drop_length] at hl
    exact r.nx _ _ _ _ ⟨G', s1, sl1⟩ hl
theorem px_forC {tl : ME} (hi : PM W X iter tl) (hg : PMG X tg gm) (hb : PMSs W X body sb) (hp : PassesOwn (model X.prog X.w) X.A X.env X.xe := by exact PassesOwn.never) (hc : X.calm = true := by rfl)
    (hs : ∀ x, foldedSetIterable iter X.env x = pure x := by intro _; rfl) : PMS W X (.For tg iter body [] pos) (xForC tl gm sb) := by
  obtain ⟨tl', l1, l2⟩ := hi
  obtain ⟨g, g1, g2⟩ := hg
  obtain ⟨tb, b1, b2⟩ := hb
  refine ⟨_, ps_for hp hc (pi_list l1) g1 b1 hs, fun μ0 G0 H0 σ ρ μ H D E ⟨G, s, sl⟩ hd r => ?_⟩
  refine l2 σ ρ μ G H _ _ _ s.ok sl hd (fun v m μ1 G1 H1 s1 r1 p1 => ?_) (r.xm s sl)
  cases m with
  | d d => exact p1.elim
  | a p =>
    obtain ⟨all, e1, p1⟩ := p1
    obtain ⟨vs, q1, q2⟩ := s1.ok.lst e1
    refine ⟨p, r1, ⟨vs, SqL.of q1⟩, ?_⟩
    refine ⟨fun i m σ' H' => ∃ ρ' μ', SPm X.K μ0 G0 H0 ρ' μ' σ' H' ∧ loopC gm sb E p all (all.drop i) ρ' μ' ∧ i ≤ all.length ∧ m = all.length - i, ⟨all.length, ρ, μ1, ⟨G1, s.trans s1, sl.mono s1.up⟩, p1, Nat.zero_le _, rfl⟩, ?_⟩
    rintro i m σ' H' ⟨ρ', μ', ⟨G', s2, sl2⟩, hl, hle, rfl⟩
    by_cases hi : i < all.length
    · have hdr : all.drop i = all[i] :: all.drop (i + 1) := List.drop_eq_getElem_cons hi
      rw [hdr] at hl
      obtain ⟨e2, hl⟩ := hl
      obtain ⟨ws, q3, q4⟩ := s2.ok.lst e2
      obtain ⟨x, q5, q6⟩ := q4.getM (List.getElem?_eq_getElem hi)
      refine .inr ⟨⟨ws, x, SqL.of q3, q5⟩, fun σ5 H5 => ∃ ρ5 μ5, SPm X.K μ0 G0 H0 ρ5 μ5 σ5 H5 ∧ loopC gm sb E p all (all.drop (i + 1)) ρ5 μ5, fun σ5 H5 ⟨ρ5, μ5, h5, h6⟩ => ⟨all.length - (i + 1), by omega, ρ5, μ5, h5, h6, hi, rfl⟩, fun y H3 hy => ?_⟩
      obtain ⟨rfl, hy⟩ := hy
      have ey := hy ws (SqL.of q3)
      rw [q5] at ey
      have ey := Option.some.inj ey
      subst ey
      refine g2 σ' ρ' μ' G' H3 x all[i] _ _ s2.ok sl2 q6 hl fun σ4 ρ4 s4 h4 => ?_
      exact b2 μ0 G0 H0 σ4 ρ4 μ' H3 _ _ ⟨G', s2, s4⟩ h4 ⟨fun σ5 ρ5 μ5 H5 h5 h6 => ⟨ρ5, μ5, h5, h6⟩, r.rt, r.nx, fun σ5 ρ5 μ5 H5 h5 h6 => ⟨ρ5, μ5, h5, h6⟩, r.ex⟩
    · have hd : all.drop i = [] := List.drop_eq_nil_of_le (by omega)
      rw [hd] at hl
      obtain ⟨ws, q3, q4⟩ := s2.ok.lst hl.1
      exact .inl ⟨⟨ws, SqL.of q3, by rw [q4.len]; omega⟩, r.nx _ _ _ _ ⟨G', s2, sl2⟩ hl.2⟩
/-! ### while -/
def turnsM (tt : MT) (sb : MS) (E : MEn) : Nat → En → Mu → Prop
  | 0 => fun _ _ => False
  | n + 1 => fun ρ μ => tt ρ μ (fun c μ1 => if c = true then sb ⟨turnsM tt sb E n, E.rt, E.nx, turnsM tt sb E n, E.ex⟩ ρ μ1 else E.nx ρ μ1) fun x μ1 => E.ex x ρ μ1
def xWh (tt : MT) (sb : MS) : MS := fun E ρ μ => ∃ n, turnsM tt sb E n ρ μ
theorem px_wh {c : Expr} {tt : MT} (ht : PMT W X c tt) (hb : PMSs W X body sb) (hp : PassesOwn (model X.prog X.w) X.A X.env X.xe := by exact PassesOwn.never) : PMS W X (.While c body [] pos) (xWh tt sb) := by
  obtain ⟨tc, c1, c2⟩ := ht
  obtain ⟨tb, b1, b2⟩ := hb
  refine ⟨_, ps_while hp c1 b1, fun μ0 G0 H0 σ ρ μ H D E s ⟨n, hn⟩ r => ?_⟩
  refine ⟨fun m σ' H' => ∃ ρ' μ', SPm X.K μ0 G0 H0 ρ' μ' σ' H' ∧ turnsM tt sb E m ρ' μ', ⟨n, ρ, μ, s, hn⟩, fun m σ' H' ⟨ρ', μ', ⟨G', s1, sl1⟩, ht⟩ => ?_⟩
  cases m with
  | zero => exact ht.elim
  | succ m =>
    refine c2 σ' ρ' μ' G' H' _ _ _ s1.ok sl1 ht (fun b μ2 G2 H2 s2 p => ?_) (r.xm s1 sl1)
    have s3 : SPm X.K μ0 G0 H0 ρ' μ2 σ' H2 := ⟨G2, s1.trans s2, sl1.mono s2.up⟩
    cases b with
    | false => exact r.nx _ _ _ _ s3 p
    | true =>
      refine ⟨fun σ4 H4 => ∃ ρ4 μ4, SPm X.K μ0 G0 H0 ρ4 μ4 σ4 H4 ∧ turnsM tt sb E m ρ4 μ4, fun σ4 H4 h4 => ⟨m, Nat.lt_succ_self m, h4⟩, ?_⟩
      exact b2 μ0 G0 H0 σ' ρ' μ2 H2 _ _ s3 p ⟨fun σ5 ρ5 μ5 H5 s5 h5 => ⟨ρ5, μ5, s5, h5⟩, r.rt, r.nx, fun σ5 ρ5 μ5 H5 s5 h5 => ⟨ρ5, μ5, s5, h5⟩, r.ex⟩
end
end M

set_option Elab.async false
set_option linter.all false
set_option maxRecDepth 100000
set_option maxHeartbeats 4000000
/-! M: tests, methods of lists, new things, op= -/
namespace M
open PySem PySem.Spec PyProof.Rows L2 Z
section
variable {W : WX} {X : Cx} {a b c e o i : Expr} {es rest : List Expr} {ta tb tc te to ti : ME} {tA tB : MT} {t : MA} {pos pos' apos tpos : Pos}
/-! ### tests -/
def asBM (P : Bool → Mu → Prop) : MV → Mu → Prop := fun m μ => match m with
  | .d (.bool k) => P k μ
  | _ => False
def mT (te : ME) : MT := fun ρ μ P PX => te ρ μ (asBM P) PX
theorem pmt_v (h : PM W X e te) (he : ∀ whole, isTrue e X.env whole = (do let v ← whole; standAt e.pos; holding [v] (truthy v)) := by intro _; rfl) : PMT W X e (mT te) := by
  obtain ⟨t, e1, e2⟩ := h
  refine ⟨_, pt_val e1 he, fun σ ρ μ G H P PX Q k s h1 q x => e2 σ ρ μ G H _ PX _ k s h1 (fun v m μ2 G2 H2 s2 r p => ?_) x⟩
  cases m with
  | a _ => exact p.elim
  | d d =>
    cases d with
    | bool z =>
      cases (show Rp X.K G2 v (.bool z) from r)
      exact ⟨z, rfl, q z μ2 G2 H2 s2 p⟩
    | _ => exact p.elim
def mAnd (t u : MT) : MT := fun ρ μ P PX => t ρ μ (fun c μ1 => if c = true then u ρ μ1 P PX else P false μ1) PX
def mOr (t u : MT) : MT := fun ρ μ P PX => t ρ μ (fun c μ1 => if c = true then P true μ1 else u ρ μ1 P PX) PX
def mNot (t : MT) : MT := fun ρ μ P PX => t ρ μ (fun c μ1 => P (!c) μ1) PX
theorem pmw_a1 (ha : PMT W X a tA) : PMW W X (.BoolOp .And [a] pos) tA := by
  obtain ⟨t, h1, h2⟩ := ha
  exact ⟨t, pw_and1 h1, h2⟩
theorem pmw_o1 (ha : PMT W X a tA) : PMW W X (.BoolOp .Or [a] pos) tA := by
  obtain ⟨t, h1, h2⟩ := ha
  exact ⟨t, pw_or1 h1, h2⟩
theorem pmw_a (ha : PMT W X a tA) (hb : PMW W X (.BoolOp .And (b :: rest) pos) tB) : PMW W X (.BoolOp .And (a :: b :: rest) pos) (mAnd tA tB) := by
  obtain ⟨t, h1, h2⟩ := ha
  obtain ⟨u, q1, q2⟩ := hb
  refine ⟨_, pw_and h1 q1, fun σ ρ μ G H P PX Q k s h q x => h2 σ ρ μ G H _ PX _ k s h (fun z μ1 G1 H1 s1 p1 => ?_) x⟩
  cases z with
  | true => exact q2 σ ρ μ1 G1 H1 P PX Q s1.ok (s.mono s1.up) p1 (fun z2 μ2 G2 H2 s2 => q z2 μ2 G2 H2 (s1.trans s2)) (x.step s1)
  | false => exact q false μ1 G1 H1 s1 p1
theorem pmw_o (ha : PMT W X a tA) (hb : PMW W X (.BoolOp .Or (b :: rest) pos) tB) : PMW W X (.BoolOp .Or (a :: b :: rest) pos) (mOr tA tB) := by
  obtain ⟨t, h1, h2⟩ := ha
  obtain ⟨u, q1, q2⟩ := hb
  refine ⟨_, pw_or h1 q1, fun σ ρ μ G H P PX Q k s h q x => h2 σ ρ μ G H _ PX _ k s h (fun z μ1 G1 H1 s1 p1 => ?_) x⟩
  cases z with
  | false => exact q2 σ ρ μ1 G1 H1 P PX Q s1.ok (s.mono s1.up) p1 (fun z2 μ2 G2 H2 s2 => q z2 μ2 G2 H2 (s1.trans s2)) (x.step s1)
  | true => exact q true μ1 G1 H1 s1 p1
theorem pmw_t (h : PMW W X e tA) : PMT W X e tA := by
  obtain ⟨t, h1, h2⟩ := h
  exact ⟨t, h1.pt, h2⟩
theorem pmt_no (ha : PMT W X a tA) : PMT W X (.UnaryOp .Not a pos) (mNot tA) := by
  obtain ⟨t, h1, h2⟩ := ha
  exact ⟨_, pt_not h1, fun σ ρ μ G H P PX Q k s h q x => h2 σ ρ μ G H _ PX _ k s h (fun z μ1 G1 H1 s1 p1 => q (!z) μ1 G1 H1 s1 p1) x⟩
/-! ### values of and, or, not, if -/
def mAndV (ta tb : ME) : ME := fun ρ μ P PX => ta ρ μ (asBM fun c μ1 => if c = true then tb ρ μ1 P PX else P (.d (.bool false)) μ1) PX
def mOrV (ta tb : ME) : ME := fun ρ μ P PX => ta ρ μ (asBM fun c μ1 => if c = true then P (.d (.bool true)) μ1 else tb ρ μ1 P PX) PX
def mNotV (ta : ME) : ME := fun ρ μ P PX => ta ρ μ (asBM fun c μ1 => P (.d (.bool (!c))) μ1) PX
theorem pm_one {op} (ha : PM W X a ta) : PM W X (.BoolOp op [a] pos) ta := by
  obtain ⟨t, h1, h2⟩ := ha
  exact ⟨t, pe_one h1, h2⟩
theorem pm_and (ha : PM W X a ta) (hb : PM W X (.BoolOp .And (b :: rest) pos) tb) : PM W X (.BoolOp .And (a :: b :: rest) pos) (mAndV ta tb) := by
  obtain ⟨t, h1, h2⟩ := ha
  obtain ⟨u, q1, q2⟩ := hb
  refine ⟨_, pe_and h1 q1, fun σ ρ μ G H P PX Q k s h q x => h2 σ ρ μ G H _ PX _ k s h (fun v m μ1 G1 H1 s1 r1 p1 => ?_) x⟩
  cases m with
  | a _ => exact p1.elim
  | d d =>
    cases d with
    | bool z =>
      cases (show Rp X.K G1 v (.bool z) from r1)
      refine ⟨z, rfl, ?_⟩
      cases z with
      | true => exact q2 σ ρ μ1 G1 H1 P PX Q s1.ok (s.mono s1.up) p1 (fun v2 m2 μ2 G2 H2 s2 => q v2 m2 μ2 G2 H2 (s1.trans s2)) (x.step s1)
      | false => exact q (.bl false) (.d (.bool false)) μ1 G1 H1 s1 (Rp.bl false) p1
    | _ => exact p1.elim
theorem pm_or (ha : PM W X a ta) (hb : PM W X (.BoolOp .Or (b :: rest) pos) tb) : PM W X (.BoolOp .Or (a :: b :: rest) pos) (mOrV ta tb) := by
  obtain ⟨t, h1, h2⟩ := ha
  obtain ⟨u, q1, q2⟩ := hb
  refine ⟨_, pe_or h1 q1, fun σ ρ μ G H P PX Q k s h q x => h2 σ ρ μ G H _ PX _ k s h (fun v m μ1 G1 H1 s1 r1 p1 => ?_) x⟩
  cases m with
  | a _ => exact p1.elim
  | d d =>
    cases d with
    | bool z =>
      cases (show Rp X.K G1 v (.bool z) from r1)
      refine ⟨z, rfl, ?_⟩
      cases z with
      | false => exact q2 σ ρ μ1 G1 H1 P PX Q s1.ok (s.mono s1.up) p1 (fun v2 m2 μ2 G2 H2 s2 => q v2 m2 μ2 G2 H2 (s1.trans s2)) (x.step s1)
      | true => exact q (.bl true) (.d (.bool true)) μ1 G1 H1 s1 (Rp.bl true) p1
    | _ => exact p1.elim
theorem pm_not (ha : PM W X a ta) : PM W X (.UnaryOp .Not a pos) (mNotV ta) := by
  obtain ⟨t, h1, h2⟩ := ha
  refine ⟨_, pe_not h1, fun σ ρ μ G H P PX Q k s h q x => h2 σ ρ μ G H _ PX _ k s h (fun v m μ1 G1 H1 s1 r1 p1 => ?_) x⟩
  cases m with
  | a _ => exact p1.elim
  | d d =>
    cases d with
    | bool z =>
      cases (show Rp X.K G1 v (.bool z) from r1)
      exact ⟨z, rfl, q (.bl (!z)) (.d (.bool (!z))) μ1 G1 H1 s1 (Rp.bl _) p1⟩
    | _ => exact p1.elim
def mIf (tc : MT) (ta tb : ME) : ME := fun ρ μ P PX => tc ρ μ (fun c μ1 => if c = true then ta ρ μ1 P PX else tb ρ μ1 P PX) PX
theorem pm_if (hc : PMT W X c tA) (ha : PM W X a ta) (hb : PM W X b tb) : PM W X (.IfExp c a b pos) (mIf tA ta tb) := by
  obtain ⟨t, h1, h2⟩ := hc
  obtain ⟨u, a1, a2⟩ := ha
  obtain ⟨v, b1, b2⟩ := hb
  refine ⟨_, pe_ifExp h1 a1 b1, fun σ ρ μ G H P PX Q k s h q x => h2 σ ρ μ G H _ PX _ k s h (fun z μ1 G1 H1 s1 p1 => ?_) x⟩
  cases z with
  | true => exact a2 σ ρ μ1 G1 H1 P PX Q s1.ok (s.mono s1.up) p1 (fun v2 m2 μ2 G2 H2 s2 => q v2 m2 μ2 G2 H2 (s1.trans s2)) (x.step s1)
  | false => exact b2 σ ρ μ1 G1 H1 P PX Q s1.ok (s.mono s1.up) p1 (fun v2 m2 μ2 G2 H2 s2 => q v2 m2 μ2 G2 H2 (s1.trans s2)) (x.step s1)
/-! ### xs.append(e), as a value -/
def mApp (to te : ME) : ME := fun ρ μ P PX => to ρ μ (fun m μ1 => match m with
  | .a p => (∃ xs, μ1 p = some (.L xs)) ∧ te ρ μ1 (fun y μ2 => ∃ xs, μ2 p = some (.L xs) ∧ xs.length < 1000000 ∧ P (.d .none) (M.up μ2 p (.L (xs ++ [y])))) PX
  | _ => False) PX
theorem pm_app (ho : PM W X o to) (he : PM W X e te) (hbase : attributeBase o "append" X.env (eval o X.env) = eval o X.env := by rfl)
    (hfew : ((backTo pos (starEach [e] X.env)).all (fun x => !x.1) && (backToKw pos (keywordEach [] X.env)).all (fun x => x.1.isSome) && decide (([e] : List Expr).length + ([] : List Keyword).length + (if ([] : List Keyword).isEmpty then 0 else 1) < 30)) = true := by rfl)
    (hline : (apos.endLine == pos.line) = true := by rfl) (hs : starEach [e] X.env = (false, eval e X.env) :: starEach [] X.env := by rfl) (hplain : (backTo pos (starEach [] X.env)).any (·.1) = false := by rfl) :
    PM W X (.Call (.Attribute o "append" apos) [e] [] pos) (mApp to te) := by
  obtain ⟨u, o1, o2⟩ := ho
  obtain ⟨t, e1, e2⟩ := he
  refine ⟨_, pe_bm PySem.F.plainAttrs_list PySem.F.slot_list_append PySem.F.type_list_append mt_append o1 (pa_cons e1 pa_nil hs) hbase hfew hline hs hplain, fun σ ρ μ G H P PX Q k s h q x => ?_⟩
  refine o2 σ ρ μ G H _ PX _ k s h (fun v m μ1 G1 H1 s1 r1 p1 => ?_) x
  cases m with
  | d d => exact p1.elim
  | a p =>
    obtain ⟨⟨xs, z1⟩, p1⟩ := p1
    obtain ⟨vs, q1, q2⟩ := s1.ok.lst z1
    have ev : v = .ref p := r1
    subst ev
    refine ⟨.inl ⟨rfl, vs, SqL.of q1⟩, ?_⟩
    refine e2 σ ρ μ1 G1 H1 _ PX _ s1.ok (s.mono s1.up) p1 (fun v2 m2 μ2 G2 H2 s2 r2 p2 => ?_) (x.step s1)
    obtain ⟨ys, z2, z3, p2⟩ := p2
    obtain ⟨ws, q3, q4⟩ := s2.ok.lst z2
    have s3 := s2.ok.turn (o := .lst (ws ++ [v2])) (c := .L (ys ++ [m2])) z2 (RmL.app q4 (.cons r2 .nil))
    exact ⟨p, ws, v2, rfl, rfl, q3, by rw [q4.len]; exact line_lt z3, q _ (.d .none) _ _ _ ((s1.trans s2).trans s3) Rp.non p2⟩
/-! ### new lists, tuples of data -/
def mLst (t : MA) : ME := fun ρ μ P PX => t ρ μ (fun ms μ1 => ∀ p, μ1 p = none → P (.a p) (M.up μ1 p (.L ms))) PX
theorem pm_lst (h : PMA W X es t) (hl : es.length ≤ 1000 := by decide) : PM W X (.List es pos) (mLst t) := by
  obtain ⟨u, h1, h2⟩ := h
  refine ⟨_, pe_lst h1, fun σ ρ μ G H P PX Q k s h q x => h2 σ ρ μ G H _ PX _ k s h (fun vs ms μ1 G1 H1 s1 r1 l1 p1 => ?_) x⟩
  exact ⟨by rw [l1]; exact line_le (by omega), fun p np => q (.ref p) (.a p) _ G1 _ (s1.trans (s1.ok.new np (o := .lst vs) (c := .L ms) r1)) rfl (p1 p (s1.ok.fresh np))⟩
def datas : List MV → Option (List DD)
  | [] => some []
  | .d d :: r => (datas r).map (d :: ·)
  | .a _ :: _ => none
theorem datas_eq : ∀ {ms : List MV} {ds : List DD}, datas ms = some ds → ms = ds.map MV.d
  | [], _, h => by cases h; rfl
  | .d d :: r, ds, h => by
    unfold datas at h
    cases e : datas r with
    | none => rw [e] at h; cases h
    | some es => rw [e] at h; cases h; rw [datas_eq e]; rfl
  | .a _ :: _, _, h => by cases h
def mTup (t : MA) : ME := fun ρ μ P PX => t ρ μ (fun ms μ1 => ∃ ds, datas ms = some ds ∧ P (.d (.tuple ds)) μ1) PX
theorem pm_tup {x1} (h : PMA W X es t) (hl : es.length ≤ 1000 := by decide) : PM W X (.Tuple es x1 pos) (mTup t) := by
  obtain ⟨u, h1, h2⟩ := h
  refine ⟨_, pe_tup h1, fun σ ρ μ G H P PX Q k s h q x => h2 σ ρ μ G H _ PX _ k s h (fun vs ms μ1 G1 H1 s1 r1 l1 p1 => ?_) x⟩
  obtain ⟨ds, e1, p1⟩ := p1
  have e2 := datas_eq e1
  subst e2
  refine ⟨by rw [l1]; exact line_le (by omega), fun p np => ?_⟩
  have sn := Stp.new (w := wdM μ1 H1) (o := .tup vs) s1.ok.okw np
  exact q (.ref p) (.d (.tuple ds)) μ1 _ _ (s1.trans (s1.ok.lift sn)) (Rp.tup (SqT.of upd_same) ((RmL.data r1).mono sn.up)) p1
/-- a list display of plain data, as a datum -/
def mLstD (t : MA) : ME := fun ρ μ P PX => t ρ μ (fun ms μ1 => ∃ ds, datas ms = some ds ∧ P (.d (.list ds)) μ1) PX
theorem pm_lstD (h : PMA W X es t) (hl : es.length ≤ 1000 := by decide) : PM W X (.List es pos) (mLstD t) := by
  obtain ⟨u, h1, h2⟩ := h
  refine ⟨_, pe_lst h1, fun σ ρ μ G H P PX Q k s h q x => h2 σ ρ μ G H _ PX _ k s h (fun vs ms μ1 G1 H1 s1 r1 l1 p1 => ?_) x⟩
  obtain ⟨ds, e1, p1⟩ := p1
  have e2 := datas_eq e1
  subst e2
  refine ⟨by rw [l1]; exact line_le (by omega), fun p np => ?_⟩
  have sn := Stp.new (w := wdM μ1 H1) (o := .lst vs) s1.ok.okw np
  exact q (.ref p) (.d (.list ds)) μ1 _ _ (s1.trans (s1.ok.lift sn)) (Rp.lst upd_same ((RmL.data r1).mono sn.up)) p1
end
end M

set_option Elab.async false
set_option linter.all false
set_option maxRecDepth 100000
set_option maxHeartbeats 4000000
/-! M: classes are called; defs and methods; try; op= -/
namespace M
open PySem PySem.Spec PyProof.Rows L2 Z
section
variable {W : WX} {X : Cx} {a b c e o i : Expr} {es rest : List Expr} {ta tb tc te to ti : ME} {t : MA} {pos pos' apos tpos p : Pos} {C : Addr} {x : Str} {F : F1} {kf j : Nat}
/-! ### C(e, ..) -/
theorem pe_makeW {sp : Sp} {E : L2.St → XK} {t' : TA} {CX : CXT} {f : Addr} {fd : FuncData} {ps : List Str} (MK : Mk X.K C f) (F : FnOk X.prog X.w X.K X.mg X.base CX kf f fd ps sp) (hr : Room (kf + 1) X.A) (hg : Gl X x) (hm : X.mg x = some (.ref C)) (hb : Binds X.K fd ps []) (hx : ∀ σ, PassesAt CX X σ (E σ))
    (ha : PA X (e :: es) t') (hdb : (x == ("__debug__" : Str)) = false) (he : starEach (e :: es) X.env = (false, eval e X.env) :: starEach es X.env) (hpl : (backTo pos (starEach es X.env)).any (·.1) = false) :
    PE X (.Call (.Name x p) (e :: es) [] pos) (fun σ H Q => t' σ H fun vs H1 => ∀ q dx, H1 q = none → H1 dx = none → dx ≠ q → sp (.ref q :: vs) (upd (upd H1 dx (.own q)) q (.ins C dx [])) (fun v H2 => v = .non ∧ Q (.ref q) H2) (E σ)) := by
  constructor
  intro pins st0 σ H Q I0 dm
  refine wpAny_Call_Name_kw (ld_glob I0 hg hm (PySem.W.callWith_K (h₀ := X.base) I0.ok.mod.kin MK.kp (thn (ha.run pos pins st0 σ H _ I0 dm) fun us s told => ?_) he hpl) hdb)
  obtain ⟨vs, H1, I1, rv, want⟩ := told
  refine ⟨I1.kIn, ?_⟩
  have want1 := want (s.heap.objs.size + 1) s.heap.objs.size (I1.hok.fresh (Nat.le_succ _)) (I1.hok.fresh (Nat.le_refl _)) (Nat.ne_of_lt (Nat.lt_succ_self _))
  have I2 := I1.made (C := C)
  have rv2 : Vals (V.ref (s.heap.objs.size + 1) :: vs) (Value.ref (s.heap.objs.size + 1) :: us) := .cons rfl rv
  have len2 : (Value.ref (s.heap.objs.size + 1) :: us).length = ps.length := by rw [← rv2.length]; exact F.len _ _ _ _ want1
  have bnd := hb _ (Value.ref (s.heap.objs.size + 1) :: us) I2.kIn (by rw [List.append_nil]; exact len2)
  rw [List.append_nil] at bnd
  refine wpAny_call (make_map (f := f) I1.kIn MK.makes MK.init (beq_iff_eq.mp MK.fn) (codeAny_mono (F.run _ X.stack _ _ ⟨Value.ref (s.heap.objs.size + 1) :: us, []⟩ _ _ _ (E σ) (hr.make C us []) (I2.env0.make C us []) bnd rv2 want1) fun res s2 back => ?_))
  cases res with
  | error er => exact hx σ pins _ _ er s2 I2 back
  | ok fl =>
    cases fl with
    | ret u =>
      obtain ⟨v, H3, I3, ru, ev, q3⟩ := I2.after back
      cases ev
      exact ⟨ru, V.ref (s.heap.objs.size + 1), H3, I3, rfl, q3⟩
    | next => exact back.elim
    | brk => exact back.elim
    | cont => exact back.elim
/-- a new instance: __init__ runs on it, without attributes -/
def mMk (C : Addr) (F : F1) (t : MA) : ME := fun ρ μ P PX => t ρ μ (fun ms μ1 => ∀ q, μ1 q = none → F (.a q :: ms) (M.up μ1 q (.O C [])) (fun m μ2 => m = .d .none ∧ P (.a q) μ2) PX) PX
structure InM (P : Program) (wd : World) (K : PySem.W.Frag) (mg : Str → Option Value) (base : Heap) (k : Nat) (C : Addr) (F : F1) : Prop where
  ex : ∃ f fd ps, FnOk P wd K mg base (L2.CX P wd) k f fd ps (spM K F) ∧ Mk K C f ∧ Binds K fd ps []
theorem rm_none {K : PySem.W.Frag} {G : Hp} {v : V} (r : Rm K G v (.d .none)) : v = .non := by
  cases (show Rp K G v .none from r); rfl
theorem pm_mk (N : InM X.prog X.w X.K X.mg X.base kf C F) (hm : X.mg x = some (.ref C)) (tk : Takes X W) (hr : Room j X.A) (ha : PMA W X (e :: es) t) (hj : kf + 1 ≤ j := by decide) (hg : Gl X x := by rfl) (hdb : (x == ("__debug__" : Str)) = false := by decide)
    (he : starEach (e :: es) X.env = (false, eval e X.env) :: starEach es X.env := by rfl) (hpl : (backTo pos (starEach es X.env)).any (·.1) = false := by rfl) : PM W X (.Call (.Name x p) (e :: es) [] pos) (mMk C F t) := by
  obtain ⟨f, fd, ps, h1, h2, h3⟩ := N
  obtain ⟨t', a1, a2⟩ := ha
  refine ⟨_, pe_makeW h2 h1 (hr.mono hj) hg hm h3 (fun σ => passAt tk σ) a1 hdb he hpl, fun σ ρ μ G H P PX Q k s h q qx => ?_⟩
  refine a2 σ ρ μ G H _ PX _ k s h (fun vs ms μ1 G1 H1 s1 r1 _ p1 => fun q0 dx n1 n2 ne => ?_) qx
  have sA : StpM X.K μ1 G1 H1 μ1 G1 (upd H1 dx (.own q0)) := s1.ok.lift (Stp.new0 s1.ok.okw n2)
  have nq : upd H1 dx (.own q0) q0 = none := by rw [upd_ne (fun z => ne z.symm)]; exact n1
  have sB := sA.ok.new nq (o := .ins C dx []) (c := .O C []) ⟨rfl, .nil⟩
  have sAB := (s1.trans sA).trans sB
  refine ⟨M.up μ1 q0 (.O C []), G1, .a q0 :: ms, _, PX, sAB.ok, .cons rfl r1, p1 q0 (s1.ok.fresh n1), fun v m μ2 G2 H2 s2 r2 z => ?_, qx.step sAB⟩
  obtain ⟨rfl, z⟩ := z
  exact ⟨rm_none r2, q (.ref q0) (.a q0) μ2 G2 H2 (sAB.trans s2) rfl z⟩
end
/-! ### a def -/
def endsM (P : MV → Mu → Prop) (PX : Str → Mu → Prop) : MEn := ⟨fun _ μ => P (.d .none) μ, P, fun _ _ => False, fun _ _ => False, fun x _ μ => PX x μ⟩
def startM (N : List Str) (ms : List MV) : En := ms.map entM ++ List.replicate (N.length - ms.length) Ent.un
theorem start_at {K : PySem.W.Frag} {G : Hp} : ∀ {vs : List V} {ms : List MV} (n : Nat), RmL K G vs ms → SlOk K G (vs.map some ++ List.replicate n none) (ms.map entM ++ List.replicate n Ent.un)
  | _, _, n, .nil => by
    refine ⟨by simp, fun i d h => ?_, fun i d h => ?_⟩
    · have z : Ent.dat d ∈ List.replicate n Ent.un := List.mem_of_getElem? h
      rw [List.mem_replicate] at z; cases z.2
    · have z : Ent.adr d ∈ List.replicate n Ent.un := List.mem_of_getElem? h
      rw [List.mem_replicate] at z; cases z.2
  | v :: vs, m :: ms, n, .cons r t => by
    have ih := start_at n t
    refine ⟨by simpa using ih.len, fun i d h => ?_, fun i d h => ?_⟩
    · cases i with
      | zero =>
        have e : entM m = .dat d := Option.some.inj h
        cases m with
        | a p => cases e
        | d d' => cases e; exact ⟨v, rfl, r⟩
      | succ i => exact ih.dat i d h
    · cases i with
      | zero =>
        have e : entM m = .adr d := Option.some.inj h
        cases m with
        | d _ => cases e
        | a p => cases e; rw [show v = .ref d from r]; rfl
      | succ i => exact ih.adr i d h
section
variable {P : Program} {wd : World} {K : PySem.W.Frag} {mg : Str → Option Value} {base : Heap} {x qual : Str} {st : Stmt} {N ps : List Str} {k : Nat} {F : F1} {sd : MS}
theorem fn_m {f : Addr} {fd : FuncData} (Fn : Fun K x qual st f fd) (S : FnScope N ps (defScope st))
    (body : ∀ (cdv : Value) (A : Around) (outer : List Env) (s : Shared) (H : Hp) (E : XK), Room k (A.deeper (envOfC qual (defScope st) s.heap.objs.size f cdv)) → PMSs (fun cls d _ H => E cls d H) (cxOf (L2.CX P wd) P wd K mg base N qual (defScope st) f cdv A outer s H E) (defBody st) sd)
    (hF : ∀ ms μ P PX, F ms μ P PX → ms.length = ps.length ∧ sd (endsM P PX) (startM N ms) μ) : FnOk P wd K mg base (L2.CX P wd) (k + 1) f fd ps (spM K F) := by
  refine Fn.okX S (fun vs H Q E h => ?_) (fun cdv A outer s H vs Q E hr h => ?_)
  · obtain ⟨μ, G, ms, P', PX, ok, r, hf, _⟩ := h
    rw [r.len]; exact (hF ms μ P' PX hf).1
  · obtain ⟨μ, G, ms, P', PX, ok, r, hf, q, qx⟩ := h
    obtain ⟨ts, t1, t2⟩ := body cdv A outer s H E hr
    have sl : SlOk K G (start N vs) (startM N ms) := by
      unfold L2.start startM
      rw [← r.len]
      exact start_at _ r
    exact ⟨ts, t1, t2 μ G H (start N vs) (startM N ms) μ H _ (endsM P' PX) ⟨G, ok.stp, sl⟩ (hF ms μ P' PX hf).2 ⟨fun σ ρ μ2 H2 ⟨G2, s2, _⟩ h2 => q .non (.d .none) μ2 G2 H2 s2 Rp.non h2, q, fun _ _ _ _ _ z => z.elim, fun _ _ _ _ _ z => z.elim, fun y σ ρ μ2 H2 ⟨G2, s2, _⟩ h2 => qx y μ2 G2 H2 s2 h2⟩⟩
theorem fnm_mk (D : Dfn K mg x st ps) (S : FnScope N ps (defScope st))
    (body : ∀ (f : Addr) (cdv : Value) (A : Around) (outer : List Env) (s : Shared) (H : Hp) (E : XK), Room k (A.deeper (envOfC x (defScope st) s.heap.objs.size f cdv)) → PMSs (fun cls d _ H => E cls d H) (cxOf (L2.CX P wd) P wd K mg base N x (defScope st) f cdv A outer s H E) (defBody st) sd)
    (hF : ∀ ms μ P PX, F ms μ P PX → ms.length = ps.length ∧ sd (endsM P PX) (startM N ms) μ) : FnM P wd K mg base (k + 1) x F := by
  obtain ⟨f, fd, Fn, h2, h3⟩ := D
  exact ⟨f, fd, ps, fn_m Fn S (body f) hF, h2, Fn.kp, h3⟩
end
end M

set_option Elab.async false
set_option linter.all false
set_option maxRecDepth 100000
set_option maxHeartbeats 4000000
/-! M: lists that may turn are looked at as data, where the answer has no parts -/
namespace M
open PySem PySem.Spec PyProof.Rows L2 Z
/-- the data of a cell, if it is a list of data -/
def cellD : Option Cell → Option (List DD)
  | some (.L xs) => datas xs
  | _ => none
def seeV (μ : Mu) : MV → Option DD
  | .d d => some d
  | .a p => (cellD (μ p)).map .list
def seeL (μ : Mu) : List MV → Option (List DD)
  | [] => some []
  | m :: ms => match seeV μ m, seeL μ ms with
    | some d, some ds => some (d :: ds)
    | _, _ => none
section
open Classical
variable {K : PySem.W.Frag} {μ : Mu} {G H G2 H2 : Hp}
/-- with the lists of data taken for data -/
noncomputable def seeG (μ : Mu) (G H : Hp) : Hp := fun a => if cellD (μ a) ≠ none then H a else G a
theorem OkM.seeSub (k : OkM K μ G H) : Sub G (seeG μ G H) := fun a o e => by
  unfold seeG
  split
  · exact k.sub a o e
  · exact e
theorem OkM.seeUp (k : OkM K μ G H) : Sub (seeG μ G H) H := fun a o e => by
  unfold seeG at e
  split at e
  · exact e
  · exact k.sub a o e
/-- the world: what may turn, but for the lists of data -/
def muO (μ : Mu) : Mu := fun a => if cellD (μ a) ≠ none then none else μ a
theorem OkM.seen (k : OkM K μ G H) : OkM K (muO μ) (seeG μ G H) H := by
  refine ⟨k.seeUp, fun a c e => ?_, fun a n => ?_⟩
  · unfold muO at e
    split at e
    · cases e
    · obtain ⟨o, h1, h2⟩ := k.cell a c e
      exact ⟨o, h1, h2.mono k.seeSub⟩
  · unfold muO at n
    split at n
    · exact absurd rfl n
    · rename_i hc
      unfold seeG
      rw [if_neg hc]
      exact k.sep a n
/-- what a look did: nothing that may turn has turned -/
theorem OkM.unsee (k : OkM K μ G H) (s : Stp (wdM (muO μ) H) (seeG μ G H) H G2 H2) : StpM K μ G H μ G H2 := by
  have keep : ∀ a o, μ a ≠ none → H a = some o → H2 a = some o := fun a o n e => by
    by_cases hc : cellD (μ a) ≠ none
    · exact s.kp a o (fun z : muO μ a ≠ none => z (by unfold muO; rw [if_pos hc])) e
    · have : muO μ a ≠ none := by unfold muO; rw [if_neg hc]; exact n
      rw [s.wd a this]; exact e
  refine ⟨Sub.rfl, fun a o n e => s.kp a o (fun z : muO μ a ≠ none => z (by unfold muO; split <;> first | rfl | exact n)) e, s.th, fun a _ g n => ⟨g, n⟩, fun a o e => s.sub a o (s.up a o (k.seeSub a o e)), fun a c e => ?_, k.sep⟩
  obtain ⟨o, h1, h2⟩ := k.cell a c e
  exact ⟨o, keep a o (by rw [e]; exact fun z => nomatch z) h1, h2⟩
theorem OkM.seeV (k : OkM K μ G H) {v : V} {m : MV} {d : DD} (r : Rm K G v m) (h : M.seeV μ m = some d) : Rp K (seeG μ G H) v d := by
  cases m with
  | d x => cases h; exact Rp.mono k.seeSub r
  | a p =>
    have h : (cellD (μ p)).map PyData.list = some d := h
    cases hc : cellD (μ p) with
    | none => rw [hc] at h; cases h
    | some ds =>
      rw [hc] at h
      cases h
      have ev : v = .ref p := r
      subst ev
      cases e : μ p with
      | none => rw [e] at hc; cases hc
      | some c =>
        cases c with
        | L xs =>
          rw [e] at hc
          have ex := datas_eq hc
          subst ex
          obtain ⟨vs, h1, h2⟩ := k.lst e
          refine .lst (xs := vs) ?_ ((RmL.data h2).mono k.seeSub)
          unfold seeG
          rw [if_pos (by rw [e, hc]; exact fun z => nomatch z)]
          exact h1
        | _ => rw [e] at hc; cases hc
theorem OkM.seeL (k : OkM K μ G H) : ∀ {vs : List V} {ms : List MV} {ds : List DD}, RmL K G vs ms → M.seeL μ ms = some ds → RpAll K (seeG μ G H) vs ds
  | _, _, _, .nil, h => by cases h; exact .nil
  | v :: vs, m :: ms, ds, .cons r t, h => by
    unfold M.seeL at h
    cases e1 : M.seeV μ m with
    | none => rw [e1] at h; cases h
    | some d =>
      cases e2 : M.seeL μ ms with
      | none => rw [e1, e2] at h; cases h
      | some es =>
        rw [e1, e2] at h; cases h
        exact .cons (k.seeV r e1) (OkM.seeL k t e2)
end
section
variable {W : WX} {X : Cx} {a b e : Expr} {es : List Expr} {ta tb te : ME} {t : MA} {pos p : Pos} {x : Str}
/-- an operation that only looks -/
def mOpK (g : D2) (ta tb : ME) : ME := fun ρ μ P PX => ta ρ μ (fun x μ1 => tb ρ μ1 (fun y μ2 => ∃ d e, seeV μ2 x = some d ∧ seeV μ2 y = some e ∧ g d e fun z => flatD z = true ∧ P (.d z) μ2) PX) PX
theorem rem_opK {r : R2} {g : D2} {ta' tb' : TE} (ho : ∀ w, RO w X.K r g) (ha : REM W X.K ta' ta) (hb : REM W X.K tb' tb) : REM W X.K (tOp r ta' tb') (mOpK g ta tb) := by
  intro σ ρ μ G H P PX Q k s h q x
  refine ha σ ρ μ G H _ PX _ k s h (fun v m μ1 G1 H1 s1 r1 p1 => ?_) x
  refine hb σ ρ μ1 G1 H1 _ PX _ s1.ok (s.mono s1.up) p1 (fun v2 m2 μ2 G2 H2 s2 r2 p2 => ?_) (x.step s1)
  obtain ⟨d, e, z1, z2, p2⟩ := p2
  have k2 := s2.ok
  refine ho (wdM (muO μ2) H2) v v2 d e (seeG μ2 G2 H2) H2 _ Q k2.seen.okw (k2.seeV (Rm.mono s2.up r1) z1) (k2.seeV r2 z2) p2 fun z dz G3 H3 s3 r3 p3 => ?_
  exact q z (.d dz) μ2 G2 H3 ((s1.trans s2).trans (k2.unsee s3)) (Rp.flatTo r3 p3.1) p3.2
theorem pm_opK {op : Operator} {g : D2} (ho : ∀ w : Wd, OpD w X (binaryOp op) g) (ha : PM W X a ta) (hb : PM W X b tb) : PM W X (.BinOp a op b pos) (mOpK g ta tb) := by
  obtain ⟨r, o1, o2⟩ := opM ho
  obtain ⟨ta', a1, a2⟩ := ha
  obtain ⟨tb', b1, b2⟩ := hb
  exact ⟨_, pe_op o1 a1 b1, rem_opK o2 a2 b2⟩
theorem pm_cmpK {op : CmpOp} {g : D2} (ho : ∀ w : Wd, OpD w X (compareOp op) g) (ha : PM W X a ta) (hb : PM W X b tb) (hm : behindInMarks op b = false := by first | exact nomark _ (by decide) (by decide) | rfl) : PM W X (.Compare a [op] [b] pos) (mOpK g ta tb) := by
  obtain ⟨r, o1, o2⟩ := opM ho
  obtain ⟨ta', a1, a2⟩ := ha
  obtain ⟨tb', b1, b2⟩ := hb
  exact ⟨_, pe_cmpR o1 a1 b1 hm, rem_opK o2 a2 b2⟩
theorem pmt_cmK {op : CmpOp} {g : D2} (ho : ∀ w : Wd, OpD w X (compareOp op) g) (ha : PM W X a ta) (hb : PM W X b tb) (hm : behindInMarks op b = false := by first | exact nomark _ (by decide) (by decide) | rfl) : PMT W X (.Compare a [op] [b] pos) (mT (mOpK g ta tb)) := by
  obtain ⟨r, o1, o2⟩ := opM ho
  obtain ⟨ta', a1, a2⟩ := ha
  obtain ⟨tb', b1, b2⟩ := hb
  have e2 := rem_opK o2 a2 b2
  refine ⟨_, pt_cmpR o1 a1 b1 hm, fun σ ρ μ G H P PX Q k s h1 q x => e2 σ ρ μ G H _ PX _ k s h1 (fun v m μ2 G2 H2 s2 r p => ?_) x⟩
  cases m with
  | a _ => exact p.elim
  | d d =>
    cases d with
    | bool z =>
      cases (show Rp X.K G2 v (.bool z) from r)
      exact ⟨z, rfl, q z μ2 G2 H2 s2 p⟩
    | _ => exact p.elim
/-- a built-in that only looks -/
def mCallK (g : D1) (t : MA) : ME := fun ρ μ P PX => t ρ μ (fun ms μ1 => ∃ ds, seeL μ1 ms = some ds ∧ g ds fun z => flatD z = true ∧ P (.d z) μ1) PX
theorem callM {f : Value} {g : D1} (h : ∀ w : Wd, CallD w X f g) : ∃ r, CallR X f r ∧ ∀ w, RC w X.K r g :=
  ⟨fun xs H Q => ∃ w : Wd, Classical.choose (h w) xs H Q, fun pins s σ H xs us Q I r ⟨w, q⟩ => (Classical.choose_spec (h w)).1 pins s σ H xs us Q I r q,
    fun w xs ds G H P Q k r h1 q => ⟨w, (Classical.choose_spec (h w)).2 xs ds G H P Q k r h1 q⟩⟩
theorem pm_cbK {g : D1} {id : String} (hc : ∀ w : Wd, CallD w X (.builtin id) g) (hm : X.mg x = none) (hv : bootBuiltins x = some (.builtin id)) (ha : PMA W X (e :: es) t) (hg : Gl X x := by rfl) (hn : x ≠ "__name__" := by decide) (hdb : (x == ("__debug__" : Str)) = false := by decide)
    (he : starEach (e :: es) X.env = (false, eval e X.env) :: starEach es X.env := by rfl) (hpl : (backTo pos (starEach es X.env)).any (·.1) = false := by rfl) : PM W X (.Call (.Name x p) (e :: es) [] pos) (mCallK g t) := by
  obtain ⟨r, c1, c2⟩ := callM hc
  obtain ⟨t', a1, a2⟩ := ha
  refine ⟨_, pe_callB c1 hg hm hv a1 hn hdb he hpl, fun σ ρ μ G H P PX Q k s h q x => ?_⟩
  refine a2 σ ρ μ G H _ PX _ k s h (fun vs ms μ1 G1 H1 s1 r1 _ p1 => ?_) x
  obtain ⟨ds, z1, p1⟩ := p1
  have k1 := s1.ok
  refine c2 vs ds (seeG μ1 G1 H1) H1 _ Q (w := wdM (muO μ1) H1) k1.seen.okw (k1.seeL r1 z1) p1 fun z dz G3 H3 s3 r3 p3 => ?_
  exact q z (.d dz) μ1 G1 H3 (s1.trans (k1.unsee s3)) (Rp.flatTo r3 p3.1) p3.2
end
section
variable {P : Program} {wd : World} {K : PySem.W.Frag} {mg : Str → Option Value} {base : Heap} {k : Nat} {x : Str}
/-- a pure def that only looks, over lists that may turn, too -/
def fK (F : D1) : F1 := fun ms μ P _ => ∃ ds, seeL μ ms = some ds ∧ F ds fun z => flatD z = true ∧ P (.d z) μ
theorem fnm_k {F : D1} (h : Fnc P wd K mg base k x F) : FnM P wd K mg base k x (fK F) := by
  obtain ⟨f, fd, ps, h1, h2⟩ := h
  refine ⟨f, fd, ps, (fnOk_cx h1).imp fun vs H Q E q => ?_, h2⟩
  obtain ⟨μ, G, ms, P, PX, ok, r, ⟨ds, hs, hf⟩, q, _⟩ := q
  refine ⟨seeG μ G H, ds, _, ok.seeUp, ok.seeL r hs, hf, fun v d G2 H2 s r2 p => ?_⟩
  exact q v (.d d) μ G H2 (ok.unsee (s.lift ok.seen.okw)) (Rp.flatTo r2 p.1) p.2
end
end M

set_option Elab.async false
set_option linter.all false
set_option maxRecDepth 100000
set_option maxHeartbeats 4000000
/-! M: what draws, by the rules over plain data; try; op= -/
namespace M
open PySem PySem.Spec PyProof.Rows L2 Z
/-- the drawing state at a may turn, all else that may turn stays just as it is -/
def wdS (μ : Mu) (a l : Addr) (ns : List Int) (H : Hp) : Wd where
  st := fun b => μ b ≠ none ∨ b = a
  fp := fun b => μ b ≠ none ∨ b = a ∨ b = l
  W := fun H' => (∀ b, μ b ≠ none → b ≠ a → H' b = H b) ∧ (wst a l ns).W H'
  sf := fun b h => h.elim .inl fun z => .inr (.inl z)
  loc := fun {H1 H2} e h => ⟨fun b n z => by rw [e b (.inl n)]; exact h.1 b n z, (wst a l ns).loc (fun b hb => e b (.inr hb)) h.2⟩
  ex := fun _ _ _ _ => False
section
variable {X : Cx} {μ : Mu} {a l : Addr} {ns : List Int} {H0 : Hp} {es : List Expr} {x y : Str} {p py pos : Pos} {kf j i : Nat} {F : D1} {t : DA}
theorem wdS_okw {G H : Hp} (k : Okw (wdS μ a l ns H0) G H) : Okw (wst a l ns) G H := ⟨k.sub, k.wd.2, fun b z => k.out b (.inr z), fun b z => k.here b (.inr z)⟩
theorem wdS_stp {G H G2 H2 : Hp} (k : Okw (wdS μ a l ns H0) G H) (s : Stp (wst a l ns) G H G2 H2) : Stp (wdS μ a l ns H0) G H G2 H2 := by
  refine ⟨s.sub, s.up, fun b o n e => s.kp b o (fun z => n (.inr z)) e, s.th, s.nw, fun b n z => ?_, s.wd⟩
  cases e : H b with
  | none => exact absurd e (k.here b (.inl n))
  | some o => rw [s.kp b o z e, ← e]; exact k.wd.1 b n z
/-- a draw -/
theorem pd_sM (C : Sfn X.prog X.w X.K X.mg X.base kf x F) (hr : Room j X.A) (hv : PE X (.Name y py) (tVar i)) (ha : PDA (wdS μ a l ns H0) X es t) (hj : kf ≤ j := by decide) (hg : Gl X x := by rfl) (hdb : (x == ("__debug__" : Str)) = false := by decide)
    (he : starEach (.Name y py :: es) X.env = (false, eval (.Name y py) X.env) :: starEach es X.env := by rfl) (hpl : (backTo pos (starEach es X.env)).any (·.1) = false := by rfl) : PD (wdS μ a l ns H0) X (.Call (.Name x p) (.Name y py :: es) [] pos) (dSt a i F t) := by
  obtain ⟨f, fd, ps, h1, h2, h3, h4⟩ := C
  obtain ⟨t', a1, a2⟩ := ha
  refine ⟨_, pe_call h1 (hr.mono hj) hg h2 h3 h4 .nil (pass0 (X := X)) (pa_cons hv a1 he) hdb he hpl, fun σ ρ G H P Q k s h q => ?_⟩
  refine ⟨_, s.adr i a h.1, ?_⟩
  refine a2 σ ρ G H _ _ k s h.2 fun vs ds G1 H1 s1 r1 _ p1 => ?_
  have k1 := s1.okw k
  show spS X.K F ((V.ref a :: vs) ++ []) H1 Q E0
  rw [List.append_nil]
  exact ⟨a, l, ns, G1, vs, ds, P, rfl, wdS_okw k1, r1, p1, fun v d G2 H2 s2 => q v d G2 H2 (s1.trans (wdS_stp k1 s2))⟩
end
section
variable {K : PySem.W.Frag} {μ : Mu} {G H G2 H2 : Hp} {a : Addr} {ns : List Int}
theorem OkM.wdS (k : OkM K μ G H) (h : μ a = some (.S ns)) : ∃ l, Okw (M.wdS μ a l ns H) G H ∧ ∀ {G2 H2 : Hp}, Stp (M.wdS μ a l ns H) G H G2 H2 → StpM K μ G H μ G2 H2 := by
  have hne : μ a ≠ none := by rw [h]; exact fun z => nomatch z
  have ga := k.sep a hne
  obtain ⟨o, c1, c2⟩ := k.cell a _ h
  cases o <;> first | exact c2.elim | skip
  obtain ⟨l, i, v, z, g1, rfl, b1⟩ := c2
  have la : l ≠ a := fun z => by rw [z, ga] at g1; cases g1
  refine ⟨l, ⟨k.sub, ⟨fun _ _ _ => rfl, k.sub _ _ g1, la, i, v, z, c1, b1⟩, fun b n => n.elim (k.sep b) fun z => by rw [z]; exact ga, fun b n => ?_⟩, fun {G2 H2} s => ?_⟩
  · rcases n with n | rfl | rfl
    · exact k.here n
    · exact k.here hne
    · rw [k.sub _ _ g1]; exact fun z => nomatch z
  · refine ⟨s.up, fun b o n e => s.kp b o (fun z => z.elim (fun z => z n) fun z => hne (by rw [← z]; exact n)) e, s.th, fun b e g n => ⟨s.nw b e g, n⟩, s.sub, fun b c e => ?_, fun b n => s.nw b (k.here n) (k.sep b n)⟩
    by_cases y : b = a
    · subst y
      rw [h] at e; cases e
      obtain ⟨_, _, _, i', v', z', w1, w2⟩ := s.wd
      exact ⟨_, w1, l, i', v', z', s.up _ _ g1, rfl, w2⟩
    · obtain ⟨o, d1, d2⟩ := k.cell b c e
      exact ⟨o, by rw [s.wd.1 b (by rw [e]; exact fun z => nomatch z) y]; exact d1, d2.mono s.up⟩
end
section
variable {W : WX} {X : Cx} {e : Expr}
/-- data and draws -/
def mPS (td : Addr → DE) : ME := fun ρ μ P _ => ∃ a ns, μ a = some (.S ns) ∧ td a ρ fun d => P (.d d) μ
def mPST (td : Addr → DT) : MT := fun ρ μ P _ => ∃ a ns, μ a = some (.S ns) ∧ td a ρ fun d => P d μ
def mPSN (td : Addr → DA) : ME := fun ρ μ P _ => ∃ a ns, μ a = some (.S ns) ∧ td a ρ fun ds => ∀ p, μ p = none → P (.a p) (M.up μ p (.L (ds.map MV.d)))
theorem pm_ps {td : Addr → DE} (h : ∀ (μ : Mu) (a l : Addr) (ns : List Int) (H : Hp), PD (wdS μ a l ns H) X e (td a)) : PM W X e (mPS td) := by
  refine ⟨fun σ H Q => ∃ μ a l ns H', Classical.choose (h μ a l ns H').ex σ H Q, ⟨fun pins s σ H Q I ⟨μ, a, l, ns, H', q⟩ => (Classical.choose_spec (h μ a l ns H').ex).1.run pins s σ H Q I q⟩, fun σ ρ μ G H P PX Q k s h1 q _ => ?_⟩
  obtain ⟨a, ns, ha, h1⟩ := h1
  obtain ⟨l, k1, up⟩ := k.wdS ha
  exact ⟨μ, a, l, ns, H, (Classical.choose_spec (h μ a l ns H).ex).2 σ ρ G H _ Q k1 s h1 fun v d G2 H2 s2 r p => q v (.d d) μ G2 H2 (up s2) r p⟩
theorem pmt_ps {td : Addr → DT} (h : ∀ (μ : Mu) (a l : Addr) (ns : List Int) (H : Hp), PDT (wdS μ a l ns H) X e (td a)) : PMT W X e (mPST td) := by
  refine ⟨fun σ H Q => ∃ μ a l ns H', Classical.choose (h μ a l ns H').ex σ H Q, ⟨fun pins s σ H Q I ⟨μ, a, l, ns, H', q⟩ => (Classical.choose_spec (h μ a l ns H').ex).1.run pins s σ H Q I q⟩, fun σ ρ μ G H P PX Q k s h1 q _ => ?_⟩
  obtain ⟨a, ns, ha, h1⟩ := h1
  obtain ⟨l, k1, up⟩ := k.wdS ha
  exact ⟨μ, a, l, ns, H, (Classical.choose_spec (h μ a l ns H).ex).2 σ ρ G H _ Q k1 s h1 fun d G2 H2 s2 p => q d μ G2 H2 (up s2) p⟩
theorem pm_psn {td : Addr → DA} (h : ∀ (μ : Mu) (a l : Addr) (ns : List Int) (H : Hp), PDN (wdS μ a l ns H) X e (td a)) : PM W X e (mPSN td) := by
  refine ⟨fun σ H Q => ∃ μ a l ns H', Classical.choose (h μ a l ns H').ex σ H Q, ⟨fun pins s σ H Q I ⟨μ, a, l, ns, H', q⟩ => (Classical.choose_spec (h μ a l ns H').ex).1.run pins s σ H Q I q⟩, fun σ ρ μ G H P PX Q k s h1 q _ => ?_⟩
  obtain ⟨a, ns, ha, h1⟩ := h1
  obtain ⟨l, k1, up⟩ := k.wdS ha
  exact ⟨μ, a, l, ns, H, (Classical.choose_spec (h μ a l ns H).ex).2 σ ρ G H _ Q k1 s h1 fun p xs ds G2 H2 s2 n1 n2 n3 r p1 => q (.ref p) (.a p) (M.up μ p (.L (ds.map MV.d))) G2 H2 ((up s2).adopt n1 n2 n3 (RmL.of r)) rfl (p1 p (k.fresh n1))⟩
end
end M

set_option Elab.async false
set_option linter.all false
set_option maxRecDepth 100000
set_option maxHeartbeats 4000000
/-! M: for over what is drawn; try; op= -/
namespace M
open PySem PySem.Spec PyProof.Rows L2 Z
abbrev MI := En → Mu → (List DD → Mu → Prop) → Prop
def RIM (K : PySem.W.Frag) (wi : TI) (tm : MI) : Prop := ∀ σ ρ μ G H (P : List DD → Mu → Prop) (R : It → Hp → Prop), OkM K μ G H → SlOk K G σ ρ → tm ρ μ P → (∀ J ds μ2 G2 H2, StpM K μ G H μ2 G2 H2 → Wk K J ds G2 → P ds μ2 → R J H2) → wi σ H R
structure PMI (X : Cx) (tg e : Expr) (tm : MI) : Prop where
  ex : ∃ wi, PI X tg e wi ∧ RIM X.K wi tm
def iP (ti : DA) : MI := fun ρ μ P => ti ρ fun ds => P ds μ
def iPS (ti : Addr → DA) : MI := fun ρ μ P => ∃ a ns, μ a = some (.S ns) ∧ ti a ρ fun ds => P ds μ
/-- over plain data, from anywhere -/
def xForI (ti : MI) (gm : MG) (sb : MS) : MS := fun E ρ μ => ti ρ μ fun items μ1 => loopM gm sb E items ρ μ1
section
variable {W : WX} {X : Cx} {tg iter : Expr} {body : List Stmt} {pos : Pos} {sb : MS} {gm : MG}
theorem mi_p {ti : DA} (h : ∀ w : Wd, PDI w X tg iter ti) : PMI X tg iter (iP ti) := by
  refine ⟨fun σ H R => ∃ w : Wd, Classical.choose (h w).ex σ H R, ⟨fun pins s σ H R I ⟨w, q⟩ => (Classical.choose_spec (h w).ex).1.run pins s σ H R I q⟩, fun σ ρ μ G H P R k s h1 q => ?_⟩
  exact ⟨wdM μ H, (Classical.choose_spec (h (wdM μ H)).ex).2 σ ρ G H _ R k.okw s h1 fun J ds G2 H2 s2 wk p => q J ds μ G2 H2 (k.lift s2) wk p⟩
theorem mi_ps {ti : Addr → DA} (h : ∀ (μ : Mu) (a l : Addr) (ns : List Int) (H : Hp), PDI (wdS μ a l ns H) X tg iter (ti a)) : PMI X tg iter (iPS ti) := by
  refine ⟨fun σ H R => ∃ μ a l ns H', Classical.choose (h μ a l ns H').ex σ H R, ⟨fun pins s σ H R I ⟨μ, a, l, ns, H', q⟩ => (Classical.choose_spec (h μ a l ns H').ex).1.run pins s σ H R I q⟩, fun σ ρ μ G H P R k s h1 q => ?_⟩
  obtain ⟨a, ns, ha, h1⟩ := h1
  obtain ⟨l, k1, up⟩ := k.wdS ha
  exact ⟨μ, a, l, ns, H, (Classical.choose_spec (h μ a l ns H).ex).2 σ ρ G H _ R k1 s h1 fun J ds G2 H2 s2 wk p => q J ds μ G2 H2 (up s2) wk p⟩
theorem px_forI {ti : MI} (hi : PMI X tg iter ti) (hg : PMG X tg gm) (hb : PMSs W X body sb) (hp : PassesOwn (model X.prog X.w) X.A X.env X.xe := by exact PassesOwn.never) (hc : X.calm = true := by rfl)
    (hs : ∀ x, foldedSetIterable iter X.env x = pure x := by intro _; rfl) : PMS W X (.For tg iter body [] pos) (xForI ti gm sb) := by
  obtain ⟨g, g1, g2⟩ := hg
  obtain ⟨tb, b1, b2⟩ := hb
  obtain ⟨wi, i1, i2⟩ := hi
  refine ⟨_, ps_for hp hc i1 g1 b1 hs, fun μ0 G0 H0 σ ρ μ H D E ⟨G, s, sl⟩ hd r => ?_⟩
  refine i2 σ ρ μ G H _ _ s.ok sl hd fun J items μ2 G2 H2 s2 wk p => ?_
  obtain ⟨Y, wlk, hy⟩ := wk
  refine for_it wlk (fun i σ' H' => ∃ ρ' μ' G', StpM X.K μ0 G0 H0 μ' G' H' ∧ SlOk X.K G' σ' ρ' ∧ Sub G2 G' ∧ loopM gm sb E (items.drop i) ρ' μ') ?_ ?_ ?_ ?_
  · exact ⟨ρ, μ2, G2, s.trans s2, sl.mono s2.up, Sub.rfl, p⟩
  · rintro i σ' H' _ ⟨ρ', μ', G', s1, _, s3, _⟩
    exact s3.trans s1.ok.sub
  · rintro i x σ' H' H'' hlt ⟨ρ', μ', G', s1, sl1, sb1, hl⟩ y
    obtain ⟨d, hd, alt⟩ := hy i H' x H'' y
    have hdr : items.drop i = d :: items.drop (i + 1) := by
      obtain ⟨h1, h2⟩ := List.getElem?_eq_some_iff.mp hd
      rw [← h2]; exact List.drop_eq_getElem_cons h1
    rw [hdr] at hl
    obtain ⟨G3, s3, up3, rx⟩ : ∃ G3, StpM X.K μ0 G0 H0 μ' G3 H'' ∧ Sub G' G3 ∧ Rp X.K G3 x d := by
      rcases alt with ⟨rfl, rx⟩ | ⟨pp, xs, es, hp, rfl, rfl, rx, rfl⟩
      · exact ⟨G', s1, Sub.rfl, rx.mono sb1⟩
      · have sn := Stp.new (w := wdM μ' H') (o := .tup xs) s1.ok.okw hp
        exact ⟨_, s1.trans (s1.ok.lift sn), sn.up, .tup (SqT.of upd_same) ((rx.mono sb1).mono sn.up)⟩
    refine g2 σ' ρ' μ' G3 H'' x (.d d) _ _ s3.ok (sl1.mono up3) rx hl fun σ4 ρ4 s4 h4 => ?_
    refine b2 μ' G3 H'' σ4 ρ4 μ' H'' _ _ ⟨G3, s3.ok.stp, s4⟩ h4 ⟨fun σ5 ρ5 μ5 H5 ⟨G5, q1, q2⟩ h5 => ⟨ρ5, μ5, G5, s3.trans q1, q2, (sb1.trans up3).trans q1.up, h5⟩, fun v m μ5 G5 H5 q1 r5 h5 => r.rt v m μ5 G5 H5 (s3.trans q1) r5 h5,
      fun σ5 ρ5 μ5 H5 ⟨G5, q1, q2⟩ h5 => r.nx _ _ _ _ ⟨G5, s3.trans q1, q2⟩ h5, fun σ5 ρ5 μ5 H5 ⟨G5, q1, q2⟩ h5 => ⟨ρ5, μ5, G5, s3.trans q1, q2, (sb1.trans up3).trans q1.up, h5⟩, fun y σ5 ρ5 μ5 H5 ⟨G5, q1, q2⟩ h5 => r.ex y _ _ _ _ ⟨G5, s3.trans q1, q2⟩ h5⟩
  · rintro σ' H' ⟨ρ', μ', G', s1, sl1, _, hl⟩
    rw [List.drop_length] at hl
    exact r.nx _ _ _ _ ⟨G', s1, sl1⟩ hl
end
/-! ### try -/
/-- try: .. except C as n: .. -/
def xTry (ct : Str → Option Bool) (j : Nat) (sb : MS) (sh : Str → Addr → MS) : MS := fun E ρ μ => sb { E with ex := fun y ρ1 μ1 => ∃ b, ct y = some b ∧
  (b = true → ∀ a, μ1 a = none → sh y a ⟨fun ρ2 => E.nx (ρ2.set j .un), E.rt, fun ρ2 => E.bk (ρ2.set j .un), fun ρ2 => E.ct (ρ2.set j .un), fun _ _ _ => False⟩ (ρ1.set j (.adr a)) μ1) ∧ (b = false → E.ex y ρ1 μ1) } ρ μ
theorem px_try {W : WX} {X : Cx} {x n : Str} {j : Nat} {body suite : List Stmt} {b₀ : Stmt} {np pos pos' : Pos} {sb : MS} {sh : Str → Addr → MS} {ct : Str → Option Bool} (hN : X.N.Nodup) (hc : Names X x (.ref (He.ga X.K x))) (tk : Takes X W)
    (hct : ∀ y b, ct y = some b → PySem.W.exmOne X.K (.ref (He.ga X.K y)) (.ref (He.ga X.K x)) = some b)
    (hb : ∀ (W2 : WX) (pn : List (Addr × Obj)) (xe : Value → Shared → Prop), Takes (X.tr pn xe) W2 → PassesOwn (model X.prog X.w) X.A X.env xe → PMSs W2 (X.tr pn xe) body sb)
    (hsu : ∀ (y : Str), ct y = some true → ∀ (a : Addr) (oe : Obj) (pn : List (Addr × Obj)), Zc (.ref (He.ga X.K y)) none oe → (∃ vs, oe.data = .fields vs) → PMSs (fun _ _ _ _ => False) (X.suite a ((a, oe) :: pn)) (b₀ :: suite) (sh y a))
    (hs : X.stack = X.env :: X.outer := by rfl) (hf : X.env.frame = some X.env.locals := by rfl) (hi : X.N[j]? = some n := by rfl) (hln : X.env.kindOf n = some .local := by rfl) :
    PMS W X (.Try body [.ExceptHandler (some (.Name x np)) (some n) (b₀ :: suite) pos'] [] [] pos) (xTry ct j sb sh) := by
  refine ⟨_, ps_try_as (tb := fun W2 D σ H => ∀ (pn : List (Addr × Obj)) (xe : Value → Shared → Prop), Takes (X.tr pn xe) W2 → PassesOwn (model X.prog X.w) X.A X.env xe → ∃ t, PSs (X.tr pn xe) body t ∧ t D σ H)
    (ts := fun a cls d D σ H => ∀ (oe : Obj) (pn : List (Addr × Obj)), Zc cls d oe → (∃ vs, oe.data = .fields vs) → ∃ t, PSs (X.suite a ((a, oe) :: pn)) (b₀ :: suite) t ∧ t D σ H) hs hf hN hi hln hc tk ?_ ?_, ?_⟩
  · exact fun W2 pn xe tk2 pa => ⟨fun pins s σ H D I h => (h pn xe tk2 pa).elim fun t z => z.1.run pins s σ H D I z.2⟩
  · exact fun a oe cls d pn hz hfd => ⟨fun pins s σ H D I h => (h oe pn hz hfd).elim fun t z => z.1.run pins s σ H D I z.2⟩
  intro μ0 G0 H0 σ ρ μ H D E s hd r pn xe tk2 pa
  obtain ⟨t, h1, h2⟩ := hb _ pn xe tk2 pa
  refine ⟨t, h1, h2 μ0 G0 H0 σ ρ μ H D _ s hd ⟨r.nx, r.rt, r.bk, r.ct, fun y σ1 ρ1 μ1 H1 s1 h => ?_⟩⟩
  obtain ⟨b, hb1, hyes, hno⟩ := h
  refine ⟨b, hct y b hb1, fun eb a na oe pn2 hz hfd => ?_, fun eb => r.ex y σ1 ρ1 μ1 H1 s1 (hno eb)⟩
  subst eb
  obtain ⟨t2, q1, q2⟩ := hsu y hb1 a oe pn2 hz hfd
  obtain ⟨G1, s2, sl2⟩ := s1
  have sl3 : SlOk X.K G1 (σ1.set j (some (.ref a))) (ρ1.set j (.adr a)) := SlOk.setM sl2 (m := .a a) rfl
  refine ⟨t2, q1, q2 μ0 G0 H0 _ _ μ1 H1 _ _ ⟨G1, s2, sl3⟩ (hyes rfl a (s2.ok.fresh na)) ⟨fun σ3 ρ3 μ3 H3 ⟨G3, s3, sl⟩ h3 => r.nx _ _ _ _ ⟨G3, s3, SlOk.setUnM sl⟩ h3, r.rt, fun σ3 ρ3 μ3 H3 ⟨G3, s3, sl⟩ h3 => r.bk _ _ _ _ ⟨G3, s3, SlOk.setUnM sl⟩ h3, fun σ3 ρ3 μ3 H3 ⟨G3, s3, sl⟩ h3 => r.ct _ _ _ _ ⟨G3, s3, SlOk.setUnM sl⟩ h3, fun _ _ _ _ _ _ z => z.elim⟩⟩
/-- try: .. except C: .. -/
def xTryO (ct : Str → Option Bool) (sb sh : MS) : MS := fun E ρ μ => sb { E with ex := fun y ρ1 μ1 => ∃ b, ct y = some b ∧ (b = true → sh { E with ex := fun _ _ _ => False } ρ1 μ1) ∧ (b = false → E.ex y ρ1 μ1) } ρ μ
theorem px_tryO {W : WX} {X : Cx} {x : Str} {body suite : List Stmt} {b₀ : Stmt} {np pos pos' : Pos} {sb sh : MS} {ct : Str → Option Bool} (hc : Names X x (.ref (He.ga X.K x))) (tk : Takes X W)
    (hct : ∀ y b, ct y = some b → PySem.W.exmOne X.K (.ref (He.ga X.K y)) (.ref (He.ga X.K x)) = some b)
    (hb : ∀ (W2 : WX) (pn : List (Addr × Obj)) (xe : Value → Shared → Prop), Takes (X.tr pn xe) W2 → PassesOwn (model X.prog X.w) X.A X.env xe → PMSs W2 (X.tr pn xe) body sb)
    (hsu : ∀ (a : Addr) (oe : Obj) (cls : Value) (d : Option Addr) (pn : List (Addr × Obj)), Zc cls d oe → (∃ vs, oe.data = .fields vs) → PMSs (fun _ _ _ _ => False) (X.suite a ((a, oe) :: pn)) (b₀ :: suite) sh)
    (hs : X.stack = X.env :: X.outer := by rfl) (hf : X.env.frame = some X.env.locals := by rfl) :
    PMS W X (.Try body [.ExceptHandler (some (.Name x np)) none (b₀ :: suite) pos'] [] [] pos) (xTryO ct sb sh) := by
  refine ⟨_, ps_try_only (tb := fun W2 D σ H => ∀ (pn : List (Addr × Obj)) (xe : Value → Shared → Prop), Takes (X.tr pn xe) W2 → PassesOwn (model X.prog X.w) X.A X.env xe → ∃ t, PSs (X.tr pn xe) body t ∧ t D σ H)
    (ts := fun a cls d D σ H => ∀ (oe : Obj) (pn : List (Addr × Obj)), Zc cls d oe → (∃ vs, oe.data = .fields vs) → ∃ t, PSs (X.suite a ((a, oe) :: pn)) (b₀ :: suite) t ∧ t D σ H) hs hf hc tk ?_ ?_, ?_⟩
  · exact fun W2 pn xe tk2 pa => ⟨fun pins s σ H D I h => (h pn xe tk2 pa).elim fun t z => z.1.run pins s σ H D I z.2⟩
  · exact fun a oe cls d pn hz hfd => ⟨fun pins s σ H D I h => (h oe pn hz hfd).elim fun t z => z.1.run pins s σ H D I z.2⟩
  intro μ0 G0 H0 σ ρ μ H D E s hd r pn xe tk2 pa
  obtain ⟨t, h1, h2⟩ := hb _ pn xe tk2 pa
  refine ⟨t, h1, h2 μ0 G0 H0 σ ρ μ H D _ s hd ⟨r.nx, r.rt, r.bk, r.ct, fun y σ1 ρ1 μ1 H1 s1 h => ?_⟩⟩
  obtain ⟨b, hb1, hyes, hno⟩ := h
  refine ⟨b, hct y b hb1, fun eb a na oe pn2 hz hfd => ?_, fun eb => r.ex y σ1 ρ1 μ1 H1 s1 (hno eb)⟩
  obtain ⟨t2, q1, q2⟩ := hsu a oe _ _ pn2 hz hfd
  exact ⟨t2, q1, q2 μ0 G0 H0 _ _ μ1 H1 _ _ s1 (hyes eb) ⟨r.nx, r.rt, r.bk, r.ct, fun _ _ _ _ _ _ z => z.elim⟩⟩
end M

set_option Elab.async false
set_option linter.all false
set_option maxRecDepth 100000
set_option maxHeartbeats 4000000
/-! M: op= on ints -/
namespace M
open PySem PySem.Spec PyProof.Rows L2 Z
def tGetL (K : PySem.W.Frag) : V → V → Hp → VK → Prop := fun o i H Q => ∃ p xs k v, o = .ref p ∧ i = .int k ∧ SqL K H p xs ∧ 0 ≤ k ∧ k < 2 ^ 62 ∧ xs[k.toNat]? = some v ∧ Q v H
theorem get_listM {X : Cx} : PGet X (M.tGetL X.K) := by
  intro pins s σ H o i ov iv Q I ro ri h
  obtain ⟨p, xs, k, v, rfl, rfl, hs, h0, h1, hv, q⟩ := h
  cases ro
  obtain ⟨t, rfl⟩ := ri
  obtain ⟨its, r, ⟨ob, n, e, c, _, d⟩, _⟩ := I.list hs
  obtain ⟨u, hu, ru⟩ := r.get hv
  exact wpAny_getItem_list ⟨ob, e, c, n, d⟩ h0 (by omega) (by simpa using hu) ⟨v, H, I, ru, q⟩
/-! ### raise -/
def xRaise (x : Str) : MS := fun E ρ μ => E.ex x ρ μ
theorem px_raise {W : WX} {X : Cx} {x m : Str} {jj : Nat} {p p2 p3 pos : Pos} (C : ErC X.K X.mg x) (tk : Takes X W) (hc : X.calm = true := by rfl) (hg : Gl X x := by rfl) (hdb : (x == ("__debug__" : Str)) = false := by decide) : PMS W X (.Raise (some (.Call (.Name x p) [.Constant (.str m) jj p2] [] p3)) none pos) (xRaise x) := by
  obtain ⟨h1, h2, h3, h4⟩ := He.exc_ok C.c
  exact ⟨_, ps_raise hc tk (pmk_own PySem.F.excBase_ValueError h1 C.g h2 (raises_own h3 h4) hg hdb), fun μ0 G0 H0 σ ρ μ H D E s hd r => r.ex x σ ρ μ H s hd⟩
section
variable {W : WX} {X : Cx} {e o i : Expr} {te to ti : ME} {pos pos' tpos : Pos} {op : Operator} {f : Int → Int → Int} {x : Str} {j : Nat}
theorem rp_int {K : PySem.W.Frag} {G : Hp} {v : V} {a : Int} (r : Rm K G v (.d (.int a))) : v = .int a := by
  cases (show Rp K G v (.int a) from r); rfl
theorem rm_int {K : PySem.W.Frag} {G : Hp} (a : Int) : Rm K G (.int a) (.d (.int a)) := Rp.int a
/-- x op= e -/
def xAug (j : Nat) (f : Int → Int → Int) (te : ME) : MS := fun E ρ μ => ∃ a, ρ[j]? = some (.dat (.int a)) ∧ te ρ μ (fun m μ1 => ∃ b, m = .d (.int b) ∧ E.nx (ρ.set j (.dat (.int (f a b)))) μ1) fun x μ1 => E.ex x ρ μ1
theorem px_aug (hN : X.N.Nodup) (ho : PIp X op (ipI f)) (he : PM W X e te) (hi : X.N[j]? = some x := by rfl) (hx : Loc X.env.scope x := by first | exact Or.inl rfl | exact Or.inr rfl)
    (hf : X.fn x = true ∨ X.env.scope.names.lookup x = some .local := by first | exact .inl rfl | exact .inr rfl | assumption) : PMS W X (.AugAssign (.Name x pos') op e pos) (xAug j f te) := by
  obtain ⟨t, h1, h2⟩ := he
  refine ⟨_, ps_aug hN hi hx h1 ho hf, fun μ0 G0 H0 σ ρ μ H D E ⟨G, s, sl⟩ ⟨a, ha, h⟩ r => ?_⟩
  obtain ⟨v, q1, q2⟩ := sl.dat j _ ha
  cases q2
  refine ⟨_, q1, h2 σ ρ μ G H _ _ _ s.ok sl h (fun v m μ1 G1 H1 s1 r1 p1 => ?_) (r.xm s sl)⟩
  obtain ⟨b, rfl, p1⟩ := p1
  exact ⟨a, b, rfl, rp_int r1, r.nx _ _ _ _ ⟨G1, s.trans s1, (sl.mono s1.up).set (.int _)⟩ p1⟩
/-- two ints -/
def rII (f : Int → Int → Int) : V → V → Hp → VK → Prop := fun x y H Q => ∃ a b, x = .int a ∧ y = .int b ∧ Q (.int (f a b)) H
theorem in_addM : InOp X .Add (rII fun a b => a + b) := fun pins s σ H x y u v Q I rx ry h => in_add pins s σ H x y u v Q I rx ry h
theorem in_subM : InOp X .Sub (rII fun a b => a - b) := fun pins s σ H x y u v Q I rx ry h => in_sub pins s σ H x y u v Q I rx ry h
/-- o.g op= e -/
def xFldAug (C : Addr) (g : Str) (f : Int → Int → Int) (to te : ME) : MS := fun E ρ μ => to ρ μ (fun x μ1 => match x with
  | .a p => ∃ fs a, μ1 p = some (.O C fs) ∧ fs.lookup g = some (.d (.int a)) ∧ te ρ μ1 (fun y μ2 => ∃ b fs2, y = .d (.int b) ∧ μ2 p = some (.O C fs2) ∧ fs2.length < 1000 ∧ E.nx ρ (M.up μ2 p (.O C (putFM g (.d (.int (f a b))) fs2)))) fun x μ2 => E.ex x ρ μ2
  | _ => False) fun x μ1 => E.ex x ρ μ1
theorem px_fldaug {C : Addr} {g : Str} (cC : Cls X.K C) (n : NoAttr X.K C g) (hop : InOp X op (rII f)) (ho : PM W X o to) (he : PM W X e te) : PMS W X (.AugAssign (.Attribute o g tpos) op e pos) (xFldAug C g f to te) := by
  obtain ⟨t, h1, h2⟩ := he
  obtain ⟨u, o1, o2⟩ := ho
  refine ⟨_, ps_fldaug o1 h1 hop, fun μ0 G0 H0 σ ρ μ H D E ⟨G, s, sl⟩ h r => ?_⟩
  refine o2 σ ρ μ G H _ _ _ s.ok sl h (fun v m μ1 G1 H1 s1 r1 p1 => ?_) (r.xm s sl)
  cases m with
  | d d => exact p1.elim
  | a p =>
    obtain ⟨fs, a, e1, e2, p1⟩ := p1
    obtain ⟨dx, vs, q1, q2⟩ := s1.ok.ins e1
    obtain ⟨va, q3, q4⟩ := q2.look.2 _ e2
    refine ⟨p, C, dx, vs, va, r1, q1, cC, n, q3, ?_⟩
    refine h2 σ ρ μ1 G1 H1 _ _ _ s1.ok (sl.mono s1.up) p1 (fun v2 m2 μ2 G2 H2 s2 r2 p2 => ?_) (r.xm (s.trans s1) (sl.mono s1.up))
    obtain ⟨b, fs2, rfl, e3, e4, p2⟩ := p2
    obtain ⟨dx2, vs2, q5, q6⟩ := s2.ok.ins e3
    refine ⟨a, b, rp_int q4, rp_int r2, dx2, vs2, q5, by rw [q6.len]; exact e4, ?_⟩
    have s3 := s2.ok.turn (o := .ins C dx2 (L2.putF g (.int (f a b)) vs2)) (c := .O C (putFM g (.d (.int (f a b))) fs2)) e3 ⟨rfl, q6.putF (rm_int _)⟩
    exact r.nx _ _ _ _ ⟨G2, ((s.trans s1).trans s2).trans s3, (sl.mono s1.up).mono s2.up⟩ p2
/-- d[k] op= e -/
def xAugD (f : Int → Int → Int) (to ti te : ME) : MS := fun E ρ μ => to ρ μ (fun x μ1 => ti ρ μ1 (fun z μ2 => match x, z with
  | .a p, .d d => ∃ ds k a, μ2 p = some (.D ds) ∧ keyD d = some k ∧ valM ds k = some (.d (.int a)) ∧ te ρ μ2 (fun y μ3 => ∃ b ds2, y = .d (.int b) ∧ μ3 p = some (.D ds2) ∧ ds2.length < 1000000 ∧ E.nx ρ (M.up μ3 p (.D (putM ds2 k (.d (.int (f a b))))))) fun x μ2 => E.ex x ρ μ2
  | _, _ => False) fun x μ1 => E.ex x ρ μ1) fun x μ1 => E.ex x ρ μ1
theorem px_augD (hu : X.A.units + 1 < cLine) (hop : InOp X op (rII f)) (ho : PM W X o to) (hi : PM W X i ti) (he : PM W X e te) (ha : ∀ ov iv new, augStore i ov iv new = (do holding [new, ov, iv] (setItem ov iv new); release [new, ov, iv] []; pure .next) := by intros; rfl) : PMS W X (.AugAssign (.Subscript o i tpos) op e pos) (xAugD f to ti te) := by
  obtain ⟨t, h1, h2⟩ := he
  obtain ⟨u, o1, o2⟩ := ho
  obtain ⟨w, i1, i2⟩ := hi
  refine ⟨_, ps_daug hu o1 i1 h1 hop ha, fun μ0 G0 H0 σ ρ μ H D E ⟨G, s, sl⟩ h r => ?_⟩
  refine o2 σ ρ μ G H _ _ _ s.ok sl h (fun v m μ1 G1 H1 s1 r1 p1 => ?_) (r.xm s sl)
  refine i2 σ ρ μ1 G1 H1 _ _ _ s1.ok (sl.mono s1.up) p1 (fun v2 m2 μ2 G2 H2 s2 r2 p2 => ?_) (r.xm (s.trans s1) (sl.mono s1.up))
  cases m with
  | d d => exact p2.elim
  | a p =>
    cases m2 with
    | a _ => exact p2.elim
    | d d =>
      obtain ⟨ds, k, a, e1, e2, e3, p2⟩ := p2
      obtain ⟨vs, q1, q2⟩ := s2.ok.dct e1
      obtain ⟨va, q3, q4⟩ := q2.val.2 _ e3
      have ek := keyD_V e2 (show Rp X.K G2 v2 d from r2)
      subst ek
      refine ⟨p, va, r1, by rw [← q3]; exact DGet.k q1, ?_⟩
      refine h2 σ ρ μ2 G2 H2 _ _ _ s2.ok ((sl.mono s1.up).mono s2.up) p2 (fun v3 m3 μ3 G3 H3 s3 r3 p3 => ?_) (r.xm ((s.trans s1).trans s2) ((sl.mono s1.up).mono s2.up))
      obtain ⟨b, ds2, rfl, e4, e5, p3⟩ := p3
      obtain ⟨vs2, q5, q6⟩ := s3.ok.dct e4
      refine ⟨a, b, rp_int q4, rp_int r3, _, .inl ⟨vs2, k, q5, rfl, by rw [q6.len]; exact line_lt e5, rfl⟩, ?_⟩
      have s4 := s3.ok.turn (o := .dK (putK vs2 k (.int (f a b)))) (c := .D (putM ds2 k (.d (.int (f a b))))) e4 (q6.put (rm_int _))
      exact r.nx _ _ _ _ ⟨G3, (((s.trans s1).trans s2).trans s3).trans s4, ((sl.mono s1.up).mono s2.up).mono s3.up⟩ p3
/-- xs[k] op= e, k not negative -/
def xAugL (f : Int → Int → Int) (to ti te : ME) : MS := fun E ρ μ => to ρ μ (fun x μ1 => ti ρ μ1 (fun z μ2 => match x, z with
  | .a p, .d (.int k) => ∃ xs a, μ2 p = some (.L xs) ∧ (0 ≤ k ∧ k < 2 ^ 62) ∧ xs[k.toNat]? = some (.d (.int a)) ∧ te ρ μ2 (fun y μ3 => ∃ b ys j, y = .d (.int b) ∧ μ3 p = some (.L ys) ∧ ixN ys.length k = some j ∧ E.nx ρ (M.up μ3 p (.L (ys.set j (.d (.int (f a b))))))) fun x μ2 => E.ex x ρ μ2
  | _, _ => False) fun x μ1 => E.ex x ρ μ1) fun x μ1 => E.ex x ρ μ1
theorem px_augL (hop : PIp X op (ipI f)) (ho : PM W X o to) (hi : PM W X i ti) (he : PM W X e te) (ha : ∀ ov iv new, augStore i ov iv new = (do holding [new, ov, iv] (setItem ov iv new); release [new, ov, iv] []; pure .next) := by intros; rfl) : PMS W X (.AugAssign (.Subscript o i tpos) op e pos) (xAugL f to ti te) := by
  obtain ⟨t, h1, h2⟩ := he
  obtain ⟨u, o1, o2⟩ := ho
  obtain ⟨w, i1, i2⟩ := hi
  refine ⟨_, ps_augS o1 i1 get_listM h1 hop set_list ha, fun μ0 G0 H0 σ ρ μ H D E ⟨G, s, sl⟩ h r => ?_⟩
  refine o2 σ ρ μ G H _ _ _ s.ok sl h (fun v m μ1 G1 H1 s1 r1 p1 => ?_) (r.xm s sl)
  refine i2 σ ρ μ1 G1 H1 _ _ _ s1.ok (sl.mono s1.up) p1 (fun v2 m2 μ2 G2 H2 s2 r2 p2 => ?_) (r.xm (s.trans s1) (sl.mono s1.up))
  cases m with
  | d d => exact p2.elim
  | a p =>
    cases m2 with
    | a _ => exact p2.elim
    | d d =>
      cases d with
      | int k =>
        obtain ⟨xs, a, e1, e2, e3, p2⟩ := p2
        obtain ⟨vs, q1, q2⟩ := s2.ok.lst e1
        obtain ⟨va, q3, q4⟩ := q2.getM e3
        refine ⟨p, vs, k, va, r1, rp_int r2, SqL.of q1, e2.1, e2.2, q3, ?_⟩
        refine h2 σ ρ μ2 G2 H2 _ _ _ s2.ok ((sl.mono s1.up).mono s2.up) p2 (fun v3 m3 μ3 G3 H3 s3 r3 p3 => ?_) (r.xm ((s.trans s1).trans s2) ((sl.mono s1.up).mono s2.up))
        obtain ⟨b, ys, j, rfl, e4, e5, p3⟩ := p3
        obtain ⟨ws, q5, q6⟩ := s3.ok.lst e4
        refine ⟨a, b, rp_int q4, rp_int r3, p, ws, k, j, r1, rp_int r2, q5, by rw [q6.len]; exact e5, ?_⟩
        have s4 := s3.ok.turn (o := .lst (ws.set j (.int (f a b)))) (c := .L (ys.set j (.d (.int (f a b))))) e4 (RmL.setAt (rm_int _) j q6)
        exact r.nx _ _ _ _ ⟨G3, (((s.trans s1).trans s2).trans s3).trans s4, ((sl.mono s1.up).mono s2.up).mono s3.up⟩ p3
      | _ => exact p2.elim
end
end M

set_option Elab.async false
set_option linter.all false
set_option maxRecDepth 100000
set_option maxHeartbeats 4000000
/-! M: dicts: update, displays, get with a default; copies of lists -/
namespace M
open PySem PySem.Spec PyProof.Rows L2 Z
/-- d.update(e), both dicts with keys of ints and texts -/
def rDUpd : V → List V → Hp → VK → Prop := fun x vs H Q => ∃ (a b : Addr) (kvs more : List (Key × V)), x = .ref a ∧ vs = [.ref b] ∧ a ≠ b ∧ H a = some (.dK kvs) ∧ H b = some (.dK more) ∧ kvs.length + more.length ≤ 1000000 ∧ Q .non (L2.upd H a (.dK (mergeK kvs more)))
theorem mtd_update {X : Cx} : MtR X "dict.update" rDUpd := by
  rintro pins s σ H x vs v us Q I rx rv ⟨a, b, kvs, more, rfl, rfl, hne, ea, eb, hl, q⟩
  cases (show v = Value.ref a from rx)
  obtain ⟨u, rfl, ru⟩ := vals1 rv
  cases (show u = Value.ref b from ru)
  obtain ⟨za, ha, ua, ra, da⟩ := dk_of I.hok ea
  obtain ⟨zb, hb, ub, rb, db⟩ := dk_of I.hok eb
  have la := ra.length
  have lb := rb.length
  have l1 := line_le hl
  refine call_meetsIn PySem.F.slot_dict_update da.typeIs PySem.F.entry_dict_update (PySem.F.args_dict_update_2 _ _) (meets_dict_update (mixKind X.prog X.w) a b hne hb) ⟨ua, ub, da, db, by omega, fun h' d1 _ hs => ?_⟩
  have he : ∃ q, h'.get? a = some q := d1.elim fun q z => ⟨q, z.elim fun _ z => z.elim fun _ z => z.1⟩
  have lm := length_mergeK more kvs
  have I2 := d_write (t' := s.toks) (ob := .dK (mergeK kvs more)) I (by rw [ea]; exact True.intro) hs he (dk_new (by omega) ha (rb.merge ra) d1)
  exact ⟨.non, _, I2, rfl, q⟩
def mergeM (ms more : List (Key × MV)) : List (Key × MV) := more.foldl (fun acc kv => putM acc kv.1 kv.2) ms
theorem RmK.merge {K : PySem.W.Frag} {G : Hp} : ∀ {vs2 : List (Key × V)} {ms2 : List (Key × MV)} {vs : List (Key × V)} {ms : List (Key × MV)}, RmK Key K G vs2 ms2 → RmK Key K G vs ms → RmK Key K G (mergeK vs vs2) (mergeM ms ms2)
  | _, _, _, _, .nil, r => r
  | p :: vs2, q :: ms2, vs, ms, .cons h t, r => by
    have e : RmK Key K G (putK vs p.1 p.2) (putM ms q.1 q.2) := by
      rw [h.1]; exact r.put h.2
    show RmK Key K G (mergeK (putK vs p.1 p.2) vs2) (mergeM (putM ms q.1 q.2) ms2)
    exact RmK.merge t e
section
variable {W : WX} {X : Cx} {a b e o i : Expr} {es : List Expr} {ta tb te to ti : ME} {pos apos p : Pos} {x : Str}
def mUpd (to te : ME) : ME := fun ρ μ P PX => to ρ μ (fun m μ1 => match m with
  | .a p => (∃ ds, μ1 p = some (.D ds)) ∧ te ρ μ1 (fun y μ2 => match y with
    | .a q => ∃ ds es, p ≠ q ∧ μ2 p = some (.D ds) ∧ μ2 q = some (.D es) ∧ ds.length + es.length ≤ 1000000 ∧ P (.d .none) (M.up μ2 p (.D (mergeM ds es)))
    | _ => False) PX
  | _ => False) PX
theorem pm_upd (ho : PM W X o to) (he : PM W X e te) (hbase : attributeBase o "update" X.env (eval o X.env) = eval o X.env := by rfl)
    (hfew : ((backTo pos (starEach [e] X.env)).all (fun x => !x.1) && (backToKw pos (keywordEach [] X.env)).all (fun x => x.1.isSome) && decide (([e] : List Expr).length + ([] : List Keyword).length + (if ([] : List Keyword).isEmpty then 0 else 1) < 30)) = true := by rfl)
    (hline : (apos.endLine == pos.line) = true := by rfl) (hs : starEach [e] X.env = (false, eval e X.env) :: starEach [] X.env := by rfl) (hplain : (backTo pos (starEach [] X.env)).any (·.1) = false := by rfl) :
    PM W X (.Call (.Attribute o "update" apos) [e] [] pos) (mUpd to te) := by
  obtain ⟨u, o1, o2⟩ := ho
  obtain ⟨t, e1, e2⟩ := he
  refine ⟨_, pe_bm PySem.F.plainAttrs_dict PySem.F.slot_dict_update PySem.F.type_dict_update mtd_update o1 (pa_cons e1 pa_nil hs) hbase hfew hline hs hplain, fun σ ρ μ G H P PX Q k s h q x => ?_⟩
  refine o2 σ ρ μ G H _ PX _ k s h (fun v m μ1 G1 H1 s1 r1 p1 => ?_) x
  cases m with
  | d d => exact p1.elim
  | a p =>
    obtain ⟨⟨ds0, z1⟩, p1⟩ := p1
    obtain ⟨vs0, q1, q2⟩ := s1.ok.dct z1
    have ev : v = .ref p := r1
    subst ev
    refine ⟨.inr (.inr (.inl ⟨rfl, .inl ⟨vs0, q1⟩⟩)), ?_⟩
    refine e2 σ ρ μ1 G1 H1 _ PX _ s1.ok (s.mono s1.up) p1 (fun v2 m2 μ2 G2 H2 s2 r2 p2 => ?_) (x.step s1)
    cases m2 with
    | d d => exact p2.elim
    | a q0 =>
      obtain ⟨ds, es', hne, z2, z3, z4, p2⟩ := p2
      have ev2 : v2 = .ref q0 := r2
      subst ev2
      obtain ⟨ws, q3, q4⟩ := s2.ok.dct z2
      obtain ⟨us, q5, q6⟩ := s2.ok.dct z3
      have s3 := s2.ok.turn (o := .dK (mergeK ws us)) (c := .D (mergeM ds es')) z2 (q6.merge q4)
      exact ⟨p, q0, ws, us, rfl, rfl, hne, q3, q5, by rw [q4.len, q6.len]; exact z4, q _ (.d .none) _ _ _ ((s1.trans s2).trans s3) Rp.non p2⟩
/-! ### {k: v, ..} with texts for keys -/
def RPM (W : WX) (K : PySem.W.Frag) (ks : List Str) (trs : List (TE × TE)) (tm : MA) : Prop := ∀ σ ρ μ G H (P : List MV → Mu → Prop) (PX : Str → Mu → Prop) (Q : List (V × V) → Hp → Prop), OkM K μ G H → SlOk K G σ ρ → tm ρ μ P PX →
  (∀ vs ms μ2 G2 H2, StpM K μ G H μ2 G2 H2 → RmL K G2 vs ms → vs.length = ks.length → P ms μ2 → Q ((ks.zip vs).map fun kv => (V.str kv.1, kv.2)) H2) → XM W K σ μ G H PX → tPairs trs σ H Q
structure PMP (W : WX) (X : Cx) (pos : Pos) (keys : List (Option Expr)) (values : List Expr) (ks : List Str) (tm : MA) : Prop where
  ex : ∃ trs, PPs X pos keys values trs ∧ RPM W X.K ks trs tm
theorem mp_nil : PMP W X pos [] [] [] mNil := ⟨[], pps_nil, fun σ ρ μ G H P PX Q k s h q _ => q [] [] μ G H k.stp .nil rfl h⟩
theorem mp_cons {z : Str} {jj : Nat} {kp : Pos} {keys : List (Option Expr)} {values : List Expr} {ks : List Str} {tr : MA} (he : PM W X e te) (hr : PMP W X pos keys values ks tr) : PMP W X pos (some (.Constant (.str z) jj kp) :: keys) (e :: values) (z :: ks) (mCons te tr) := by
  obtain ⟨t, e1, e2⟩ := he
  obtain ⟨trs, r1, r2⟩ := hr
  refine ⟨_, pps_cons pe_str e1 r1, fun σ ρ μ G H P PX Q k s h q x => ?_⟩
  refine e2 σ ρ μ G H _ PX _ k s h (fun v m μ1 G1 H1 s1 q1 p1 => ?_) x
  refine r2 σ ρ μ1 G1 H1 _ PX _ s1.ok (s.mono s1.up) p1 (fun vs ms μ2 G2 H2 s2 q2 l2 p2 => ?_) (x.step s1)
  exact q (v :: vs) (m :: ms) μ2 G2 H2 (s1.trans s2) (.cons (q1.mono s2.up) q2) (congrArg (· + 1) l2) p2
def mDisp (ks : List Str) (t : MA) : ME := fun ρ μ P PX => ∀ p, μ p = none → t ρ (M.up μ p (.D [])) (fun ms μ2 => μ2 p = some (.D []) ∧ P (.a p) (M.up μ2 p (.D (mergeM [] ((ks.map Sum.inr).zip ms))))) PX
theorem RmL.zipK {K : PySem.W.Frag} {G : Hp} : ∀ {vs : List V} {ms : List MV} (ks : List Key), RmL K G vs ms → RmK Key K G (ks.zip vs) (ks.zip ms)
  | _, _, [], _ => .nil
  | _, _, _ :: _, .nil => .nil
  | _, _, k :: ks, .cons r t => .cons ⟨rfl, r⟩ (RmL.zipK ks t)
theorem zip_str : ∀ (ks : List Str) (vs : List V), (ks.zip vs).map (fun kv => (V.str kv.1, kv.2)) = ((ks.map (Sum.inr : Str → Key)).zip vs).map fun kv => (kV kv.1, kv.2)
  | [], _ => rfl
  | _ :: _, [] => rfl
  | k :: ks, v :: vs => by
    simp only [List.zip_cons_cons, List.map_cons, zip_str ks vs]
    rfl
theorem pm_disp {keys : List (Option Expr)} {values : List Expr} {ks : List Str} {t : MA} (h : PMP W X pos keys values ks t) (hall : keys.all (·.isSome) = true := by rfl) (hl : keys.length = values.length := by rfl) (h0 : keys ≠ [] := by exact List.cons_ne_nil _ _) (h15 : ks.length ≤ 15 := by decide) (h16 : keys.length ≤ 15 := by decide) :
    PM W X (.Dict keys values pos) (mDisp ks t) := by
  obtain ⟨trs, h1, h2⟩ := h
  refine ⟨_, pe_disp h1 hall hl h0 h16, fun σ ρ μ G H P PX Q k s h q x => fun p np => ?_⟩
  have s0 := k.new np (o := .dK []) (c := .D []) .nil
  refine h2 σ ρ (M.up μ p (.D [])) G _ _ PX _ s0.ok s (h p (k.fresh np)) (fun vs ms μ2 G2 H2 s2 r2 l2 p2 => ?_) (x.step s0)
  obtain ⟨z1, p2⟩ := p2
  obtain ⟨ws, q1, q2⟩ := s2.ok.dct z1
  cases q2
  have s3 := s2.ok.turn (o := .dK (mergeK [] ((ks.map Sum.inr).zip vs))) (c := .D (mergeM [] ((ks.map Sum.inr).zip ms))) z1 ((RmL.zipK (ks.map Sum.inr) r2).merge .nil)
  refine ⟨q1, (ks.map Sum.inr).zip vs, zip_str ks vs, ?_, q (.ref p) (.a p) _ G2 _ ((s0.trans s2).trans s3) rfl p2⟩
  rw [List.length_zip, List.length_map, l2]; omega
/-! ### d.get(k, x) -/
def mGet2 (to ti te : ME) : ME := fun ρ μ P PX => to ρ μ (fun m μ1 => match m with
  | .a p => (∃ ds, μ1 p = some (.D ds)) ∧ ti ρ μ1 (fun z μ2 => te ρ μ2 (fun y μ3 => match z with
    | .d d => ∃ ds k, μ3 p = some (.D ds) ∧ keyD d = some k ∧ P ((valM ds k).getD y) μ3
    | _ => False) PX) PX
  | _ => False) PX
theorem pm_get2 {f : Expr} {tf : ME} (hu : X.A.units + 1 < cLine) (ho : PM W X o to) (he : PM W X e te) (hf : PM W X f tf) (m : M2 X o "get" apos e f pos) : PM W X (.Call (.Attribute o "get" apos) [e, f] [] pos) (mGet2 to te tf) := by
  obtain ⟨u, o1, o2⟩ := ho
  obtain ⟨t, e1, e2⟩ := he
  obtain ⟨w, f1, f2⟩ := hf
  refine ⟨_, pe_dget2 hu o1 e1 f1 m, fun σ ρ μ G H P PX Q k s h q x => ?_⟩
  refine o2 σ ρ μ G H _ PX _ k s h (fun v m μ1 G1 H1 s1 r1 p1 => ?_) x
  cases m with
  | d d => exact p1.elim
  | a p =>
    obtain ⟨⟨ds0, z1⟩, p1⟩ := p1
    obtain ⟨vs0, q1, q2⟩ := s1.ok.dct z1
    refine ⟨p, r1, .inl ⟨vs0, .inl q1⟩, ?_⟩
    refine e2 σ ρ μ1 G1 H1 _ PX _ s1.ok (s.mono s1.up) p1 (fun v2 m2 μ2 G2 H2 s2 r2 p2 => ?_) (x.step s1)
    refine f2 σ ρ μ2 G2 H2 _ PX _ s2.ok ((s.mono s1.up).mono s2.up) p2 (fun v3 m3 μ3 G3 H3 s3 r3 p3 => ?_) ((x.step s1).step s2)
    cases m2 with
    | a _ => exact p3.elim
    | d d =>
      obtain ⟨ds, ky, z2, z3, p3⟩ := p3
      obtain ⟨vs, q3, q4⟩ := s3.ok.dct z2
      have ek := keyD_V z3 (Rp.mono s3.up r2)
      subst ek
      refine ⟨valV vs ky, DGet.k q3, ?_⟩
      cases hv : valM ds ky with
      | none =>
        rw [q4.val.1 hv]
        rw [hv] at p3
        exact q _ m3 μ3 G3 H3 ((s1.trans s2).trans s3) r3 p3
      | some mv =>
        obtain ⟨v', e', r'⟩ := q4.val.2 mv hv
        rw [e']
        rw [hv] at p3
        exact q _ mv μ3 G3 H3 ((s1.trans s2).trans s3) r' p3
/-! ### list(e): a new list that may turn -/
def mCopy (ta : MA) : ME := fun ρ μ P PX => ta ρ μ (fun ms μ1 => ∃ m ds, ms = [m] ∧ (seeV μ1 m = some (.list ds) ∨ seeV μ1 m = some (.tuple ds)) ∧ ∀ p, μ1 p = none → P (.a p) (M.up μ1 p (.L (ds.map MV.d)))) PX
theorem pm_copy {tm : MA} (hm : X.mg x = none) (hv : bootBuiltins x = some (.type "list")) (ha : PMA W X (e :: es) tm) (hg : Gl X x := by rfl) (hn : x ≠ "__name__" := by decide) (hdb : (x == ("__debug__" : Str)) = false := by decide)
    (he : starEach (e :: es) X.env = (false, eval e X.env) :: starEach es X.env := by rfl) (hpl : (backTo pos (starEach es X.env)).any (·.1) = false := by rfl) : PM W X (.Call (.Name x p) (e :: es) [] pos) (mCopy tm) := by
  obtain ⟨t', a1, a2⟩ := ha
  refine ⟨_, pe_callTy call_list_of hg hm hv a1 hn hdb he hpl, fun σ ρ μ G H P PX Q k s h q x => ?_⟩
  refine a2 σ ρ μ G H _ PX _ k s h (fun vs ms μ1 G1 H1 s1 r1 _ p1 => ?_) x
  obtain ⟨m, ds, rfl, hd, p1⟩ := p1
  cases r1 with
  | @cons v _ vs _ r0 r =>
    cases r
    have fin : ∀ ys : List V, RpAll X.K G1 ys ds → ∀ l, H1 l = none → Q (.ref l) (L2.upd H1 l (.lst ys)) := fun ys ry l nl =>
      q (.ref l) (.a l) _ G1 _ (s1.trans (s1.ok.new nl (o := .lst ys) (c := .L (ds.map MV.d)) (RmL.of ry))) rfl (p1 l (s1.ok.fresh nl))
    cases m with
    | d d =>
      have r0' : Rp X.K G1 v d := r0
      rcases hd with hd | hd
      · have e1 : d = .list ds := Option.some.inj hd
        subst e1
        cases r0' with
        | lst h1 h2 => exact ⟨_, _, rfl, .inl (SqL.of (s1.ok.sub _ _ h1)), fin _ h2⟩
      · have e1 : d = .tuple ds := Option.some.inj hd
        subst e1
        cases r0' with
        | tup h1 h2 => exact ⟨_, _, rfl, .inr (s1.ok.sub.sqT h1), fin _ h2⟩
    | a c =>
      have e0 : v = .ref c := r0
      subst e0
      have hs : ∀ dd, (cellD (μ1 c)).map PyData.list = some dd → ∃ es', dd = .list es' ∧ μ1 c = some (.L (es'.map MV.d)) := fun dd hh => by
        cases e1 : μ1 c with
        | none => rw [e1] at hh; cases hh
        | some cc =>
          cases cc with
          | L xs =>
            rw [e1] at hh
            have hh : (datas xs).map PyData.list = some dd := hh
            cases e2 : datas xs with
            | none => rw [e2] at hh; cases hh
            | some es' =>
              rw [e2] at hh
              cases hh
              exact ⟨es', rfl, by rw [datas_eq e2]⟩
          | _ => rw [e1] at hh; cases hh
      rcases hd with hd | hd
      · obtain ⟨es', e1, e2⟩ := hs _ hd
        cases e1
        obtain ⟨ws, q1, q2⟩ := s1.ok.lst e2
        exact ⟨c, ws, rfl, .inl (SqL.of q1), fin ws (RmL.data q2)⟩
      · obtain ⟨es', e1, _⟩ := hs _ hd
        cases e1
end
end M

set_option Elab.async false
set_option linter.all false
set_option maxRecDepth 100000
set_option maxHeartbeats 4000000
/-! M: comprehensions; data[i] with parts that draw -/
namespace M
open PySem PySem.Spec PyProof.Rows L2 Z
def noPX : Str → Mu → Prop := fun _ _ => False
def teM (K : PySem.W.Frag) (tm : ME) : TE := fun σ H Q => ∃ ρ μ G P, OkM K μ G H ∧ SlOk K G σ ρ ∧ tm ρ μ P noPX ∧ ∀ v m μ2 G2 H2, StpM K μ G H μ2 G2 H2 → Rm K G2 v m → P m μ2 → Q v H2
def ttM (K : PySem.W.Frag) (tm : MT) : TT := fun σ H Q => ∃ ρ μ G P, OkM K μ G H ∧ SlOk K G σ ρ ∧ tm ρ μ P noPX ∧ ∀ b μ2 G2 H2, StpM K μ G H μ2 G2 H2 → P b μ2 → Q b H2
theorem PM.can {W : WX} {X : Cx} {e : Expr} {tm : ME} (h : PM W X e tm) : PE X e (teM X.K tm) := by
  obtain ⟨te, h1, h2⟩ := h
  exact ⟨fun pins s σ H Q I ⟨ρ, μ, G, P, k, sl, ht, q⟩ => h1.run pins s σ H Q I (h2 σ ρ μ G H P noPX Q k sl ht q fun _ _ _ _ _ z => z.elim)⟩
/-- the tests of a comprehension -/
structure PMTs (X : Cx) (ifs : List Expr) (tm : MT) : Prop where
  can : PTs X ifs (ttM X.K tm)
def mYes : MT := fun _ μ P _ => P true μ
theorem mts_nil {X : Cx} : PMTs X [] mYes := ⟨⟨fun pins s σ H Q I ⟨ρ, μ, G, P, k, _, ht, q⟩ => pts_nil.run pins s σ H Q I (q true μ G H k.stp ht)⟩⟩
theorem mts_one {W : WX} {X : Cx} {c : Expr} {tm : MT} (h : PMT W X c tm) : PMTs X [c] tm := by
  obtain ⟨te, h1, h2⟩ := h
  exact ⟨⟨fun pins s σ H Q I ⟨ρ, μ, G, P, k, sl, ht, q⟩ => (pts_one h1).run pins s σ H Q I (h2 σ ρ μ G H P noPX Q k sl ht q fun _ _ _ _ _ z => z.elim)⟩⟩
/-- what is made, item by item -/
def compM (ρ : En) (j : Nat) (tt : MT) (te : ME) : List DD → List MV → Mu → (List MV → Mu → Prop) → Prop
  | [], acc, μ, P => P acc μ
  | x :: xs, acc, μ, P => tt (ρ.set j (.dat x)) μ (fun b μ1 => if b = true then te (ρ.set j (.dat x)) μ1 (fun m μ2 => acc.length < 1000000 ∧ compM ρ j tt te xs (acc ++ [m]) μ2 P) noPX else compM ρ j tt te xs acc μ1 P) noPX
/-- a new list that may turn -/
def mLc (ti : MI) (j : Nat) (tt : MT) (te : ME) : ME := fun ρ μ P _ => ti ρ μ fun items μ1 => compM ρ j tt te items [] μ1 fun ms μ2 => ∀ p, μ2 p = none → P (.a p) (M.up μ2 p (.L ms))
theorem rem_lc {W : WX} {X : Cx} {wi : TI} {ti : MI} {j : Nat} {tt : MT} {te : ME} (hi : RIM X.K wi ti) : REM W X.K (tLc wi (gName j) (ttM X.K tt) (teM X.K te) [j]) (mLc ti j tt te) := by
  intro σ ρ μ G H P PX Q k s h q _
  refine hi σ ρ μ G H _ _ k s h fun J items μ1 G1 H1 s1 wk p1 D hD => ?_
  have k1 := s1.ok
  have ne : ∀ {b : Addr}, H1 b ≠ none → b ≠ D := fun n z => n (by rw [z]; exact hD)
  have s0 : StpM X.K μ1 G1 H1 μ1 G1 (L2.upd H1 D (.lst [])) := k1.lift (Stp.new0 k1.okw hD)
  obtain ⟨Y, wlk, hy⟩ := wk
  refine lc_it wlk (fun i H' => ∃ μ' G' acc ms, StpM X.K μ1 G1 H1 μ' G' H' ∧ H' D = some (.lst acc) ∧ G' D = none ∧ μ' D = none ∧ RmL X.K G' acc ms ∧ compM ρ j tt te (items.drop i) ms μ' fun ms μ2 => ∀ p, μ2 p = none → P (.a p) (M.up μ2 p (.L ms))) ?_ ?_ ?_ ?_
  · exact ⟨μ1, G1, [], [], s0, upd_same, k1.gnone hD, k1.fresh hD, .nil, p1⟩
  · rintro i H' _ ⟨μ', G', acc, ms, s2, _⟩
    exact s2.up.trans s2.ok.sub
  · rintro i x H' H'' hlt ⟨μ', G', acc, ms, s2, hacc, hgD, hmD, ra, hc⟩ y
    obtain ⟨d, hd, alt⟩ := hy i H' x H'' y
    have hdr : items.drop i = d :: items.drop (i + 1) := by
      obtain ⟨h1, h2⟩ := List.getElem?_eq_some_iff.mp hd
      rw [← h2]; exact List.drop_eq_getElem_cons h1
    rw [hdr] at hc
    show wipe ((wipe σ [j]).set j (some x)) [j] = wipe σ [j] ∧ _
    refine ⟨by show (((σ.set j none).set j (some x)).set j none) = σ.set j none; rw [List.set_set, List.set_set], ?_⟩
    rw [show (wipe σ [j]).set j (some x) = σ.set j (some x) from set_set_none]
    obtain ⟨G3, s3, rx, hacc3, hgD3, u3⟩ : ∃ G3, StpM X.K μ1 G1 H1 μ' G3 H'' ∧ Rp X.K G3 x d ∧ H'' D = some (.lst acc) ∧ G3 D = none ∧ Sub G' G3 := by
      rcases alt with ⟨rfl, rx⟩ | ⟨p, xs, es, hp, rfl, rfl, rx, rfl⟩
      · exact ⟨G', s2, rx.mono s2.up, hacc, hgD, Sub.rfl⟩
      · have sn := Stp.new (w := wdM μ' H') (o := .tup xs) s2.ok.okw hp
        have nD : D ≠ p := ne_of_none hacc hp
        exact ⟨_, s2.trans (s2.ok.lift sn), .tup (SqT.of upd_same) ((rx.mono s2.up).mono sn.up), by rw [upd_ne nD]; exact hacc, by rw [upd_ne nD]; exact hgD, sn.up⟩
    have sl3 : SlOk X.K G3 (σ.set j (some x)) (ρ.set j (.dat d)) := (s.mono (s1.up.trans s3.up)).set rx
    refine ⟨_, μ', G3, _, s3.ok, sl3, hc, fun b μ4 G4 H4 s4 hb => ?_⟩
    have hh : H'' D ≠ none := by rw [hacc3]; exact fun z => nomatch z
    have hacc4 : H4 D = some (.lst acc) := s4.kp D _ hmD hacc3
    have hD4 := s4.nw D hh hgD3 hmD
    cases b with
    | false =>
      rw [if_neg Bool.false_ne_true] at hb
      show ∃ μ' G' acc ms, _
      exact ⟨μ4, G4, acc, ms, s3.trans s4, hacc4, hD4.1, hD4.2, (RmL.mono u3 ra).mono s4.up, hb⟩
    | true =>
      rw [if_pos rfl] at hb
      show teM X.K te (List.set σ j (some x)) H4 _
      refine ⟨_, μ4, G4, _, s4.ok, sl3.mono s4.up, hb, fun v m μ5 G5 H5 s5 re hp => ?_⟩
      have hh4 : H4 D ≠ none := by rw [hacc4]; exact fun z => nomatch z
      have hacc5 : H5 D = some (.lst acc) := s5.kp D _ hD4.2 hacc4
      have hD5 := s5.nw D hh4 hD4.1 hD4.2
      have ra5 := RmL.mono s5.up (RmL.mono s4.up (RmL.mono u3 ra))
      have s6 := (s3.trans s4).trans s5
      have s7 : StpM X.K μ1 G1 H1 μ5 G5 (L2.upd H5 D (.lst (acc ++ [v]))) := by
        refine ⟨s6.up, fun b u n e => ?_, fun b e => ?_, s6.nw, fun b u e => ?_, fun b c e => ?_, s6.ok.sep⟩
        · rw [upd_ne (ne (by rw [e]; exact fun z => nomatch z))]; exact s6.kp b u n e
        · rw [upd_ne (ne e)]; exact s6.th b e
        · rw [upd_ne (ne_of_none e hD5.1)]; exact s6.ok.sub b u e
        · have nb : b ≠ D := fun z => by rw [z, hD5.2] at e; cases e
          obtain ⟨o, w1, w2⟩ := s6.ok.cell b c e
          exact ⟨o, by rw [upd_ne nb]; exact w1, w2⟩
      exact ⟨acc, hacc5, line_lt (by rw [ra5.len]; exact hp.1), μ5, G5, acc ++ [v], ms ++ [m], s7, upd_same, hD5.1, hD5.2, RmL.app ra5 (.cons re .nil), hp.2⟩
  · rintro H' ⟨μ', G', acc, ms, s2, hacc, hgD, hmD, ra, hc⟩
    rw [List.drop_length] at hc
    have ad := s2.adopt (p := D) (c := .L ms) hD hgD hacc ra
    exact q (.ref D) (.a D) _ G' H' (s1.trans ad) rfl (hc D hmD)
theorem pm_lc {W : WX} {X : Cx} {elt tg iter : Expr} {ifs : List Expr} {scope : Scope} {x : Str} {j : Nat} {pos : Pos} {ti : MI} {tt : MT} {te : ME} {W2 : WX} (hN : X.N.Nodup) (ok : BlkOk X.N X.env.scope scope [(x, j)]) (hi : PMI X tg iter ti)
    (hg : ∀ (s : Shared) (H : Hp) (C : Addr) (cl : List (Str × Addr)) (fp : List Addr), PG (X.blk s H scope (compEnvC scope cl C X.env) fp) tg (gName j))
    (ht : ∀ (s : Shared) (H : Hp) (C : Addr) (cl : List (Str × Addr)) (fp : List Addr), PMTs (X.blk s H scope (compEnvC scope cl C X.env) fp) ifs tt)
    (he : ∀ (s : Shared) (H : Hp) (C : Addr) (cl : List (Str × Addr)) (fp : List Addr), PM W2 (X.blk s H scope (compEnvC scope cl C X.env) fp) elt te)
    (hc : X.calm = true := by rfl) (hs : ∀ x, foldedSetIterable iter X.env x = pure x := by intro _; rfl) : PM W X (.ListComp elt [⟨tg, iter, ifs, 0⟩] scope pos) (mLc ti j tt te) := by
  obtain ⟨wi, i1, i2⟩ := hi
  exact ⟨_, pe_lc (own := [(x, j)]) hc hN i1 ok hg (fun s H C cl fp => (ht s H C cl fp).can) (fun s H C cl fp => (he s H C cl fp).can) hs, rem_lc i2⟩
end M

set_option Elab.async false
set_option linter.all false
set_option maxRecDepth 100000
set_option maxHeartbeats 4000000
/-! M: a comprehension is stored; walks over what was made; data[i]; walks of a list that may turn -/
namespace M
open PySem PySem.Spec PyProof.Rows L2 Z
section
variable {W : WX} {X : Cx} {a b e tg : Expr} {ta tb tm : ME} {pos : Pos}
theorem rsm_set {K : PySem.W.Frag} {te : TE} {j : Nat} (h : REM W K te tm) : RSM W K (tAsg te (gName j)) (xSet j tm) := fun μ0 G0 H0 σ ρ μ H D E ⟨G, s, sl⟩ hd r =>
  h σ ρ μ G H _ _ _ s.ok sl hd (fun v m μ1 G1 H1 s1 r1 p1 => r.nx _ _ _ _ ⟨G1, s.trans s1, SlOk.setM (sl.mono s1.up) r1⟩ p1) (r.xm s sl)
theorem rem_fz {K : PySem.W.Frag} {te : TE} (h2 : REM W K te tm) : REM W K te (mFz tm) := by
  refine fun σ ρ μ G H P PX Q k s h q x => h2 σ ρ μ G H _ PX Q k s h (fun v m μ1 G1 H1 s1 r1 p1 => ?_) x
  cases m with
  | d d => exact q v (.d d) μ1 G1 H1 s1 r1 p1
  | a p =>
    obtain ⟨ds, e1, p1⟩ := p1
    have e2 : v = .ref p := r1
    subst e2
    obtain ⟨G2, s2, r2⟩ := s1.ok.freeze e1
    exact q _ (.d (.list ds)) (dn μ1 p) G2 H1 (s1.trans s2) r2 p1
theorem px_lc {elt iter : Expr} {ifs : List Expr} {scope : Scope} {x y : Str} {i j : Nat} {lpos py : Pos} {ti : MI} {tt : MT} {te : ME} {W2 : WX} (hN : X.N.Nodup) (hyl : X.env.scope.names.lookup y = some .local) (ok : BlkOk X.N X.env.scope scope [(x, j)]) (hi : PMI X tg iter ti)
    (hg : ∀ (s : Shared) (H : Hp) (C : Addr) (cl : List (Str × Addr)) (fp : List Addr), PG (X.blk s H scope (compEnvC scope cl C X.env) fp) tg (gName j))
    (ht : ∀ (s : Shared) (H : Hp) (C : Addr) (cl : List (Str × Addr)) (fp : List Addr), PMTs (X.blk s H scope (compEnvC scope cl C X.env) fp) ifs tt)
    (he : ∀ (s : Shared) (H : Hp) (C : Addr) (cl : List (Str × Addr)) (fp : List Addr), PM W2 (X.blk s H scope (compEnvC scope cl C X.env) fp) elt te)
    (hsw : swapsWith (.ListComp elt [⟨tg, iter, ifs, 0⟩] scope lpos) (some (.Name y py)) pos.line X.env = pure true)
    (hy : X.N[i]? = some y := by rfl) (hc : X.calm = true := by rfl) (hs : ∀ x, foldedSetIterable iter X.env x = pure x := by intro _; rfl) :
    PMS W X (.Assign [.Name y py] (.ListComp elt [⟨tg, iter, ifs, 0⟩] scope lpos) pos) (xSet i (mLc ti j tt te)) := by
  obtain ⟨wi, i1, i2⟩ := hi
  have h : PS X (.Assign [.Name y py] (.ListComp elt [⟨tg, iter, ifs, 0⟩] scope lpos) pos) (tAsg (tLc wi (gName j) (ttM X.K tt) (teM X.K te) [j]) (gName i)) := ps_setLc (own := [(x, j)]) hc hN hy hyl hsw i1 ok hg (fun s H C cl fp => (ht s H C cl fp).can) (fun s H C cl fp => (he s H C cl fp).can) hs
  exact ⟨_, h, rsm_set (rem_lc i2)⟩
theorem px_lcD {elt iter : Expr} {ifs : List Expr} {scope : Scope} {x y : Str} {i j : Nat} {lpos py : Pos} {ti : MI} {tt : MT} {te : ME} {W2 : WX} (hN : X.N.Nodup) (hyl : X.env.scope.names.lookup y = some .local) (ok : BlkOk X.N X.env.scope scope [(x, j)]) (hi : PMI X tg iter ti)
    (hg : ∀ (s : Shared) (H : Hp) (C : Addr) (cl : List (Str × Addr)) (fp : List Addr), PG (X.blk s H scope (compEnvC scope cl C X.env) fp) tg (gName j))
    (ht : ∀ (s : Shared) (H : Hp) (C : Addr) (cl : List (Str × Addr)) (fp : List Addr), PMTs (X.blk s H scope (compEnvC scope cl C X.env) fp) ifs tt)
    (he : ∀ (s : Shared) (H : Hp) (C : Addr) (cl : List (Str × Addr)) (fp : List Addr), PM W2 (X.blk s H scope (compEnvC scope cl C X.env) fp) elt te)
    (hsw : swapsWith (.ListComp elt [⟨tg, iter, ifs, 0⟩] scope lpos) (some (.Name y py)) pos.line X.env = pure true)
    (hy : X.N[i]? = some y := by rfl) (hc : X.calm = true := by rfl) (hs : ∀ x, foldedSetIterable iter X.env x = pure x := by intro _; rfl) :
    PMS W X (.Assign [.Name y py] (.ListComp elt [⟨tg, iter, ifs, 0⟩] scope lpos) pos) (xSet i (mFz (mLc ti j tt te))) := by
  obtain ⟨wi, i1, i2⟩ := hi
  have h : PS X (.Assign [.Name y py] (.ListComp elt [⟨tg, iter, ifs, 0⟩] scope lpos) pos) (tAsg (tLc wi (gName j) (ttM X.K tt) (teM X.K te) [j]) (gName i)) := ps_setLc (own := [(x, j)]) hc hN hy hyl hsw i1 ok hg (fun s H C cl fp => (ht s H C cl fp).can) (fun s H C cl fp => (he s H C cl fp).can) hs
  exact ⟨_, h, rsm_set (rem_fz (rem_lc i2))⟩
/-- a walk over a list of data that an expression makes (and that raises nothing) -/
def iM (tm : ME) : MI := fun ρ μ P => tm ρ μ (fun m μ1 => match m with
  | .d (.list ds) => P ds μ1
  | _ => False) noPX
theorem mi_m (h : PM W X e tm) : PMI X tg e (iM tm) := by
  obtain ⟨te, h1, h2⟩ := h
  refine ⟨_, pi_list h1, fun σ ρ μ G H P R k s h q => ?_⟩
  refine h2 σ ρ μ G H _ noPX _ k s h (fun v m μ1 G1 H1 s1 r1 p1 => ?_) fun _ _ _ _ _ z => z.elim
  cases m with
  | a _ => exact p1.elim
  | d d =>
    cases d with
    | list ds =>
      have r : Rp X.K G1 v (.list ds) := r1
      cases r with
      | @lst p xs _ t1 q1 => exact ⟨p, rfl, ⟨xs, SqL.of (s1.ok.sub _ _ t1)⟩, q _ ds μ1 G1 H1 s1 (wk_list t1 q1) p1⟩
    | _ => exact p1.elim
/-- .. over a range that it makes -/
def iMr (tm : ME) : MI := fun ρ μ P => tm ρ μ (fun m μ1 => match m with
  | .d (.int n) => (-1000000 ≤ n ∧ n ≤ 1000000) ∧ P (upto n) μ1
  | _ => False) noPX
theorem mi_range {p : Pos} (hm : X.mg "range" = none) (h : PM W X a tm) (hg : Gl X "range" := by rfl) (hs : starEach [a] X.env = (false, eval a X.env) :: starEach [] X.env := by rfl) (hs2 : starEach [a] X.env = [(false, eval a X.env)] := by rfl) : PMI X tg (.Call (.Name "range" p) [a] [] pos) (iMr tm) := by
  obtain ⟨te, h1, h2⟩ := h
  refine ⟨_, pi_range1 hg hm (pa_cons h1 pa_nil hs) hs2, fun σ ρ μ G H P R k s h q => ?_⟩
  refine h2 σ ρ μ G H _ noPX _ k s h (fun v m μ1 G1 H1 s1 r1 p1 => ?_) fun _ _ _ _ _ z => z.elim
  cases m with
  | a _ => exact p1.elim
  | d d =>
    cases d with
    | int n =>
      have e := rp_int r1
      subst e
      exact ⟨n, rfl, by omega, by omega, q _ _ μ1 G1 H1 s1 wk_range p1.2⟩
    | _ => exact p1.elim
/-- data[i], whose parts may turn something -/
theorem ixD {K : PySem.W.Frag} (w : Wd) : RO w K (rIx K) gIx := by
  intro x y d e G H P Q k r1 r2 h q
  unfold gIx at h
  cases r1 with
  | @lst p xs ds t1 q1 =>
    cases r2 with
    | int i =>
      simp only at h
      cases hd : atI ds i with
      | none => rw [hd] at h; exact h.elim
      | some d =>
        rw [hd] at h
        obtain ⟨v, hv, rv⟩ := at_rp q1 hd
        exact .inl ⟨p, xs, i, v, rfl, rfl, SqL.of (k.sub _ _ t1), hv, q _ _ G H k.stp rv h⟩
    | _ => exact h.elim
  | @tup p xs ds t1 q1 =>
    cases r2 with
    | int i =>
      simp only at h
      cases hd : atI ds i with
      | none => rw [hd] at h; exact h.elim
      | some d =>
        rw [hd] at h
        obtain ⟨v, hv, rv⟩ := at_rp q1 hd
        exact .inr (.inl ⟨p, xs, i, v, rfl, rfl, k.sub.sqT t1, hv, q _ _ G H k.stp rv h⟩)
    | _ => exact h.elim
  | str z =>
    cases r2 with
    | int i =>
      obtain ⟨h0, h⟩ := h
      cases hd : atI z.cps.toList i with
      | none => rw [hd] at h; exact h.elim
      | some c =>
        rw [hd] at h
        exact .inr (.inr ⟨z, i, c, rfl, rfl, line_le h0, hd, q _ _ G H k.stp (.str _) h⟩)
    | _ => exact h.elim
  | _ => exact h.elim
theorem pm_ixD (ha : PM W X a ta) (hb : PM W X b tb) (hs : PlainIx b := by exact fun _ _ => rfl) : PM W X (.Subscript a b pos) (mOp gIx ta tb) := by
  obtain ⟨ta', a1, a2⟩ := ha
  obtain ⟨tb', b1, b2⟩ := hb
  exact ⟨_, pe_ix ix_seq a1 b1 hs, rem_op ixD a2 b2⟩
theorem hu1 {k : Nat} {A : Around} (hr : Room k A) : A.units + 1 < cLine := by have := hr.units; omega
theorem hu1u {A : Around} (h : A.units + 64 < cLine) : A.units + 1 < cLine := by omega
/-- {} -/
def mNewD : ME := fun _ μ P _ => ∀ p, μ p = none → P (.a p) (M.up μ p (.D []))
theorem pm_newD : PM W X (.Dict [] [] pos) mNewD := ⟨_, pe_dnewK, fun σ ρ μ G H P PX Q k s h q _ => fun p np => q (.ref p) (.a p) _ G _ (k.new np (o := .dK []) (c := .D []) .nil) rfl (h p (k.fresh np))⟩
/-- a built-in type that only looks -/
theorem pm_ctK {es : List Expr} {t : MA} {x : Str} {p : Pos} {g : D1} {T : String} (hc : ∀ w : Wd, CallD w X (.type T) g) (hm : X.mg x = none) (hv : bootBuiltins x = some (.type T)) (ha : PMA W X (e :: es) t) (hg : Gl X x := by rfl) (hn : x ≠ "__name__" := by decide) (hdb : (x == ("__debug__" : Str)) = false := by decide)
    (he : starEach (e :: es) X.env = (false, eval e X.env) :: starEach es X.env := by rfl) (hpl : (backTo pos (starEach es X.env)).any (·.1) = false := by rfl) : PM W X (.Call (.Name x p) (e :: es) [] pos) (mCallK g t) := by
  obtain ⟨r, c1, c2⟩ := callM hc
  obtain ⟨t', a1, a2⟩ := ha
  refine ⟨_, pe_callTy c1 hg hm hv a1 hn hdb he hpl, fun σ ρ μ G H P PX Q k s h q x => ?_⟩
  refine a2 σ ρ μ G H _ PX _ k s h (fun vs ms μ1 G1 H1 s1 r1 _ p1 => ?_) x
  obtain ⟨ds, z1, p1⟩ := p1
  have k1 := s1.ok
  refine c2 vs ds (seeG μ1 G1 H1) H1 _ Q (w := wdM (muO μ1) H1) k1.seen.okw (k1.seeL r1 z1) p1 fun z dz G3 H3 s3 r3 p3 => ?_
  exact q z (.d dz) μ1 G1 H3 (s1.trans (k1.unsee s3)) (Rp.flatTo r3 p3.1) p3.2
/-- a, b = e -/
def xAsg (te : ME) (gm : MG) : MS := fun E ρ μ => te ρ μ (fun m μ1 => gm m ρ fun ρ1 => E.nx ρ1 μ1) fun x μ1 => E.ex x ρ μ1
theorem px_asg {gm : MG} (he : PM W X e tm) (hg : PMG X tg gm) (hs : swapsWithSole [tg] e pos.line X.env = pure false := by rfl) (hw : swappedStores [tg] e X.env = pure none := by rfl)
    (h1 : (assignEach [tg] X.env).map (·.2) = [assign tg X.env] := by rfl) : PMS W X (.Assign [tg] e pos) (xAsg tm gm) := by
  obtain ⟨t, e1, e2⟩ := he
  obtain ⟨g, g1, g2⟩ := hg
  refine ⟨_, ps_asg e1 g1 hs hw h1, fun μ0 G0 H0 σ ρ μ H D E ⟨G, s, sl⟩ h r => ?_⟩
  refine e2 σ ρ μ G H _ _ _ s.ok sl h (fun v m μ1 G1 H1 s1 r1 p1 => ?_) (r.xm s sl)
  exact g2 σ ρ μ1 G1 H1 v m _ _ s1.ok (sl.mono s1.up) r1 p1 fun σ2 ρ2 sl2 p2 => r.nx _ _ _ _ ⟨G1, s.trans s1, sl2⟩ p2
end
end M

set_option Elab.async false
set_option linter.all false
set_option maxRecDepth 100000
set_option maxHeartbeats 4000000
/-! M: tuple(xs) of a list that may turn; a comprehension over one, with two names for target -/
namespace M
open PySem PySem.Spec PyProof.Rows L2 Z
section
variable {W : WX} {X : Cx} {e : Expr} {es : List Expr} {pos p : Pos} {x : Str}
/-- tuple(e), e a list of data that may turn -/
def mTupC (ta : MA) : ME := fun ρ μ P PX => ta ρ μ (fun ms μ1 => ∃ q ds, ms = [.a q] ∧ μ1 q = some (.L (ds.map MV.d)) ∧ P (.d (.tuple ds)) μ1) PX
theorem pm_tupC {tm : MA} (hm : X.mg x = none) (hv : bootBuiltins x = some (.type "tuple")) (ha : PMA W X (e :: es) tm) (hg : Gl X x := by rfl) (hn : x ≠ "__name__" := by decide) (hdb : (x == ("__debug__" : Str)) = false := by decide)
    (he : starEach (e :: es) X.env = (false, eval e X.env) :: starEach es X.env := by rfl) (hpl : (backTo pos (starEach es X.env)).any (·.1) = false := by rfl) : PM W X (.Call (.Name x p) (e :: es) [] pos) (mTupC tm) := by
  obtain ⟨t', a1, a2⟩ := ha
  refine ⟨_, pe_callTy call_tuple_of hg hm hv a1 hn hdb he hpl, fun σ ρ μ G H P PX Q k s h q x => ?_⟩
  refine a2 σ ρ μ G H _ PX _ k s h (fun vs ms μ1 G1 H1 s1 r1 _ p1 => ?_) x
  obtain ⟨c, ds, rfl, hd, p1⟩ := p1
  cases r1 with
  | @cons v _ vs _ r0 r =>
    cases r
    have e0 : v = .ref c := r0
    subst e0
    obtain ⟨ws, q1, q2⟩ := s1.ok.lst hd
    refine ⟨c, ws, rfl, .inl ⟨SqL.of q1, fun l nl => ?_⟩⟩
    have sn := Stp.new (w := wdM μ1 H1) (o := .tup ws) s1.ok.okw nl
    exact q (.ref l) (.d (.tuple ds)) μ1 _ _ (s1.trans (s1.ok.lift sn)) (Rp.tup (SqT.of upd_same) ((RmL.data q2).mono sn.up)) p1
end
/-- the items of a list that may turn but does not meanwhile, each a pair of data -/
def compC (ρ : En) (i j : Nat) (te : ME) (p : Addr) (all : List MV) : List MV → List MV → Mu → (List MV → Mu → Prop) → Prop
  | [], acc, μ, P => μ p = some (.L all) ∧ P acc μ
  | x :: xs, acc, μ, P => μ p = some (.L all) ∧ ∃ d e, x = .d (.tuple [d, e]) ∧ te ((((ρ.set j .un).set i .un).set i (.dat d)).set j (.dat e)) μ (fun m μ2 => acc.length < 1000000 ∧ compC ρ i j te p all xs (acc ++ [m]) μ2 P) noPX
def mLcC (tl : ME) (i j : Nat) (te : ME) : ME := fun ρ μ P PX => tl ρ μ (fun m μ1 => match m with
  | .a p => ∃ all, μ1 p = some (.L all) ∧ compC ρ i j te p all all [] μ1 fun ms μ2 => ∀ q, μ2 q = none → P (.a q) (M.up μ2 q (.L ms))
  | _ => False) PX
theorem rem_lcC {W : WX} {X : Cx} {tl' : TE} {tl te : ME} {i j : Nat} (hij : i ≠ j) (hl : REM W X.K tl' tl) :
    REM W X.K (tLc (iList X.K tl') (gTup X.K 2 (gCons (gName i) (gCons (gName j) gNil))) tYes (teM X.K te) [i, j]) (mLcC tl i j te) := by
  intro σ ρ μ G H P PX Q k s h q x
  refine hl σ ρ μ G H _ PX _ k s h (fun v m μ1 G1 H1 s1 r1 p1 => ?_) x
  cases m with
  | d d => exact p1.elim
  | a p =>
    obtain ⟨all, e1, p1⟩ := p1
    obtain ⟨vs, q1, q2⟩ := s1.ok.lst e1
    refine ⟨p, r1, ⟨vs, SqL.of q1⟩, fun D hD => ?_⟩
    have k1 := s1.ok
    have ne : ∀ {b : Addr}, H1 b ≠ none → b ≠ D := fun n z => n (by rw [z]; exact hD)
    have s0 : StpM X.K μ1 G1 H1 μ1 G1 (L2.upd H1 D (.lst [])) := k1.lift (Stp.new0 k1.okw hD)
    refine ⟨fun n m H' => ∃ μ' G' acc ms, StpM X.K μ1 G1 H1 μ' G' H' ∧ H' D = some (.lst acc) ∧ G' D = none ∧ μ' D = none ∧ RmL X.K G' acc ms ∧ (compC ρ i j te p all (all.drop n) ms μ' fun ms μ2 => ∀ q, μ2 q = none → P (.a q) (M.up μ2 q (.L ms))) ∧ n ≤ all.length ∧ m = all.length - n,
      ⟨all.length, μ1, G1, [], [], s0, upd_same, k1.gnone hD, k1.fresh hD, .nil, p1, Nat.zero_le _, rfl⟩, ?_⟩
    rintro n m H' ⟨μ', G', acc, ms, s2, hacc, hgD, hmD, ra, hc, hn, rfl⟩
    by_cases hlt : n < all.length
    · rw [List.drop_eq_getElem_cons hlt] at hc
      obtain ⟨e2, d, e, ex, hc⟩ := hc
      obtain ⟨ws, q3, q4⟩ := s2.ok.lst e2
      obtain ⟨y, q5, q6⟩ := q4.getM (List.getElem?_eq_getElem hlt)
      rw [ex] at q6
      refine .inr ⟨⟨ws, y, SqL.of q3, q5⟩, fun H5 => ∃ μ5 G5 acc ms, StpM X.K μ1 G1 H1 μ5 G5 H5 ∧ H5 D = some (.lst acc) ∧ G5 D = none ∧ μ5 D = none ∧ RmL X.K G5 acc ms ∧ (compC ρ i j te p all (all.drop (n + 1)) ms μ5 fun ms μ2 => ∀ q, μ2 q = none → P (.a q) (M.up μ2 q (.L ms))),
        fun H5 ⟨μ5, G5, acc, ms, w1, w2, w3, w4, w5, w6⟩ => ⟨all.length - (n + 1), by omega, μ5, G5, acc, ms, w1, w2, w3, w4, w5, w6, hlt, rfl⟩, fun y' H3 hy => ?_⟩
      obtain ⟨rfl, hy⟩ := hy
      have ey := hy ws (SqL.of q3)
      rw [q5] at ey
      have ey := Option.some.inj ey
      subst ey
      have q7 : Rp X.K G' y (.tuple [d, e]) := q6
      cases q7 with
      | @tup T xs _ t1 t2 =>
        cases t2 with
        | @cons v1 _ _ _ a1 t2 =>
          cases t2 with
          | @cons v2 _ _ _ a2 t2 =>
            cases t2
            refine ⟨T, [v1, v2], rfl, s2.ok.sub.sqT t1, rfl, v1, [v2], rfl, v2, [], rfl, rfl, ?_⟩
            show wipe (((wipe σ [i, j]).set i (some v1)).set j (some v2)) [i, j] = wipe σ [i, j] ∧ _
            refine ⟨?_, ?_⟩
            · show (((((σ.set j none).set i none).set i (some v1)).set j (some v2)).set j none).set i none = (σ.set j none).set i none
              have c : ((σ.set j none).set i (some v1)).set j none = (σ.set j none).set i (some v1) := by rw [List.set_comm _ _ hij, List.set_set]
              rw [List.set_set, List.set_set, c, List.set_set]
            · have sl0 : SlOk X.K G' (((wipe σ [i, j]).set i (some v1)).set j (some v2)) ((((ρ.set j .un).set i .un).set i (.dat d)).set j (.dat e)) :=
                ((SlOk.setUnM (SlOk.setUnM (s.mono (s1.up.trans s2.up)) (j := j) (v := none)) (j := i) (v := none)).set a1).set a2
              show teM X.K te _ H3 _
              refine ⟨_, μ', G', _, s2.ok, sl0, hc, fun v m μ5 G5 H5 s5 re hp => ?_⟩
              have hh : H3 D ≠ none := by rw [hacc]; exact fun z => nomatch z
              have hacc5 : H5 D = some (.lst acc) := s5.kp D _ hmD hacc
              have hD5 := s5.nw D hh hgD hmD
              have ra5 := RmL.mono s5.up ra
              have s6 := s2.trans s5
              have s7 : StpM X.K μ1 G1 H1 μ5 G5 (L2.upd H5 D (.lst (acc ++ [v]))) := by
                refine ⟨s6.up, fun b u n e => ?_, fun b e => ?_, s6.nw, fun b u e => ?_, fun b c e => ?_, s6.ok.sep⟩
                · rw [upd_ne (ne (by rw [e]; exact fun z => nomatch z))]; exact s6.kp b u n e
                · rw [upd_ne (ne e)]; exact s6.th b e
                · rw [upd_ne (ne_of_none e hD5.1)]; exact s6.ok.sub b u e
                · have nb : b ≠ D := fun z => by rw [z, hD5.2] at e; cases e
                  obtain ⟨o, w1, w2⟩ := s6.ok.cell b c e
                  exact ⟨o, by rw [upd_ne nb]; exact w1, w2⟩
              exact ⟨acc, hacc5, line_lt (by rw [ra5.len]; exact hp.1), μ5, G5, acc ++ [v], ms ++ [m], s7, upd_same, hD5.1, hD5.2, RmL.app ra5 (.cons re .nil), hp.2⟩
    · have hd : all.drop n = [] := List.drop_eq_nil_of_le (by omega)
      rw [hd] at hc
      obtain ⟨e2, hc⟩ := hc
      obtain ⟨ws, q3, q4⟩ := s2.ok.lst e2
      have ad := s2.adopt (p := D) (c := .L ms) hD hgD hacc ra
      exact .inl ⟨⟨ws, SqL.of q3, by rw [q4.len]; omega⟩, q (.ref D) (.a D) _ G' H' (s1.trans ad) rfl (hc D hmD)⟩
theorem pm_lcC {W W2 : WX} {X : Cx} {elt tg iter : Expr} {scope : Scope} {x y : Str} {i j : Nat} {pos : Pos} {tl te : ME} (hN : X.N.Nodup) (ok : BlkOk X.N X.env.scope scope [(x, i), (y, j)]) (hij : i ≠ j) (hl : PM W X iter tl)
    (hg : ∀ (s : Shared) (H : Hp) (C : Addr) (cl : List (Str × Addr)) (fp : List Addr), PG (X.blk s H scope (compEnvC scope cl C X.env) fp) tg (gTup X.K 2 (gCons (gName i) (gCons (gName j) gNil))))
    (he : ∀ (s : Shared) (H : Hp) (C : Addr) (cl : List (Str × Addr)) (fp : List Addr), PM W2 (X.blk s H scope (compEnvC scope cl C X.env) fp) elt te)
    (hc : X.calm = true := by rfl) (hs : ∀ x, foldedSetIterable iter X.env x = pure x := by intro _; rfl) : PM W X (.ListComp elt [⟨tg, iter, [], 0⟩] scope pos) (mLcC tl i j te) := by
  obtain ⟨tl', l1, l2⟩ := hl
  exact ⟨_, pe_lc (own := [(x, i), (y, j)]) hc hN (pi_list l1) ok hg (fun _ _ _ _ _ => pts_nil) (fun s H C cl fp => (he s H C cl fp).can) hs, rem_lcC hij l2⟩
/-- is, is not, of truth values -/
def gIsB : D2 := fun x y P => match x, y with
  | .bool a, .bool b => P (.bool (decide (a = b)))
  | _, _ => False
def gNotB : D2 := fun x y P => match x, y with
  | .bool a, .bool b => P (.bool (!decide (a = b)))
  | _, _ => False
theorem od_isB {w : Wd} {X : Cx} : OpD w X (compareOp .Is) gIsB := by
  refine ⟨_, op_is_bl, fun x y d e G H P Q k r1 r2 h q => ?_⟩
  cases r1 <;> cases r2 <;> first | exact h.elim | exact ⟨_, _, rfl, rfl, q _ _ G H k.stp (.bl _) h⟩
theorem od_notB {w : Wd} {X : Cx} : OpD w X (compareOp .IsNot) gNotB := by
  refine ⟨_, op_isnot_bl, fun x y d e G H P Q k r1 r2 h q => ?_⟩
  cases r1 <;> cases r2 <;> first | exact h.elim | exact ⟨_, _, rfl, rfl, q _ _ G H k.stp (.bl _) h⟩
end M

set_option Elab.async false
set_option linter.all false
set_option maxRecDepth 100000
set_option maxHeartbeats 4000000
/-! M: for over reversed(a list that may turn); a comprehension over zip of two such lists; raise C(e) -/
namespace M
open PySem PySem.Spec PyProof.Rows L2 Z
/-- for x in reversed(a list that may turn, but does not meanwhile) -/
def xForR (tl : ME) (gm : MG) (sb : MS) : MS := fun E ρ μ => tl ρ μ (fun m μ1 => match m with
  | .a p => ∃ all, μ1 p = some (.L all) ∧ loopC gm sb E p all all.reverse ρ μ1
  | _ => False) fun x μ1 => E.ex x ρ μ1
theorem px_forR {W : WX} {X : Cx} {tg e : Expr} {body : List Stmt} {p2 pos2 pos : Pos} {sb : MS} {gm : MG} {tl : ME} (hm : X.mg "reversed" = none) (hi : PM W X e tl) (hg : PMG X tg gm) (hb : PMSs W X body sb) (hgl : Gl X "reversed" := by rfl) (hp : PassesOwn (model X.prog X.w) X.A X.env X.xe := by exact PassesOwn.never) (hc : X.calm = true := by rfl)
    (hs : ∀ x, foldedSetIterable (.Call (.Name "reversed" p2) [e] [] pos2) X.env x = pure x := by intro _; rfl) (hse : starEach [e] X.env = (false, eval e X.env) :: starEach [] X.env := by rfl) : PMS W X (.For tg (.Call (.Name "reversed" p2) [e] [] pos2) body [] pos) (xForR tl gm sb) := by
  obtain ⟨tl', l1, l2⟩ := hi
  obtain ⟨g, g1, g2⟩ := hg
  obtain ⟨tb, b1, b2⟩ := hb
  refine ⟨_, ps_for hp hc (RT.pi_revA hgl hm l1 hse) g1 b1 hs, fun μ0 G0 H0 σ ρ μ H D E ⟨G, s, sl⟩ hd r => ?_⟩
  refine l2 σ ρ μ G H _ _ _ s.ok sl hd (fun v m μ1 G1 H1 s1 r1 p1 => ?_) (r.xm s sl)
  cases m with
  | d d => exact p1.elim
  | a p =>
    obtain ⟨all, e1, p1⟩ := p1
    obtain ⟨vs, q1, q2⟩ := s1.ok.lst e1
    have lvs := q2.len
    refine ⟨p, vs, r1, .inl ⟨SqL.of q1, ?_⟩⟩
    refine ⟨fun i m σ' H' => ∃ ρ' μ', SPm X.K μ0 G0 H0 ρ' μ' σ' H' ∧ loopC gm sb E p all (all.reverse.drop i) ρ' μ' ∧ i ≤ all.length ∧ m = all.length - i, ⟨all.length, ρ, μ1, ⟨G1, s.trans s1, sl.mono s1.up⟩, p1, Nat.zero_le _, rfl⟩, ?_⟩
    rintro i m σ' H' ⟨ρ', μ', ⟨G', s2, sl2⟩, hl, hle, rfl⟩
    have lr : all.reverse.length = all.length := List.length_reverse
    by_cases hi : i < all.length
    · have hi' : i < all.reverse.length := by rw [lr]; exact hi
      have hdr : all.reverse.drop i = all.reverse[i] :: all.reverse.drop (i + 1) := List.drop_eq_getElem_cons hi'
      rw [hdr] at hl
      obtain ⟨e2, hl⟩ := hl
      obtain ⟨ws, q3, q4⟩ := s2.ok.lst e2
      have hj : all[all.length - 1 - i]? = some all.reverse[i] := by
        rw [← List.getElem?_reverse hi]; exact List.getElem?_eq_getElem hi'
      obtain ⟨x, q5, q6⟩ := q4.getM hj
      rw [← lvs] at q5
      refine .inr ⟨⟨by rw [lvs]; exact hi, ws, x, SqL.of q3, q5⟩, fun σ5 H5 => ∃ ρ5 μ5, SPm X.K μ0 G0 H0 ρ5 μ5 σ5 H5 ∧ loopC gm sb E p all (all.reverse.drop (i + 1)) ρ5 μ5, fun σ5 H5 ⟨ρ5, μ5, h5, h6⟩ => ⟨all.length - (i + 1), by omega, ρ5, μ5, h5, h6, hi, rfl⟩, fun y H3 hy => ?_⟩
      obtain ⟨rfl, hy⟩ := hy
      have ey := hy ws (SqL.of q3)
      rw [q5] at ey
      have ey := Option.some.inj ey
      subst ey
      refine g2 σ' ρ' μ' G' H3 x all.reverse[i] _ _ s2.ok sl2 q6 hl fun σ4 ρ4 s4 h4 => ?_
      exact b2 μ0 G0 H0 σ4 ρ4 μ' H3 _ _ ⟨G', s2, s4⟩ h4 ⟨fun σ5 ρ5 μ5 H5 h5 h6 => ⟨ρ5, μ5, h5, h6⟩, r.rt, r.nx, fun σ5 ρ5 μ5 H5 h5 h6 => ⟨ρ5, μ5, h5, h6⟩, r.ex⟩
    · have hd : all.reverse.drop i = [] := List.drop_eq_nil_of_le (by omega)
      rw [hd] at hl
      exact .inl ⟨by rw [lvs]; show all.length ≤ i; omega, r.nx _ _ _ _ ⟨G', s2, sl2⟩ hl.2⟩
/-! ### [e for x, y in zip(a, b) if c], a and b lists that may turn but do not meanwhile -/
def compZ (ρ : En) (i j : Nat) (tt : MT) (te : ME) (C : Mu → Prop) : List (MV × MV) → List MV → Mu → (List MV → Mu → Prop) → Prop
  | [], acc, μ, P => C μ ∧ P acc μ
  | x :: xs, acc, μ, P => C μ ∧ tt ((((ρ.set j .un).set i .un).set i (entM x.1)).set j (entM x.2)) μ (fun b μ1 => if b = true then te ((((ρ.set j .un).set i .un).set i (entM x.1)).set j (entM x.2)) μ1 (fun m μ2 => acc.length < 1000000 ∧ compZ ρ i j tt te C xs (acc ++ [m]) μ2 P) noPX else compZ ρ i j tt te C xs acc μ1 P) noPX
def mLcZ (ta : MA) (i j : Nat) (tt : MT) (te : ME) : ME := fun ρ μ P PX => ta ρ μ (fun ms μ1 => ∃ p q all bll, ms = [.a p, .a q] ∧ μ1 p = some (.L all) ∧ μ1 q = some (.L bll) ∧ compZ ρ i j tt te (fun μ => μ p = some (.L all) ∧ μ q = some (.L bll)) (all.zip bll) [] μ1 fun ms μ2 => ∀ q, μ2 q = none → P (.a q) (M.up μ2 q (.L ms))) PX
theorem rem_lcZ {W : WX} {X : Cx} {ta' : TA} {ta : MA} {tt : MT} {te : ME} {i j : Nat} (hij : i ≠ j) (hl : RAM W X.K 2 ta' ta) :
    REM W X.K (tLc (iZip X.K ta') (gTup X.K 2 (gCons (gName i) (gCons (gName j) gNil))) (ttM X.K tt) (teM X.K te) [i, j]) (mLcZ ta i j tt te) := by
  intro σ ρ μ G H P PX Q k s h q x
  refine hl σ ρ μ G H _ PX _ k s h (fun vs ms μ1 G1 H1 s1 r1 _ p1 => ?_) x
  obtain ⟨p, p', all, bll, rfl, e1, e2, p1⟩ := p1
  cases r1 with
  | @cons u0 _ vs _ r0 r =>
  cases r with
  | @cons u1 _ vs _ r0' r =>
  cases r
  have z0 : u0 = .ref p := r0
  have z1 : u1 = .ref p' := r0'
  subst z0 z1
  obtain ⟨va, q1, q2⟩ := s1.ok.lst e1
  obtain ⟨vb, q1', q2'⟩ := s1.ok.lst e2
  refine ⟨p, p', va, vb, rfl, SqL.of q1, SqL.of q1', fun D hD => ?_⟩
  have k1 := s1.ok
  have ne : ∀ {b : Addr}, H1 b ≠ none → b ≠ D := fun n z => n (by rw [z]; exact hD)
  have s0 : StpM X.K μ1 G1 H1 μ1 G1 (L2.upd H1 D (.lst [])) := k1.lift (Stp.new0 k1.okw hD)
  generalize hC : (fun μ : Mu => μ p = some (Cell.L all) ∧ μ p' = some (Cell.L bll)) = C at p1
  have hC' : ∀ {μ}, C μ → μ p = some (.L all) ∧ μ p' = some (.L bll) := fun {μ} z => by rw [← hC] at z; exact z
  refine ⟨fun n m H' => ∃ μ' G' acc ms, StpM X.K μ1 G1 H1 μ' G' H' ∧ H' D = some (.lst acc) ∧ G' D = none ∧ μ' D = none ∧ RmL X.K G' acc ms ∧ (compZ ρ i j tt te C ((all.zip bll).drop n) ms μ' fun ms μ2 => ∀ q, μ2 q = none → P (.a q) (M.up μ2 q (.L ms))) ∧ n ≤ (all.zip bll).length ∧ m = (all.zip bll).length - n,
    ⟨(all.zip bll).length, μ1, G1, [], [], s0, upd_same, k1.gnone hD, k1.fresh hD, .nil, p1, Nat.zero_le _, rfl⟩, ?_⟩
  rintro n m H' ⟨μ', G', acc, ms, s2, hacc, hgD, hmD, ra, hc, hn, rfl⟩
  have hzl : (all.zip bll).length = min all.length bll.length := List.length_zip
  by_cases hlt : n < (all.zip bll).length
  · rw [List.drop_eq_getElem_cons hlt] at hc
    obtain ⟨hcc, hc⟩ := hc
    obtain ⟨e3, e4⟩ := hC' hcc
    obtain ⟨ws, q3, q4⟩ := s2.ok.lst e3
    obtain ⟨ws', q3', q4'⟩ := s2.ok.lst e4
    have la : n < all.length := by omega
    have lb : n < bll.length := by omega
    obtain ⟨y, q5, q6⟩ := q4.getM (List.getElem?_eq_getElem la)
    obtain ⟨y', q5', q6'⟩ := q4'.getM (List.getElem?_eq_getElem lb)
    have hze : (all.zip bll)[n] = (all[n], bll[n]) := List.getElem_zip
    rw [hze] at hc
    refine .inr ⟨⟨ws, ws', y, y', SqL.of q3, SqL.of q3', q5, q5'⟩, fun H5 => ∃ μ5 G5 acc ms, StpM X.K μ1 G1 H1 μ5 G5 H5 ∧ H5 D = some (.lst acc) ∧ G5 D = none ∧ μ5 D = none ∧ RmL X.K G5 acc ms ∧ (compZ ρ i j tt te C ((all.zip bll).drop (n + 1)) ms μ5 fun ms μ2 => ∀ q, μ2 q = none → P (.a q) (M.up μ2 q (.L ms))),
      fun H5 ⟨μ5, G5, acc, ms, w1, w2, w3, w4, w5, w6⟩ => ⟨(all.zip bll).length - (n + 1), by omega, μ5, G5, acc, ms, w1, w2, w3, w4, w5, w6, hlt, rfl⟩, fun v' H3 hy => ?_⟩
    obtain ⟨T, x1, x2, rfl, hT, rfl, hy1, hy2⟩ := hy
    have ey := hy1 ws (SqL.of q3)
    rw [q5] at ey
    have ey := Option.some.inj ey
    subst ey
    have ey := hy2 ws' (SqL.of q3')
    rw [q5'] at ey
    have ey := Option.some.inj ey
    subst ey
    have sn := Stp.new (w := wdM μ' H') (o := .tup [y, y']) s2.ok.okw hT
    have s3 := s2.trans (s2.ok.lift sn)
    have nD : D ≠ T := ne_of_none hacc hT
    have hacc3 : L2.upd H' T (.tup [y, y']) D = some (.lst acc) := by rw [upd_ne nD]; exact hacc
    have hgD3 : L2.upd G' T (.tup [y, y']) D = none := by rw [upd_ne nD]; exact hgD
    refine ⟨T, [y, y'], rfl, SqT.of upd_same, rfl, y, [y'], rfl, y', [], rfl, rfl, ?_⟩
    show wipe (((wipe σ [i, j]).set i (some y)).set j (some y')) [i, j] = wipe σ [i, j] ∧ _
    refine ⟨?_, ?_⟩
    · show (((((σ.set j none).set i none).set i (some y)).set j (some y')).set j none).set i none = (σ.set j none).set i none
      have c : ((σ.set j none).set i (some y)).set j none = (σ.set j none).set i (some y) := by rw [List.set_comm _ _ hij, List.set_set]
      rw [List.set_set, List.set_set, c, List.set_set]
    · have sl0 : SlOk X.K (L2.upd G' T (.tup [y, y'])) (((wipe σ [i, j]).set i (some y)).set j (some y')) ((((ρ.set j .un).set i .un).set i (entM all[n])).set j (entM bll[n])) :=
        SlOk.setM (SlOk.setM (SlOk.setUnM (SlOk.setUnM (s.mono ((s1.up.trans s2.up).trans sn.up)) (j := j) (v := none)) (j := i) (v := none)) (q6.mono sn.up)) (q6'.mono sn.up)
      show ttM X.K tt _ _ _
      refine ⟨_, μ', _, _, s3.ok, sl0, hc, fun b μ4 G4 H4 s4 hb => ?_⟩
      have hh : L2.upd H' T (.tup [y, y']) D ≠ none := by rw [hacc3]; exact fun z => nomatch z
      have hacc4 : H4 D = some (.lst acc) := s4.kp D _ hmD hacc3
      have hD4 := s4.nw D hh hgD3 hmD
      cases b with
      | false =>
        rw [if_neg Bool.false_ne_true] at hb
        show ∃ μ' G' acc ms, _
        exact ⟨μ4, G4, acc, ms, s3.trans s4, hacc4, hD4.1, hD4.2, (RmL.mono sn.up ra).mono s4.up, hb⟩
      | true =>
        rw [if_pos rfl] at hb
        show teM X.K te _ H4 _
        refine ⟨_, μ4, G4, _, s4.ok, sl0.mono s4.up, hb, fun v m μ5 G5 H5 s5 re hp => ?_⟩
        have hh4 : H4 D ≠ none := by rw [hacc4]; exact fun z => nomatch z
        have hacc5 : H5 D = some (.lst acc) := s5.kp D _ hD4.2 hacc4
        have hD5 := s5.nw D hh4 hD4.1 hD4.2
        have ra5 := RmL.mono s5.up (RmL.mono s4.up (RmL.mono sn.up ra))
        have s6 := (s3.trans s4).trans s5
        have s7 : StpM X.K μ1 G1 H1 μ5 G5 (L2.upd H5 D (.lst (acc ++ [v]))) := by
          refine ⟨s6.up, fun b u n e => ?_, fun b e => ?_, s6.nw, fun b u e => ?_, fun b c e => ?_, s6.ok.sep⟩
          · rw [upd_ne (ne (by rw [e]; exact fun z => nomatch z))]; exact s6.kp b u n e
          · rw [upd_ne (ne e)]; exact s6.th b e
          · rw [upd_ne (ne_of_none e hD5.1)]; exact s6.ok.sub b u e
          · have nb : b ≠ D := fun z => by rw [z, hD5.2] at e; cases e
            obtain ⟨o, w1, w2⟩ := s6.ok.cell b c e
            exact ⟨o, by rw [upd_ne nb]; exact w1, w2⟩
        exact ⟨acc, hacc5, line_lt (by rw [ra5.len]; exact hp.1), μ5, G5, acc ++ [v], ms ++ [m], s7, upd_same, hD5.1, hD5.2, RmL.app ra5 (.cons re .nil), hp.2⟩
  · have hd : (all.zip bll).drop n = [] := List.drop_eq_nil_of_le (by omega)
    rw [hd] at hc
    obtain ⟨hcc, hc⟩ := hc
    obtain ⟨e3, e4⟩ := hC' hcc
    obtain ⟨ws, q3, q4⟩ := s2.ok.lst e3
    obtain ⟨ws', q3', q4'⟩ := s2.ok.lst e4
    have ad := s2.adopt (p := D) (c := .L ms) hD hgD hacc ra
    have l1 := q4.len
    have l2 := q4'.len
    exact .inl ⟨⟨ws, ws', SqL.of q3, SqL.of q3', by omega⟩, q (.ref D) (.a D) _ G' H' (s1.trans ad) rfl (hc D hmD)⟩
theorem pm_lcZ {W W2 : WX} {X : Cx} {elt e1 e2 : Expr} {elts : List Expr} {kk : Nat} {tpos zp zpos : Pos} {ifs : List Expr} {scope : Scope} {x y : Str} {i j : Nat} {pos : Pos} {ta : MA} {tt : MT} {te : ME} (hN : X.N.Nodup) (ok : BlkOk X.N X.env.scope scope [(x, i), (y, j)]) (hij : i ≠ j) (hm : X.mg "zip" = none) (hl : PMA W X [e1, e2] ta)
    (hg : ∀ (s : Shared) (H : Hp) (C : Addr) (cl : List (Str × Addr)) (fp : List Addr), PG (X.blk s H scope (compEnvC scope cl C X.env) fp) (.Tuple elts kk tpos) (gTup X.K 2 (gCons (gName i) (gCons (gName j) gNil))))
    (ht : ∀ (s : Shared) (H : Hp) (C : Addr) (cl : List (Str × Addr)) (fp : List Addr), PMTs (X.blk s H scope (compEnvC scope cl C X.env) fp) ifs tt)
    (he : ∀ (s : Shared) (H : Hp) (C : Addr) (cl : List (Str × Addr)) (fp : List Addr), PM W2 (X.blk s H scope (compEnvC scope cl C X.env) fp) elt te)
    (hgl : Gl X "zip" := by rfl) (hse : starEach [e1, e2] X.env = (false, eval e1 X.env) :: starEach [e2] X.env := by rfl) (hpl : (backTo zpos (starEach [e2] X.env)).any (·.1) = false := by rfl)
    (hc : X.calm = true := by rfl) (hs : ∀ x, foldedSetIterable (.Call (.Name "zip" zp) [e1, e2] [] zpos) X.env x = pure x := by intro _; rfl) : PM W X (.ListComp elt [⟨.Tuple elts kk tpos, .Call (.Name "zip" zp) [e1, e2] [] zpos, ifs, 0⟩] scope pos) (mLcZ ta i j tt te) := by
  obtain ⟨ta', l1, l2⟩ := hl
  exact ⟨_, pe_lc (own := [(x, i), (y, j)]) hc hN (pi_zip hgl hm l1 hse hpl) ok hg (fun s H C cl fp => (ht s H C cl fp).can) (fun s H C cl fp => (he s H C cl fp).can) hs, rem_lcZ hij l2⟩
/-! ### raise C(e) -/
def xRaiseE (x : Str) (te : ME) : MS := fun E ρ μ => te ρ μ (fun _ μ1 => E.ex x ρ μ1) fun y μ1 => E.ex y ρ μ1
theorem px_raiseE {W : WX} {X : Cx} {x : Str} {e : Expr} {te : ME} {p p3 pos : Pos} (C : ErC X.K X.mg x) (tk : Takes X W) (he : PM W X e te) (hc : X.calm = true := by rfl) (hg : Gl X x := by rfl) (hdb : (x == ("__debug__" : Str)) = false := by decide) (hs : starEach [e] X.env = (false, eval e X.env) :: starEach [] X.env := by rfl) : PMS W X (.Raise (some (.Call (.Name x p) [e] [] p3)) none pos) (xRaiseE x te) := by
  obtain ⟨h1, h2, h3, h4⟩ := He.exc_ok C.c
  obtain ⟨t, e1, e2⟩ := he
  refine ⟨_, ps_raise hc tk (SkE.pmk_own1 PySem.F.excBase_ValueError h1 C.g h2 (raises_own h3 h4) hg e1 hs hdb), fun μ0 G0 H0 σ ρ μ H D E ⟨G, s, sl⟩ hd r => ?_⟩
  refine e2 σ ρ μ G H _ _ _ s.ok sl hd (fun v m μ1 G1 H1 s1 r1 p1 => ?_) (r.xm s sl)
  exact r.ex x _ _ _ _ ⟨G1, s.trans s1, sl.mono s1.up⟩ p1
end M

set_option Elab.async false
set_option linter.all false
set_option maxRecDepth 100000
set_option maxHeartbeats 4000000
/-! M: f-strings of texts and int constants; what a caught class is -/
namespace M
open PySem PySem.Spec PyProof.Rows L2 Z
structure PFs (X : Cx) (es : List Expr) (n : Nat) : Prop where
  ex : ∃ ts, PJ X es ts ∧ ∀ (acc : Str) (σ : L2.St) (H : Hp) (Q : Str → Hp → Prop), acc.length + n ≤ sizeLine → (∀ z, Q z H) → tJs ts acc σ H Q
section
variable {X : Cx} {es : List Expr} {n : Nat} {pos : Pos}
theorem pfs_nil : PFs X [] 0 := ⟨[], .nil, fun acc _ _ Q _ h => h acc⟩
theorem pfs_c {m : Str} {jj : Nat} (h : PFs X es n) : PFs X (.Constant (.str m) jj pos :: es) (m.length + n) := by
  obtain ⟨ts, h1, h2⟩ := h
  refine ⟨_ :: ts, .cons pe_str h1, fun acc σ H Q hl hq => ⟨m, rfl, ?_, h2 (acc ++ m) σ H Q ?_ hq⟩⟩
  · rw [Str.length_append]; omega
  · rw [Str.length_append]; omega
theorem pfs_i {x : Str} {a : Int} {xp : Pos} (c : Cst X.mg x (.int a)) (ha : a.natAbs.log2 < 1920) (h : PFs X es n) (hg : Gl X x := by rfl) (hd : (x == ("__debug__" : Str)) = false := by decide) : PFs X (.FormattedValue (.Name x xp) (-1) none pos :: es) ((toString a : Str).length + n) := by
  obtain ⟨ts, h1, h2⟩ := h
  cases c with
  | int c =>
    refine ⟨_ :: ts, .cons (pe_fmt (pe_glob (v := .int a) hg c ⟨_, rfl⟩ hd)) h1, fun acc σ H Q hl hq => ?_⟩
    show ((∃ y : Str, V.int a = .str y ∧ _) ∨ ∃ i : Int, V.int a = .int i ∧ _)
    refine .inr ⟨a, rfl, ha, _, rfl, ?_, h2 _ σ H Q ?_ hq⟩
    · rw [Str.length_append]; omega
    · rw [Str.length_append]; omega
/-- some text -/
def dAnyS : DE := fun _ P => ∀ z, P (.str z)
theorem pm_fs {W : WX} {v1 v2 : Expr} {rest : List Expr} (h : PFs X (v1 :: v2 :: rest) n) (hn : n ≤ 1000000 := by decide +kernel) : PM W X (.JoinedStr (v1 :: v2 :: rest) pos) (mP dAnyS) := by
  obtain ⟨ts, h1, h2⟩ := h
  refine ⟨_, pe_joined h1, fun σ ρ μ G H P PX Q k s h q _ => ?_⟩
  refine h2 Str.empty σ H _ ?_ fun z => q (.str z) (.d (.str z)) μ G H k.stp (.str z) (h z)
  have := line_le hn
  show 0 + n ≤ sizeLine
  omega
end
structure IsF (K : PySem.W.Frag) (mg : Str → Option Value) (D : Str) : Prop where
  g : mg D = some (.ref (He.ga K D))
  isx : ExcC K (He.ga K D)
  k : PySem.W.kitOne K (.ref (He.ga K D)) (.ref (He.ga K D)) = some true
  ve : mg "ValueError" = none
  kve : PySem.W.kitOne K (.ref (He.ga K D)) (.type "ValueError") = some true
end M

set_option Elab.async false
set_option linter.all false
set_option maxRecDepth 100000
set_option maxHeartbeats 4000000
/-! M: (..) * n; walks of range -/
namespace M
open PySem PySem.Spec PyProof.Rows L2 Z
def gRepT : D2 := fun x y P => match x, y with
  | .tuple ds, .int n => (ds ≠ [] ∧ (2 ≤ n ∧ n ≤ 1000) ∧ ds.length ≤ 1000) ∧ P (.tuple (List.replicate n.toNat ds).flatten)
  | _, _ => False
theorem od_repT {w : Wd} {X : Cx} : OpD w X (binaryOp .Mult) gRepT := by
  refine ⟨_, op_repT, fun x y d e G H P Q k r1 r2 h q => ?_⟩
  cases r1 with
  | @tup l xs ds t1 q1 =>
    cases r2 with
    | int n =>
      obtain ⟨⟨h0, h1, h2⟩, h3⟩ := h
      refine ⟨l, n, xs, rfl, rfl, k.sub.sqT t1, fun z => h0 ?_, by omega, by omega, by rw [q1.len]; exact h2, fun p hp => ?_⟩
      · subst z; cases q1; rfl
      · exact q _ _ _ _ (Stp.new k hp) (.tup (SqT.of upd_same) ((rpAll_rep q1 _).mono (Sub.new (k.g_none hp)))) h3
    | _ => exact h.elim
  | _ => cases r2 <;> exact h.elim
end M
namespace Z1
open PySem PySem.Spec PyProof.Rows L2 Z
theorem upto_drop (n : Int) (i : Nat) (h : i < n.toNat) : (upto n).drop i = .int (i : Nat) :: (upto n).drop (i + 1) := by
  have hl : (upto n).length = n.toNat := by simp [upto]
  rw [List.drop_eq_getElem_cons (by rw [hl]; exact h)]
  simp [upto]
theorem upto_end (n : Int) (i : Nat) (h : n.toNat ≤ i) : (upto n).drop i = [] := List.drop_of_length_le (by simp only [upto, List.length_map, List.length_range]; exact h)
end Z1

set_option Elab.async false
set_option linter.all false
set_option maxRecDepth 100000
set_option maxHeartbeats 4000000
namespace Z1
open PySem PySem.Spec PyProof.Rows L2 Z M
def topS (i : Nat) : Stmt := PySem.Challenge.pw_sameanswer_k05_disk_keeps_what_was_synce.main.body.getD i (.Pass ⟨0, 0, 0, 0⟩)
def inClass (s : Stmt) (j : Nat) : Stmt := match s with
  | .ClassDef _ _ _ body _ _ _ _ _ _ _ => body.getD j (.Pass ⟨0, 0, 0, 0⟩)
  | _ => s
section
variable {P : Program} {wd : World} {K : PySem.W.Frag} {mg : Str → Option Value} {base : Heap}
abbrev s__law_same : Stmt := topS 11
abbrev N__law_same : List Str := ["actual", "expected", "k"]
theorem S__law_same : FnScope N__law_same ["actual", "expected"] (defScope s__law_same) := ⟨rfl, rfl, rfl, by decide +kernel, rfl, by decide +kernel, by decide +kernel⟩
def m__law_same (F : D1) : DS :=
    (sSeq (sIf (dT (dOp gIsN (dN 1) (dC .none))) (sRet (dOp gIsN (dN 0) (dC .none))) sNx)
    (sSeq (sIf (dT (dIsi .bool (dN 1))) (sRet (dAndV (dIsi .bool (dN 0)) (dOp (gB eqD) (dN 0) (dN 1)))) sNx)
    (sSeq (sIf (dT (dIsi .int (dN 1))) (sRet (dAndV (dIsi .int (dN 0)) (dAndV (dNotV (dIsi .bool (dN 0))) (dOp (gB eqD) (dN 0) (dN 1))))) sNx)
    (sSeq (sIf (dT (dIsi .str (dN 1))) (sRet (dAndV (dIsi .str (dN 0)) (dOp (gB eqD) (dN 0) (dN 1)))) sNx)
    (sSeq (sIf (dAnd (dT (dIsi .tuple (dN 1))) (dNot (dT (dIsi .tuple (dN 0))))) (sRet (dC (.bool false))) sNx)
    (sSeq (sIf (dAnd (dT (dIsi .list (dN 1))) (dNot (dT (dIsi .list (dN 0))))) (sRet (dC (.bool false))) sNx)
    (sSeq (sIf (dT (dOp (gB neD) (dCall (g1 gLen) (dCons (dN 0) dNil)) (dCall (g1 gLen) (dCons (dN 1) dNil)))) (sRet (dC (.bool false))) sNx)
    (sSeq (sFor (dIr (dCall (g1 gLen) (dCons (dN 1) dNil))) (tN 2) (sIf (dNot (dT (dCall F (dCons (dOp gIx (dN 0) (dN 2)) (dCons (dOp gIx (dN 1) (dN 2)) dNil))))) (sRet (dC (.bool false))) sNx))
    (sRet (dC (.bool true)))))))))))
theorem b__law_same {f : Addr} (B : Blt mg) {kf lv : Nat} {F : D1} (hle : kf ≤ lv) (q__law_same : Fnc P wd K mg base kf "_law_same" F) (cdv : Value) (A : Around) (outer : List Env) (s : Shared) (H : Hp) (E : XK) (hr : Room lv (A.deeper (envOfC "_law_same" (defScope s__law_same) s.heap.objs.size f cdv))) :
  PDSs Wd.zero (cxOf CX0 P wd K mg base N__law_same "_law_same" (defScope s__law_same) f cdv A outer s H E).nox (defBody s__law_same) (m__law_same F) :=
    have S := S__law_same
    (sds_cons (sd_if (pt_cm od_isN (pd_n 1) pd_non) (sds_one (sd_ret (pd_cmp od_isN (pd_n 0) pd_non))) sds_nil)
    (sds_cons (sd_if (pt_v (pd_isi .bool B.isinstance B.bool bt_bool (pd_n 1))) (sds_one (sd_ret (pd_and (pd_isi .bool B.isinstance B.bool bt_bool (pd_n 0)) (pd_one (pd_cmp (od_eq hr) (pd_n 0) (pd_n 1)))))) sds_nil)
    (sds_cons (sd_if (pt_v (pd_isi .int B.isinstance B.int bt_int (pd_n 1))) (sds_one (sd_ret (pd_and (pd_isi .int B.isinstance B.int bt_int (pd_n 0)) (pd_and (pd_not (pd_isi .bool B.isinstance B.bool bt_bool (pd_n 0))) (pd_one (pd_cmp (od_eq hr) (pd_n 0) (pd_n 1))))))) sds_nil)
    (sds_cons (sd_if (pt_v (pd_isi .str B.isinstance B.str bt_str (pd_n 1))) (sds_one (sd_ret (pd_and (pd_isi .str B.isinstance B.str bt_str (pd_n 0)) (pd_one (pd_cmp (od_eq hr) (pd_n 0) (pd_n 1)))))) sds_nil)
    (sds_cons (sd_if (PDW.t (pw_a (pt_v (pd_isi .tuple B.isinstance B.tuple bt_tuple (pd_n 1))) (pw_a1 (pt_no (pt_v (pd_isi .tuple B.isinstance B.tuple bt_tuple (pd_n 0))))))) (sds_one (sd_ret pd_bl)) sds_nil)
    (sds_cons (sd_if (PDW.t (pw_a (pt_v (pd_isi .list B.isinstance B.list bt_list (pd_n 1))) (pw_a1 (pt_no (pt_v (pd_isi .list B.isinstance B.list bt_list (pd_n 0))))))) (sds_one (sd_ret pd_bl)) sds_nil)
    (sds_cons (sd_if (pt_cm (od_ne hr) (pd_cb cd_len B.len bt_len (da_cons (pd_n 0) da_nil)) (pd_cb cd_len B.len bt_len (da_cons (pd_n 1) da_nil))) (sds_one (sd_ret pd_bl)) sds_nil)
    (sds_cons (sd_for (di_range B.range (pd_cb cd_len B.len bt_len (da_cons (pd_n 1) da_nil))) (dg_n (i := 2) S.nd) (sds_one (sd_if (pt_no (pt_v (pd_f (hj := hle) q__law_same hr (da_cons (pd_ix (pd_n 0) (pd_n 2)) (da_cons (pd_ix (pd_n 1) (pd_n 2)) da_nil))))) (sds_one (sd_ret pd_bl)) sds_nil)))
    (sds_one (sd_ret pd_bl))))))))))
abbrev s_Disk___init__ : Stmt := inClass (topS 8) 0
abbrev N_Disk___init__ : List Str := ["self", "sectors"]
theorem S_Disk___init__ : FnScope N_Disk___init__ ["self", "sectors"] (defScope s_Disk___init__) := ⟨rfl, rfl, rfl, by decide +kernel, rfl, by decide +kernel, by decide +kernel⟩
def m_Disk___init__ (C_Disk : Addr) : MS :=
    (xSeq (xIf (mPT (dOr (dT (dIsi .bool (dN 1))) (dNot (dT (dIsi .int (dN 1)))))) (xRaise "InvalidArgument") xNx)
    (xSeq (xIf (mPT (dOr (dT (dOp (gB ltD) (dN 1) (dC (.int 100)))) (dT (dOp (gB gtD) (dN 1) (dC (.int 600)))))) (xRaiseE "InvalidArgument" (mP dAnyS)) xNx)
    (xSeq (xFld C_Disk "in_use" (mN 0) (mP (dC (.bool false))))
    (xSeq (xFld C_Disk "_size" (mN 0) (mP (dN 1)))
    (xSeq (xFld C_Disk "_arrived" (mN 0) mNewD)
    (xSeq (xFld C_Disk "_waiting" (mN 0) (mLst mNil))
    (xSeq (xFld C_Disk "_writes" (mN 0) (mP (dC (.int 0))))
    (xSeq (xFld C_Disk "_syncs" (mN 0) (mP (dC (.int 0))))
    (xSeq (xFld C_Disk "_on" (mN 0) (mP (dC (.bool true))))
    (xSeq (xFld C_Disk "_losses" (mN 0) (mP (dC (.int 0))))
    (xFld C_Disk "_left" (mN 0) (mP (dC .none)))))))))))))
theorem b_Disk___init__ {f : Addr} (B : Blt mg) {C_Disk : Addr} (k_Disk : Cls K C_Disk) (na_Disk__left : NoAttr K C_Disk "_left") (na_Disk__losses : NoAttr K C_Disk "_losses") (na_Disk__on : NoAttr K C_Disk "_on") (na_Disk__syncs : NoAttr K C_Disk "_syncs") (na_Disk__writes : NoAttr K C_Disk "_writes") (na_Disk__waiting : NoAttr K C_Disk "_waiting") (na_Disk__arrived : NoAttr K C_Disk "_arrived") (na_Disk__size : NoAttr K C_Disk "_size") (na_Disk_in_use : NoAttr K C_Disk "in_use") (c_FEWEST_SECTORS : Cst mg "FEWEST_SECTORS" (.int 100)) (c_MOST_SECTORS : Cst mg "MOST_SECTORS" (.int 600)) (x_InvalidArgument : ErC K mg "InvalidArgument") (cdv : Value) (A : Around) (outer : List Env) (s : Shared) (H : Hp) (E : XK) (hr : Room 0 (A.deeper (envOfC "Disk.__init__" (defScope s_Disk___init__) s.heap.objs.size f cdv))) :
  PMSs (fun cls d _ H => E cls d H) (cxOf (L2.CX P wd) P wd K mg base N_Disk___init__ "Disk.__init__" (defScope s_Disk___init__) f cdv A outer s H E) (defBody s_Disk___init__) (m_Disk___init__ C_Disk) :=
    have S := S_Disk___init__
    have tk : Takes (cxOf (L2.CX P wd) P wd K mg base N_Disk___init__ "Disk.__init__" (defScope s_Disk___init__) f cdv A outer s H E) (fun cls d _ H => E cls d H) := takes_of rfl rfl rfl rfl
    (pms_cons (px_if (pm_pt fun _ => (PDW.t (pw_o (pt_v (pd_isi .bool B.isinstance B.bool bt_bool (pd_n 1))) (pw_o1 (pt_no (pt_v (pd_isi .int B.isinstance B.int bt_int (pd_n 1)))))))) (pms_one (px_raise x_InvalidArgument tk)) pms_nil)
    (pms_cons (px_if (pm_pt fun _ => (PDW.t (pw_o (pt_cm (od_lt hr) (pd_n 1) (pd_gI c_FEWEST_SECTORS)) (pw_o1 (pt_cm (od_gt hr) (pd_n 1) (pd_gI c_MOST_SECTORS)))))) (pms_one (px_raiseE x_InvalidArgument tk (pm_fs (pfs_c (pfs_i c_FEWEST_SECTORS (by decide) (pfs_c (pfs_i c_MOST_SECTORS (by decide) (pfs_c pfs_nil)))))))) pms_nil)
    (pms_cons (px_fld k_Disk na_Disk_in_use (pm_n 0) (pm_pd fun _ => pd_bl))
    (pms_cons (px_fld k_Disk na_Disk__size (pm_n 0) (pm_pd fun _ => (pd_n 1)))
    (pms_cons (px_fld k_Disk na_Disk__arrived (pm_n 0) pm_newD)
    (pms_cons (px_fld k_Disk na_Disk__waiting (pm_n 0) (pm_lst ma_nil))
    (pms_cons (px_fld k_Disk na_Disk__writes (pm_n 0) (pm_pd fun _ => pd_int))
    (pms_cons (px_fld k_Disk na_Disk__syncs (pm_n 0) (pm_pd fun _ => pd_int))
    (pms_cons (px_fld k_Disk na_Disk__on (pm_n 0) (pm_pd fun _ => pd_bl))
    (pms_cons (px_fld k_Disk na_Disk__losses (pm_n 0) (pm_pd fun _ => pd_int))
    (pms_one (px_fld k_Disk na_Disk__left (pm_n 0) (pm_pd fun _ => pd_non)))))))))))))
abbrev s_Disk_size : Stmt := inClass (topS 8) 1
abbrev N_Disk_size : List Str := ["self"]
theorem S_Disk_size : FnScope N_Disk_size ["self"] (defScope s_Disk_size) := ⟨rfl, rfl, rfl, by decide +kernel, rfl, by decide +kernel, by decide +kernel⟩
def m_Disk_size (C_Disk : Addr) : MS :=
    (xRet (mFld C_Disk "_size" (mN 0)))
theorem b_Disk_size {f : Addr} (B : Blt mg) {C_Disk : Addr} (k_Disk : Cls K C_Disk) (na_Disk__size : NoAttr K C_Disk "_size") (cdv : Value) (A : Around) (outer : List Env) (s : Shared) (H : Hp) (E : XK) (hr : Room 0 (A.deeper (envOfC "Disk.size" (defScope s_Disk_size) s.heap.objs.size f cdv))) :
  PMSs (fun cls d _ H => E cls d H) (cxOf (L2.CX P wd) P wd K mg base N_Disk_size "Disk.size" (defScope s_Disk_size) f cdv A outer s H E) (defBody s_Disk_size) (m_Disk_size C_Disk) :=
    have S := S_Disk_size
    have tk : Takes (cxOf (L2.CX P wd) P wd K mg base N_Disk_size "Disk.size" (defScope s_Disk_size) f cdv A outer s H E) (fun cls d _ H => E cls d H) := takes_of rfl rfl rfl rfl
    (pms_one (px_ret (pm_fld k_Disk na_Disk__size (pm_n 0))))
abbrev s_Disk_read : Stmt := inClass (topS 8) 2
abbrev N_Disk_read : List Str := ["self", "index", "place", "data"]
theorem S_Disk_read : FnScope N_Disk_read ["self", "index"] (defScope s_Disk_read) := ⟨rfl, rfl, rfl, by decide +kernel, rfl, by decide +kernel, by decide +kernel⟩
def m_Disk_read (C_Disk : Addr) : MS :=
    (xSeq (xForR (mFld C_Disk "_waiting" (mN 0)) (gmT [2, 3]) (xIf (mPT (dT (dOp (gB eqD) (dN 2) (dN 1)))) (xRet (mCopy (mCons (mP (dN 3)) mNil))) xNx))
    (xRet (mCopy (mCons (mGet2 (mFld C_Disk "_arrived" (mN 0)) (mP (dN 1)) (mP (dOp gRepT (dTup (dCons (dC (.int 0)) dNil)) (dC (.int 256))))) mNil))))
theorem b_Disk_read {f : Addr} (B : Blt mg) {C_Disk : Addr} (k_Disk : Cls K C_Disk) (na_Disk__arrived : NoAttr K C_Disk "_arrived") (c_SECTOR_SIZE : Cst mg "SECTOR_SIZE" (.int 256)) (na_Disk__waiting : NoAttr K C_Disk "_waiting") (f_reversed : mg "reversed" = none) (cdv : Value) (A : Around) (outer : List Env) (s : Shared) (H : Hp) (E : XK) (hr : Room 0 (A.deeper (envOfC "Disk.read" (defScope s_Disk_read) s.heap.objs.size f cdv))) :
  PMSs (fun cls d _ H => E cls d H) (cxOf (L2.CX P wd) P wd K mg base N_Disk_read "Disk.read" (defScope s_Disk_read) f cdv A outer s H E) (defBody s_Disk_read) (m_Disk_read C_Disk) :=
    have S := S_Disk_read
    have tk : Takes (cxOf (L2.CX P wd) P wd K mg base N_Disk_read "Disk.read" (defScope s_Disk_read) f cdv A outer s H E) (fun cls d _ H => E cls d H) := takes_of rfl rfl rfl rfl
    (pms_cons (px_forR f_reversed (pm_fld k_Disk na_Disk__waiting (pm_n 0)) (mg_t (js := [2, 3]) (mgs_cons (j := 2) S.nd (mgs_cons (j := 3) S.nd mgs_nil))) (pms_one (px_if (pm_pt fun _ => (pt_cm (od_eq hr) (pd_n 2) (pd_n 1))) (pms_one (px_ret (pm_copy B.list bt_list (ma_cons (pm_pd fun _ => (pd_n 3)) ma_nil)))) pms_nil)) (hp := passes_of rfl))
    (pms_one (px_ret (pm_copy B.list bt_list (ma_cons (pm_get2 (hu1u hr.units) (pm_fld k_Disk na_Disk__arrived (pm_n 0)) (pm_pd fun _ => (pd_n 1)) (pm_pd fun _ => (pd_op od_repT (pd_tup (da_cons pd_int da_nil)) (pd_gI c_SECTOR_SIZE))) ⟨rfl, rfl, rfl, rfl⟩) ma_nil)))))
abbrev s_Disk_pending : Stmt := inClass (topS 8) 3
abbrev N_Disk_pending : List Str := ["self"]
theorem S_Disk_pending : FnScope N_Disk_pending ["self"] (defScope s_Disk_pending) := ⟨rfl, rfl, rfl, by decide +kernel, rfl, by decide +kernel, by decide +kernel⟩
def m_Disk_pending (C_Disk : Addr) : MS :=
    (xRet (mCallK (g1 gLen) (mCons (mFld C_Disk "_waiting" (mN 0)) mNil)))
theorem b_Disk_pending {f : Addr} (B : Blt mg) {C_Disk : Addr} (k_Disk : Cls K C_Disk) (na_Disk__waiting : NoAttr K C_Disk "_waiting") (cdv : Value) (A : Around) (outer : List Env) (s : Shared) (H : Hp) (E : XK) (hr : Room 0 (A.deeper (envOfC "Disk.pending" (defScope s_Disk_pending) s.heap.objs.size f cdv))) :
  PMSs (fun cls d _ H => E cls d H) (cxOf (L2.CX P wd) P wd K mg base N_Disk_pending "Disk.pending" (defScope s_Disk_pending) f cdv A outer s H E) (defBody s_Disk_pending) (m_Disk_pending C_Disk) :=
    have S := S_Disk_pending
    have tk : Takes (cxOf (L2.CX P wd) P wd K mg base N_Disk_pending "Disk.pending" (defScope s_Disk_pending) f cdv A outer s H E) (fun cls d _ H => E cls d H) := takes_of rfl rfl rfl rfl
    (pms_one (px_ret (pm_cbK (fun _ => cd_len) B.len bt_len (ma_cons (pm_fld k_Disk na_Disk__waiting (pm_n 0)) ma_nil))))
abbrev s_Disk_counts : Stmt := inClass (topS 8) 4
abbrev N_Disk_counts : List Str := ["self"]
theorem S_Disk_counts : FnScope N_Disk_counts ["self"] (defScope s_Disk_counts) := ⟨rfl, rfl, rfl, by decide +kernel, rfl, by decide +kernel, by decide +kernel⟩
def m_Disk_counts (C_Disk : Addr) : MS :=
    (xRet (mTup (mCons (mFld C_Disk "_writes" (mN 0)) (mCons (mFld C_Disk "_syncs" (mN 0)) mNil))))
theorem b_Disk_counts {f : Addr} (B : Blt mg) {C_Disk : Addr} (k_Disk : Cls K C_Disk) (na_Disk__syncs : NoAttr K C_Disk "_syncs") (na_Disk__writes : NoAttr K C_Disk "_writes") (cdv : Value) (A : Around) (outer : List Env) (s : Shared) (H : Hp) (E : XK) (hr : Room 0 (A.deeper (envOfC "Disk.counts" (defScope s_Disk_counts) s.heap.objs.size f cdv))) :
  PMSs (fun cls d _ H => E cls d H) (cxOf (L2.CX P wd) P wd K mg base N_Disk_counts "Disk.counts" (defScope s_Disk_counts) f cdv A outer s H E) (defBody s_Disk_counts) (m_Disk_counts C_Disk) :=
    have S := S_Disk_counts
    have tk : Takes (cxOf (L2.CX P wd) P wd K mg base N_Disk_counts "Disk.counts" (defScope s_Disk_counts) f cdv A outer s H E) (fun cls d _ H => E cls d H) := takes_of rfl rfl rfl rfl
    (pms_one (px_ret (pm_tup (ma_cons (pm_fld k_Disk na_Disk__writes (pm_n 0)) (ma_cons (pm_fld k_Disk na_Disk__syncs (pm_n 0)) ma_nil)))))
abbrev s_Disk_write : Stmt := inClass (topS 8) 5
abbrev N_Disk_write : List Str := ["self", "index", "data"]
theorem S_Disk_write : FnScope N_Disk_write ["self", "index", "data"] (defScope s_Disk_write) := ⟨rfl, rfl, rfl, by decide +kernel, rfl, by decide +kernel, by decide +kernel⟩
def m_Disk_write (C_Disk : Addr) (F_Disk__operate : F1) : MS :=
    (xSeq (xDo (mMth0 C_Disk "_operate" F_Disk__operate (mN 0)))
    (xSeq (xDo (mApp (mFld C_Disk "_waiting" (mN 0)) (mTup (mCons (mP (dN 1)) (mCons (mTupC (mCons (mN 2) mNil)) mNil)))))
    (xFldAug C_Disk "_writes" (fun a b => a + b) (mN 0) (mP (dC (.int 1))))))
theorem b_Disk_write {f : Addr} (B : Blt mg) {C_Disk : Addr} (k_Disk : Cls K C_Disk) (na_Disk__writes : NoAttr K C_Disk "_writes") (na_Disk__waiting : NoAttr K C_Disk "_waiting") {F_Disk__operate : F1} (h_Disk__operate : MtM P wd K mg base 2 C_Disk "_operate" F_Disk__operate) (cdv : Value) (A : Around) (outer : List Env) (s : Shared) (H : Hp) (E : XK) (hr : Room 2 (A.deeper (envOfC "Disk.write" (defScope s_Disk_write) s.heap.objs.size f cdv))) :
  PMSs (fun cls d _ H => E cls d H) (cxOf (L2.CX P wd) P wd K mg base N_Disk_write "Disk.write" (defScope s_Disk_write) f cdv A outer s H E) (defBody s_Disk_write) (m_Disk_write C_Disk F_Disk__operate) :=
    have S := S_Disk_write
    have tk : Takes (cxOf (L2.CX P wd) P wd K mg base N_Disk_write "Disk.write" (defScope s_Disk_write) f cdv A outer s H E) (fun cls d _ H => E cls d H) := takes_of rfl rfl rfl rfl
    (pms_cons (px_do (pm_m0 h_Disk__operate k_Disk tk hr (pm_n 0)))
    (pms_cons (px_do (pm_app (pm_fld k_Disk na_Disk__waiting (pm_n 0)) (pm_tup (ma_cons (pm_pd fun _ => (pd_n 1)) (ma_cons (pm_tupC B.tuple bt_tuple (ma_cons (pm_n 2) ma_nil)) ma_nil)))))
    (pms_one (px_fldaug k_Disk na_Disk__writes in_addM (pm_n 0) (pm_pd fun _ => pd_int)))))
abbrev s_Disk_sync : Stmt := inClass (topS 8) 6
abbrev N_Disk_sync : List Str := ["self"]
theorem S_Disk_sync : FnScope N_Disk_sync ["self"] (defScope s_Disk_sync) := ⟨rfl, rfl, rfl, by decide +kernel, rfl, by decide +kernel, by decide +kernel⟩
def m_Disk_sync (C_Disk : Addr) (F_Disk__settle : F1) (F_Disk__operate : F1) : MS :=
    (xSeq (xDo (mMth0 C_Disk "_operate" F_Disk__operate (mN 0)))
    (xSeq (xDo (mMth C_Disk "_settle" F_Disk__settle (mN 0) (mCons (mFld C_Disk "_waiting" (mN 0)) mNil)))
    (xFldAug C_Disk "_syncs" (fun a b => a + b) (mN 0) (mP (dC (.int 1))))))
theorem b_Disk_sync {f : Addr} (B : Blt mg) {C_Disk : Addr} (k_Disk : Cls K C_Disk) (na_Disk__syncs : NoAttr K C_Disk "_syncs") {F_Disk__settle : F1} (h_Disk__settle : MtM P wd K mg base 1 C_Disk "_settle" F_Disk__settle) (na_Disk__waiting : NoAttr K C_Disk "_waiting") {F_Disk__operate : F1} (h_Disk__operate : MtM P wd K mg base 2 C_Disk "_operate" F_Disk__operate) (cdv : Value) (A : Around) (outer : List Env) (s : Shared) (H : Hp) (E : XK) (hr : Room 2 (A.deeper (envOfC "Disk.sync" (defScope s_Disk_sync) s.heap.objs.size f cdv))) :
  PMSs (fun cls d _ H => E cls d H) (cxOf (L2.CX P wd) P wd K mg base N_Disk_sync "Disk.sync" (defScope s_Disk_sync) f cdv A outer s H E) (defBody s_Disk_sync) (m_Disk_sync C_Disk F_Disk__settle F_Disk__operate) :=
    have S := S_Disk_sync
    have tk : Takes (cxOf (L2.CX P wd) P wd K mg base N_Disk_sync "Disk.sync" (defScope s_Disk_sync) f cdv A outer s H E) (fun cls d _ H => E cls d H) := takes_of rfl rfl rfl rfl
    (pms_cons (px_do (pm_m0 h_Disk__operate k_Disk tk hr (pm_n 0)))
    (pms_cons (px_do (pm_m h_Disk__settle k_Disk tk hr (pm_n 0) (ma_cons (pm_fld k_Disk na_Disk__waiting (pm_n 0)) ma_nil)))
    (pms_one (px_fldaug k_Disk na_Disk__syncs in_addM (pm_n 0) (pm_pd fun _ => pd_int)))))
abbrev s_Disk_fail_after : Stmt := inClass (topS 8) 7
abbrev N_Disk_fail_after : List Str := ["self", "operations"]
theorem S_Disk_fail_after : FnScope N_Disk_fail_after ["self", "operations"] (defScope s_Disk_fail_after) := ⟨rfl, rfl, rfl, by decide +kernel, rfl, by decide +kernel, by decide +kernel⟩
def m_Disk_fail_after (C_Disk : Addr) : MS :=
    (xSeq (xIf (mNot (mT (mFld C_Disk "_on" (mN 0)))) (xRaise "PowerOff") xNx)
    (xFld C_Disk "_left" (mN 0) (mP (dN 1))))
theorem b_Disk_fail_after {f : Addr} (B : Blt mg) {C_Disk : Addr} (k_Disk : Cls K C_Disk) (na_Disk__left : NoAttr K C_Disk "_left") (na_Disk__on : NoAttr K C_Disk "_on") (x_PowerOff : ErC K mg "PowerOff") (cdv : Value) (A : Around) (outer : List Env) (s : Shared) (H : Hp) (E : XK) (hr : Room 0 (A.deeper (envOfC "Disk.fail_after" (defScope s_Disk_fail_after) s.heap.objs.size f cdv))) :
  PMSs (fun cls d _ H => E cls d H) (cxOf (L2.CX P wd) P wd K mg base N_Disk_fail_after "Disk.fail_after" (defScope s_Disk_fail_after) f cdv A outer s H E) (defBody s_Disk_fail_after) (m_Disk_fail_after C_Disk) :=
    have S := S_Disk_fail_after
    have tk : Takes (cxOf (L2.CX P wd) P wd K mg base N_Disk_fail_after "Disk.fail_after" (defScope s_Disk_fail_after) f cdv A outer s H E) (fun cls d _ H => E cls d H) := takes_of rfl rfl rfl rfl
    (pms_cons (px_if (pmt_no (pmt_v (pm_fld k_Disk na_Disk__on (pm_n 0)))) (pms_one (px_raise x_PowerOff tk)) pms_nil)
    (pms_one (px_fld k_Disk na_Disk__left (pm_n 0) (pm_pd fun _ => (pd_n 1)))))
abbrev s_Disk_power : Stmt := inClass (topS 8) 8
abbrev N_Disk_power : List Str := ["self", "kept", "write", "arrives"]
theorem S_Disk_power : FnScope N_Disk_power ["self", "kept"] (defScope s_Disk_power) := ⟨rfl, rfl, rfl, by decide +kernel, rfl, by decide +kernel, by decide +kernel⟩
def m_Disk_power (C_Disk : Addr) (F_Disk__settle : F1) (F_Disk__fail : F1) : MS :=
    (xSeq (xIf (mT (mFld C_Disk "_on" (mN 0))) (xDo (mMth0 C_Disk "_fail" F_Disk__fail (mN 0))) xNx)
    (xSeq (xDo (mMth C_Disk "_settle" F_Disk__settle (mN 0) (mCons (mLcZ (mCons (mFld C_Disk "_waiting" (mN 0)) (mCons (mN 1) mNil)) 2 3 (mPT (dT (dN 3))) (mP (dN 2))) mNil)))
    (xFld C_Disk "_on" (mN 0) (mP (dC (.bool true))))))
theorem b_Disk_power {f : Addr} (B : Blt mg) {C_Disk : Addr} (k_Disk : Cls K C_Disk) (na_Disk__on : NoAttr K C_Disk "_on") {F_Disk__settle : F1} (h_Disk__settle : MtM P wd K mg base 1 C_Disk "_settle" F_Disk__settle) (na_Disk__waiting : NoAttr K C_Disk "_waiting") (f_zip : mg "zip" = none) {F_Disk__fail : F1} (h_Disk__fail : MtM P wd K mg base 1 C_Disk "_fail" F_Disk__fail) (cdv : Value) (A : Around) (outer : List Env) (s : Shared) (H : Hp) (E : XK) (hr : Room 1 (A.deeper (envOfC "Disk.power" (defScope s_Disk_power) s.heap.objs.size f cdv))) :
  PMSs (fun cls d _ H => E cls d H) (cxOf (L2.CX P wd) P wd K mg base N_Disk_power "Disk.power" (defScope s_Disk_power) f cdv A outer s H E) (defBody s_Disk_power) (m_Disk_power C_Disk F_Disk__settle F_Disk__fail) :=
    have S := S_Disk_power
    have tk : Takes (cxOf (L2.CX P wd) P wd K mg base N_Disk_power "Disk.power" (defScope s_Disk_power) f cdv A outer s H E) (fun cls d _ H => E cls d H) := takes_of rfl rfl rfl rfl
    (pms_cons (px_if (pmt_v (pm_fld k_Disk na_Disk__on (pm_n 0))) (pms_one (px_do (pm_m0 h_Disk__fail k_Disk tk hr (pm_n 0)))) pms_nil)
    (pms_cons (px_do (pm_m h_Disk__settle k_Disk tk hr (pm_n 0) (ma_cons (pm_lcZ (x := "write") (y := "arrives") (i := 2) (j := 3) S.nd (blkOk_by (N := N_Disk_power) (sc := defScope s_Disk_power) (by decide +kernel)) (by decide) f_zip (ma_cons (pm_fld k_Disk na_Disk__waiting (pm_n 0)) (ma_cons (pm_n 1) ma_nil)) (fun _ _ _ _ _ => pg_tup rfl (pgs_cons (pg_name (i := 2) S.nd rfl (Or.inl rfl)) (pgs_cons (pg_name (i := 3) S.nd rfl (Or.inl rfl)) pgs_nil))) (fun _ _ _ _ _ => mts_one (W := fun _ _ _ _ => False) (pm_pt fun _ => (pt_v (pd_n 3)))) (W2 := fun _ _ _ _ => False) (fun _ _ _ _ _ => (pm_pd fun _ => (pd_n 2)))) ma_nil)))
    (pms_one (px_fld k_Disk na_Disk__on (pm_n 0) (pm_pd fun _ => pd_bl)))))
abbrev s_Disk_is_on : Stmt := inClass (topS 8) 9
abbrev N_Disk_is_on : List Str := ["self"]
theorem S_Disk_is_on : FnScope N_Disk_is_on ["self"] (defScope s_Disk_is_on) := ⟨rfl, rfl, rfl, by decide +kernel, rfl, by decide +kernel, by decide +kernel⟩
def m_Disk_is_on (C_Disk : Addr) : MS :=
    (xRet (mFld C_Disk "_on" (mN 0)))
theorem b_Disk_is_on {f : Addr} (B : Blt mg) {C_Disk : Addr} (k_Disk : Cls K C_Disk) (na_Disk__on : NoAttr K C_Disk "_on") (cdv : Value) (A : Around) (outer : List Env) (s : Shared) (H : Hp) (E : XK) (hr : Room 0 (A.deeper (envOfC "Disk.is_on" (defScope s_Disk_is_on) s.heap.objs.size f cdv))) :
  PMSs (fun cls d _ H => E cls d H) (cxOf (L2.CX P wd) P wd K mg base N_Disk_is_on "Disk.is_on" (defScope s_Disk_is_on) f cdv A outer s H E) (defBody s_Disk_is_on) (m_Disk_is_on C_Disk) :=
    have S := S_Disk_is_on
    have tk : Takes (cxOf (L2.CX P wd) P wd K mg base N_Disk_is_on "Disk.is_on" (defScope s_Disk_is_on) f cdv A outer s H E) (fun cls d _ H => E cls d H) := takes_of rfl rfl rfl rfl
    (pms_one (px_ret (pm_fld k_Disk na_Disk__on (pm_n 0))))
abbrev s_Disk_losses : Stmt := inClass (topS 8) 10
abbrev N_Disk_losses : List Str := ["self"]
theorem S_Disk_losses : FnScope N_Disk_losses ["self"] (defScope s_Disk_losses) := ⟨rfl, rfl, rfl, by decide +kernel, rfl, by decide +kernel, by decide +kernel⟩
def m_Disk_losses (C_Disk : Addr) : MS :=
    (xRet (mFld C_Disk "_losses" (mN 0)))
theorem b_Disk_losses {f : Addr} (B : Blt mg) {C_Disk : Addr} (k_Disk : Cls K C_Disk) (na_Disk__losses : NoAttr K C_Disk "_losses") (cdv : Value) (A : Around) (outer : List Env) (s : Shared) (H : Hp) (E : XK) (hr : Room 0 (A.deeper (envOfC "Disk.losses" (defScope s_Disk_losses) s.heap.objs.size f cdv))) :
  PMSs (fun cls d _ H => E cls d H) (cxOf (L2.CX P wd) P wd K mg base N_Disk_losses "Disk.losses" (defScope s_Disk_losses) f cdv A outer s H E) (defBody s_Disk_losses) (m_Disk_losses C_Disk) :=
    have S := S_Disk_losses
    have tk : Takes (cxOf (L2.CX P wd) P wd K mg base N_Disk_losses "Disk.losses" (defScope s_Disk_losses) f cdv A outer s H E) (fun cls d _ H => E cls d H) := takes_of rfl rfl rfl rfl
    (pms_one (px_ret (pm_fld k_Disk na_Disk__losses (pm_n 0))))
abbrev s_Disk__operate : Stmt := inClass (topS 8) 11
abbrev N_Disk__operate : List Str := ["self"]
theorem S_Disk__operate : FnScope N_Disk__operate ["self"] (defScope s_Disk__operate) := ⟨rfl, rfl, rfl, by decide +kernel, rfl, by decide +kernel, by decide +kernel⟩
def m_Disk__operate (C_Disk : Addr) (F_Disk__fail : F1) : MS :=
    (xSeq (xIf (mNot (mT (mFld C_Disk "_on" (mN 0)))) (xRaise "PowerOff") xNx)
    (xSeq (xIf (mT (mOpK (gB eqD) (mFld C_Disk "_left" (mN 0)) (mP (dC (.int 0))))) (xSeq (xDo (mMth0 C_Disk "_fail" F_Disk__fail (mN 0)))
    (xRaise "PowerOff")) xNx)
    (xIf (mT (mOpK gNotN (mFld C_Disk "_left" (mN 0)) (mP (dC .none)))) (xFldAug C_Disk "_left" (fun a b => a - b) (mN 0) (mP (dC (.int 1)))) xNx)))
theorem b_Disk__operate {f : Addr} (B : Blt mg) {C_Disk : Addr} (k_Disk : Cls K C_Disk) (na_Disk__left : NoAttr K C_Disk "_left") (x_PowerOff : ErC K mg "PowerOff") {F_Disk__fail : F1} (h_Disk__fail : MtM P wd K mg base 1 C_Disk "_fail" F_Disk__fail) (na_Disk__on : NoAttr K C_Disk "_on") (cdv : Value) (A : Around) (outer : List Env) (s : Shared) (H : Hp) (E : XK) (hr : Room 1 (A.deeper (envOfC "Disk._operate" (defScope s_Disk__operate) s.heap.objs.size f cdv))) :
  PMSs (fun cls d _ H => E cls d H) (cxOf (L2.CX P wd) P wd K mg base N_Disk__operate "Disk._operate" (defScope s_Disk__operate) f cdv A outer s H E) (defBody s_Disk__operate) (m_Disk__operate C_Disk F_Disk__fail) :=
    have S := S_Disk__operate
    have tk : Takes (cxOf (L2.CX P wd) P wd K mg base N_Disk__operate "Disk._operate" (defScope s_Disk__operate) f cdv A outer s H E) (fun cls d _ H => E cls d H) := takes_of rfl rfl rfl rfl
    (pms_cons (px_if (pmt_no (pmt_v (pm_fld k_Disk na_Disk__on (pm_n 0)))) (pms_one (px_raise x_PowerOff tk)) pms_nil)
    (pms_cons (px_if (pmt_cmK (fun _ => (od_eq hr)) (pm_fld k_Disk na_Disk__left (pm_n 0)) (pm_pd fun _ => pd_int)) (pms_cons (px_do (pm_m0 h_Disk__fail k_Disk tk hr (pm_n 0)))
    (pms_one (px_raise x_PowerOff tk))) pms_nil)
    (pms_one (px_if (pmt_cmK (fun _ => od_notN) (pm_fld k_Disk na_Disk__left (pm_n 0)) (pm_pd fun _ => pd_non)) (pms_one (px_fldaug k_Disk na_Disk__left in_subM (pm_n 0) (pm_pd fun _ => pd_int))) pms_nil))))
abbrev s_Disk__fail : Stmt := inClass (topS 8) 12
abbrev N_Disk__fail : List Str := ["self"]
theorem S_Disk__fail : FnScope N_Disk__fail ["self"] (defScope s_Disk__fail) := ⟨rfl, rfl, rfl, by decide +kernel, rfl, by decide +kernel, by decide +kernel⟩
def m_Disk__fail (C_Disk : Addr) : MS :=
    (xSeq (xFld C_Disk "_on" (mN 0) (mP (dC (.bool false))))
    (xSeq (xFld C_Disk "_left" (mN 0) (mP (dC .none)))
    (xSeq (xFldAug C_Disk "_losses" (fun a b => a + b) (mN 0) (mP (dC (.int 1))))
    (xFld C_Disk "in_use" (mN 0) (mP (dC (.bool false)))))))
theorem b_Disk__fail {f : Addr} (B : Blt mg) {C_Disk : Addr} (k_Disk : Cls K C_Disk) (na_Disk_in_use : NoAttr K C_Disk "in_use") (na_Disk__losses : NoAttr K C_Disk "_losses") (na_Disk__left : NoAttr K C_Disk "_left") (na_Disk__on : NoAttr K C_Disk "_on") (cdv : Value) (A : Around) (outer : List Env) (s : Shared) (H : Hp) (E : XK) (hr : Room 0 (A.deeper (envOfC "Disk._fail" (defScope s_Disk__fail) s.heap.objs.size f cdv))) :
  PMSs (fun cls d _ H => E cls d H) (cxOf (L2.CX P wd) P wd K mg base N_Disk__fail "Disk._fail" (defScope s_Disk__fail) f cdv A outer s H E) (defBody s_Disk__fail) (m_Disk__fail C_Disk) :=
    have S := S_Disk__fail
    have tk : Takes (cxOf (L2.CX P wd) P wd K mg base N_Disk__fail "Disk._fail" (defScope s_Disk__fail) f cdv A outer s H E) (fun cls d _ H => E cls d H) := takes_of rfl rfl rfl rfl
    (pms_cons (px_fld k_Disk na_Disk__on (pm_n 0) (pm_pd fun _ => pd_bl))
    (pms_cons (px_fld k_Disk na_Disk__left (pm_n 0) (pm_pd fun _ => pd_non))
    (pms_cons (px_fldaug k_Disk na_Disk__losses in_addM (pm_n 0) (pm_pd fun _ => pd_int))
    (pms_one (px_fld k_Disk na_Disk_in_use (pm_n 0) (pm_pd fun _ => pd_bl))))))
abbrev s_Disk__settle : Stmt := inClass (topS 8) 13
abbrev N_Disk__settle : List Str := ["self", "writes", "place", "data"]
theorem S_Disk__settle : FnScope N_Disk__settle ["self", "writes"] (defScope s_Disk__settle) := ⟨rfl, rfl, rfl, by decide +kernel, rfl, by decide +kernel, by decide +kernel⟩
def m_Disk__settle (C_Disk : Addr) : MS :=
    (xSeq (xForC (mN 1) (gmT [2, 3]) (xPutD (mFld C_Disk "_arrived" (mN 0)) (mP (dN 2)) (mP (dN 3))))
    (xFld C_Disk "_waiting" (mN 0) (mLst mNil)))
theorem b_Disk__settle {f : Addr} (B : Blt mg) {C_Disk : Addr} (k_Disk : Cls K C_Disk) (na_Disk__waiting : NoAttr K C_Disk "_waiting") (na_Disk__arrived : NoAttr K C_Disk "_arrived") (cdv : Value) (A : Around) (outer : List Env) (s : Shared) (H : Hp) (E : XK) (hr : Room 0 (A.deeper (envOfC "Disk._settle" (defScope s_Disk__settle) s.heap.objs.size f cdv))) :
  PMSs (fun cls d _ H => E cls d H) (cxOf (L2.CX P wd) P wd K mg base N_Disk__settle "Disk._settle" (defScope s_Disk__settle) f cdv A outer s H E) (defBody s_Disk__settle) (m_Disk__settle C_Disk) :=
    have S := S_Disk__settle
    have tk : Takes (cxOf (L2.CX P wd) P wd K mg base N_Disk__settle "Disk._settle" (defScope s_Disk__settle) f cdv A outer s H E) (fun cls d _ H => E cls d H) := takes_of rfl rfl rfl rfl
    (pms_cons (px_forC (pm_n 1) (mg_t (js := [2, 3]) (mgs_cons (j := 2) S.nd (mgs_cons (j := 3) S.nd mgs_nil))) (pms_one (px_putD (hu1u hr.units) (pm_fld k_Disk na_Disk__arrived (pm_n 0)) (pm_pd fun _ => (pd_n 2)) (pm_pd fun _ => (pd_n 3)))) (hp := passes_of rfl))
    (pms_one (px_fld k_Disk na_Disk__waiting (pm_n 0) (pm_lst ma_nil))))
abbrev s__law_refused : Stmt := topS 12
abbrev N__law_refused : List Str := ["size", "e"]
theorem S__law_refused : FnScope N__law_refused ["size"] (defScope s__law_refused) := ⟨rfl, rfl, rfl, by decide +kernel, rfl, by decide +kernel, by decide +kernel⟩
def m__law_refused (C_Disk : Addr) (F_Disk : F1) : MS :=
    (xSeq (xTry (ctOne "InvalidArgument") 1 (xDo (mMk C_Disk F_Disk (mCons (mP (dN 0)) mNil))) (fun _ ea => (xRet (mP (dAndV (dIsE 1 ea true) (dIsE 1 ea true))))))
    (xRet (mP (dC (.bool false)))))
theorem b__law_refused {f : Addr} (B : Blt mg) {C_Disk : Addr} (k_Disk : Cls K C_Disk) (n_AnswerError : mg "AnswerError" = some (.ref (He.ga K "AnswerError"))) (e_InvalidArgument_AnswerError : ∀ y b, ctOne "InvalidArgument" y = some b → PySem.W.exmOne K (.ref (He.ga K y)) (.ref (He.ga K "AnswerError")) = some b) (IS_InvalidArgument : IsF K mg "InvalidArgument") {F_Disk : F1} (i_Disk : InM P wd K mg base 1 C_Disk F_Disk) (g_Disk : mg "Disk" = some (.ref C_Disk)) (cdv : Value) (A : Around) (outer : List Env) (s : Shared) (H : Hp) (E : XK) (hr : Room 2 (A.deeper (envOfC "_law_refused" (defScope s__law_refused) s.heap.objs.size f cdv))) :
  PMSs (fun cls d _ H => E cls d H) (cxOf (L2.CX P wd) P wd K mg base N__law_refused "_law_refused" (defScope s__law_refused) f cdv A outer s H E) (defBody s__law_refused) (m__law_refused C_Disk F_Disk) :=
    have S := S__law_refused
    have tk : Takes (cxOf (L2.CX P wd) P wd K mg base N__law_refused "_law_refused" (defScope s__law_refused) f cdv A outer s H E) (fun cls d _ H => E cls d H) := takes_of rfl rfl rfl rfl
    (pms_cons (px_try (x := "AnswerError") (n := "e") (j := 1) S.nd ⟨rfl, by decide, .inl n_AnswerError⟩ tk e_InvalidArgument_AnswerError (fun W pn xe tk pa => (pms_one (px_do (pm_mk i_Disk g_Disk tk hr (ma_cons (pm_pd fun _ => (pd_n 0)) ma_nil))))) (fun y hy ea oe pn hz hf => by obtain ⟨rfl, _⟩ := ctOne_eq hy; exact (pms_one (px_ret (pm_pd fun _ => (pd_and (pd_isE (y := "InvalidArgument") IS_InvalidArgument.isx hz hf B.isinstance (pv 1) (hx := IS_InvalidArgument.g) (hk := IS_InvalidArgument.k)) (pd_one (pd_isET (y := "InvalidArgument") IS_InvalidArgument.isx hz hf B.isinstance (pv 1) IS_InvalidArgument.ve bt_ValueError IS_InvalidArgument.kve))))))))
    (pms_one (px_ret (pm_pd fun _ => pd_bl))))
abbrev s__law_operate : Stmt := topS 13
abbrev N__law_operate : List Str := ["world"]
theorem S__law_operate : FnScope N__law_operate ["world"] (defScope s__law_operate) := ⟨rfl, rfl, rfl, by decide +kernel, rfl, by decide +kernel, by decide +kernel⟩
def m__law_operate : MS :=
    (xSeq (xIf (mAnd (mT (mGet (mN 0) (mP (dC (.str (Str.ofString "on")))))) (mT (mOpK (gB eqD) (mGet (mN 0) (mP (dC (.str (Str.ofString "left"))))) (mP (dC (.int 0)))))) (xDo (mUpd (mN 0) (mDisp ["on", "left", "losses"] (mCons (mP (dC (.bool false))) (mCons (mP (dC .none)) (mCons (mOp gAdd (mGet (mN 0) (mP (dC (.str (Str.ofString "losses"))))) (mP (dC (.int 1)))) mNil)))))) xNx)
    (xSeq (xIf (mAnd (mT (mGet (mN 0) (mP (dC (.str (Str.ofString "on")))))) (mT (mOpK gNotN (mGet (mN 0) (mP (dC (.str (Str.ofString "left"))))) (mP (dC .none))))) (xAugD (fun a b => a - b) (mN 0) (mP (dC (.str (Str.ofString "left")))) (mP (dC (.int 1)))) xNx)
    (xRet (mGet (mN 0) (mP (dC (.str (Str.ofString "on"))))))))
theorem b__law_operate {f : Addr} (B : Blt mg) (cdv : Value) (A : Around) (outer : List Env) (s : Shared) (H : Hp) (E : XK) (hr : Room 0 (A.deeper (envOfC "_law_operate" (defScope s__law_operate) s.heap.objs.size f cdv))) :
  PMSs (fun cls d _ H => E cls d H) (cxOf (L2.CX P wd) P wd K mg base N__law_operate "_law_operate" (defScope s__law_operate) f cdv A outer s H E) (defBody s__law_operate) (m__law_operate) :=
    have S := S__law_operate
    have tk : Takes (cxOf (L2.CX P wd) P wd K mg base N__law_operate "_law_operate" (defScope s__law_operate) f cdv A outer s H E) (fun cls d _ H => E cls d H) := takes_of rfl rfl rfl rfl
    (pms_cons (px_if (pmw_t (pmw_a (pmt_v (pm_get (hu1u hr.units) (pm_n 0) (pm_pd fun _ => pd_str) (fun _ _ => rfl))) (pmw_a1 (pmt_cmK (fun _ => (od_eq hr)) (pm_get (hu1u hr.units) (pm_n 0) (pm_pd fun _ => pd_str) (fun _ _ => rfl)) (pm_pd fun _ => pd_int))))) (pms_one (px_do (pm_upd (pm_n 0) (pm_disp (mp_cons (pm_pd fun _ => pd_bl) (mp_cons (pm_pd fun _ => pd_non) (mp_cons (pm_op (fun _ => od_add) (pm_get (hu1u hr.units) (pm_n 0) (pm_pd fun _ => pd_str) (fun _ _ => rfl)) (pm_pd fun _ => pd_int)) mp_nil))))))) pms_nil)
    (pms_cons (px_if (pmw_t (pmw_a (pmt_v (pm_get (hu1u hr.units) (pm_n 0) (pm_pd fun _ => pd_str) (fun _ _ => rfl))) (pmw_a1 (pmt_cmK (fun _ => od_notN) (pm_get (hu1u hr.units) (pm_n 0) (pm_pd fun _ => pd_str) (fun _ _ => rfl)) (pm_pd fun _ => pd_non))))) (pms_one (px_augD (hu1u hr.units) in_subM (pm_n 0) (pm_pd fun _ => pd_str) (pm_pd fun _ => pd_int))) pms_nil)
    (pms_one (px_ret (pm_get (hu1u hr.units) (pm_n 0) (pm_pd fun _ => pd_str) (fun _ _ => rfl))))))
abbrev s__law_write : Stmt := topS 14
abbrev N__law_write : List Str := ["state", "world", "disk", "index", "start", "data", "due", "passed", "done", "k"]
theorem S__law_write : FnScope N__law_write ["state", "world", "disk"] (defScope s__law_write) := ⟨rfl, rfl, rfl, by decide +kernel, rfl, by decide +kernel, by decide +kernel⟩
def m__law_write (C_Disk : Addr) (ct_PowerOff : Str → Option Bool) (F_Disk_write : F1) (F__law_operate : F1) (F__law_next : D1) : MS :=
    (xSeq (xSet 3 (mOp gIx (mLstD (mCons (mP (dC (.int 0))) (mCons (mP (dC (.int 1))) (mCons (mOp (gI0 (· - ·)) (mGet (mN 1) (mP (dC (.str (Str.ofString "size"))))) (mP (dC (.int 1)))) (mCons (mCall (fS F__law_next) (mCons (mN 0) (mCons (mGet (mN 1) (mP (dC (.str (Str.ofString "size"))))) mNil))) mNil))))) (mPS fun a => (dSt a 0 F__law_next (dCons (dC (.int 4)) dNil)))))
    (xSeq (xSet 4 (mPS fun a => (dSt a 0 F__law_next (dCons (dC (.int 256)) dNil))))
    (xSeq (xSet 5 (mFz (mLc (iP (dIr (dC (.int 256)))) 9 mYes (mP (dOp (gI (fun _ j => 0 < j) (· % ·)) (dOp gAdd (dN 4) (dOp (gI CMul (· * ·)) (dC (.int 7)) (dN 9))) (dC (.int 256)))))))
    (xSeq (xSet 6 (mCall F__law_operate (mCons (mN 1) mNil)))
    (xSeq (xSet 7 (mCopy (mCons (mP (dN 5)) mNil)))
    (xSeq (xTryO ct_PowerOff (xSet 8 (mOpK gIsN (mMth C_Disk "write" F_Disk_write (mN 2) (mCons (mP (dN 3)) (mCons (mN 7) mNil))) (mP (dC .none)))) (xRet (mP (dNotV (dN 6)))))
    (xSeq (xIf (mT (mOpK (gB neD) (mN 7) (mP (dN 5)))) (xRet (mP (dC (.bool false)))) xNx)
    (xSeq (xPutL (mN 7) (mP (dC (.int 0))) (mOp (gI (fun _ j => 0 < j) (· % ·)) (mOp gAdd (mIx (mN 7) (mP (dC (.int 0)))) (mP (dC (.int 1)))) (mP (dC (.int 256)))))
    (xSeq (xDo (mApp (mGet (mN 1) (mP (dC (.str (Str.ofString "waiting"))))) (mP (dTup (dCons (dN 3) (dCons (dN 5) dNil))))))
    (xSeq (xAugL (fun a b => a + b) (mGet (mN 1) (mP (dC (.str (Str.ofString "counts"))))) (mP (dC (.int 0))) (mP (dC (.int 1))))
    (xRet (mP (dAndV (dN 8) (dN 6))))))))))))))
theorem b__law_write {f : Addr} (B : Blt mg) {C_Disk : Addr} (k_Disk : Cls K C_Disk) {ct_PowerOff : Str → Option Bool} (n_PowerOff : mg "PowerOff" = some (.ref (He.ga K "PowerOff"))) (e_PowerOff : ∀ y b, ct_PowerOff y = some b → PySem.W.exmOne K (.ref (He.ga K y)) (.ref (He.ga K "PowerOff")) = some b) {F_Disk_write : F1} (h_Disk_write : MtM P wd K mg base 3 C_Disk "write" F_Disk_write) {F__law_operate : F1} (q__law_operate : FnM P wd K mg base 1 "_law_operate" F__law_operate) {F__law_next : D1} (q__law_next : Sfn P wd K mg base 1 "_law_next" F__law_next) (cdv : Value) (A : Around) (outer : List Env) (s : Shared) (H : Hp) (E : XK) (hr : Room 3 (A.deeper (envOfC "_law_write" (defScope s__law_write) s.heap.objs.size f cdv))) :
  PMSs (fun cls d _ H => E cls d H) (cxOf (L2.CX P wd) P wd K mg base N__law_write "_law_write" (defScope s__law_write) f cdv A outer s H E) (defBody s__law_write) (m__law_write C_Disk ct_PowerOff F_Disk_write F__law_operate F__law_next) :=
    have S := S__law_write
    have tk : Takes (cxOf (L2.CX P wd) P wd K mg base N__law_write "_law_write" (defScope s__law_write) f cdv A outer s H E) (fun cls d _ H => E cls d H) := takes_of rfl rfl rfl rfl
    (pms_cons (px_set (j := 3) S.nd (pm_ixD (pm_lstD (ma_cons (pm_pd fun _ => pd_int) (ma_cons (pm_pd fun _ => pd_int) (ma_cons (pm_op (fun _ => od_sub) (pm_get (hu1u hr.units) (pm_n 1) (pm_pd fun _ => pd_str) (fun _ _ => rfl)) (pm_pd fun _ => pd_int)) (ma_cons (pm_f (fnm_s q__law_next) tk hr (ma_cons (pm_n 0) (ma_cons (pm_get (hu1u hr.units) (pm_n 1) (pm_pd fun _ => pd_str) (fun _ _ => rfl)) ma_nil))) ma_nil))))) (pm_ps fun μ a l ns H' => (pd_sM q__law_next hr (pv 0) (da_cons pd_int da_nil)))))
    (pms_cons (px_set (j := 4) S.nd (pm_ps fun μ a l ns H' => (pd_sM q__law_next hr (pv 0) (da_cons pd_int da_nil))))
    (pms_cons (px_lcD (x := "k") (i := 5) (j := 9) S.nd rfl (blkOk_by (N := N__law_write) (sc := defScope s__law_write) (by decide +kernel)) (mi_p fun _ => (di_range B.range pd_int)) (fun _ _ _ _ _ => pg_name (i := 9) S.nd rfl (Or.inl rfl)) (fun _ _ _ _ _ => mts_nil) (W2 := fun _ _ _ _ => False) (fun _ _ _ _ _ => (pm_pd fun _ => (pd_op od_mod (pd_op od_add (pd_n 4) (pd_op od_mul pd_int (pd_n 9))) pd_int))) (sw_true rfl rfl rfl (by decide +kernel)))
    (pms_cons (px_set (j := 6) S.nd (pm_f q__law_operate tk hr (ma_cons (pm_n 1) ma_nil)))
    (pms_cons (px_set (j := 7) S.nd (pm_copy B.list bt_list (ma_cons (pm_pd fun _ => (pd_n 5)) ma_nil)))
    (pms_cons (px_tryO (x := "PowerOff") ⟨rfl, by decide, .inl n_PowerOff⟩ tk e_PowerOff (fun W pn xe tk pa => (pms_one (px_set (j := 8) S.nd (pm_cmpK (fun _ => od_isN) (pm_m h_Disk_write k_Disk tk hr (pm_n 2) (ma_cons (pm_pd fun _ => (pd_n 3)) (ma_cons (pm_n 7) ma_nil))) (pm_pd fun _ => pd_non))))) (fun ea oe cls d pn hz hf => (pms_one (px_ret (pm_pd fun _ => (pd_not (pd_n 6)))))))
    (pms_cons (px_if (pmt_cmK (fun _ => (od_ne hr)) (pm_n 7) (pm_pd fun _ => (pd_n 5))) (pms_one (px_ret (pm_pd fun _ => pd_bl))) pms_nil)
    (pms_cons (px_putL (pm_n 7) (pm_pd fun _ => pd_int) (pm_op (fun _ => od_mod) (pm_op (fun _ => od_add) (pm_ix (pm_n 7) (pm_pd fun _ => pd_int)) (pm_pd fun _ => pd_int)) (pm_pd fun _ => pd_int)))
    (pms_cons (px_do (pm_app (pm_get (hu1u hr.units) (pm_n 1) (pm_pd fun _ => pd_str) (fun _ _ => rfl)) (pm_pd fun _ => (pd_tup (da_cons (pd_n 3) (da_cons (pd_n 5) da_nil))))))
    (pms_cons (px_augL ip_add (pm_get (hu1u hr.units) (pm_n 1) (pm_pd fun _ => pd_str) (fun _ _ => rfl)) (pm_pd fun _ => pd_int) (pm_pd fun _ => pd_int))
    (pms_one (px_ret (pm_pd fun _ => (pd_and (pd_n 8) (pd_one (pd_n 6))))))))))))))))
abbrev s__law_sync : Stmt := topS 15
abbrev N__law_sync : List Str := ["world", "disk", "due", "done", "index", "data"]
theorem S__law_sync : FnScope N__law_sync ["world", "disk"] (defScope s__law_sync) := ⟨rfl, rfl, rfl, by decide +kernel, rfl, by decide +kernel, by decide +kernel⟩
def m__law_sync (C_Disk : Addr) (ct_PowerOff : Str → Option Bool) (F_Disk_sync : F1) (F__law_operate : F1) : MS :=
    (xSeq (xSet 2 (mCall F__law_operate (mCons (mN 0) mNil)))
    (xSeq (xTryO ct_PowerOff (xSet 3 (mOpK gIsN (mMth0 C_Disk "sync" F_Disk_sync (mN 1)) (mP (dC .none)))) (xRet (mP (dNotV (dN 2)))))
    (xSeq (xForC (mGet (mN 0) (mP (dC (.str (Str.ofString "waiting"))))) (gmT [4, 5]) (xPutD (mGet (mN 0) (mP (dC (.str (Str.ofString "lasting"))))) (mP (dN 4)) (mP (dN 5))))
    (xSeq (xPutD (mN 0) (mP (dC (.str (Str.ofString "waiting")))) (mLst mNil))
    (xSeq (xAugL (fun a b => a + b) (mGet (mN 0) (mP (dC (.str (Str.ofString "counts"))))) (mP (dC (.int 1))) (mP (dC (.int 1))))
    (xRet (mP (dAndV (dN 3) (dN 2)))))))))
theorem b__law_sync {f : Addr} (B : Blt mg) {C_Disk : Addr} (k_Disk : Cls K C_Disk) {ct_PowerOff : Str → Option Bool} (n_PowerOff : mg "PowerOff" = some (.ref (He.ga K "PowerOff"))) (e_PowerOff : ∀ y b, ct_PowerOff y = some b → PySem.W.exmOne K (.ref (He.ga K y)) (.ref (He.ga K "PowerOff")) = some b) {F_Disk_sync : F1} (h_Disk_sync : MtM P wd K mg base 3 C_Disk "sync" F_Disk_sync) {F__law_operate : F1} (q__law_operate : FnM P wd K mg base 1 "_law_operate" F__law_operate) (cdv : Value) (A : Around) (outer : List Env) (s : Shared) (H : Hp) (E : XK) (hr : Room 3 (A.deeper (envOfC "_law_sync" (defScope s__law_sync) s.heap.objs.size f cdv))) :
  PMSs (fun cls d _ H => E cls d H) (cxOf (L2.CX P wd) P wd K mg base N__law_sync "_law_sync" (defScope s__law_sync) f cdv A outer s H E) (defBody s__law_sync) (m__law_sync C_Disk ct_PowerOff F_Disk_sync F__law_operate) :=
    have S := S__law_sync
    have tk : Takes (cxOf (L2.CX P wd) P wd K mg base N__law_sync "_law_sync" (defScope s__law_sync) f cdv A outer s H E) (fun cls d _ H => E cls d H) := takes_of rfl rfl rfl rfl
    (pms_cons (px_set (j := 2) S.nd (pm_f q__law_operate tk hr (ma_cons (pm_n 0) ma_nil)))
    (pms_cons (px_tryO (x := "PowerOff") ⟨rfl, by decide, .inl n_PowerOff⟩ tk e_PowerOff (fun W pn xe tk pa => (pms_one (px_set (j := 3) S.nd (pm_cmpK (fun _ => od_isN) (pm_m0 h_Disk_sync k_Disk tk hr (pm_n 1)) (pm_pd fun _ => pd_non))))) (fun ea oe cls d pn hz hf => (pms_one (px_ret (pm_pd fun _ => (pd_not (pd_n 2)))))))
    (pms_cons (px_forC (pm_get (hu1u hr.units) (pm_n 0) (pm_pd fun _ => pd_str) (fun _ _ => rfl)) (mg_t (js := [4, 5]) (mgs_cons (j := 4) S.nd (mgs_cons (j := 5) S.nd mgs_nil))) (pms_one (px_putD (hu1u hr.units) (pm_get (hu1u hr.units) (pm_n 0) (pm_pd fun _ => pd_str) (fun _ _ => rfl)) (pm_pd fun _ => (pd_n 4)) (pm_pd fun _ => (pd_n 5)))) (hp := passes_of rfl))
    (pms_cons (px_putD (hu1u hr.units) (pm_n 0) (pm_pd fun _ => pd_str) (pm_lst ma_nil))
    (pms_cons (px_augL ip_add (pm_get (hu1u hr.units) (pm_n 0) (pm_pd fun _ => pd_str) (fun _ _ => rfl)) (pm_pd fun _ => pd_int) (pm_pd fun _ => pd_int))
    (pms_one (px_ret (pm_pd fun _ => (pd_and (pd_n 3) (pd_one (pd_n 2)))))))))))
abbrev s__law_fail : Stmt := topS 16
abbrev N__law_fail : List Str := ["state", "world", "disk", "number", "told"]
theorem S__law_fail : FnScope N__law_fail ["state", "world", "disk"] (defScope s__law_fail) := ⟨rfl, rfl, rfl, by decide +kernel, rfl, by decide +kernel, by decide +kernel⟩
def m__law_fail (C_Disk : Addr) (ct_PowerOff : Str → Option Bool) (F_Disk_fail_after : F1) (F__law_next : D1) : MS :=
    (xSeq (xSet 3 (mPS fun a => (dSt a 0 F__law_next (dCons (dC (.int 7)) dNil))))
    (xSeq (xTryO ct_PowerOff (xSet 4 (mMth C_Disk "fail_after" F_Disk_fail_after (mN 2) (mCons (mP (dN 3)) mNil))) (xRet (mNotV (mGet (mN 1) (mP (dC (.str (Str.ofString "on"))))))))
    (xSeq (xIf (mOr (mNot (mT (mGet (mN 1) (mP (dC (.str (Str.ofString "on"))))))) (mPT (dT (dOp gNotN (dN 4) (dC .none))))) (xRet (mP (dC (.bool false)))) xNx)
    (xSeq (xPutD (mN 1) (mP (dC (.str (Str.ofString "left")))) (mP (dN 3)))
    (xRet (mP (dC (.bool true))))))))
theorem b__law_fail {f : Addr} (B : Blt mg) {C_Disk : Addr} (k_Disk : Cls K C_Disk) {ct_PowerOff : Str → Option Bool} (n_PowerOff : mg "PowerOff" = some (.ref (He.ga K "PowerOff"))) (e_PowerOff : ∀ y b, ct_PowerOff y = some b → PySem.W.exmOne K (.ref (He.ga K y)) (.ref (He.ga K "PowerOff")) = some b) {F_Disk_fail_after : F1} (h_Disk_fail_after : MtM P wd K mg base 1 C_Disk "fail_after" F_Disk_fail_after) {F__law_next : D1} (q__law_next : Sfn P wd K mg base 1 "_law_next" F__law_next) (cdv : Value) (A : Around) (outer : List Env) (s : Shared) (H : Hp) (E : XK) (hr : Room 3 (A.deeper (envOfC "_law_fail" (defScope s__law_fail) s.heap.objs.size f cdv))) :
  PMSs (fun cls d _ H => E cls d H) (cxOf (L2.CX P wd) P wd K mg base N__law_fail "_law_fail" (defScope s__law_fail) f cdv A outer s H E) (defBody s__law_fail) (m__law_fail C_Disk ct_PowerOff F_Disk_fail_after F__law_next) :=
    have S := S__law_fail
    have tk : Takes (cxOf (L2.CX P wd) P wd K mg base N__law_fail "_law_fail" (defScope s__law_fail) f cdv A outer s H E) (fun cls d _ H => E cls d H) := takes_of rfl rfl rfl rfl
    (pms_cons (px_set (j := 3) S.nd (pm_ps fun μ a l ns H' => (pd_sM q__law_next hr (pv 0) (da_cons pd_int da_nil))))
    (pms_cons (px_tryO (x := "PowerOff") ⟨rfl, by decide, .inl n_PowerOff⟩ tk e_PowerOff (fun W pn xe tk pa => (pms_one (px_set (j := 4) S.nd (pm_m h_Disk_fail_after k_Disk tk hr (pm_n 2) (ma_cons (pm_pd fun _ => (pd_n 3)) ma_nil))))) (fun ea oe cls d pn hz hf => (pms_one (px_ret (pm_not (pm_get (hu1u hr.units) (pm_n 1) (pm_pd fun _ => pd_str) (fun _ _ => rfl)))))))
    (pms_cons (px_if (pmw_t (pmw_o (pmt_no (pmt_v (pm_get (hu1u hr.units) (pm_n 1) (pm_pd fun _ => pd_str) (fun _ _ => rfl)))) (pmw_o1 (pm_pt fun _ => (pt_cm od_notN (pd_n 4) pd_non))))) (pms_one (px_ret (pm_pd fun _ => pd_bl))) pms_nil)
    (pms_cons (px_putD (hu1u hr.units) (pm_n 1) (pm_pd fun _ => pd_str) (pm_pd fun _ => (pd_n 3)))
    (pms_one (px_ret (pm_pd fun _ => pd_bl)))))))
abbrev s__law_power : Stmt := topS 17
abbrev N__law_power : List Str := ["state", "world", "disk", "kept", "passed", "k"]
theorem S__law_power : FnScope N__law_power ["state", "world", "disk"] (defScope s__law_power) := ⟨rfl, rfl, rfl, by decide +kernel, rfl, by decide +kernel, by decide +kernel⟩
def m__law_power (C_Disk : Addr) (F_Disk_power : F1) (F__law_next : D1) : MS :=
    (xSeq (xSet 3 (mFz (mLc (iMr (mCall (fS F__law_next) (mCons (mN 0) (mCons (mOp gAdd (mCallK (g1 gLen) (mCons (mGet (mN 1) (mP (dC (.str (Str.ofString "waiting"))))) mNil)) (mP (dC (.int 3)))) mNil)))) 5 mYes (mPS fun a => (dOp (gB eqD) (dSt a 0 F__law_next (dCons (dC (.int 2)) dNil)) (dC (.int 1)))))))
    (xSeq (xSet 4 (mCopy (mCons (mP (dN 3)) mNil)))
    (xSeq (xIf (mOr (mT (mOpK gNotN (mMth C_Disk "power" F_Disk_power (mN 2) (mCons (mN 4) mNil)) (mP (dC .none)))) (mT (mOpK (gB neD) (mN 4) (mP (dN 3))))) (xRet (mP (dC (.bool false)))) xNx)
    (xSeq (xAugD (fun a b => a + b) (mN 1) (mP (dC (.str (Str.ofString "losses")))) (mCallK (g1 gInt) (mCons (mGet (mN 1) (mP (dC (.str (Str.ofString "on"))))) mNil)))
    (xSeq (xForI (iMr (mCallK (gM2 false) (mCons (mP (dCall (g1 gLen) (dCons (dN 3) dNil))) (mCons (mCallK (g1 gLen) (mCons (mGet (mN 1) (mP (dC (.str (Str.ofString "waiting"))))) mNil)) mNil)))) (gmN 5) (xIf (mPT (dT (dOp gIx (dN 3) (dN 5)))) (xPutD (mGet (mN 1) (mP (dC (.str (Str.ofString "lasting"))))) (mOp gIx (mIx (mGet (mN 1) (mP (dC (.str (Str.ofString "waiting"))))) (mP (dN 5))) (mP (dC (.int 0)))) (mOp gIx (mIx (mGet (mN 1) (mP (dC (.str (Str.ofString "waiting"))))) (mP (dN 5))) (mP (dC (.int 1))))) xNx))
    (xSeq (xDo (mUpd (mN 1) (mDisp ["waiting", "on", "left"] (mCons (mLst mNil) (mCons (mP (dC (.bool true))) (mCons (mP (dC .none)) mNil))))))
    (xRet (mP (dC (.bool true))))))))))
theorem b__law_power {f : Addr} (B : Blt mg) {C_Disk : Addr} (k_Disk : Cls K C_Disk) {F_Disk_power : F1} (h_Disk_power : MtM P wd K mg base 2 C_Disk "power" F_Disk_power) {F__law_next : D1} (q__law_next : Sfn P wd K mg base 1 "_law_next" F__law_next) (cdv : Value) (A : Around) (outer : List Env) (s : Shared) (H : Hp) (E : XK) (hr : Room 3 (A.deeper (envOfC "_law_power" (defScope s__law_power) s.heap.objs.size f cdv))) :
  PMSs (fun cls d _ H => E cls d H) (cxOf (L2.CX P wd) P wd K mg base N__law_power "_law_power" (defScope s__law_power) f cdv A outer s H E) (defBody s__law_power) (m__law_power C_Disk F_Disk_power F__law_next) :=
    have S := S__law_power
    have tk : Takes (cxOf (L2.CX P wd) P wd K mg base N__law_power "_law_power" (defScope s__law_power) f cdv A outer s H E) (fun cls d _ H => E cls d H) := takes_of rfl rfl rfl rfl
    (pms_cons (px_lcD (x := "k") (i := 3) (j := 5) S.nd rfl (blkOk_by (N := N__law_power) (sc := defScope s__law_power) (by decide +kernel)) (mi_range (W := fun _ _ _ _ => False) B.range (pm_f (fnm_s q__law_next) takes0 hr (ma_cons (pm_n 0) (ma_cons (pm_op (fun _ => od_add) (pm_cbK (fun _ => cd_len) B.len bt_len (ma_cons (pm_get (hu1u hr.units) (pm_n 1) (pm_pd fun _ => pd_str) (fun _ _ => rfl)) ma_nil)) (pm_pd fun _ => pd_int)) ma_nil)))) (fun _ _ _ _ _ => pg_name (i := 5) S.nd rfl (Or.inl rfl)) (fun _ _ _ _ _ => mts_nil) (W2 := fun _ _ _ _ => False) (fun _ _ _ _ _ => (pm_ps fun μ a l ns H' => (pd_cmp (od_eq hr) (pd_sM q__law_next hr (pv 0) (da_cons pd_int da_nil)) pd_int))) (sw_true rfl rfl rfl (by decide +kernel)))
    (pms_cons (px_set (j := 4) S.nd (pm_copy B.list bt_list (ma_cons (pm_pd fun _ => (pd_n 3)) ma_nil)))
    (pms_cons (px_if (pmw_t (pmw_o (pmt_cmK (fun _ => od_notN) (pm_m h_Disk_power k_Disk tk hr (pm_n 2) (ma_cons (pm_n 4) ma_nil)) (pm_pd fun _ => pd_non)) (pmw_o1 (pmt_cmK (fun _ => (od_ne hr)) (pm_n 4) (pm_pd fun _ => (pd_n 3)))))) (pms_one (px_ret (pm_pd fun _ => pd_bl))) pms_nil)
    (pms_cons (px_augD (hu1u hr.units) in_addM (pm_n 1) (pm_pd fun _ => pd_str) (pm_ctK (fun _ => cd_int) B.int bt_int (ma_cons (pm_get (hu1u hr.units) (pm_n 1) (pm_pd fun _ => pd_str) (fun _ _ => rfl)) ma_nil)))
    (pms_cons (px_forI (mi_range (W := fun _ _ _ _ => False) B.range (pm_cbK (fun _ => cd_min2 hr) B.min bt_min (ma_cons (pm_pd fun _ => (pd_cb cd_len B.len bt_len (da_cons (pd_n 3) da_nil))) (ma_cons (pm_cbK (fun _ => cd_len) B.len bt_len (ma_cons (pm_get (hu1u hr.units) (pm_n 1) (pm_pd fun _ => pd_str) (fun _ _ => rfl)) ma_nil)) ma_nil)))) (mg_n (j := 5) S.nd) (pms_one (px_if (pm_pt fun _ => (pt_v (pd_ix (pd_n 3) (pd_n 5)))) (pms_one (px_putD (hu1u hr.units) (pm_get (hu1u hr.units) (pm_n 1) (pm_pd fun _ => pd_str) (fun _ _ => rfl)) (pm_ixD (pm_ix (pm_get (hu1u hr.units) (pm_n 1) (pm_pd fun _ => pd_str) (fun _ _ => rfl)) (pm_pd fun _ => (pd_n 5))) (pm_pd fun _ => pd_int)) (pm_ixD (pm_ix (pm_get (hu1u hr.units) (pm_n 1) (pm_pd fun _ => pd_str) (fun _ _ => rfl)) (pm_pd fun _ => (pd_n 5))) (pm_pd fun _ => pd_int)))) pms_nil)) (hp := passes_of rfl))
    (pms_cons (px_do (pm_upd (pm_n 1) (pm_disp (mp_cons (pm_lst ma_nil) (mp_cons (pm_pd fun _ => pd_bl) (mp_cons (pm_pd fun _ => pd_non) mp_nil))))))
    (pms_one (px_ret (pm_pd fun _ => pd_bl)))))))))
abbrev s__law_deed : Stmt := topS 18
abbrev N__law_deed : List Str := ["state", "world", "disk", "pick"]
theorem S__law_deed : FnScope N__law_deed ["state", "world", "disk"] (defScope s__law_deed) := ⟨rfl, rfl, rfl, by decide +kernel, rfl, by decide +kernel, by decide +kernel⟩
def m__law_deed (F__law_power : F1) (F__law_fail : F1) (F__law_sync : F1) (F__law_write : F1) (F__law_next : D1) : MS :=
    (xSeq (xSet 3 (mPS fun a => (dSt a 0 F__law_next (dCons (dC (.int 11)) dNil))))
    (xSeq (xIf (mPT (dT (dOp (gB ltD) (dN 3) (dC (.int 6))))) (xRet (mCall F__law_write (mCons (mN 0) (mCons (mN 1) (mCons (mN 2) mNil))))) xNx)
    (xSeq (xIf (mPT (dT (dOp (gB ltD) (dN 3) (dC (.int 8))))) (xRet (mCall F__law_sync (mCons (mN 1) (mCons (mN 2) mNil)))) xNx)
    (xSeq (xIf (mPT (dT (dOp (gB ltD) (dN 3) (dC (.int 10))))) (xRet (mCall F__law_fail (mCons (mN 0) (mCons (mN 1) (mCons (mN 2) mNil))))) xNx)
    (xRet (mCall F__law_power (mCons (mN 0) (mCons (mN 1) (mCons (mN 2) mNil)))))))))
theorem b__law_deed {f : Addr} (B : Blt mg) {F__law_power : F1} (q__law_power : FnM P wd K mg base 4 "_law_power" F__law_power) {F__law_fail : F1} (q__law_fail : FnM P wd K mg base 4 "_law_fail" F__law_fail) {F__law_sync : F1} (q__law_sync : FnM P wd K mg base 4 "_law_sync" F__law_sync) {F__law_write : F1} (q__law_write : FnM P wd K mg base 4 "_law_write" F__law_write) {F__law_next : D1} (q__law_next : Sfn P wd K mg base 1 "_law_next" F__law_next) (cdv : Value) (A : Around) (outer : List Env) (s : Shared) (H : Hp) (E : XK) (hr : Room 4 (A.deeper (envOfC "_law_deed" (defScope s__law_deed) s.heap.objs.size f cdv))) :
  PMSs (fun cls d _ H => E cls d H) (cxOf (L2.CX P wd) P wd K mg base N__law_deed "_law_deed" (defScope s__law_deed) f cdv A outer s H E) (defBody s__law_deed) (m__law_deed F__law_power F__law_fail F__law_sync F__law_write F__law_next) :=
    have S := S__law_deed
    have tk : Takes (cxOf (L2.CX P wd) P wd K mg base N__law_deed "_law_deed" (defScope s__law_deed) f cdv A outer s H E) (fun cls d _ H => E cls d H) := takes_of rfl rfl rfl rfl
    (pms_cons (px_set (j := 3) S.nd (pm_ps fun μ a l ns H' => (pd_sM q__law_next hr (pv 0) (da_cons pd_int da_nil))))
    (pms_cons (px_if (pm_pt fun _ => (pt_cm (od_lt hr) (pd_n 3) pd_int)) (pms_one (px_ret (pm_f q__law_write tk hr (ma_cons (pm_n 0) (ma_cons (pm_n 1) (ma_cons (pm_n 2) ma_nil)))))) pms_nil)
    (pms_cons (px_if (pm_pt fun _ => (pt_cm (od_lt hr) (pd_n 3) pd_int)) (pms_one (px_ret (pm_f q__law_sync tk hr (ma_cons (pm_n 1) (ma_cons (pm_n 2) ma_nil))))) pms_nil)
    (pms_cons (px_if (pm_pt fun _ => (pt_cm (od_lt hr) (pd_n 3) pd_int)) (pms_one (px_ret (pm_f q__law_fail tk hr (ma_cons (pm_n 0) (ma_cons (pm_n 1) (ma_cons (pm_n 2) ma_nil)))))) pms_nil)
    (pms_one (px_ret (pm_f q__law_power tk hr (ma_cons (pm_n 0) (ma_cons (pm_n 1) (ma_cons (pm_n 2) ma_nil))))))))))
abbrev s__law_sector : Stmt := topS 19
abbrev N__law_sector : List Str := ["world", "index", "data", "other", "written"]
theorem S__law_sector : FnScope N__law_sector ["world", "index"] (defScope s__law_sector) := ⟨rfl, rfl, rfl, by decide +kernel, rfl, by decide +kernel, by decide +kernel⟩
def m__law_sector : MS :=
    (xSeq (xSet 2 (mGet2 (mGet (mN 0) (mP (dC (.str (Str.ofString "lasting"))))) (mP (dN 1)) (mP (dOp gRep (dLst (dCons (dC (.int 0)) dNil)) (dC (.int 256))))))
    (xSeq (xForC (mGet (mN 0) (mP (dC (.str (Str.ofString "waiting"))))) (gmT [3, 4]) (xIf (mPT (dT (dOp (gB eqD) (dN 3) (dN 1)))) (xSet 2 (mP (dN 4))) xNx))
    (xRet (mP (dN 2)))))
theorem b__law_sector {f : Addr} (B : Blt mg) (cdv : Value) (A : Around) (outer : List Env) (s : Shared) (H : Hp) (E : XK) (hr : Room 0 (A.deeper (envOfC "_law_sector" (defScope s__law_sector) s.heap.objs.size f cdv))) :
  PMSs (fun cls d _ H => E cls d H) (cxOf (L2.CX P wd) P wd K mg base N__law_sector "_law_sector" (defScope s__law_sector) f cdv A outer s H E) (defBody s__law_sector) (m__law_sector) :=
    have S := S__law_sector
    have tk : Takes (cxOf (L2.CX P wd) P wd K mg base N__law_sector "_law_sector" (defScope s__law_sector) f cdv A outer s H E) (fun cls d _ H => E cls d H) := takes_of rfl rfl rfl rfl
    (pms_cons (px_set (j := 2) S.nd (pm_get2 (hu1u hr.units) (pm_get (hu1u hr.units) (pm_n 0) (pm_pd fun _ => pd_str) (fun _ _ => rfl)) (pm_pd fun _ => (pd_n 1)) (pm_pd fun _ => (pd_op od_rep (pd_lst (da_cons pd_int da_nil)) pd_int)) ⟨rfl, rfl, rfl, rfl⟩))
    (pms_cons (px_forC (pm_get (hu1u hr.units) (pm_n 0) (pm_pd fun _ => pd_str) (fun _ _ => rfl)) (mg_t (js := [3, 4]) (mgs_cons (j := 3) S.nd (mgs_cons (j := 4) S.nd mgs_nil))) (pms_one (px_if (pm_pt fun _ => (pt_cm (od_eq hr) (pd_n 3) (pd_n 1))) (pms_one (px_set (j := 2) S.nd (pm_pd fun _ => (pd_n 4)))) pms_nil)) (hp := passes_of rfl))
    (pms_one (px_ret (pm_pd fun _ => (pd_n 2))))))
abbrev s__law_is_right : Stmt := topS 20
abbrev N__law_is_right : List Str := ["state", "world", "disk", "told", "due", "index", "sector", "place", "data"]
theorem S__law_is_right : FnScope N__law_is_right ["state", "world", "disk"] (defScope s__law_is_right) := ⟨rfl, rfl, rfl, by decide +kernel, rfl, by decide +kernel, by decide +kernel⟩
def m__law_is_right (C_Disk : Addr) (F__law_same : D1) (F__law_sector : F1) (F_Disk_read : F1) (F__law_next : D1) (F_Disk_losses : F1) (F_Disk_is_on : F1) (F_Disk_counts : F1) (F_Disk_pending : F1) (F_Disk_size : F1) : MS :=
    (xSeq (xSet 3 (mLstD (mCons (mMth0 C_Disk "size" F_Disk_size (mN 2)) (mCons (mMth0 C_Disk "pending" F_Disk_pending (mN 2)) (mCons (mMth0 C_Disk "counts" F_Disk_counts (mN 2)) (mCons (mMth0 C_Disk "is_on" F_Disk_is_on (mN 2)) (mCons (mMth0 C_Disk "losses" F_Disk_losses (mN 2)) mNil)))))))
    (xSeq (xSet 4 (mLstD (mCons (mGet (mN 1) (mP (dC (.str (Str.ofString "size"))))) (mCons (mCallK (g1 gLen) (mCons (mGet (mN 1) (mP (dC (.str (Str.ofString "waiting"))))) mNil)) (mCons (mTupC (mCons (mGet (mN 1) (mP (dC (.str (Str.ofString "counts"))))) mNil)) (mCons (mGet (mN 1) (mP (dC (.str (Str.ofString "on"))))) (mCons (mGet (mN 1) (mP (dC (.str (Str.ofString "losses"))))) mNil)))))))
    (xSeq (xIf (mOr (mPT (dNot (dT (dCall F__law_same (dCons (dN 3) (dCons (dN 4) dNil)))))) (mAnd (mNot (mT (mGet (mN 1) (mP (dC (.str (Str.ofString "on"))))))) (mT (mOpK gNotB (mFld C_Disk "in_use" (mN 2)) (mP (dC (.bool false))))))) (xRet (mP (dC (.bool false)))) xNx)
    (xSeq (xForI (iM (mOp gAdd (mFz (mLcC (mGet (mN 1) (mP (dC (.str (Str.ofString "waiting"))))) 7 8 (mP (dN 7)))) (mLstD (mCons (mCall (fS F__law_next) (mCons (mN 0) (mCons (mGet (mN 1) (mP (dC (.str (Str.ofString "size"))))) mNil))) (mCons (mP (dC (.int 0))) (mCons (mP (dC (.int 1))) mNil)))))) (gmN 5) (xSeq (xSet 6 (mMth C_Disk "read" F_Disk_read (mN 2) (mCons (mP (dN 5)) mNil)))
    (xSeq (xIf (mNot (mT (mCall (fK F__law_same) (mCons (mN 6) (mCons (mCall F__law_sector (mCons (mN 1) (mCons (mP (dN 5)) mNil))) mNil))))) (xRet (mP (dC (.bool false)))) xNx)
    (xPutL (mN 6) (mP (dC (.int 5))) (mP (dC (.int 400)))))))
    (xRet (mP (dC (.bool true))))))))
theorem b__law_is_right {f : Addr} (B : Blt mg) {C_Disk : Addr} (k_Disk : Cls K C_Disk) {F__law_same : D1} (q__law_same : Fnc P wd K mg base 3 "_law_same" F__law_same) {F__law_sector : F1} (q__law_sector : FnM P wd K mg base 1 "_law_sector" F__law_sector) {F_Disk_read : F1} (h_Disk_read : MtM P wd K mg base 1 C_Disk "read" F_Disk_read) {F__law_next : D1} (q__law_next : Sfn P wd K mg base 1 "_law_next" F__law_next) (na_Disk_in_use : NoAttr K C_Disk "in_use") {F_Disk_losses : F1} (h_Disk_losses : MtM P wd K mg base 1 C_Disk "losses" F_Disk_losses) {F_Disk_is_on : F1} (h_Disk_is_on : MtM P wd K mg base 1 C_Disk "is_on" F_Disk_is_on) {F_Disk_counts : F1} (h_Disk_counts : MtM P wd K mg base 1 C_Disk "counts" F_Disk_counts) {F_Disk_pending : F1} (h_Disk_pending : MtM P wd K mg base 1 C_Disk "pending" F_Disk_pending) {F_Disk_size : F1} (h_Disk_size : MtM P wd K mg base 1 C_Disk "size" F_Disk_size) (cdv : Value) (A : Around) (outer : List Env) (s : Shared) (H : Hp) (E : XK) (hr : Room 3 (A.deeper (envOfC "_law_is_right" (defScope s__law_is_right) s.heap.objs.size f cdv))) :
  PMSs (fun cls d _ H => E cls d H) (cxOf (L2.CX P wd) P wd K mg base N__law_is_right "_law_is_right" (defScope s__law_is_right) f cdv A outer s H E) (defBody s__law_is_right) (m__law_is_right C_Disk F__law_same F__law_sector F_Disk_read F__law_next F_Disk_losses F_Disk_is_on F_Disk_counts F_Disk_pending F_Disk_size) :=
    have S := S__law_is_right
    have tk : Takes (cxOf (L2.CX P wd) P wd K mg base N__law_is_right "_law_is_right" (defScope s__law_is_right) f cdv A outer s H E) (fun cls d _ H => E cls d H) := takes_of rfl rfl rfl rfl
    (pms_cons (px_set (j := 3) S.nd (pm_lstD (ma_cons (pm_m0 h_Disk_size k_Disk tk hr (pm_n 2)) (ma_cons (pm_m0 h_Disk_pending k_Disk tk hr (pm_n 2)) (ma_cons (pm_m0 h_Disk_counts k_Disk tk hr (pm_n 2)) (ma_cons (pm_m0 h_Disk_is_on k_Disk tk hr (pm_n 2)) (ma_cons (pm_m0 h_Disk_losses k_Disk tk hr (pm_n 2)) ma_nil)))))))
    (pms_cons (px_set (j := 4) S.nd (pm_lstD (ma_cons (pm_get (hu1u hr.units) (pm_n 1) (pm_pd fun _ => pd_str) (fun _ _ => rfl)) (ma_cons (pm_cbK (fun _ => cd_len) B.len bt_len (ma_cons (pm_get (hu1u hr.units) (pm_n 1) (pm_pd fun _ => pd_str) (fun _ _ => rfl)) ma_nil)) (ma_cons (pm_tupC B.tuple bt_tuple (ma_cons (pm_get (hu1u hr.units) (pm_n 1) (pm_pd fun _ => pd_str) (fun _ _ => rfl)) ma_nil)) (ma_cons (pm_get (hu1u hr.units) (pm_n 1) (pm_pd fun _ => pd_str) (fun _ _ => rfl)) (ma_cons (pm_get (hu1u hr.units) (pm_n 1) (pm_pd fun _ => pd_str) (fun _ _ => rfl)) ma_nil)))))))
    (pms_cons (px_if (pmw_t (pmw_o (pm_pt fun _ => (pt_no (pt_v (pd_f q__law_same hr (da_cons (pd_n 3) (da_cons (pd_n 4) da_nil)))))) (pmw_o1 (pmw_t (pmw_a (pmt_no (pmt_v (pm_get (hu1u hr.units) (pm_n 1) (pm_pd fun _ => pd_str) (fun _ _ => rfl)))) (pmw_a1 (pmt_cmK (fun _ => od_notB) (pm_fld k_Disk na_Disk_in_use (pm_n 2)) (pm_pd fun _ => pd_bl)))))))) (pms_one (px_ret (pm_pd fun _ => pd_bl))) pms_nil)
    (pms_cons (px_forI (mi_m (W := fun _ _ _ _ => False) (pm_op (fun _ => od_add) (pm_fz (pm_lcC (x := "place") (y := "data") (i := 7) (j := 8) S.nd (blkOk_by (N := N__law_is_right) (sc := defScope s__law_is_right) (by decide +kernel)) (by decide) (pm_get (hu1u hr.units) (pm_n 1) (pm_pd fun _ => pd_str) (fun _ _ => rfl)) (fun _ _ _ _ _ => pg_tup rfl (pgs_cons (pg_name (i := 7) S.nd rfl (Or.inl rfl)) (pgs_cons (pg_name (i := 8) S.nd rfl (Or.inl rfl)) pgs_nil))) (W2 := fun _ _ _ _ => False) (fun _ _ _ _ _ => (pm_pd fun _ => (pd_n 7))))) (pm_lstD (ma_cons (pm_f (fnm_s q__law_next) takes0 hr (ma_cons (pm_n 0) (ma_cons (pm_get (hu1u hr.units) (pm_n 1) (pm_pd fun _ => pd_str) (fun _ _ => rfl)) ma_nil))) (ma_cons (pm_pd fun _ => pd_int) (ma_cons (pm_pd fun _ => pd_int) ma_nil)))))) (mg_n (j := 5) S.nd) (pms_cons (px_set (j := 6) S.nd (pm_m h_Disk_read k_Disk tk hr (pm_n 2) (ma_cons (pm_pd fun _ => (pd_n 5)) ma_nil)))
    (pms_cons (px_if (pmt_no (pmt_v (pm_f (fnm_k q__law_same) tk hr (ma_cons (pm_n 6) (ma_cons (pm_f q__law_sector tk hr (ma_cons (pm_n 1) (ma_cons (pm_pd fun _ => (pd_n 5)) ma_nil))) ma_nil))))) (pms_one (px_ret (pm_pd fun _ => pd_bl))) pms_nil)
    (pms_one (px_putL (pm_n 6) (pm_pd fun _ => pd_int) (pm_pd fun _ => pd_int))))) (hp := passes_of rfl))
    (pms_one (px_ret (pm_pd fun _ => pd_bl)))))))
abbrev s_law : Stmt := topS 21
abbrev N_law : List Str := ["script", "state", "size", "disk", "world", "k", "index"]
theorem S_law : FnScope N_law ["script"] (defScope s_law) := ⟨rfl, rfl, rfl, by decide +kernel, rfl, by decide +kernel, by decide +kernel⟩
def m_law (C_Disk : Addr) (F__law_is_right : F1) (F_Disk_read : F1) (F__law_sector : F1) (F__law_deed : F1) (F__law_next : D1) (F_Disk : F1) (F__law_refused : F1) : MS :=
    (xSeq (xForI (iPS fun a => (dIl (dLst (dCons (dOp (gI0 (· - ·)) (dC (.int 99)) (dSt a 1 F__law_next (dCons (dC (.int 120)) dNil))) (dCons (dOp gAdd (dC (.int 601)) (dSt a 1 F__law_next (dCons (dC (.int 70)) dNil))) (dCons (dC (.bool true)) (dCons (dC (.str (Str.ofString "100"))) (dCons (dC .none) (dCons (dLst (dCons (dC (.int 100)) dNil)) dNil))))))))) (gmN 2) (xIf (mNot (mT (mCall F__law_refused (mCons (mP (dN 2)) mNil)))) (xRet (mP (dC (.bool false)))) xNx))
    (xSeq (xSet 2 (mPS fun a => (dOp gIx (dLst (dCons (dC (.int 100)) (dCons (dC (.int 101)) (dCons (dC (.int 600)) (dCons (dOp gAdd (dC (.int 100)) (dSt a 1 F__law_next (dCons (dC (.int 501)) dNil))) dNil))))) (dSt a 1 F__law_next (dCons (dC (.int 4)) dNil)))))
    (xSeq (xSet 3 (mMk C_Disk F_Disk (mCons (mP (dN 2)) mNil)))
    (xSeq (xSet 4 (mDisp ["size", "lasting", "waiting", "on", "left", "losses", "counts"] (mCons (mP (dN 2)) (mCons mNewD (mCons (mLst mNil) (mCons (mP (dC (.bool true))) (mCons (mP (dC .none)) (mCons (mP (dC (.int 0))) (mCons (mLst (mCons (mP (dC (.int 0))) (mCons (mP (dC (.int 0))) mNil))) mNil)))))))))
    (xSeq (xIf (mT (mOpK gNotB (mFld C_Disk "in_use" (mN 3)) (mP (dC (.bool false))))) (xRet (mP (dC (.bool false)))) xNx)
    (xSeq (xForI (iPS fun a => (dIr (dSt a 1 F__law_next (dCons (dC (.int 41)) dNil)))) (gmN 5) (xIf (mOr (mNot (mT (mCall F__law_is_right (mCons (mN 1) (mCons (mN 4) (mCons (mN 3) mNil)))))) (mNot (mT (mCall F__law_deed (mCons (mN 1) (mCons (mN 4) (mCons (mN 3) mNil))))))) (xRet (mP (dC (.bool false)))) xNx))
    (xSeq (xForI (iP (dIr (dN 2))) (gmN 6) (xIf (mT (mOpK (gB neD) (mMth C_Disk "read" F_Disk_read (mN 3) (mCons (mP (dN 6)) mNil)) (mCall F__law_sector (mCons (mN 4) (mCons (mP (dN 6)) mNil))))) (xRet (mP (dC (.bool false)))) xNx))
    (xRet (mCall F__law_is_right (mCons (mN 1) (mCons (mN 4) (mCons (mN 3) mNil))))))))))))
theorem b_law {f : Addr} (B : Blt mg) {C_Disk : Addr} (k_Disk : Cls K C_Disk) {F__law_is_right : F1} (q__law_is_right : FnM P wd K mg base 4 "_law_is_right" F__law_is_right) {F_Disk_read : F1} (h_Disk_read : MtM P wd K mg base 1 C_Disk "read" F_Disk_read) {F__law_sector : F1} (q__law_sector : FnM P wd K mg base 1 "_law_sector" F__law_sector) {F__law_deed : F1} (q__law_deed : FnM P wd K mg base 5 "_law_deed" F__law_deed) {F__law_next : D1} (q__law_next : Sfn P wd K mg base 1 "_law_next" F__law_next) (na_Disk_in_use : NoAttr K C_Disk "in_use") {F_Disk : F1} (i_Disk : InM P wd K mg base 1 C_Disk F_Disk) (g_Disk : mg "Disk" = some (.ref C_Disk)) {F__law_refused : F1} (q__law_refused : FnM P wd K mg base 3 "_law_refused" F__law_refused) (cdv : Value) (A : Around) (outer : List Env) (s : Shared) (H : Hp) (E : XK) (hr : Room 6 (A.deeper (envOfC "law" (defScope s_law) s.heap.objs.size f cdv))) :
  PMSs (fun cls d _ H => E cls d H) (cxOf (L2.CX P wd) P wd K mg base N_law "law" (defScope s_law) f cdv A outer s H E) ((defBody s_law).tail) (m_law C_Disk F__law_is_right F_Disk_read F__law_sector F__law_deed F__law_next F_Disk F__law_refused) :=
    have S := S_law
    have tk : Takes (cxOf (L2.CX P wd) P wd K mg base N_law "law" (defScope s_law) f cdv A outer s H E) (fun cls d _ H => E cls d H) := takes_of rfl rfl rfl rfl
    (pms_cons (px_forI (mi_ps fun μ a l ns H' => (di_list (pd_lst (da_cons (pd_op od_sub pd_int (pd_sM q__law_next hr (pv 1) (da_cons pd_int da_nil))) (da_cons (pd_op od_add pd_int (pd_sM q__law_next hr (pv 1) (da_cons pd_int da_nil))) (da_cons pd_bl (da_cons pd_str (da_cons pd_non (da_cons (pd_lst (da_cons pd_int da_nil)) da_nil))))))))) (mg_n (j := 2) S.nd) (pms_one (px_if (pmt_no (pmt_v (pm_f q__law_refused tk hr (ma_cons (pm_pd fun _ => (pd_n 2)) ma_nil)))) (pms_one (px_ret (pm_pd fun _ => pd_bl))) pms_nil)) (hp := passes_of rfl))
    (pms_cons (px_set (j := 2) S.nd (pm_ps fun μ a l ns H' => (pd_ix (pd_lst (da_cons pd_int (da_cons pd_int (da_cons pd_int (da_cons (pd_op od_add pd_int (pd_sM q__law_next hr (pv 1) (da_cons pd_int da_nil))) da_nil))))) (pd_sM q__law_next hr (pv 1) (da_cons pd_int da_nil)))))
    (pms_cons (px_set (j := 3) S.nd (pm_mk i_Disk g_Disk tk hr (ma_cons (pm_pd fun _ => (pd_n 2)) ma_nil)))
    (pms_cons (px_set (j := 4) S.nd (pm_disp (mp_cons (pm_pd fun _ => (pd_n 2)) (mp_cons pm_newD (mp_cons (pm_lst ma_nil) (mp_cons (pm_pd fun _ => pd_bl) (mp_cons (pm_pd fun _ => pd_non) (mp_cons (pm_pd fun _ => pd_int) (mp_cons (pm_lst (ma_cons (pm_pd fun _ => pd_int) (ma_cons (pm_pd fun _ => pd_int) ma_nil))) mp_nil)))))))))
    (pms_cons (px_if (pmt_cmK (fun _ => od_notB) (pm_fld k_Disk na_Disk_in_use (pm_n 3)) (pm_pd fun _ => pd_bl)) (pms_one (px_ret (pm_pd fun _ => pd_bl))) pms_nil)
    (pms_cons (px_forI (mi_ps fun μ a l ns H' => (di_range B.range (pd_sM q__law_next hr (pv 1) (da_cons pd_int da_nil)))) (mg_n (j := 5) S.nd) (pms_one (px_if (pmw_t (pmw_o (pmt_no (pmt_v (pm_f q__law_is_right tk hr (ma_cons (pm_n 1) (ma_cons (pm_n 4) (ma_cons (pm_n 3) ma_nil)))))) (pmw_o1 (pmt_no (pmt_v (pm_f q__law_deed tk hr (ma_cons (pm_n 1) (ma_cons (pm_n 4) (ma_cons (pm_n 3) ma_nil))))))))) (pms_one (px_ret (pm_pd fun _ => pd_bl))) pms_nil)) (hp := passes_of rfl))
    (pms_cons (px_forI (mi_p fun _ => (di_range B.range (pd_n 2))) (mg_n (j := 6) S.nd) (pms_one (px_if (pmt_cmK (fun _ => (od_ne hr)) (pm_m h_Disk_read k_Disk tk hr (pm_n 3) (ma_cons (pm_pd fun _ => (pd_n 6)) ma_nil)) (pm_f q__law_sector tk hr (ma_cons (pm_n 4) (ma_cons (pm_pd fun _ => (pd_n 6)) ma_nil)))) (pms_one (px_ret (pm_pd fun _ => pd_bl))) pms_nil)) (hp := passes_of rfl))
    (pms_one (px_ret (pm_f q__law_is_right tk hr (ma_cons (pm_n 1) (ma_cons (pm_n 4) (ma_cons (pm_n 3) ma_nil)))))))))))))
end
end Z1

set_option Elab.async false
set_option linter.all false
set_option maxRecDepth 100000
set_option maxHeartbeats 4000000
namespace Z1
open PySem PySem.Spec PyProof.Rows L2 Z
local macro_rules | `(tactic| walk_at "zs") => `(tactic| simp only [sSeq, sIf, sSet, sRet, sNx, sAsg, tN, dOr, dAnd, dNot, dT, dOp, dC, asB, dIf, dCall, dCons, dNil, dTup, dLst, dLc, dIt, dIl, dIs, g1, e_lt, e_gt, e_eq, e_ne, e_le, e_ge, e_add, e_addL, e_addT, e_I0, e_I, e_isN, e_isI, e_isS, e_isB, e_isT, e_isL, e_ixL, e_ixT, e_ixS, e_n0, e_n1, e_n2, e_n3, e_n4, e_n5, e_n6, e_n7, f_nil, f_dat, f_un, f_own, f_adr, rt_ends, nx_ends, List.set_cons_zero, List.set_cons_succ, gLen, gOrd, gTuple, gList, gInt, gNeg, dUn])
local macro_rules | `(tactic| walk_at "zk") => `(tactic| (show _ ∧ _; refine ⟨by first | decide | (simp; done) | omega, ?_⟩))
theorem at_L {ds : List DD} {j : Nat} (h : j < ds.length) : atI ds ((j : Nat) : Int) = some ds[j] := atI_nat (by simp [h])
theorem cm2 (x : Int) (h : 0 ≤ x ∧ x ≤ 2 ^ 40) : CMul 2 x := .inl ⟨by decide, by decide⟩
end Z1
namespace Z
open PySem PySem.Spec PyProof.Rows L2
/-! ### the law's comparison, place by place -/
def FS (n : Nat) : D1 := fun ds P => match ds with
  | [d, e] => d = e ∧ okS n e = true ∧ P (.bool true)
  | _ => False
def FSm : Nat → D1
  | 0 => fun _ _ => False
  | n + 1 => FS n
end Z
namespace Z1
open PySem PySem.Spec PyProof.Rows L2 Z
theorem eqD_self (d : DD) (h : d.depth ≤ 60) (hp : d.plain = true) (P : DD → Prop) : gB eqD d d P = P (.bool true) := by
  have e : eqD d d = some true := by
    unfold eqD
    rw [if_pos (by rw [Nat.min_self]; exact h), SeqAt.eqv_refl_plain d hp]
  simp only [gB, e]
theorem same_loop (n : Nat) (ds : List DD) (dd ee : DD) (hd : ∀ (i : Nat) (h : i < ds.length) P, gIx dd (.int (i : Nat)) P = P ds[i]) (he : ∀ (i : Nat) (h : i < ds.length) P, gIx ee (.int (i : Nat)) P = P ds[i]) (hk : ds.all (okS n) = true) (E : DEn) (hE : ∀ e2, E.nx [.dat dd, .dat ee, e2]) : ∀ (r i : Nat) (e2 : Ent), ds.length - i = r → i ≤ ds.length →
    loop (tN 2) (sIf (dNot (dT (dCall (FS n) (dCons (dOp gIx (dN 0) (dN 2)) (dCons (dOp gIx (dN 1) (dN 2)) dNil))))) (sRet (dC (.bool false))) sNx) E ((upto ((ds.length : Nat) : Int)).drop i) [.dat dd, .dat ee, e2] := by
  intro r
  induction r with
  | zero =>
    intro i e2 hr hi
    rw [upto_end _ _ (by omega)]
    exact hE _
  | succ r ih =>
    intro i e2 hr hi
    rw [upto_drop _ _ (by omega)]
    have hlt : i < ds.length := by omega
    show gIx dd (.int (i : Nat)) fun x => gIx ee (.int (i : Nat)) fun y => _
    rw [hd i hlt]
    show gIx ee (.int (i : Nat)) fun y => _
    rw [he i hlt]
    exact ⟨rfl, List.all_eq_true.mp hk _ (List.getElem_mem hlt), ih (i + 1) _ (by omega) (by omega)⟩
theorem h__law_same (n : Nat) : ∀ ds Q, FS n ds Q → ds.length = 2 ∧ m__law_same (FSm n) (endsD Q) (startD N__law_same ds) := by
  intro ds Q h
  match ds, h with
  | [d, e], ⟨he, hk, hq⟩ =>
    subst he
    refine ⟨rfl, ?_⟩
    show m__law_same (FSm n) (endsD Q) [.dat d, .dat d, .un]
    cases d with
    | none => exact hq
    | bool b =>
      show gB eqD (.bool b) (.bool b) Q
      rw [eqD_self _ (Nat.zero_le _) rfl]; exact hq
    | int b =>
      show gB eqD (.int b) (.int b) Q
      rw [eqD_self _ (Nat.zero_le _) rfl]; exact hq
    | str b =>
      show gB eqD (.str b) (.str b) Q
      rw [eqD_self _ (Nat.zero_le _) rfl]; exact hq
    | tuple es =>
      cases n with
      | zero => simp [okS] at hk
      | succ n =>
        rw [okS, Bool.and_eq_true, decide_eq_true_eq] at hk
        show if (!(((es.length : Nat) : Int) == ((es.length : Nat) : Int))) = true then _ else _
        rw [show (!(((es.length : Nat) : Int) == ((es.length : Nat) : Int))) = false by simp]
        show (-1000000 ≤ ((es.length : Nat) : Int) ∧ ((es.length : Nat) : Int) ≤ 1000000) ∧ loop _ _ _ (upto ((es.length : Nat) : Int)) [.dat (.tuple es), .dat (.tuple es), .un]
        refine ⟨by omega, ?_⟩
        exact same_loop n es _ _ (fun i h P => by rw [e_ixT, at_L h]) (fun i h P => by rw [e_ixT, at_L h]) hk.2 _ (fun e2 => hq) es.length 0 .un (Nat.sub_zero _) (Nat.zero_le _)
    | list es =>
      cases n with
      | zero => simp [okS] at hk
      | succ n =>
        rw [okS, Bool.and_eq_true, decide_eq_true_eq] at hk
        show if (!(((es.length : Nat) : Int) == ((es.length : Nat) : Int))) = true then _ else _
        rw [show (!(((es.length : Nat) : Int) == ((es.length : Nat) : Int))) = false by simp]
        show (-1000000 ≤ ((es.length : Nat) : Int) ∧ ((es.length : Nat) : Int) ≤ 1000000) ∧ loop _ _ _ (upto ((es.length : Nat) : Int)) [.dat (.list es), .dat (.list es), .un]
        refine ⟨by omega, ?_⟩
        exact same_loop n es _ _ (fun i h P => by rw [e_ixL, at_L h]) (fun i h P => by rw [e_ixL, at_L h]) hk.2 _ (fun e2 => hq) es.length 0 .un (Nat.sub_zero _) (Nat.zero_le _)
    | dict x => cases n <;> simp [okS] at hk
section
variable {P : Program} {wd : World} {K : PySem.W.Frag} {mg : Str → Option Value} {base : Heap}
theorem same_rec (D : Dfn K mg "_law_same" s__law_same ["actual", "expected"]) (B : Blt mg) : ∀ n : Nat, Fnc P wd K mg base n "_law_same" (FSm n)
  | 0 => by
    obtain ⟨f, fd, Fn, h2, h3⟩ := D
    refine ⟨f, fd, _, ⟨fun vs H Q E h => ?_, fun A outer s H args us vs Q E _ _ _ _ h => ?_⟩, h2, Fn.kp, h3⟩
    · obtain ⟨_, _, _, _, _, h, _⟩ := h; exact h.elim
    · obtain ⟨_, _, _, _, _, h, _⟩ := h; exact h.elim
  | n + 1 => fnc_mk D S__law_same (fun f cdv A outer s H E hr => b__law_same B (Nat.le_refl n) (same_rec D B n) cdv A outer s H E hr) (h__law_same n)
end
end Z1

set_option Elab.async false
set_option linter.all false
set_option maxRecDepth 100000
set_option maxHeartbeats 4000000
namespace Z
open PySem PySem.Spec PyProof.Rows L2
/-! ### the draw -/
def tGetL (K : PySem.W.Frag) : V → V → Hp → VK → Prop := fun o i H Q => ∃ p xs k v, o = .ref p ∧ i = .int k ∧ SqL K H p xs ∧ 0 ≤ k ∧ k < 2 ^ 62 ∧ xs[k.toNat]? = some v ∧ Q v H
theorem get_listZ {X : Cx} : PGet X (tGetL X.K) := by
  intro pins s σ H o i ov iv Q I ro ri h
  obtain ⟨p, xs, k, v, rfl, rfl, hs, h0, h1, hv, q⟩ := h
  cases ro
  obtain ⟨t, rfl⟩ := ri
  obtain ⟨its, r, ⟨ob, n, e, c, _, d⟩, _⟩ := I.list hs
  obtain ⟨u, hu, ru⟩ := r.get hv
  exact wpAny_getItem_list ⟨ob, e, c, n, d⟩ h0 (by omega) (by simpa using hu) ⟨v, H, I, ru, q⟩
def cells (l : Addr) (i v s : Int) : List V := [.ref l, .int i, .int v, .int s]
theorem next_stp {a l : Addr} {ns : List Int} {G H : Hp} (k : Okw (wst a l ns) G H) {i : Nat} {v s : Int} (h1 : i ≤ ns.length) (h2 : 0 ≤ v) (h3 : 0 ≤ s) (h4 : s < 2147483647) : Stp (wst a l ns) G H G (upd H a (.lst (cells l i v s))) := by
  obtain ⟨w1, w2, _⟩ := k.wd
  have ga : G a = none := k.out a rfl
  refine ⟨fun b o e => ?_, Sub.rfl, fun b o n e => ?_, fun b e => ?_, fun _ _ e => e, ⟨?_, w2, i, v, s, upd_same, h1, h2, h3, h4⟩⟩
  · rw [upd_ne (ne_of_none e ga)]; exact k.sub b o e
  · rw [upd_ne (show b ≠ a from n)]; exact e
  · by_cases z : b = a
    · subst z; rw [upd_same]; exact fun z => nomatch z
    · rw [upd_ne z]; exact e
  · rw [upd_ne w2]; exact w1
end Z
namespace Z1
open PySem PySem.Spec PyProof.Rows L2 Z
abbrev s__law_next : Stmt := topS 10
abbrev N__law_next : List Str := ["state", "limit", "cell", "value"]
theorem S__law_next : FnScope N__law_next ["state", "limit"] (defScope s__law_next) := ⟨rfl, rfl, rfl, by decide +kernel, rfl, by decide +kernel, by decide +kernel⟩
theorem at0 {l : Addr} {i v s : Int} : atI (cells l i v s) 0 = some (.ref l) := rfl
theorem at1 {l : Addr} {i v s : Int} : atI (cells l i v s) 1 = some (.int i) := rfl
theorem at2 {l : Addr} {i v s : Int} : atI (cells l i v s) 2 = some (.int v) := rfl
theorem at3 {l : Addr} {i v s : Int} : atI (cells l i v s) 3 = some (.int s) := rfl
section
variable {P : Program} {wd : World} {K : PySem.W.Frag} {mg : Str → Option Value} {base : Heap}
theorem next_ok (D : Dfn K mg "_law_next" s__law_next ["state", "limit"]) (B : Blt mg) : Sfn P wd K mg base 1 "_law_next" F__law_next := by
  obtain ⟨f, fd, Fn, h2, h3⟩ := D
  refine ⟨f, fd, _, ?_, h2, Fn.kp, h3⟩
  refine Fn.ok S__law_next (fun vs H Q E h => ?_) (fun cdv A outer s H vs Q E hr h => ?_)
  · obtain ⟨a, l, ns, G, us, ds, P', rfl, hs, r, hf, _⟩ := h
    match ds, r, hf with
    | [.int n], .cons _ .nil, _ => rfl
  obtain ⟨a, l, ns, G, us, ds, P', rfl, k, r, hf, q⟩ := h
  have S := S__law_next
  obtain ⟨n, rfl, rfl⟩ : ∃ n : Int, us = [.int n] ∧ ds = [.int n] := by
    match ds, r, hf with
    | [.int n], .cons (.int _) .nil, _ => exact ⟨n, rfl, rfl⟩
  obtain ⟨⟨n0, n64⟩, hP⟩ := hf
  refine ⟨_, pss_cons (ps_if (PW.pt (pw_and (pt_cmpR op_eq (pe_ix ix_list (pv 0) pe_int (fun _ _ => rfl)) pe_int (nomark _))
        (pw_and1 (pt_cmpR op_lt (pe_ix ix_list (pv 0) pe_int (fun _ _ => rfl)) (pe_callB call_len_seq (by rfl) B.len bt_len (pa_cons (pe_ix ix_list (pv 0) pe_int (fun _ _ => rfl)) pa_nil)) (nomark _)))))
      (pss_cons (ps_set (i := 2) S.nd rfl (.inl rfl) (pe_ix ix_list (pe_ix ix_list (pv 0) pe_int (fun _ _ => rfl)) (pe_ix ix_list (pv 0) pe_int (fun _ _ => rfl)) (fun _ _ => rfl)))
      (pss_cons (ps_augS (pv 0) pe_int get_listZ pe_int ip_add set_list (by intros; rfl))
      (pss_one (ps_if (pt_cmpR op_ge (pv 2) (pe_op op_pow pe_int pe_int) (nomark _))
        (pss_one (ps_asg (pv 2) (pg_sub (pv 0) pe_int set_list)))
        (pss_one (ps_asg (pe_op op_mod (pe_callTy call_int1 (by rfl) B.int bt_int (pa_cons (pe_op op_add (pe_op op_add (pe_op op_mul (pe_ix ix_list (pv 0) pe_int (fun _ _ => rfl)) pe_int) (pe_op op_mod (pe_callTy call_int1 (by rfl) B.int bt_int (pa_cons (pv 2) pa_nil)) pe_int)) pe_int) pa_nil)) pe_int) (pg_sub (pv 0) pe_int set_list)))))))
      pss_nil)
    (pss_cons (ps_if (pt_cmpR op_gt (pe_ix ix_list (pv 0) pe_int (fun _ _ => rfl)) pe_int (nomark _))
      (pss_cons (ps_set (i := 3) S.nd rfl (.inl rfl) (pe_op op_mod (pe_callTy call_int1 (by rfl) B.int bt_int (pa_cons (pe_ix ix_list (pv 0) pe_int (fun _ _ => rfl)) pa_nil)) (pv 1)))
      (pss_cons (ps_asg (pe_op op_fdivW (pe_ix ix_list (pv 0) pe_int (fun _ _ => rfl)) (pv 1)) (pg_sub (pv 0) pe_int set_list))
      (pss_one (ps_ret (pv 3)))))
      pss_nil)
    (pss_cons (ps_asg (pe_op op_mod (pe_callTy call_int1 (by rfl) B.int bt_int (pa_cons (pe_op op_add (pe_op op_mul (pe_ix ix_list (pv 0) pe_int (fun _ _ => rfl)) pe_int) pe_int) pa_nil)) pe_int) (pg_sub (pv 0) pe_int set_list))
    (pss_one (ps_ret (pe_op op_mod (pe_callTy call_int1 (by rfl) B.int bt_int (pa_cons (pe_op op_fdivW (pe_ix ix_list (pv 0) pe_int (fun _ _ => rfl)) pe_int) pa_nil)) (pv 1)))))), ?_⟩
  -- what comes behind the first if
  have rest : ∀ (i : Nat) (v s : Int) (e2 e3 : Option V) (D : Ends), (∀ x H', D.rt x H' ↔ Q x H') → i ≤ ns.length → 0 ≤ v → 0 ≤ s → s < 2147483647 →
      (tSeq (tIfS (tTest (tOp (rI0 fun i j => .bl (decide (j < i))) (tOp (rIxL K) (tVar 0) (tC (.int 2))) (tC (.int 0))))
        (tSeq (tAsg (tOp (rI (fun _ j => 0 < j) fun i j => .int (i % j)) (tCB (fun xs H Q => (∃ i, xs = [.int i] ∧ Q (.int i) H) ∨ ∃ k, xs = [.bl k] ∧ Q (.int (if k then 1 else 0)) H) (tCons (tOp (rIxL K) (tVar 0) (tC (.int 2))) L2.tNil)) (tVar 1)) (gName 3))
        (tSeq (tAsg (tOp (rI CDivW fun i j => .int (i / j)) (tOp (rIxL K) (tVar 0) (tC (.int 2))) (tVar 1)) (gSub (tVar 0) (tC (.int 2)) rSetL)) (tRet (tVar 3)))) tNext)
      (tSeq (tAsg (tOp (rI (fun _ j => 0 < j) fun i j => .int (i % j)) (tCB (fun xs H Q => (∃ i, xs = [.int i] ∧ Q (.int i) H) ∨ ∃ k, xs = [.bl k] ∧ Q (.int (if k then 1 else 0)) H) (tCons (tOp (rI0 fun i j => .int (i + j)) (tOp (rI CMul fun i j => .int (i * j)) (tOp (rIxL K) (tVar 0) (tC (.int 3))) (tC (.int 69621))) (tC (.int 12345))) L2.tNil)) (tC (.int 2147483647))) (gSub (tVar 0) (tC (.int 3)) rSetL))
      (tRet (tOp (rI (fun _ j => 0 < j) fun i j => .int (i % j)) (tCB (fun xs H Q => (∃ i, xs = [.int i] ∧ Q (.int i) H) ∨ ∃ k, xs = [.bl k] ∧ Q (.int (if k then 1 else 0)) H) (tCons (tOp (rI CDivW fun i j => .int (i / j)) (tOp (rIxL K) (tVar 0) (tC (.int 3))) (tC (.int 7))) L2.tNil)) (tVar 1))))) D [some (.ref a), some (.int n), e2, e3] (upd H a (.lst (cells l i v s))) := by
    intro i v s e2 e3 D hD hi hv hs0 hs1
    have hst : ∀ {i v s : Int}, SqL K (upd H a (.lst (cells l i v s))) a (cells l i v s) := .inl (.inl upd_same)
    have up : ∀ {i v s i' v' s' : Int}, upd (upd H a (.lst (cells l i v s))) a (.lst (cells l i' v' s')) = upd H a (.lst (cells l i' v' s')) := upd_upd
    refine ⟨_, rfl, a, _, _, _, rfl, rfl, hst, at2, _, _, rfl, rfl, _, rfl, ?_⟩
    refine ite2 (fun c => ?_) (fun c => ?_)
    · have c' : 0 < v := of_decide_eq_true c
      refine ⟨_, rfl, a, _, _, _, rfl, rfl, hst, at2, .inl ⟨_, rfl, _, rfl, _, _, rfl, rfl, n0, ?_⟩⟩
      refine ⟨_, rfl, a, _, _, _, rfl, rfl, hst, at2, _, rfl, _, _, rfl, rfl, ⟨n0, ?_⟩, ?_⟩
      · exact (wide_div (i := v) (j := n) (b := 64) n0 (by omega) (by decide) (by decide)).2
      · refine ⟨_, rfl, a, _, _, 2, rfl, rfl, upd_same, rfl, ?_⟩
        refine ⟨_, rfl, (hD _ _).mpr ?_⟩
        have e : (cells l i v s).set 2 (.int (v / n)) = cells l i (v / n) s := rfl
        rw [e, up]
        exact q _ _ _ _ (next_stp k hi (Int.ediv_nonneg hv (Int.le_of_lt n0)) hs0 hs1) (.int _) (hP _ (Int.emod_nonneg _ (by omega)) (Int.emod_lt_of_pos _ n0))
    · refine ⟨_, rfl, a, _, _, _, rfl, rfl, hst, at3, s, 69621, rfl, rfl, .inr ⟨by decide, by decide⟩, _, _, rfl, rfl, .inl ⟨_, rfl, _, _, rfl, rfl, (show (0 : Int) < 2147483647 by decide), ?_⟩⟩
      refine ⟨_, rfl, a, _, _, 3, rfl, rfl, upd_same, rfl, ?_⟩
      have e : ∀ z : Int, (cells l i v s).set 3 (.int z) = cells l i v z := fun _ => rfl
      rw [e, up]
      refine ⟨_, rfl, a, _, _, _, rfl, rfl, hst, at3, _, _, rfl, rfl, ⟨by decide, by decide⟩, .inl ⟨_, rfl, _, rfl, _, _, rfl, rfl, n0, (hD _ _).mpr ?_⟩⟩
      exact q _ _ _ _ (next_stp k hi hv (Int.emod_nonneg _ (by decide)) (Int.emod_lt_of_pos _ (by decide))) (.int _) (hP _ (Int.emod_nonneg _ (by omega)) (Int.emod_lt_of_pos _ n0))
  obtain ⟨w1, w2, i, v, s', w3, w4, w5, w6, w7⟩ := k.wd
  have hH : H = upd H a (.lst (cells l i v s')) := by
    funext b
    by_cases z : b = a
    · subst z; rw [upd_same]; exact w3
    · rw [upd_ne z]
  have hL : SqL K H a (cells l i v s') := .inl (.inl w3)
  have hl : SqL K H l (ns.map V.int) := .inl (.inl w1)
  refine ⟨_, rfl, a, _, _, _, rfl, rfl, hL, at2, rfl, _, rfl, ?_⟩
  refine ite2 (fun c => ?_) (fun c => ?_)
  · refine ⟨_, rfl, a, _, _, _, rfl, rfl, hL, at1, _, rfl, a, _, _, _, rfl, rfl, hL, at0, l, _, rfl, .inl hl, _, _, rfl, rfl, _, rfl, ?_⟩
    refine ite2 (fun c2 => ?_) (fun c2 => ?_)
    · have ci : (i : Int) < (((ns.map V.int).length : Nat) : Int) := of_decide_eq_true c2
      have hi : i < ns.length := by rw [List.length_map] at ci; omega
      refine ⟨_, rfl, a, _, _, _, rfl, rfl, hL, at0, _, rfl, a, _, _, _, rfl, rfl, hL, at1, l, _, _, .int ns[i], rfl, rfl, hl, atI_nat (by simp [hi]), ?_⟩
      refine ⟨_, rfl, a, _, 1, _, rfl, rfl, hL, by decide, by decide, rfl, _, _, rfl, rfl, a, _, 1, 1, rfl, rfl, w3, rfl, ?_⟩
      have e : (cells l i v s').set 1 (.int ((i : Int) + 1)) = cells l ((i + 1 : Nat) : Int) v s' := rfl
      have e' : ([.ref l, .int i, .int v, .int s'] : List V).set 1 (.int ((i : Int) + 1)) = cells l ((i + 1 : Nat) : Int) v s' := rfl
      rw [e']
      have up : ∀ {i v s i' v' s' : Int}, upd (upd H a (.lst (cells l i v s))) a (.lst (cells l i' v' s')) = upd H a (.lst (cells l i' v' s')) := upd_upd
      refine ⟨_, rfl, _, _, rfl, rfl, ⟨by decide, by decide, by decide⟩, _, _, rfl, rfl, _, rfl, ?_⟩
      refine ite2 (fun c3 => ?_) (fun c3 => ?_)
      · have g3 : (10 : Int) ^ (18 : Int).toNat ≤ ns[i] := of_decide_eq_true c3
        have p18 : (0 : Int) ≤ (10 : Int) ^ (18 : Int).toNat := by decide
        refine ⟨_, rfl, _, rfl, a, _, _, 2, rfl, rfl, upd_same, rfl, ?_⟩
        have e2 : (cells l ((i + 1 : Nat) : Int) v s').set 2 (.int ns[i]) = cells l ((i + 1 : Nat) : Int) ns[i] s' := rfl
        rw [e2, up]
        exact rest (i + 1) ns[i] s' _ _ _ (fun _ _ => Iff.rfl) hi (by omega) w6 w7
      · refine ⟨_, rfl, a, _, _, _, rfl, rfl, .inl (.inl upd_same), at3, s', 48271, rfl, rfl, .inr ⟨by decide, by decide⟩, _, rfl, .inl ⟨_, rfl, _, _, rfl, rfl, (show (0 : Int) < 2147483647 by decide), _, _, rfl, rfl, _, _, rfl, rfl, .inl ⟨_, rfl, _, _, rfl, rfl, (show (0 : Int) < 2147483647 by decide), ?_⟩⟩⟩
        refine ⟨_, rfl, a, _, _, 3, rfl, rfl, upd_same, rfl, ?_⟩
        have e2 : ∀ z : Int, (cells l ((i + 1 : Nat) : Int) v s').set 3 (.int z) = cells l ((i + 1 : Nat) : Int) v z := fun _ => rfl
        rw [e2, up]
        exact rest (i + 1) v _ _ _ _ (fun _ _ => Iff.rfl) hi w5 (Int.emod_nonneg _ (by decide)) (Int.emod_lt_of_pos _ (by decide))
    · rw [hH]
      exact rest i v s' _ _ _ (fun _ _ => Iff.rfl) w4 w5 w6 w7
  · rw [hH]
    exact rest i v s' _ _ _ (fun _ _ => Iff.rfl) w4 w5 w6 w7
end
end Z1

set_option Elab.async false
set_option linter.all false
set_option maxRecDepth 100000
set_option maxHeartbeats 1000000
/-! what a disk of the text is worth -/
namespace M
open PySem PySem.Spec PyProof.Rows L2 Z
abbrev Wr := Int × List Int
structure DM where
  use : Bool
  size : Int
  hs : List Wr
  wt : List Wr
  w : Int
  s : Int
  on : Bool
  n : Int
  left : Option Nat
def tupV (x : Wr) : MV := .d (tD x.2)
def lstV (x : Wr) : MV := .d (.list (iD x.2))
def pairV (x : Wr) : MV := .d (.tuple [.int x.1, tD x.2])
def pairL (x : Wr) : MV := .d (.tuple [.int x.1, .list (iD x.2)])
def putW (f : Wr → MV) (xs : List Wr) : List (Key × MV) := xs.foldl (fun d x => putM d (.inl x.1) (f x)) []
theorem putW_snoc (f : Wr → MV) (xs : List Wr) (x : Wr) : putW f (xs ++ [x]) = putM (putW f xs) (.inl x.1) (f x) := by
  unfold putW; rw [List.foldl_append]; rfl
theorem putM_len (d : List (Key × MV)) (k : Key) (v : MV) : (putM d k v).length ≤ d.length + 1 := by
  unfold putM
  split
  · rw [List.length_map]; omega
  · rw [List.length_append]; exact Nat.le_refl _
theorem putW_len (f : Wr → MV) (xs : List Wr) : (putW f xs).length ≤ xs.length := by
  unfold putW
  have h : ∀ (xs : List Wr) (d : List (Key × MV)), (xs.foldl (fun d x => putM d (.inl x.1) (f x)) d).length ≤ d.length + xs.length := by
    intro xs
    induction xs with
    | nil => intro d; exact Nat.le_refl _
    | cons x xs ih => intro d; have := ih (putM d (.inl x.1) (f x)); have := putM_len d (.inl x.1) (f x); simp only [List.foldl_cons, List.length_cons]; omega
  have := h xs []
  simpa using this
theorem valM_cons (q : Key × MV) (d : List (Key × MV)) (j : Key) : valM (q :: d) j = if q.1 = j then some q.2 else valM d j := by
  unfold valM
  by_cases f : q.1 = j
  · simp [f, List.find?_cons]
  · simp [f, List.find?_cons]
theorem valM_map (k j : Key) (v : MV) : ∀ d : List (Key × MV), valM (d.map fun kv => if kv.1 = k then (kv.1, v) else kv) j = if j = k ∧ (d.any fun kv => decide (kv.1 = k)) = true then some v else valM d j
  | [] => by simp [valM]
  | q :: d => by
    have ih := valM_map k j v d
    rw [List.map_cons, valM_cons, valM_cons, List.any_cons, ih]
    by_cases e : q.1 = k
    · rw [if_pos e]
      show (if q.1 = j then some v else _) = _
      by_cases f : q.1 = j
      · have : j = k := f.symm.trans e
        rw [if_pos f, if_pos ⟨this, by rw [decide_eq_true e]; rfl⟩]
      · have : ¬ j = k := fun z => f (e.trans z.symm)
        rw [if_neg f, if_neg (fun z => this z.1), if_neg (fun z => this z.1), if_neg f]
    · rw [if_neg e, decide_eq_false e, Bool.false_or]
      by_cases f : q.1 = j
      · have : ¬ j = k := fun z => e (f.trans z)
        rw [if_pos f, if_neg (fun z => this z.1), if_pos f]
      · rw [if_neg f, if_neg f]
theorem valM_app (k j : Key) (v : MV) : ∀ d : List (Key × MV), (d.any fun kv => decide (kv.1 = k)) = false → valM (d ++ [(k, v)]) j = if j = k then some v else valM d j
  | [], _ => by
    by_cases e : j = k
    · simp [valM, List.find?_cons, e]
    · have : ¬ k = j := fun z => e z.symm
      simp [valM, List.find?_cons, e, this]
  | q :: d, h => by
    rw [List.any_cons, Bool.or_eq_false_iff] at h
    have ih := valM_app k j v d h.2
    have e : ¬ q.1 = k := of_decide_eq_false h.1
    unfold valM at ih ⊢
    by_cases f : q.1 = j
    · have : ¬ j = k := fun z => e (f.trans z)
      simp [f, this, List.find?_cons]
    · simp only [List.cons_append, List.find?_cons, f, decide_false]
      exact ih
theorem valM_put (d : List (Key × MV)) (k j : Key) (v : MV) : valM (putM d k v) j = if j = k then some v else valM d j := by
  unfold putM
  cases h : d.any fun kv => decide (kv.1 = k) with
  | true =>
    rw [if_pos rfl, valM_map, h]
    simp
  | false =>
    rw [if_neg Bool.false_ne_true]
    exact valM_app k j v d h
/-- the last one with this index -/
def lastW (i : Int) (xs : List Wr) : Option Wr := xs.reverse.find? fun x => decide (x.1 = i)
theorem valM_all (f : Wr → MV) (i : Int) (xs : List Wr) : valM (putW f xs) (.inl i) = (lastW i xs).map f := by
  generalize hn : xs.length = n
  induction n generalizing xs with
  | zero =>
    have := List.eq_nil_of_length_eq_zero hn
    subst this; rfl
  | succ n ih =>
    have hne : xs ≠ [] := fun z => by subst z; cases hn
    obtain ⟨ys, x, rfl⟩ : ∃ ys x, xs = ys ++ [x] := ⟨xs.dropLast, xs.getLast hne, (List.dropLast_concat_getLast hne).symm⟩
    rw [List.length_append] at hn
    rw [putW_snoc, valM_put, ih ys (by simpa using hn)]
    unfold lastW
    rw [List.reverse_append, List.reverse_singleton, List.singleton_append, List.find?_cons]
    by_cases e : i = x.1
    · subst e; simp
    · have e1 : ¬ (Sum.inl i : Key) = .inl x.1 := fun z => e (by injection z)
      have e2 : ¬ x.1 = i := fun z => e z.symm
      rw [if_neg e1]; simp [e2]
def lfD : Option Nat → DD
  | none => .none
  | some k => .int (k : Nat)
def dF (m : DM) (ar wa : Addr) : List (Str × MV) :=
  [("in_use", .d (.bool m.use)), ("_size", .d (.int m.size)), ("_arrived", .a ar), ("_waiting", .a wa), ("_writes", .d (.int m.w)), ("_syncs", .d (.int m.s)), ("_on", .d (.bool m.on)), ("_losses", .d (.int m.n)), ("_left", .d (lfD m.left))]
structure DkAt (C : Addr) (μ : Mu) (p ar wa : Addr) (m : DM) : Prop where
  o : μ p = some (.O C (dF m ar wa))
  a : μ ar = some (.D (putW tupV m.hs))
  w : μ wa = some (.L (m.wt.map pairV))
def Frm (μ μ2 : Mu) (S : List Addr) : Prop := ∀ b, b ∉ S → μ b ≠ none → μ2 b = μ b
theorem Frm.rfl {μ : Mu} {S} : Frm μ μ S := fun _ _ _ => Eq.refl _
theorem Frm.mono {μ μ2 : Mu} {S T} (h : Frm μ μ2 S) (s : ∀ b, b ∈ S → b ∈ T) : Frm μ μ2 T := fun b n e => h b (fun z => n (s b z)) e
theorem Frm.trans {μ μ2 μ3 : Mu} {S} (h : Frm μ μ2 S) (k : Frm μ2 μ3 S) : Frm μ μ3 S := fun b n e => by
  have e1 := h b n e
  rw [k b n (by rw [e1]; exact e), e1]
theorem Frm.up {μ : Mu} {p : Addr} {c : Cell} {S} (h : p ∈ S) : Frm μ (up μ p c) S := fun b n _ => up_ne fun z => n (by rw [z]; exact h)
theorem Frm.new {μ : Mu} {p : Addr} {c : Cell} {S} (h : μ p = none) : Frm μ (M.up μ p c) S := fun b _ e => up_ne fun z => e (by rw [z]; exact h)
theorem ne_L {μ : Mu} {p q : Addr} {c d : Cell} (h : μ p = some c) (k : μ q = some d) (n : c ≠ d) : p ≠ q := fun z => n (Option.some.inj (by rw [← h, ← k, z]))
theorem ne_0 {μ : Mu} {p q : Addr} {c : Cell} (h : μ p = some c) (k : μ q = none) : p ≠ q := fun z => by rw [z, k] at h; cases h
def DM.fail (m : DM) : DM := { m with on := false, left := none, n := m.n + 1, use := false }
/-- an operation begins: is it made? -/
def DM.opOk (m : DM) : Bool := m.on && (match m.left with | some 0 => false | _ => true)
def DM.op (m : DM) : DM := if m.on = true then (match m.left with
  | some 0 => m.fail
  | some (k + 1) => { m with left := some k }
  | none => m) else m
def DM.settle (m : DM) (ws : List Wr) : DM := { m with hs := m.hs ++ ws, wt := [] }
section
variable (C : Addr)
def FG0 (g : DM → DD) : F1 := fun ms μ P _ => ∃ p ar wa m, ms = [.a p] ∧ DkAt C μ p ar wa m ∧ m.wt.length ≤ 100000 ∧ P (.d (g m)) μ
def F_Disk : F1 := fun ms μ P PX => ∃ p d, ms = [.a p, .d d] ∧ μ p = some (.O C []) ∧ match d with
  | .int n => if 100 ≤ n ∧ n ≤ 600 then ∀ μ2 ar wa, DkAt C μ2 p ar wa ⟨false, n, [], [], 0, 0, true, 0, none⟩ → Frm μ μ2 [p] → μ ar = none → μ wa = none → P (.d .none) μ2
      else ∀ μ2, Frm μ μ2 [p] → PX "InvalidArgument" μ2
  | _ => ∀ μ2, Frm μ μ2 [p] → PX "InvalidArgument" μ2
def F_Disk__fail : F1 := fun ms μ P _ => ∃ p ar wa m, ms = [.a p] ∧ DkAt C μ p ar wa m ∧ ∀ μ2, DkAt C μ2 p ar wa m.fail → Frm μ μ2 [p] → P (.d .none) μ2
def F_Disk__operate : F1 := fun ms μ P PX => ∃ p ar wa m, ms = [.a p] ∧ DkAt C μ p ar wa m ∧ ∀ μ2, DkAt C μ2 p ar wa m.op → Frm μ μ2 [p] → if m.opOk = true then P (.d .none) μ2 else PX "PowerOff" μ2
def F_Disk__settle : F1 := fun ms μ P _ => ∃ p ar wa m x ws, ms = [.a p, .a x] ∧ DkAt C μ p ar wa m ∧ μ x = some (.L (ws.map pairV)) ∧ m.hs.length + ws.length ≤ 100000 ∧ ∀ μ2 wa2, DkAt C μ2 p ar wa2 (m.settle ws) → Frm μ μ2 [p, ar] → μ wa2 = none → P (.d .none) μ2
def F_Disk_write : F1 := fun ms μ P PX => ∃ p ar wa m i x bs, ms = [.a p, .d (.int i), .a x] ∧ DkAt C μ p ar wa m ∧ μ x = some (.L ((iD bs).map MV.d)) ∧ m.wt.length ≤ 100000 ∧ x ≠ wa ∧
  if m.opOk = true then ∀ μ2, DkAt C μ2 p ar wa { m.op with wt := m.wt ++ [(i, bs)], w := m.w + 1 } → Frm μ μ2 [p, wa] → P (.d .none) μ2
  else ∀ μ2, DkAt C μ2 p ar wa m.op → Frm μ μ2 [p] → PX "PowerOff" μ2
def F_Disk_sync : F1 := fun ms μ P PX => ∃ p ar wa m, ms = [.a p] ∧ DkAt C μ p ar wa m ∧ m.hs.length + m.wt.length ≤ 100000 ∧
  if m.opOk = true then ∀ μ2 wa2, DkAt C μ2 p ar wa2 { m.op.settle m.wt with s := m.s + 1 } → Frm μ μ2 [p, ar] → μ wa2 = none → P (.d .none) μ2
  else ∀ μ2, DkAt C μ2 p ar wa m.op → Frm μ μ2 [p] → PX "PowerOff" μ2
def F_Disk_fail_after : F1 := fun ms μ P PX => ∃ p ar wa m k, ms = [.a p, .d (.int ((k : Nat) : Int))] ∧ DkAt C μ p ar wa m ∧
  if m.on = true then ∀ μ2, DkAt C μ2 p ar wa { m with left := some k } → Frm μ μ2 [p] → P (.d .none) μ2 else PX "PowerOff" μ
def keepW (ws : List Wr) (ks : List Bool) : List Wr := ((ws.zip ks).filter (·.2)).map (·.1)
def F_Disk_power : F1 := fun ms μ P _ => ∃ p ar wa m x ks, ms = [.a p, .a x] ∧ DkAt C μ p ar wa m ∧ μ x = some (.L (ks.map fun b => .d (.bool b))) ∧ m.hs.length + m.wt.length ≤ 100000 ∧
  ∀ μ2 wa2, DkAt C μ2 p ar wa2 { (if m.on = true then m.fail else m).settle (keepW m.wt ks) with on := true } → Frm μ μ2 [p, ar] → μ wa2 = none → P (.d .none) μ2
/-- the sector as it is read -/
def DM.at (m : DM) (i : Int) : List Int := match lastW i (m.hs ++ m.wt) with
  | some x => x.2
  | none => List.replicate 256 0
def F_Disk_read : F1 := fun ms μ P _ => ∃ p ar wa m i, ms = [.a p, .d (.int i)] ∧ DkAt C μ p ar wa m ∧ ∀ q, μ q = none → P (.a q) (M.up μ q (.L ((iD (m.at i)).map MV.d)))
end
theorem datas_map : ∀ ds : List DD, datas (ds.map MV.d) = some ds
  | [] => rfl
  | d :: ds => by
    show (datas (ds.map MV.d)).map (d :: ·) = _
    rw [datas_map ds]; rfl
theorem see_a {μ : Mu} {a : Addr} {ds : List DD} (h : μ a = some (.L (ds.map MV.d))) : seeV μ (.a a) = some (.list ds) := by
  show (cellD (μ a)).map PyData.list = _
  rw [h]
  show (datas (ds.map MV.d)).map PyData.list = _
  rw [datas_map]; rfl
theorem see_1 {μ : Mu} {m : MV} {d : DD} (h : seeV μ m = some d) : seeL μ [m] = some [d] := by
  show (match seeV μ m, some [] with
    | some d, some ds => some (d :: ds)
    | _, _ => none) = _
  rw [h]
theorem see_2 {μ : Mu} {m m2 : MV} {d d2 : DD} (h : seeV μ m = some d) (h2 : seeV μ m2 = some d2) : seeL μ [m, m2] = some [d, d2] := by
  show (match seeV μ m, seeL μ [m2] with
    | some d, some ds => some (d :: ds)
    | _, _ => none) = _
  rw [h, see_1 h2]
def pairDV (x : Wr) : DD := .tuple [.int x.1, tD x.2]
def pairDL (x : Wr) : DD := .tuple [.int x.1, .list (iD x.2)]
theorem map_pairV (ws : List Wr) : ws.map pairV = (ws.map pairDV).map MV.d := by rw [List.map_map]; rfl
theorem map_pairL (ws : List Wr) : ws.map pairL = (ws.map pairDL).map MV.d := by rw [List.map_map]; rfl
theorem keepW_len (ws : List Wr) (ks : List Bool) : (keepW ws ks).length ≤ ws.length := by
  unfold keepW
  rw [List.length_map]
  have h1 := List.length_filter_le (fun z : Wr × Bool => z.2) (ws.zip ks)
  have h2 : (ws.zip ks).length ≤ ws.length := by rw [List.length_zip]; omega
  exact Nat.le_trans h1 h2
end M

set_option Elab.async false
set_option linter.all false
set_option maxRecDepth 100000
set_option maxHeartbeats 1000000
namespace Z1
open PySem PySem.Spec PyProof.Rows L2 Z M
section
variable {C : Addr} {ms : List MV} {μ : Mu} {P : MV → Mu → Prop} {PX : Str → Mu → Prop}
theorem h_Disk_size (h : FG0 C (fun m => .int m.size) ms μ P PX) : ms.length = 1 ∧ m_Disk_size C (endsM P PX) (startM N_Disk_size ms) μ := by
  obtain ⟨p, ar, wa, m, rfl, k, _, h⟩ := h
  exact ⟨rfl, _, _, k.o, rfl, h⟩
theorem h_Disk_pending (h : FG0 C (fun m => .int (m.wt.length : Nat)) ms μ P PX) : ms.length = 1 ∧ m_Disk_pending C (endsM P PX) (startM N_Disk_pending ms) μ := by
  obtain ⟨p, ar, wa, m, rfl, k, hl, h⟩ := h
  refine ⟨rfl, _, _, k.o, rfl, ?_⟩
  refine ⟨_, see_1 (see_a (ds := m.wt.map pairDV) (by rw [k.w, map_pairV])), ?_⟩
  show true = true ∧ P (.d (.int ((m.wt.map pairDV).length : Nat))) μ
  rw [List.length_map]
  exact ⟨rfl, h⟩
theorem h_Disk_counts (h : FG0 C (fun m => .tuple [.int m.w, .int m.s]) ms μ P PX) : ms.length = 1 ∧ m_Disk_counts C (endsM P PX) (startM N_Disk_counts ms) μ := by
  obtain ⟨p, ar, wa, m, rfl, k, _, h⟩ := h
  refine ⟨rfl, _, _, k.o, rfl, ?_⟩
  refine ⟨_, _, k.o, rfl, ?_⟩
  exact ⟨_, rfl, h⟩
theorem h_Disk_is_on (h : FG0 C (fun m => .bool m.on) ms μ P PX) : ms.length = 1 ∧ m_Disk_is_on C (endsM P PX) (startM N_Disk_is_on ms) μ := by
  obtain ⟨p, ar, wa, m, rfl, k, _, h⟩ := h
  exact ⟨rfl, _, _, k.o, rfl, h⟩
theorem h_Disk_losses (h : FG0 C (fun m => .int m.n) ms μ P PX) : ms.length = 1 ∧ m_Disk_losses C (endsM P PX) (startM N_Disk_losses ms) μ := by
  obtain ⟨p, ar, wa, m, rfl, k, _, h⟩ := h
  exact ⟨rfl, _, _, k.o, rfl, h⟩
theorem h_Disk__fail (h : F_Disk__fail C ms μ P PX) : ms.length = 1 ∧ m_Disk__fail C (endsM P PX) (startM N_Disk__fail ms) μ := by
  obtain ⟨p, ar, wa, m, rfl, k, h⟩ := h
  refine ⟨rfl, ?_⟩
  refine ⟨_, k.o, (show 9 < 1000 by decide), ?_⟩
  refine ⟨_, up_same, (show 9 < 1000 by decide), ?_⟩
  refine ⟨_, _, up_same, rfl, ?_⟩
  refine ⟨_, _, rfl, up_same, (show 9 < 1000 by decide), ?_⟩
  refine ⟨_, up_same, (show 9 < 1000 by decide), ?_⟩
  have na : ar ≠ p := ne_L k.a k.o (fun z => nomatch z)
  have nw : wa ≠ p := ne_L k.w k.o (fun z => nomatch z)
  refine h _ ⟨up_same, ?_, ?_⟩ fun b nb hb => ?_
  · rw [up_ne na, up_ne na, up_ne na, up_ne na]; exact k.a
  · rw [up_ne nw, up_ne nw, up_ne nw, up_ne nw]; exact k.w
  · have nb : b ≠ p := fun z => nb (by rw [z]; exact List.mem_singleton.mpr rfl)
    rw [up_ne nb, up_ne nb, up_ne nb, up_ne nb]
theorem h_Disk__operate (h : F_Disk__operate C ms μ P PX) : ms.length = 1 ∧ m_Disk__operate C (F_Disk__fail C) (endsM P PX) (startM N_Disk__operate ms) μ := by
  obtain ⟨p, ar, wa, m, rfl, k, h⟩ := h
  refine ⟨rfl, ?_⟩
  have na : ar ≠ p := ne_L k.a k.o (fun z => nomatch z)
  have nw : wa ≠ p := ne_L k.w k.o (fun z => nomatch z)
  obtain ⟨use, size, hs, wt, w, s, on, n, left⟩ := m
  refine ⟨_, _, k.o, rfl, ?_⟩
  cases on with
  | false => exact h μ k Frm.rfl
  | true =>
    refine ⟨_, _, k.o, rfl, ?_⟩
    match left, h, k with
    | none, h, k =>
      refine ⟨_, _, rfl, rfl, ⟨rfl, ?_⟩⟩
      refine ⟨_, _, k.o, rfl, ⟨_, _, rfl, rfl, ⟨rfl, ?_⟩⟩⟩
      exact h μ k Frm.rfl
    | some 0, h, k =>
      refine ⟨_, _, rfl, rfl, ⟨rfl, ?_⟩⟩
      refine ⟨⟨_, k.o, rfl⟩, p, ar, wa, _, rfl, k, fun μ2 k2 f2 => ?_⟩
      exact h μ2 k2 f2
    | some (j + 1), h, k =>
      refine ⟨_, _, rfl, rfl, ?_⟩
      have e0 : (((j + 1 : Nat) : Int) == 0) = false := by simp; omega
      show gB eqD (.int ((j + 1 : Nat) : Int)) (.int 0) _
      rw [e_eq, e0]
      refine ⟨rfl, ?_⟩
      refine ⟨_, _, k.o, rfl, ⟨_, _, rfl, rfl, ⟨rfl, ?_⟩⟩⟩
      refine ⟨_, _, k.o, rfl, _, _, rfl, k.o, (show 9 < 1000 by decide), ?_⟩
      have e1 : ((j + 1 : Nat) : Int) - 1 = (j : Nat) := by omega
      refine h _ ⟨?_, by rw [up_ne na]; exact k.a, by rw [up_ne nw]; exact k.w⟩ (Frm.up (List.mem_singleton.mpr rfl))
      rw [up_same]
      show some (Cell.O C (dF ⟨use, size, hs, wt, w, s, true, n, some j⟩ ar wa |>.set 8 ("_left", .d (.int (((j + 1 : Nat) : Int) - 1))))) = _
      rw [e1]; rfl
theorem h_Disk__settle (h : F_Disk__settle C ms μ P PX) : ms.length = 2 ∧ m_Disk__settle C (endsM P PX) (startM N_Disk__settle ms) μ := by
  obtain ⟨p, ar, wa, m, x, ws, rfl, k, hx, hl, h⟩ := h
  refine ⟨rfl, ?_⟩
  refine ⟨_, hx, ?_⟩
  have na : p ≠ ar := ne_L k.o k.a (fun z => nomatch z)
  have nx : x ≠ ar := ne_L hx k.a (fun z => nomatch z)
  have loop : ∀ (done rest : List Wr) (μ1 : Mu) (e1 e2 : Ent), ws = done ++ rest → μ1 p = some (.O C (dF m ar wa)) → μ1 x = some (.L (ws.map pairV)) → μ1 ar = some (.D (putW tupV (m.hs ++ done))) → Frm μ μ1 [p, ar] → (∀ b, μ b = none → μ1 b = none) →
      loopC (gmT [2, 3]) (xPutD (mFld C "_arrived" (mN 0)) (mP (dN 2)) (mP (dN 3))) ⟨fun ρ μ => xFld C "_waiting" (mN 0) (mLst mNil) (endsM P PX) ρ μ, P, fun _ _ => False, fun _ _ => False, fun x _ μ => PX x μ⟩ x (ws.map pairV) (rest.map pairV) [.adr p, .adr x, e1, e2] μ1 := by
    intro done rest
    induction rest generalizing done with
    | nil =>
      intro μ1 e1 e2 hw h1 h2 h3 h4 h5
      refine ⟨h2, fun q hq => ⟨dF m ar wa, ?_, (show 9 < 1000 by decide), ?_⟩⟩
      · rw [up_ne (ne_0 h1 hq)]; exact h1
      · rw [List.append_nil] at hw
        subst hw
        refine h _ q ⟨up_same, ?_, ?_⟩ ?_ ?_
        · rw [up_ne na.symm, up_ne (ne_0 h3 hq)]; exact h3
        · rw [up_ne (ne_0 h1 hq).symm, up_same]; rfl
        · refine (h4.trans (Frm.new hq)).trans (Frm.up (by simp))
        · cases hq2 : μ q with
          | none => rfl
          | some c =>
            by_cases hm : q ∈ [p, ar]
            · simp at hm
              rcases hm with rfl | rfl
              · rw [h1] at hq; cases hq
              · rw [h3] at hq; cases hq
            · have := h4 q hm (by rw [hq2]; exact fun z => nomatch z)
              rw [hq, hq2] at this; cases this
    | cons y rest ih =>
      intro μ1 e1 e2 hw h1 h2 h3 h4 h5
      refine ⟨h2, rfl, ?_⟩
      refine ⟨_, _, h1, rfl, ?_⟩
      have hl2 : (putW tupV (m.hs ++ done)).length < 1000000 := by
        have := putW_len tupV (m.hs ++ done)
        have e : ws.length = done.length + (rest.length + 1) := by rw [hw, List.length_append, List.length_cons]
        rw [List.length_append] at this
        omega
      refine ⟨_, .inl y.1, h3, rfl, hl2, ?_⟩
      have e : putM (putW tupV (m.hs ++ done)) (.inl y.1) (tupV y) = putW tupV (m.hs ++ (done ++ [y])) := by
        rw [← List.append_assoc, putW_snoc]
      refine ih (done ++ [y]) _ _ _ (by rw [hw, List.append_assoc]; rfl) (by rw [up_ne na]; exact h1) (by rw [up_ne nx]; exact h2) ?_ (h4.trans (Frm.up (by simp))) fun b hb => ?_
      · rw [up_same]; exact congrArg (fun z => some (Cell.D z)) e
      · have : b ≠ ar := fun z => by rw [z, k.a] at hb; cases hb
        rw [up_ne this]; exact h5 b hb
  have := loop [] ws μ .un .un rfl k.o hx (by rw [List.append_nil]; exact k.a) Frm.rfl (fun _ hb => hb)
  exact this
end
end Z1

set_option Elab.async false
set_option linter.all false
set_option maxRecDepth 100000
set_option maxHeartbeats 1000000
namespace Z1
open PySem PySem.Spec PyProof.Rows L2 Z M
section
variable {C : Addr} {ms : List MV} {μ : Mu} {P : MV → Mu → Prop} {PX : Str → Mu → Prop}
theorem op_hs {m : DM} : m.op.hs = m.hs ∧ m.op.wt = m.wt ∧ m.op.w = m.w ∧ m.op.s = m.s ∧ m.op.size = m.size := by
  unfold DM.op
  split
  · split <;> exact ⟨rfl, rfl, rfl, rfl, rfl⟩
  · exact ⟨rfl, rfl, rfl, rfl, rfl⟩
theorem h_Disk_write (h : F_Disk_write C ms μ P PX) : ms.length = 3 ∧ m_Disk_write C (F_Disk__operate C) (endsM P PX) (startM N_Disk_write ms) μ := by
  obtain ⟨p, ar, wa, m, i, x, bs, rfl, k, hx, hl, hxw, h⟩ := h
  refine ⟨rfl, ?_⟩
  refine ⟨⟨_, k.o, rfl⟩, p, ar, wa, m, rfl, k, fun μ2 k2 f2 => ?_⟩
  obtain ⟨o1, o2, o3, o4, o5⟩ := op_hs (m := m)
  have np : wa ≠ p := ne_L k.w k.o (fun z => nomatch z)
  have nx : x ≠ p := ne_L hx k.o (fun z => nomatch z)
  have na : ar ≠ p := ne_L k.a k.o (fun z => nomatch z)
  have naw : ar ≠ wa := ne_L k.a k.w (fun z => nomatch z)
  split at h
  · rename_i ho
    rw [if_pos ho]
    refine ⟨_, _, k2.o, rfl, ⟨⟨_, k2.w⟩, ?_⟩⟩
    have hx2 : μ2 x = some (.L ((iD bs).map MV.d)) := by rw [f2 x (by simp [nx]) (by rw [hx]; exact fun z => nomatch z)]; exact hx
    refine ⟨x, iD bs, rfl, hx2, ?_⟩
    refine ⟨_, rfl, ?_⟩
    refine ⟨_, k2.w, by rw [List.length_map, o2]; omega, ?_⟩
    refine ⟨_, _, (up_ne np.symm).trans k2.o, rfl, ?_⟩
    refine ⟨_, _, rfl, (up_ne np.symm).trans k2.o, (show 9 < 1000 by decide), ?_⟩
    refine h _ ⟨?_, ?_, ?_⟩ ?_
    · rw [up_same, ← o3]; rfl
    · rw [up_ne na, up_ne naw]; exact k2.a
    · rw [up_ne np, up_same, o2]
      show some (Cell.L (m.wt.map pairV ++ [pairV (i, bs)])) = some (Cell.L ((m.wt ++ [(i, bs)]).map pairV))
      rw [List.map_append]; rfl
    · exact ((f2.mono (by simp)).trans (Frm.up (by simp))).trans (Frm.up (by simp))
  · rename_i ho
    rw [if_neg ho]
    exact h μ2 k2 f2
theorem h_Disk_sync (h : F_Disk_sync C ms μ P PX) : ms.length = 1 ∧ m_Disk_sync C (F_Disk__settle C) (F_Disk__operate C) (endsM P PX) (startM N_Disk_sync ms) μ := by
  obtain ⟨p, ar, wa, m, rfl, k, hl, h⟩ := h
  refine ⟨rfl, ?_⟩
  refine ⟨⟨_, k.o, rfl⟩, p, ar, wa, m, rfl, k, fun μ2 k2 f2 => ?_⟩
  obtain ⟨o1, o2, o3, o4, o5⟩ := op_hs (m := m)
  split at h
  · rename_i ho
    rw [if_pos ho]
    refine ⟨⟨_, k2.o, rfl⟩, ?_⟩
    refine ⟨_, _, k2.o, rfl, ?_⟩
    refine ⟨p, ar, wa, m.op, wa, m.op.wt, rfl, k2, k2.w, by rw [o1, o2]; exact hl, fun μ3 wa2 k3 f3 n3 => ?_⟩
    refine ⟨_, _, k3.o, rfl, ?_⟩
    refine ⟨_, _, rfl, k3.o, (show 9 < 1000 by decide), ?_⟩
    have na : ar ≠ p := ne_L k.a k.o (fun z => nomatch z)
    have nw : wa2 ≠ p := ne_L k3.w k3.o (fun z => nomatch z)
    refine h _ wa2 ⟨?_, ?_, ?_⟩ ?_ ?_
    · rw [up_same, ← o4]; rfl
    · rw [up_ne na, ← o2]; exact k3.a
    · rw [up_ne nw]; exact k3.w
    · exact ((f2.mono (by simp)).trans f3).trans (Frm.up (by simp))
    · cases hq : μ wa2 with
      | none => rfl
      | some c =>
        have := f2 wa2 (by simp [nw]) (by rw [hq]; exact fun z => nomatch z)
        rw [n3, hq] at this; cases this
  · rename_i ho
    rw [if_neg ho]
    exact h μ2 k2 f2
theorem h_Disk_fail_after (h : F_Disk_fail_after C ms μ P PX) : ms.length = 2 ∧ m_Disk_fail_after C (endsM P PX) (startM N_Disk_fail_after ms) μ := by
  obtain ⟨p, ar, wa, m, j, rfl, k, h⟩ := h
  refine ⟨rfl, ?_⟩
  refine ⟨_, _, k.o, rfl, ?_⟩
  have na : ar ≠ p := ne_L k.a k.o (fun z => nomatch z)
  have nw : wa ≠ p := ne_L k.w k.o (fun z => nomatch z)
  obtain ⟨use, size, hs, wt, w, s, on, n, left⟩ := m
  cases on with
  | false => exact h
  | true =>
    refine ⟨_, k.o, (show 9 < 1000 by decide), ?_⟩
    exact h _ ⟨up_same, by rw [up_ne na]; exact k.a, by rw [up_ne nw]; exact k.w⟩ (Frm.up (by simp))
theorem keepW_cons (x : Wr) (ws : List Wr) (b : Bool) (ks : List Bool) : keepW (x :: ws) (b :: ks) = if b = true then x :: keepW ws ks else keepW ws ks := by
  unfold keepW
  rw [List.zip_cons_cons, List.filter_cons]
  cases b <;> rfl
theorem comp_keep {ρ : En} {C0 : Mu → Prop} {μ : Mu} (hC : C0 μ) (hρ : 3 < ρ.length) (R : List MV → Mu → Prop) : ∀ (ws : List Wr) (ks : List Bool) (acc : List Wr), acc.length + ws.length < 1000000 → R ((acc ++ keepW ws ks).map pairV) μ →
    compZ ρ 2 3 (mPT (dT (dN 3))) (mP (dN 2)) C0 ((ws.map pairV).zip (ks.map fun b => MV.d (.bool b))) (acc.map pairV) μ R := by
  intro ws
  induction ws with
  | nil =>
    intro ks acc hl hR
    refine ⟨hC, ?_⟩
    have : keepW [] ks = [] := by unfold keepW; rfl
    rw [this, List.append_nil] at hR
    exact hR
  | cons x ws ih =>
    intro ks acc hl hR
    match ks with
    | [] =>
      refine ⟨hC, ?_⟩
      have : keepW (x :: ws) [] = [] := by unfold keepW; rw [List.zip_nil_right]; rfl
      rw [this, List.append_nil] at hR
      exact hR
    | b :: ks =>
      rw [keepW_cons] at hR
      refine ⟨hC, ?_⟩
      have e3 : ((((ρ.set 3 .un).set 2 .un).set 2 (entM (pairV x))).set 3 (entM (.d (.bool b))))[3]? = some (.dat (.bool b)) := by
        rw [List.getElem?_set_self (by simpa using hρ)]; rfl
      have e2 : ((((ρ.set 3 .un).set 2 .un).set 2 (entM (pairV x))).set 3 (entM (.d (.bool b))))[2]? = some (.dat (pairDV x)) := by
        rw [List.getElem?_set_ne (by decide), List.getElem?_set_self (by simp; omega)]; rfl
      show dT (dN 3) _ _
      unfold dT dN
      rw [e3]
      show (if b = true then _ else _)
      cases b with
      | false =>
        rw [if_neg Bool.false_ne_true] at hR ⊢
        exact ih ks acc (by simp at hl; omega) hR
      | true =>
        rw [if_pos rfl] at hR ⊢
        show mP (dN 2) _ _ _ _
        unfold mP dN
        rw [e2]
        refine ⟨by rw [List.length_map]; simp at hl; omega, ?_⟩
        have e : acc.map pairV ++ [MV.d (pairDV x)] = (acc ++ [x]).map pairV := by rw [List.map_append]; rfl
        rw [e]
        exact ih ks (acc ++ [x]) (by simp at hl ⊢; omega) (by rw [List.append_assoc]; exact hR)
theorem h_Disk_power (h : F_Disk_power C ms μ P PX) : ms.length = 2 ∧ m_Disk_power C (F_Disk__settle C) (F_Disk__fail C) (endsM P PX) (startM N_Disk_power ms) μ := by
  obtain ⟨p, ar, wa, m, x, ks, rfl, k, hx, hl, h⟩ := h
  refine ⟨rfl, ?_⟩
  have np : wa ≠ p := ne_L k.w k.o (fun z => nomatch z)
  have nx : x ≠ p := ne_L hx k.o (fun z => nomatch z)
  have na : ar ≠ p := ne_L k.a k.o (fun z => nomatch z)
  have main : ∀ (m1 : DM) (μ1 : Mu), DkAt C μ1 p ar wa m1 → m1.wt = m.wt → m1.hs = m.hs → m1 = (if m.on = true then m.fail else m) → Frm μ μ1 [p] → 
      xSeq (xDo (mMth C "_settle" (F_Disk__settle C) (mN 0) (mCons (mLcZ (mCons (mFld C "_waiting" (mN 0)) (mCons (mN 1) mNil)) 2 3 (mPT (dT (dN 3))) (mP (dN 2))) mNil))) (xFld C "_on" (mN 0) (mP (dC (.bool true)))) (endsM P PX) [.adr p, .adr x, .un, .un] μ1 := by
    intro m1 μ1 k1 w1 w2 em f1
    refine ⟨⟨_, k1.o, rfl⟩, ?_⟩
    have hx1 : μ1 x = some (.L (ks.map fun b => .d (.bool b))) := by rw [f1 x (by simp [nx]) (by rw [hx]; exact fun z => nomatch z)]; exact hx
    refine ⟨_, _, k1.o, rfl, ?_⟩
    refine ⟨wa, x, _, _, rfl, k1.w, hx1, ?_⟩
    have hk := keepW_len m1.wt ks
    refine comp_keep (ρ := [.adr p, .adr x, .un, .un]) (C0 := fun μ => μ wa = some (.L (m1.wt.map pairV)) ∧ μ x = some (.L (ks.map fun b => .d (.bool b)))) (μ := μ1) ⟨k1.w, hx1⟩ (show 3 < 4 by decide) _ m1.wt ks [] (by rw [w1]; simp; omega) fun q hq => ?_
    have qp : q ≠ p := (ne_0 k1.o hq).symm
    have qa : q ≠ ar := (ne_0 k1.a hq).symm
    have qw : q ≠ wa := (ne_0 k1.w hq).symm
    refine ⟨p, ar, wa, m1, q, keepW m1.wt ks, rfl, ⟨by rw [up_ne qp.symm]; exact k1.o, by rw [up_ne qa.symm]; exact k1.a, by rw [up_ne qw.symm]; exact k1.w⟩, up_same, by rw [w2]; rw [w1] at hk ⊢; omega, fun μ2 wa2 k2 f2 n2 => ?_⟩
    refine ⟨_, k2.o, (show 9 < 1000 by decide), ?_⟩
    have nw2 : wa2 ≠ p := ne_L k2.w k2.o (fun z => nomatch z)
    have nq2 : wa2 ≠ q := fun z => by rw [z, up_same] at n2; cases n2
    refine h _ wa2 ⟨?_, ?_, ?_⟩ ?_ ?_
    · rw [up_same, ← em, ← w1]; rfl
    · rw [up_ne na, ← em, ← w1]; exact k2.a
    · rw [up_ne nw2]; exact k2.w
    · exact (((f1.mono (by simp)).trans (Frm.new hq)).trans f2).trans (Frm.up (by simp))
    · rw [up_ne nq2] at n2
      cases hq3 : μ wa2 with
      | none => rfl
      | some c =>
        have := f1 wa2 (by simp [nw2]) (by rw [hq3]; exact fun z => nomatch z)
        rw [n2, hq3] at this; cases this
  refine ⟨_, _, k.o, rfl, ?_⟩
  cases hon : m.on with
  | false => exact main m μ k rfl rfl (by rw [if_neg (by rw [hon]; exact Bool.false_ne_true)]) Frm.rfl
  | true =>
    refine ⟨⟨_, k.o, rfl⟩, p, ar, wa, m, rfl, k, fun μ2 k2 f2 => ?_⟩
    exact main m.fail μ2 k2 rfl rfl (by rw [if_pos hon]) f2
end
end Z1

set_option Elab.async false
set_option linter.all false
set_option maxRecDepth 100000
set_option maxHeartbeats 1000000
namespace Z1
open PySem PySem.Spec PyProof.Rows L2 Z M
section
variable {C : Addr} {ms : List MV} {μ : Mu} {P : MV → Mu → Prop} {PX : Str → Mu → Prop}
theorem zeros256 : (List.replicate (256 : Int).toNat [PyData.int 0]).flatten = iD (List.replicate 256 0) := by
  unfold iD
  rw [List.map_replicate]
  rfl
theorem if_eq {a b : Int} {sa sb : MS} {E : MEn} {ρ : En} {μ : Mu} {i j : Nat} (ha : ρ[i]? = some (.dat (.int a))) (hb : ρ[j]? = some (.dat (.int b))) (h1 : a = b → sa E ρ μ) (h2 : a ≠ b → sb E ρ μ) : xIf (mPT (dT (dOp (gB eqD) (dN i) (dN j)))) sa sb E ρ μ := by
  unfold xIf mPT dT dOp dN
  rw [ha]
  show (match ρ[j]? with
    | some (.dat d) => _
    | _ => False)
  rw [hb]
  show gB eqD (.int a) (.int b) _
  rw [e_eq]
  by_cases e : a = b
  · have e0 : (a == b) = true := by rw [beq_iff_eq]; exact e
    rw [e0]; exact h1 e
  · have e0 : (a == b) = false := by rw [beq_eq_false_iff_ne]; exact e
    rw [e0]; exact h2 e
theorem lastW_app (i : Int) (xs ys : List Wr) : lastW i (xs ++ ys) = (lastW i ys).or (lastW i xs) := by
  unfold lastW
  rw [List.reverse_append, List.find?_append]
theorem h_Disk_read (h : F_Disk_read C ms μ P PX) : ms.length = 2 ∧ m_Disk_read C (endsM P PX) (startM N_Disk_read ms) μ := by
  obtain ⟨p, ar, wa, m, i, rfl, k, h⟩ := h
  refine ⟨rfl, ?_⟩
  refine ⟨_, _, k.o, rfl, ?_⟩
  refine ⟨_, k.w, ?_⟩
  rw [← List.map_reverse]
  have loop : ∀ (rest : List Wr) (e1 e2 : Ent), (∀ z : List Int, (match rest.find? fun x => decide (x.1 = i) with
        | some x => z = x.2
        | none => z = (match lastW i m.hs with
          | some x => x.2
          | none => List.replicate 256 0)) → ∀ q, μ q = none → P (.a q) (M.up μ q (.L ((iD z).map MV.d)))) →
      loopC (gmT [2, 3]) (xIf (mPT (dT (dOp (gB eqD) (dN 2) (dN 1)))) (xRet (mCopy (mCons (mP (dN 3)) mNil))) xNx) ⟨fun ρ μ => xRet (mCopy (mCons (mGet2 (mFld C "_arrived" (mN 0)) (mP (dN 1)) (mP (dOp gRepT (dTup (dCons (dC (.int 0)) dNil)) (dC (.int 256))))) mNil)) (endsM P PX) ρ μ, P, fun _ _ => False, fun _ _ => False, fun x _ μ => PX x μ⟩ wa (m.wt.map pairV) (rest.map pairV) [.adr p, .dat (.int i), e1, e2] μ := by
    intro rest
    induction rest with
    | nil =>
      intro e1 e2 hz
      refine ⟨k.w, ?_⟩
      refine ⟨_, _, k.o, rfl, ⟨_, k.a⟩, ?_⟩
      refine ⟨⟨fun z => (nomatch z), by decide, by decide⟩, ?_⟩
      refine ⟨_, .inl i, k.a, rfl, ?_⟩
      rw [valM_all]
      cases hl : lastW i m.hs with
      | some x =>
        refine ⟨_, iD x.2, rfl, .inr rfl, hz x.2 ?_⟩
        show x.2 = _
        rw [hl]
      | none =>
        refine ⟨_, iD (List.replicate 256 0), rfl, .inr ?_, hz _ ?_⟩
        · show some (PyData.tuple _) = _
          rw [zeros256]
        · show List.replicate 256 0 = _
          rw [hl]
    | cons y rest ih =>
      intro e1 e2 hz
      refine ⟨k.w, rfl, ?_⟩
      refine if_eq rfl rfl (fun e => ?_) (fun e => ?_)
      · refine ⟨_, iD y.2, rfl, .inr rfl, hz y.2 ?_⟩
        rw [List.find?_cons, decide_eq_true e]
      · refine ih _ _ fun z hzz => hz z ?_
        rw [List.find?_cons, decide_eq_false e]; exact hzz
  refine loop m.wt.reverse .un .un fun z hz => ?_
  have ez : z = m.at i := by
    unfold DM.at
    rw [lastW_app]
    unfold lastW at hz ⊢
    cases e : m.wt.reverse.find? fun x => decide (x.1 = i) with
    | some x => rw [e] at hz; exact hz
    | none => rw [e] at hz; rw [Option.none_or]; exact hz
  rw [ez]; exact h
theorem h_Disk (h : F_Disk C ms μ P PX) : ms.length = 2 ∧ m_Disk___init__ C (endsM P PX) (startM N_Disk___init__ ms) μ := by
  obtain ⟨p, d, rfl, ho, h⟩ := h
  refine ⟨rfl, ?_⟩
  cases d with
  | int n =>
    simp only at h
    have main : ∀ c : Bool, c = decide (n < 100 ∨ n > 600) → xSeq (xIf (fun _ μ P _ => P c μ) (xRaiseE "InvalidArgument" (mP dAnyS)) xNx) (xSeq (xFld C "in_use" (mN 0) (mP (dC (.bool false))))
    (xSeq (xFld C "_size" (mN 0) (mP (dN 1)))
    (xSeq (xFld C "_arrived" (mN 0) mNewD)
    (xSeq (xFld C "_waiting" (mN 0) (mLst mNil))
    (xSeq (xFld C "_writes" (mN 0) (mP (dC (.int 0))))
    (xSeq (xFld C "_syncs" (mN 0) (mP (dC (.int 0))))
    (xSeq (xFld C "_on" (mN 0) (mP (dC (.bool true))))
    (xSeq (xFld C "_losses" (mN 0) (mP (dC (.int 0))))
    (xFld C "_left" (mN 0) (mP (dC .none))))))))))) (endsM P PX) [.adr p, .dat (.int n)] μ := by
      intro c hc
      by_cases hr : 100 ≤ n ∧ n ≤ 600
      · rw [if_pos hr] at h
        have c0 : c = false := by rw [hc]; exact decide_eq_false (by omega)
        subst c0
        refine ⟨_, ho, by decide, ?_⟩
        refine ⟨_, up_same, (show 1 < 1000 by decide), ?_⟩
        intro ar har
        refine ⟨_, (up_ne (ne_0 up_same har)).trans up_same, (show 2 < 1000 by decide), ?_⟩
        intro wa hwa
        refine ⟨_, (up_ne (ne_0 up_same hwa)).trans up_same, (show 3 < 1000 by decide), ?_⟩
        refine ⟨_, up_same, (show 4 < 1000 by decide), ?_⟩
        refine ⟨_, up_same, (show 5 < 1000 by decide), ?_⟩
        refine ⟨_, up_same, (show 6 < 1000 by decide), ?_⟩
        refine ⟨_, up_same, (show 7 < 1000 by decide), ?_⟩
        refine ⟨_, up_same, (show 8 < 1000 by decide), ?_⟩
        have hap : ar ≠ p := (ne_0 up_same har).symm
        have hwp : wa ≠ p := (ne_0 up_same hwa).symm
        have haw : ar ≠ wa := by
          refine ne_0 (μ := _) (c := .D []) ?_ hwa
          rw [up_ne hap]; exact up_same
        rw [up_ne hap, up_ne hap] at har
        rw [up_ne hwp, up_ne haw.symm, up_ne hwp, up_ne hwp] at hwa
        refine h _ ar wa ⟨up_same, ?_, ?_⟩ ?_ har hwa
        · simp only [up_ne hap, up_ne haw]; rw [up_same]; rfl
        · simp only [up_ne hwp]; rw [up_same]; rfl
        · intro b nb hb
          have nb : b ≠ p := fun z => nb (by rw [z]; exact List.mem_singleton.mpr rfl)
          have n1 : b ≠ ar := fun z => hb (by rw [z]; exact har)
          have n2 : b ≠ wa := fun z => hb (by rw [z]; exact hwa)
          simp only [up_ne nb, up_ne n1, up_ne n2]
      · rw [if_neg hr] at h
        have c0 : c = true := by rw [hc]; exact decide_eq_true (by omega)
        subst c0
        exact fun z => h μ Frm.rfl
    have t : ∀ (R : Bool → Prop), R (decide (n < 100 ∨ n > 600)) → dOr (dT (dOp (gB ltD) (dN 1) (dC (.int 100)))) (dT (dOp (gB gtD) (dN 1) (dC (.int 600)))) [.adr p, .dat (.int n)] R := by
      intro R hR
      have d1 : ∀ (R : DD → Prop), dN 1 [.adr p, .dat (.int n)] R = R (.int n) := fun _ => rfl
      have d2 : ∀ (d : DD) (R : DD → Prop), dC d [.adr p, .dat (.int n)] R = R d := fun _ _ => rfl
      unfold dOr dT dOp
      rw [d1, d2, e_lt]
      by_cases h1 : n < 100
      · rw [decide_eq_true (by omega)] at hR
        rw [decide_eq_true h1]
        exact hR
      · rw [decide_eq_false h1]
        show dN 1 [.adr p, .dat (.int n)] (fun x => dC (.int 600) [.adr p, .dat (.int n)] fun y => gB gtD x y (asB R))
        rw [d1, d2, e_gt]
        by_cases h2 : n > 600
        · rw [decide_eq_true (by omega)] at hR
          rw [decide_eq_true h2]
          exact hR
        · rw [decide_eq_false (by omega)] at hR
          rw [decide_eq_false h2]
          exact hR
    exact t _ (main _ rfl)
  | bool b => exact h μ Frm.rfl
  | _ => exact h μ Frm.rfl
end
end Z1

set_option Elab.async false
set_option linter.all false
set_option maxRecDepth 100000
set_option maxHeartbeats 1000000
namespace M
open PySem PySem.Spec PyProof.Rows L2 Z
/-- the law's record -/
def wD (m : DM) (l q c : Addr) : List (Key × MV) :=
  [(.inr "size", .d (.int m.size)), (.inr "lasting", .a l), (.inr "waiting", .a q), (.inr "on", .d (.bool m.on)), (.inr "left", .d (lfD m.left)), (.inr "losses", .d (.int m.n)), (.inr "counts", .a c)]
structure Ad where
  a : Addr
  w : Addr
  p : Addr
  l : Addr
  q : Addr
  c : Addr
  ar : Addr
  wa : Addr
def Frm0 (μ μ2 : Mu) : Prop := ∀ b, μ b ≠ none → μ2 b = μ b
theorem Frm0.new {μ : Mu} {p : Addr} {c : Cell} (h : μ p = none) : Frm0 μ (M.up μ p c) := fun b e => up_ne fun z => e (by rw [z]; exact h)
theorem Frm0.new2 {μ : Mu} {p : Addr} {c c2 : Cell} (h : μ p = none) : Frm0 μ (M.up (M.up μ p c) p c2) := fun b e => by
  have : b ≠ p := fun z => e (by rw [z]; exact h)
  rw [up_ne this, up_ne this]
theorem Frm0.trans {μ μ2 μ3 : Mu} (h : Frm0 μ μ2) (k : Frm0 μ2 μ3) : Frm0 μ μ3 := fun b e => by
  have e1 := h b e
  rw [k b (by rw [e1]; exact e), e1]
theorem dn_up {μ : Mu} {p : Addr} {c : Cell} (h : μ p = none) : dn (M.up μ p c) p = μ := by
  funext b
  by_cases e : b = p
  · subst e; rw [dn_same, h]
  · rw [dn_ne e, up_ne e]
/-- disk and record stand alike -/
structure J (C : Addr) (μ : Mu) (A : Ad) (m : DM) : Prop where
  st : ∃ ns, μ A.a = some (.S ns)
  dk : DkAt C μ A.p A.ar A.wa m
  wo : μ A.w = some (.D (wD m A.l A.q A.c))
  l : μ A.l = some (.D (putW lstV m.hs))
  q : μ A.q = some (.L (m.wt.map pairL))
  c : μ A.c = some (.L [.d (.int m.w), .d (.int m.s)])
  wl : A.w ≠ A.l
  wr : A.w ≠ A.ar
  lr : A.l ≠ A.ar
  qa : A.q ≠ A.wa
  qc : A.q ≠ A.c
  ca : A.c ≠ A.wa
  use : m.use = false ∧ (m.on = false → m.left = none)
  ok : ∀ x ∈ m.hs ++ m.wt, x.2.length = 256
  sz : 100 ≤ m.size ∧ m.size ≤ 600
theorem J.of {C : Addr} {μ μ2 : Mu} {A : Ad} {m : DM} (j : J C μ A m) (f : Frm0 μ μ2) : J C μ2 A m := by
  have g : ∀ {b : Addr} {c : Cell}, μ b = some c → μ2 b = some c := fun e => (f _ (by rw [e]; exact fun z => nomatch z)).trans e
  obtain ⟨ns, hs⟩ := j.st
  exact ⟨⟨ns, g hs⟩, ⟨g j.dk.o, g j.dk.a, g j.dk.w⟩, g j.wo, g j.l, g j.q, g j.c, j.wl, j.wr, j.lr, j.qa, j.qc, j.ca, j.use, j.ok, j.sz⟩
theorem lastW_mem {i : Int} {xs : List Wr} {x : Wr} (h : lastW i xs = some x) : x ∈ xs := by
  unfold lastW at h
  exact List.mem_reverse.mp (List.mem_of_find?_eq_some h)
theorem at_len {m : DM} (ok : ∀ x ∈ m.hs ++ m.wt, x.2.length = 256) (i : Int) : (m.at i).length = 256 := by
  unfold DM.at
  cases h : lastW i (m.hs ++ m.wt) with
  | some x => exact ok x (lastW_mem h)
  | none => exact List.length_replicate
/-! ### the law's helpers -/
section
variable (C : Addr)
def F__law_operate : F1 := fun ms μ P _ => ∃ w m l q c, ms = [.a w] ∧ μ w = some (.D (wD m l q c)) ∧ ∀ μ2, μ2 w = some (.D (wD m.op l q c)) → Frm μ μ2 [w] → P (.d (.bool m.opOk)) μ2
def F__law_sector : F1 := fun ms μ P _ => ∃ A m i, ms = [.a A.w, .d (.int i)] ∧ J C μ A m ∧ P (.d (.list (iD (m.at i)))) μ
def F__law_is_right : F1 := fun ms μ P _ => ∃ A m, ms = [.a A.a, .a A.w, .a A.p] ∧ J C μ A m ∧ m.hs.length + m.wt.length ≤ 100000 ∧ ∀ μ2, J C μ2 A m → P (.d (.bool true)) μ2
/-- what a deed leaves -/
def Left (A : Ad) (m : DM) (P : MV → Mu → Prop) : Prop := ∀ μ2 A2 m2, J C μ2 A2 m2 → A2.a = A.a → A2.w = A.w → A2.p = A.p → m2.size = m.size → m2.hs.length + m2.wt.length ≤ m.hs.length + m.wt.length + 1 → P (.d (.bool true)) μ2
def FDeed : F1 := fun ms μ P _ => ∃ A m, ms = [.a A.a, .a A.w, .a A.p] ∧ J C μ A m ∧ m.hs.length + m.wt.length ≤ 90000 ∧ Left C A m P
def F__law_sync : F1 := fun ms μ P _ => ∃ A m, ms = [.a A.w, .a A.p] ∧ J C μ A m ∧ m.hs.length + m.wt.length ≤ 90000 ∧ Left C A m P
def F__law_refused : F1 := fun ms μ P _ => ∃ d, ms = [.d d] ∧ (∀ n, d = .int n → n < 100 ∨ 600 < n) ∧ ∀ μ2, Frm0 μ μ2 → P (.d (.bool true)) μ2
end
end M
namespace Z1
open PySem PySem.Spec PyProof.Rows L2 Z M
abbrev F__law_same : D1 := FSm 3
section
variable {C : Addr} {ms : List MV} {μ : Mu} {P : MV → Mu → Prop} {PX : Str → Mu → Prop}
theorem h__law_operate (h : F__law_operate ms μ P PX) : ms.length = 1 ∧ m__law_operate (endsM P PX) (startM N__law_operate ms) μ := by
  obtain ⟨w, m, l, q, c, rfl, hw, h⟩ := h
  refine ⟨rfl, ?_⟩
  obtain ⟨use, size, hs, wt, w0, s, on, n, left⟩ := m
  match on, left with
  | false, lf =>
    refine ⟨_, _, _, hw, rfl, rfl, ?_⟩
    refine ⟨_, _, _, hw, rfl, rfl, ?_⟩
    refine ⟨_, _, _, hw, rfl, rfl, ?_⟩
    exact h μ hw Frm.rfl
  | true, none =>
    refine ⟨_, _, _, hw, rfl, rfl, ?_⟩
    refine ⟨_, _, _, hw, rfl, rfl, ⟨_, _, rfl, rfl, rfl, ?_⟩⟩
    refine ⟨_, _, _, hw, rfl, rfl, ?_⟩
    refine ⟨_, _, _, hw, rfl, rfl, ⟨_, _, rfl, rfl, rfl, ?_⟩⟩
    refine ⟨_, _, _, hw, rfl, rfl, ?_⟩
    exact h μ hw Frm.rfl
  | true, some 0 =>
    refine ⟨_, _, _, hw, rfl, rfl, ?_⟩
    refine ⟨_, _, _, hw, rfl, rfl, ⟨_, _, rfl, rfl, rfl, ?_⟩⟩
    refine ⟨⟨_, hw⟩, fun p np => ?_⟩
    have nw : w ≠ p := ne_0 hw np
    refine ⟨_, _, _, (up_ne nw).trans hw, rfl, rfl, ?_⟩
    refine ⟨up_same, ?_⟩
    refine ⟨wD ⟨use, size, hs, wt, w0, s, true, n, some 0⟩ l q c, _, nw, by rw [up_ne nw, up_ne nw]; exact hw, up_same, (show 7 + 3 ≤ 1000000 by decide), ?_⟩
    refine ⟨_, _, _, up_same, rfl, rfl, ?_⟩
    refine ⟨_, _, _, up_same, rfl, rfl, ?_⟩
    refine h _ up_same fun b nb hb => ?_
    have np' : b ≠ p := fun z => hb (by rw [z]; exact np)
    have nb : b ≠ w := fun z => nb (by rw [z]; exact List.mem_singleton.mpr rfl)
    rw [up_ne nb, up_ne np', up_ne np']
  | true, some (k + 1) =>
    refine ⟨_, _, _, hw, rfl, rfl, ?_⟩
    refine ⟨_, _, _, hw, rfl, rfl, ⟨_, _, rfl, rfl, ?_⟩⟩
    have e0 : (((k + 1 : Nat) : Int) == 0) = false := by simp; omega
    show gB eqD (.int ((k + 1 : Nat) : Int)) (.int 0) _
    rw [e_eq, e0]
    refine ⟨rfl, ?_⟩
    refine ⟨_, _, _, hw, rfl, rfl, ?_⟩
    refine ⟨_, _, _, hw, rfl, rfl, ⟨_, _, rfl, rfl, rfl, ?_⟩⟩
    refine ⟨_, _, _, hw, rfl, rfl, ⟨_, _, rfl, hw, (show 7 < 1000000 by decide), ?_⟩⟩
    have e1 : ((k + 1 : Nat) : Int) - 1 = (k : Nat) := by omega
    refine ⟨_, _, _, up_same, rfl, rfl, ?_⟩
    refine h _ ?_ (Frm.up (by simp))
    rw [up_same]
    show some (Cell.D ((wD ⟨use, size, hs, wt, w0, s, true, n, some k⟩ l q c).set 4 (.inr "left", .d (.int (((k + 1 : Nat) : Int) - 1))))) = _
    rw [e1]; rfl
theorem h__law_sector (h : F__law_sector C ms μ P PX) : ms.length = 2 ∧ m__law_sector (endsM P PX) (startM N__law_sector ms) μ := by
  obtain ⟨A, m, i, rfl, j, h⟩ := h
  refine ⟨rfl, ?_⟩
  have loop : ∀ (rest : List Wr) (d : List Int) (e1 e2 : Ent), P (.d (.list (iD (((lastW i rest).map (·.2)).getD d)))) μ →
      loopC (gmT [3, 4]) (xIf (mPT (dT (dOp (gB eqD) (dN 3) (dN 1)))) (xSet 2 (mP (dN 4))) xNx) ⟨fun ρ μ => xRet (mP (dN 2)) (endsM P PX) ρ μ, P, fun _ _ => False, fun _ _ => False, fun x _ μ => PX x μ⟩ A.q (m.wt.map pairL) (rest.map pairL) [.adr A.w, .dat (.int i), .dat (.list (iD d)), e1, e2] μ := by
    intro rest
    induction rest with
    | nil => intro d e1 e2 hp; exact ⟨j.q, hp⟩
    | cons y rest ih =>
      intro d e1 e2 hp
      have el : lastW i (y :: rest) = (lastW i rest).or (if y.1 = i then some y else none) := by
        have := lastW_app i [y] rest
        rw [List.singleton_append] at this
        rw [this]
        unfold lastW
        rw [List.reverse_singleton, List.find?_cons]
        by_cases e : y.1 = i
        · rw [if_pos e, decide_eq_true e]
        · rw [if_neg e, decide_eq_false e]; rfl
      rw [el] at hp
      refine ⟨j.q, rfl, ?_⟩
      refine if_eq rfl rfl (fun e => ?_) (fun e => ?_)
      · rw [if_pos e] at hp
        refine ih y.2 _ _ ?_
        cases hl : lastW i rest with
        | some x => rw [hl] at hp; exact hp
        | none => rw [hl] at hp; exact hp
      · rw [if_neg e, Option.or_none] at hp
        exact ih d _ _ hp
  have start : ∀ d : List Int, d = ((lastW i m.hs).map (·.2)).getD (List.replicate 256 0) → xSeq (xForC (mGet (mN 0) (mP (dC (.str (Str.ofString "waiting"))))) (gmT [3, 4]) (xIf (mPT (dT (dOp (gB eqD) (dN 3) (dN 1)))) (xSet 2 (mP (dN 4))) xNx))
    (xRet (mP (dN 2))) (endsM P PX) [.adr A.w, .dat (.int i), .dat (.list (iD d)), .un, .un] μ := by
    intro d hd
    refine ⟨_, _, _, j.wo, rfl, rfl, ?_⟩
    refine ⟨_, j.q, loop m.wt d .un .un ?_⟩
    have e : ((lastW i m.wt).map (·.2)).getD d = m.at i := by
      unfold DM.at
      rw [lastW_app, hd]
      cases hl : lastW i m.wt with
      | some x => rfl
      | none =>
        rw [Option.none_or]
        cases lastW i m.hs <;> rfl
    rw [e]; exact h
  refine ⟨_, _, _, j.wo, rfl, rfl, ⟨_, j.l⟩, ?_⟩
  refine ⟨⟨by decide, by decide⟩, ?_⟩
  refine ⟨_, .inl i, j.l, rfl, ?_⟩
  rw [valM_all]
  cases hl : lastW i m.hs with
  | some x => exact start x.2 (by rw [hl]; rfl)
  | none =>
    show xSeq _ _ _ [.adr A.w, .dat (.int i), .dat (.list ((List.replicate (256 : Int).toNat [PyData.int 0]).flatten)), .un, .un] μ
    rw [zeros256]
    exact start _ (by rw [hl]; rfl)
end
end Z1

set_option Elab.async false
set_option linter.all false
set_option maxRecDepth 100000
set_option maxHeartbeats 1000000
namespace Z1
open PySem PySem.Spec PyProof.Rows L2 Z M
section
variable {C : Addr} {ms : List MV} {μ : Mu} {P : MV → Mu → Prop} {PX : Str → Mu → Prop}
theorem len_I (cs : List Int) : (iD cs).length = cs.length := by simp [iD]
theorem okS_I (n : Nat) (cs : List Int) (h : cs.length ≤ 100000) : okS (n + 1) (.list (iD cs)) = true := by
  rw [okS, Bool.and_eq_true]
  refine ⟨decide_eq_true (by rw [len_I]; exact h), List.all_eq_true.mpr fun x hx => ?_⟩
  unfold iD at hx
  obtain ⟨c, _, rfl⟩ := List.mem_map.mp hx
  cases n <;> rfl
theorem comp_first {ρ : En} {μ : Mu} {p : Addr} {all : List MV} (hp : μ p = some (.L all)) (hρ : 8 < ρ.length) (R : List MV → Mu → Prop) : ∀ (ws : List Wr) (acc : List Int), acc.length + ws.length < 1000000 → R ((iD (acc ++ ws.map (·.1))).map MV.d) μ →
    compC ρ 7 8 (mP (dN 7)) p all (ws.map pairL) ((iD acc).map MV.d) μ R := by
  intro ws
  induction ws with
  | nil => intro acc _ hR; rw [List.map_nil, List.append_nil] at hR; exact ⟨hp, hR⟩
  | cons x ws ih =>
    intro acc hl hR
    refine ⟨hp, .int x.1, .list (iD x.2), rfl, ?_⟩
    have e7 : ((((ρ.set 8 .un).set 7 .un).set 7 (.dat (.int x.1))).set 8 (.dat (.list (iD x.2))))[7]? = some (.dat (.int x.1)) := by
      rw [List.getElem?_set_ne (by decide), List.getElem?_set_self (by simp; omega)]
    unfold mP dN
    rw [e7]
    have e : (iD acc).map MV.d ++ [MV.d (.int x.1)] = (iD (acc ++ [x.1])).map MV.d := by unfold iD; simp
    simp only [List.length_cons] at hl
    refine ⟨by rw [List.length_map, len_I]; omega, ?_⟩
    rw [e]
    refine ih (acc ++ [x.1]) (by simp; omega) ?_
    rw [List.append_assoc]; exact hR
theorem loop_right {A : Ad} {m : DM} (t d : DD) (ok : ∀ x ∈ m.hs ++ m.wt, x.2.length = 256) (h : ∀ μ2, J C μ2 A m → P (.d (.bool true)) μ2) : ∀ (is : List Int) (μ1 : Mu) (e5 e6 e7 e8 : Ent), J C μ1 A m →
    loopM (gmN 5) (xSeq (xSet 6 (mMth C "read" (F_Disk_read C) (mN 2) (mCons (mP (dN 5)) mNil)))
    (xSeq (xIf (mNot (mT (mCall (fK F__law_same) (mCons (mN 6) (mCons (mCall (F__law_sector C) (mCons (mN 1) (mCons (mP (dN 5)) mNil))) mNil))))) (xRet (mP (dC (.bool false)))) xNx)
    (xPutL (mN 6) (mP (dC (.int 5))) (mP (dC (.int 400)))))) ⟨fun ρ μ => xRet (mP (dC (.bool true))) (endsM P PX) ρ μ, P, fun _ _ => False, fun _ _ => False, fun x _ μ => PX x μ⟩ (iD is) [.adr A.a, .adr A.w, .adr A.p, .dat t, .dat d, e5, e6, e7, e8] μ1 := by
  intro is
  induction is with
  | nil => intro μ1 e5 e6 e7 e8 j; exact h μ1 j
  | cons i is ih =>
    intro μ1 e5 e6 e7 e8 j
    refine ⟨⟨_, j.dk.o, rfl⟩, A.p, A.ar, A.wa, m, i, rfl, j.dk, fun q hq => ?_⟩
    refine ⟨A, m, i, rfl, j.of (Frm0.new hq), ?_⟩
    refine ⟨_, see_2 (see_a up_same) rfl, rfl, okS_I 1 _ (by rw [at_len ok]; decide), ⟨rfl, ?_⟩⟩
    refine ⟨_, 5, up_same, ?_, ?_⟩
    · rw [List.length_map, len_I, at_len ok]; rfl
    · exact ih _ _ _ _ _ (j.of (Frm0.new2 hq))
theorem h__law_is_right (h : F__law_is_right C ms μ P PX) : ms.length = 3 ∧ m__law_is_right C F__law_same (F__law_sector C) (F_Disk_read C) F__law_next (FG0 C fun m => .int m.n) (FG0 C fun m => .bool m.on) (FG0 C fun m => .tuple [.int m.w, .int m.s]) (FG0 C fun m => .int (m.wt.length : Nat)) (FG0 C fun m => .int m.size) (endsM P PX) (startM N__law_is_right ms) μ := by
  obtain ⟨A, m, rfl, j, hl, h⟩ := h
  refine ⟨rfl, ?_⟩
  have hw : m.wt.length ≤ 100000 := by omega
  refine ⟨⟨_, j.dk.o, rfl⟩, A.p, A.ar, A.wa, m, rfl, j.dk, hw, ?_⟩
  refine ⟨⟨_, j.dk.o, rfl⟩, A.p, A.ar, A.wa, m, rfl, j.dk, hw, ?_⟩
  refine ⟨⟨_, j.dk.o, rfl⟩, A.p, A.ar, A.wa, m, rfl, j.dk, hw, ?_⟩
  refine ⟨⟨_, j.dk.o, rfl⟩, A.p, A.ar, A.wa, m, rfl, j.dk, hw, ?_⟩
  refine ⟨⟨_, j.dk.o, rfl⟩, A.p, A.ar, A.wa, m, rfl, j.dk, hw, ?_⟩
  refine ⟨_, rfl, ?_⟩
  refine ⟨_, _, _, j.wo, rfl, rfl, ?_⟩
  refine ⟨_, _, _, j.wo, rfl, rfl, ?_⟩
  refine ⟨_, see_1 (see_a (ds := m.wt.map pairDL) (by rw [j.q, map_pairL])), ⟨rfl, ?_⟩⟩
  refine ⟨_, _, _, j.wo, rfl, rfl, ?_⟩
  refine ⟨A.c, [.int m.w, .int m.s], rfl, j.c, ?_⟩
  refine ⟨_, _, _, j.wo, rfl, rfl, ?_⟩
  refine ⟨_, _, _, j.wo, rfl, rfl, ?_⟩
  refine ⟨_, rfl, ?_⟩
  refine ⟨?_, ?_, ?_⟩
  · show PyData.list [.int m.size, .int (m.wt.length : Nat), .tuple [.int m.w, .int m.s], .bool m.on, .int m.n] = .list [.int m.size, .int ((m.wt.map pairDL).length : Nat), .tuple [.int m.w, .int m.s], .bool m.on, .int m.n]
    rw [List.length_map]
  · show okS 2 (PyData.list [.int m.size, .int ((m.wt.map pairDL).length : Nat), .tuple [.int m.w, .int m.s], .bool m.on, .int m.n]) = true
    rfl
  · have rest : ∀ t d : DD, xSeq (xForI (iM (mOp gAdd (mFz (mLcC (mGet (mN 1) (mP (dC (.str (Str.ofString "waiting"))))) 7 8 (mP (dN 7)))) (mLstD (mCons (mCall (fS F__law_next) (mCons (mN 0) (mCons (mGet (mN 1) (mP (dC (.str (Str.ofString "size"))))) mNil))) (mCons (mP (dC (.int 0))) (mCons (mP (dC (.int 1))) mNil)))))) (gmN 5) (xSeq (xSet 6 (mMth C "read" (F_Disk_read C) (mN 2) (mCons (mP (dN 5)) mNil)))
      (xSeq (xIf (mNot (mT (mCall (fK F__law_same) (mCons (mN 6) (mCons (mCall (F__law_sector C) (mCons (mN 1) (mCons (mP (dN 5)) mNil))) mNil))))) (xRet (mP (dC (.bool false)))) xNx)
      (xPutL (mN 6) (mP (dC (.int 5))) (mP (dC (.int 400)))))))
      (xRet (mP (dC (.bool true)))) (endsM P PX) [.adr A.a, .adr A.w, .adr A.p, .dat t, .dat d, .un, .un, .un, .un] μ := by
      intro t d
      refine ⟨_, _, _, j.wo, rfl, rfl, ?_⟩
      refine ⟨_, j.q, ?_⟩
      refine comp_first (ρ := [.adr A.a, .adr A.w, .adr A.p, .dat t, .dat d, .un, .un, .un, .un]) j.q (show 8 < 9 by decide) _ m.wt [] (by simp; omega) fun q hq => ?_
      refine ⟨_, up_same, ?_⟩
      rw [dn_up hq]
      refine ⟨_, _, _, j.wo, rfl, rfl, ?_⟩
      obtain ⟨ns, hs⟩ := j.st
      refine ⟨A.a, ns, [.int m.size], rfl, hs, ⟨by have := j.sz; omega, fun r hr1 hr2 => ?_⟩⟩
      refine ⟨_, rfl, ?_⟩
      refine ⟨?_, ?_⟩
      · rw [len_I]; simp; omega
      · have e : iD ([] ++ m.wt.map (·.1)) ++ [.int r, .int 0, .int 1] = iD (m.wt.map (·.1) ++ [r, 0, 1]) := by unfold iD; simp
        rw [e]
        exact loop_right _ _ j.ok h _ μ .un .un .un .un j
    refine ⟨_, _, _, j.wo, rfl, rfl, ?_⟩
    cases hon : m.on with
    | true =>
      exact rest _ _
    | false =>
      refine ⟨_, _, j.dk.o, rfl, ?_⟩
      rw [j.use.1]
      refine ⟨_, _, rfl, rfl, ⟨rfl, ?_⟩⟩
      exact rest _ _
end
end Z1

set_option Elab.async false
set_option linter.all false
set_option maxRecDepth 100000
set_option maxHeartbeats 1000000
namespace M
open PySem PySem.Spec PyProof.Rows L2 Z
theorem Frm.get {μ μ2 : Mu} {S : List Addr} {b : Addr} {c : Cell} (f : Frm μ μ2 S) (n : b ∉ S) (h : μ b = some c) : μ2 b = some c := (f b n (by rw [h]; exact fun z => nomatch z)).trans h
theorem nin1 {b x : Addr} (h : b ≠ x) : b ∉ [x] := by simp [h]
theorem nin2 {b x y : Addr} (h : b ≠ x) (k : b ≠ y) : b ∉ [x, y] := by simp [h, k]
structure JN (A : Ad) : Prop where
  aw : A.a ≠ A.w
  ap : A.a ≠ A.p
  al : A.a ≠ A.l
  aq : A.a ≠ A.q
  ac : A.a ≠ A.c
  ar : A.a ≠ A.ar
  ax : A.a ≠ A.wa
  wp : A.w ≠ A.p
  wl : A.w ≠ A.l
  wq : A.w ≠ A.q
  wc : A.w ≠ A.c
  wr : A.w ≠ A.ar
  wx : A.w ≠ A.wa
  pl : A.p ≠ A.l
  pq : A.p ≠ A.q
  pc : A.p ≠ A.c
  pr : A.p ≠ A.ar
  px : A.p ≠ A.wa
  lq : A.l ≠ A.q
  lc : A.l ≠ A.c
  lr : A.l ≠ A.ar
  lx : A.l ≠ A.wa
  qc : A.q ≠ A.c
  qr : A.q ≠ A.ar
  qx : A.q ≠ A.wa
  cr : A.c ≠ A.ar
  cx : A.c ≠ A.wa
  rx : A.ar ≠ A.wa
theorem J.ne {C : Addr} {μ : Mu} {A : Ad} {m : DM} (j : J C μ A m) : JN A := by
  obtain ⟨ns, hs⟩ := j.st
  exact ⟨ne_L hs j.wo (fun z => nomatch z), ne_L hs j.dk.o (fun z => nomatch z), ne_L hs j.l (fun z => nomatch z), ne_L hs j.q (fun z => nomatch z), ne_L hs j.c (fun z => nomatch z), ne_L hs j.dk.a (fun z => nomatch z), ne_L hs j.dk.w (fun z => nomatch z),
    ne_L j.wo j.dk.o (fun z => nomatch z), j.wl, ne_L j.wo j.q (fun z => nomatch z), ne_L j.wo j.c (fun z => nomatch z), j.wr, ne_L j.wo j.dk.w (fun z => nomatch z),
    ne_L j.dk.o j.l (fun z => nomatch z), ne_L j.dk.o j.q (fun z => nomatch z), ne_L j.dk.o j.c (fun z => nomatch z), ne_L j.dk.o j.dk.a (fun z => nomatch z), ne_L j.dk.o j.dk.w (fun z => nomatch z),
    ne_L j.l j.q (fun z => nomatch z), ne_L j.l j.c (fun z => nomatch z), j.lr, ne_L j.l j.dk.w (fun z => nomatch z), j.qc, ne_L j.q j.dk.a (fun z => nomatch z), j.qa, ne_L j.c j.dk.a (fun z => nomatch z), j.ca, ne_L j.dk.a j.dk.w (fun z => nomatch z)⟩
end M
namespace Z1
open PySem PySem.Spec PyProof.Rows L2 Z M
section
variable {C : Addr} {ms : List MV} {μ : Mu} {P : MV → Mu → Prop} {PX : Str → Mu → Prop}
theorem upto_I (n : Int) : upto n = iD ((List.range n.toNat).map fun i => ((i : Nat) : Int)) := by unfold upto iD; rw [List.map_map]; rfl
theorem comp_map {ρ : En} {μ : Mu} {j : Nat} {te : ME} (g : Int → Int) (R : List MV → Mu → Prop) : ∀ (is acc : List Int), acc.length + is.length < 1000000 → (∀ i ∈ is, ∀ P : MV → Mu → Prop, P (.d (.int (g i))) μ → te (ρ.set j (.dat (.int i))) μ P noPX) → R ((iD (acc ++ is.map g)).map MV.d) μ →
    compM ρ j mYes te (iD is) ((iD acc).map MV.d) μ R := by
  intro is
  induction is with
  | nil => intro acc _ _ hR; rw [List.map_nil, List.append_nil] at hR; exact hR
  | cons i is ih =>
    intro acc hl ht hR
    simp only [List.length_cons] at hl
    refine ht i (List.mem_cons_self ..) _ ⟨by rw [List.length_map, len_I]; omega, ?_⟩
    have e : (iD acc).map MV.d ++ [MV.d (.int (g i))] = (iD (acc ++ [g i])).map MV.d := by unfold iD; simp
    rw [e]
    exact ih (acc ++ [g i]) (by simp; omega) (fun k hk => ht k (List.mem_cons_of_mem _ hk)) (by rw [List.append_assoc]; exact hR)
theorem neD_self (d : DD) (h : d.depth ≤ 60) (hp : d.plain = true) (P : DD → Prop) : gB neD d d P = P (.bool false) := by
  have e : neD d d = some false := by
    unfold neD
    rw [if_pos (by rw [Nat.min_self]; exact h), SeqAt.eqv_refl_plain d hp]; rfl
  unfold gB
  rw [e]
theorem depth_I (cs : List Int) : (PyData.list (iD cs)).depth ≤ 60 ∧ (PyData.list (iD cs)).plain = true := by
  have h : PyData.depthAll (iD cs) = 0 ∧ PyData.plainAll (iD cs) = true := by
    induction cs with
    | nil => exact ⟨rfl, rfl⟩
    | cons c cs ih =>
      refine ⟨?_, ?_⟩
      · show max 0 (PyData.depthAll (iD cs)) = 0
        rw [ih.1]; rfl
      · show (true && PyData.plainAll (iD cs)) = true
        rw [ih.2]; rfl
  refine ⟨?_, ?_⟩
  · show PyData.depthAll (iD cs) + 1 ≤ 60
    rw [h.1]; decide
  · rw [PyData.plain]; exact h.2
theorem ct_self (x : Str) : ctOne x x = some true := by unfold ctOne; rw [if_pos rfl]
theorem at0_I (c : Int) (cs : List Int) : atI ((iD (c :: cs)).map MV.d) 0 = some (.d (.int c)) := by
  unfold atI ixN
  rw [if_pos (by decide), if_pos (by simp [iD])]; rfl
theorem op_use {m : DM} (h : m.use = false ∧ (m.on = false → m.left = none)) : m.op.use = false ∧ (m.op.on = false → m.op.left = none) := by
  unfold DM.op
  split
  · rename_i ho
    split
    · exact ⟨rfl, fun _ => rfl⟩
    · exact ⟨h.1, fun z => by rw [show m.on = false from z] at ho; cases ho⟩
    · exact h
  · exact h
def datW (st : Int) : List Int := ((List.range 256).map fun i => ((i : Nat) : Int)).map fun k => (st + 7 * k) % 256
theorem datW_len (st : Int) : (datW st).length = 256 := by unfold datW; rw [List.length_map, List.length_map, List.length_range]
theorem gIx_list (ds : List DD) (k : Int) (P : DD → Prop) (d : DD) (h : atI ds k = some d) : gIx (.list ds) (.int k) P = P d := by
  show (match atI ds k with
    | some d => P d
    | none => False) = _
  rw [h]
theorem h__law_write (h : FDeed C ms μ P PX) : ms.length = 3 ∧ m__law_write C (ctOne "PowerOff") (F_Disk_write C) F__law_operate F__law_next (endsM P PX) (startM N__law_write ms) μ := by
  obtain ⟨A, m, rfl, j, hl, h⟩ := h
  refine ⟨rfl, ?_⟩
  obtain ⟨ns, hs⟩ := j.st
  have N := j.ne
  refine ⟨_, _, _, j.wo, rfl, rfl, ?_⟩
  refine ⟨_, _, _, j.wo, rfl, rfl, ?_⟩
  refine ⟨A.a, ns, [.int m.size], rfl, hs, ⟨by have := j.sz; omega, fun r hr1 hr2 => ?_⟩⟩
  refine ⟨_, rfl, ?_⟩
  refine ⟨A.a, ns, hs, rfl, ⟨by decide, fun k k1 k2 => ?_⟩⟩
  obtain ⟨i, hi⟩ : ∃ i : Int, atI [PyData.int 0, .int 1, .int (m.size - 1), .int r] k = some (.int i) := by
    have : k = 0 ∨ k = 1 ∨ k = 2 ∨ k = 3 := by omega
    rcases this with rfl | rfl | rfl | rfl
    · exact ⟨_, rfl⟩
    · exact ⟨_, rfl⟩
    · exact ⟨_, rfl⟩
    · exact ⟨_, rfl⟩
  show gIx (.list [PyData.int 0, .int 1, .int (m.size - 1), .int r]) (.int k) _
  rw [gIx_list _ _ _ _ hi]
  refine ⟨A.a, ns, hs, rfl, ⟨by decide, fun st s1 s2 => ?_⟩⟩
  refine ⟨⟨by decide, by decide⟩, ?_⟩
  rw [upto_I]
  refine comp_map (fun k => (st + 7 * k) % 256) _ _ [] (by simp) (fun i hi P hP => ?_) fun q hq => ?_
  · exact ⟨.inl ⟨by decide, by decide⟩, (show (0 : Int) < 256 by decide), hP⟩
  rw [List.nil_append]
  show ∃ ds, _ ∧ _
  refine ⟨iD (datW st), up_same, ?_⟩
  rw [dn_up hq]
  have hd := datW_len st
  generalize datW st = dat at hd ⊢
  refine ⟨A.w, m, A.l, A.q, A.c, rfl, j.wo, fun μ2 w2 f2 => ?_⟩
  refine ⟨_, iD dat, rfl, .inl rfl, fun x hx => ?_⟩
  have xk : ∀ {b : Addr} {c : Cell}, μ2 b = some c → M.up μ2 x (.L ((iD dat).map MV.d)) b = some c := fun e => (up_ne (ne_0 e hx)).trans e
  have g2 : ∀ {b : Addr} {c : Cell}, b ≠ A.w → μ b = some c → M.up μ2 x (.L ((iD dat).map MV.d)) b = some c := fun n e => xk (f2.get (nin1 n) e)
  have d3 : DkAt C (M.up μ2 x (.L ((iD dat).map MV.d))) A.p A.ar A.wa m := ⟨g2 N.wp.symm j.dk.o, g2 N.wr.symm j.dk.a, g2 N.wx.symm j.dk.w⟩
  have xw : x ≠ A.wa := (ne_0 (f2.get (nin1 N.wx.symm) j.dk.w) hx).symm
  obtain ⟨o1, o2, o3, o4, o5⟩ := op_hs (m := m)
  refine ⟨⟨_, d3.o, rfl⟩, A.p, A.ar, A.wa, m, i, x, dat, rfl, d3, up_same, by omega, xw, ?_⟩
  by_cases ho : m.opOk = true
  · rw [if_pos ho]
    intro μ4 k4 f4
    have xp : x ≠ A.p := (ne_0 (f2.get (nin1 N.wp.symm) j.dk.o) hx).symm
    have x4 : μ4 x = some (.L ((iD dat).map MV.d)) := f4.get (nin2 xp xw) up_same
    have w4 : μ4 A.w = some (.D (wD m.op A.l A.q A.c)) := f4.get (nin2 N.wp N.wx) (xk w2)
    refine ⟨_, _, rfl, rfl, ⟨rfl, ?_⟩⟩
    refine ⟨_, _, see_a x4, rfl, ?_⟩
    rw [neD_self _ (depth_I dat).1 (depth_I dat).2]
    refine ⟨rfl, ?_⟩
    obtain ⟨c0, cs, rfl⟩ : ∃ c0 cs, dat = c0 :: cs := by
      cases dat with
      | nil => cases hd
      | cons c0 cs => exact ⟨c0, cs, rfl⟩
    refine ⟨_, _, x4, at0_I c0 cs, ?_⟩
    refine ⟨(show (0 : Int) < 256 by decide), ?_⟩
    refine ⟨_, 0, x4, by rw [List.length_map, len_I, hd]; rfl, ?_⟩
    have xk5 : ∀ {b : Addr} {c : Cell} {y : Cell}, b ≠ x → μ4 b = some c → M.up μ4 x y b = some c := fun n e => (up_ne n).trans e
    have nx : ∀ {b : Addr} {c : Cell}, b ≠ A.w → μ b = some c → b ≠ x := fun n e => ne_0 (f2.get (nin1 n) e) hx
    have xw' : A.w ≠ x := ne_0 w2 hx
    have g4 : ∀ {b : Addr} {c : Cell}, b ≠ A.w → b ≠ A.p → b ≠ A.wa → μ b = some c → μ4 b = some c := fun n n2 n3 e => f4.get (nin2 n2 n3) (g2 n e)
    refine ⟨_, _, _, xk5 xw' w4, rfl, rfl, ⟨_, xk5 (nx N.wq.symm j.q) (g4 N.wq.symm N.pq.symm N.qx j.q)⟩, ?_⟩
    refine ⟨_, xk5 (nx N.wq.symm j.q) (g4 N.wq.symm N.pq.symm N.qx j.q), by rw [List.length_map]; omega, ?_⟩
    refine ⟨_, _, _, (up_ne N.wq).trans (xk5 xw' w4), rfl, rfl, ?_⟩
    have c6 : ∀ {y z : Cell}, M.up (M.up μ4 x y) A.q z A.c = some (.L [.d (.int m.w), .d (.int m.s)]) := fun {y z} => (up_ne N.qc.symm).trans (xk5 (nx N.wc.symm j.c) (g4 N.wc.symm N.pc.symm N.cx j.c))
    refine ⟨_, m.w, c6, ⟨by decide, by decide⟩, rfl, ?_⟩
    refine ⟨1, _, 0, rfl, c6, rfl, ?_⟩
    show P (.d (.bool m.opOk)) _
    rw [ho]
    have u3 : ∀ {b : Addr} {c : Cell} {y z v : Cell}, b ≠ A.w → b ≠ A.q → b ≠ A.c → μ b = some c → μ4 b = some c → M.up (M.up (M.up μ4 x y) A.q z) A.c v b = some c := fun n n2 n3 e e4 => (up_ne n3).trans ((up_ne n2).trans (xk5 (nx n e) e4))
    have u4 : ∀ {b : Addr} {c0 c : Cell} {y z v : Cell}, b ≠ A.w → b ≠ A.q → b ≠ A.c → μ b = some c0 → μ4 b = some c → M.up (M.up (M.up μ4 x y) A.q z) A.c v b = some c := fun n n2 n3 e e4 => (up_ne n3).trans ((up_ne n2).trans (xk5 (nx n e) e4))
    refine h _ A { m.op with wt := m.wt ++ [(i, c0 :: cs)], w := m.w + 1 } ⟨⟨ns, ?_⟩, ⟨?_, ?_, ?_⟩, ?_, ?_, ?_, ?_, j.wl, j.wr, j.lr, j.qa, j.qc, j.ca, op_use j.use, ?_, by show 100 ≤ m.op.size ∧ m.op.size ≤ 600; rw [o5]; exact j.sz⟩ rfl rfl rfl o5 (by show m.op.hs.length + (m.wt ++ [(i, c0 :: cs)]).length ≤ _; rw [o1]; simp; omega)
    · exact u3 N.aw N.aq N.ac hs (g4 N.aw N.ap N.ax hs)
    · exact u4 N.wp.symm N.pq N.pc j.dk.o k4.o
    · exact u4 N.wr.symm N.qr.symm N.cr.symm j.dk.a k4.a
    · exact u4 N.wx.symm N.qx.symm N.cx.symm j.dk.w k4.w
    · refine (up_ne N.wc).trans ((up_ne N.wq).trans (xk5 xw' w4))
    · refine u4 N.wl.symm N.lq N.lc j.l ?_
      show μ4 A.l = some (.D (putW lstV m.op.hs))
      rw [o1]; exact g4 N.wl.symm N.pl.symm N.lx j.l
    · refine (up_ne N.qc).trans (up_same.trans ?_)
      show some (Cell.L (m.wt.map pairL ++ [pairL (i, c0 :: cs)])) = some (.L ((m.wt ++ [(i, c0 :: cs)]).map pairL))
      rw [List.map_append]; rfl
    · refine up_same.trans ?_
      show some (Cell.L [.d (.int (m.w + 1)), .d (.int m.s)]) = some (.L [.d (.int (m.w + 1)), .d (.int m.op.s)])
      rw [o4]
    · show ∀ z ∈ m.op.hs ++ (m.wt ++ [(i, c0 :: cs)]), z.2.length = 256
      rw [o1, ← List.append_assoc]
      intro z hz
      rcases List.mem_append.mp hz with hz | hz
      · exact j.ok z hz
      · rw [List.mem_singleton.mp hz]; exact hd
  · rw [if_neg ho]
    intro μ4 k4 f4
    refine ⟨true, ct_self _, fun _ => ?_, fun z => nomatch z⟩
    have e : m.opOk = false := by simpa using ho
    show P (.d (.bool (!m.opOk))) μ4
    rw [e]
    have g4 : ∀ {b : Addr} {c : Cell}, b ≠ A.w → b ≠ A.p → μ b = some c → μ4 b = some c := fun n n2 e => f4.get (nin1 n2) (g2 n e)
    exact h μ4 A m.op ⟨⟨ns, g4 N.aw N.ap hs⟩, k4, f4.get (nin1 N.wp) (xk w2), by rw [o1]; exact g4 N.wl.symm N.pl.symm j.l, by rw [o2]; exact g4 N.wq.symm N.pq.symm j.q, by rw [o3, o4]; exact g4 N.wc.symm N.pc.symm j.c, j.wl, j.wr, j.lr, j.qa, j.qc, j.ca, op_use j.use, by rw [o1, o2]; exact j.ok, by rw [o5]; exact j.sz⟩ rfl rfl rfl o5 (by rw [o1, o2]; omega)
end
end Z1

set_option Elab.async false
set_option linter.all false
set_option maxRecDepth 100000
set_option maxHeartbeats 1000000
namespace Z1
open PySem PySem.Spec PyProof.Rows L2 Z M
section
variable {C : Addr} {ms : List MV} {μ : Mu} {P : MV → Mu → Prop} {PX : Str → Mu → Prop}
theorem fresh_back {μ μ2 : Mu} {S : List Addr} {b : Addr} (f : Frm μ μ2 S) (n : b ∉ S) (h : μ2 b = none) : μ b = none := by
  cases e : μ b with
  | none => rfl
  | some c => rw [f.get n e] at h; cases h
/-- `lasting` takes what waits -/
theorem loop_last {A : Ad} {m : DM} {o : DD} {d : DD} {hs : List Wr} (wl : A.w ≠ A.l) (ql : A.q ≠ A.l) (hl : hs.length + m.wt.length ≤ 100000) (X : En → Mu → Prop) (μ0 : Mu) (Q : MV → Mu → Prop) (QX : Str → Mu → Prop) (ww : List (Key × MV)) (hww : valM ww (.inr "lasting") = some (.a A.l))
    (hX : ∀ μ2 e4 e5, μ2 A.w = some (.D ww) → μ2 A.l = some (.D (putW lstV (hs ++ m.wt))) → μ2 A.q = some (.L (m.wt.map pairL)) → Frm μ0 μ2 [A.l] → X [.adr A.w, .adr A.p, .dat o, .dat d, e4, e5] μ2) : ∀ (done rest : List Wr) (μ1 : Mu) (e4 e5 : Ent), m.wt = done ++ rest → μ1 A.w = some (.D ww) → μ1 A.l = some (.D (putW lstV (hs ++ done))) → μ1 A.q = some (.L (m.wt.map pairL)) → Frm μ0 μ1 [A.l] →
    loopC (gmT [4, 5]) (xPutD (mGet (mN 0) (mP (dC (.str (Str.ofString "lasting"))))) (mP (dN 4)) (mP (dN 5))) ⟨X, Q, fun _ _ => False, fun _ _ => False, fun x _ μ => QX x μ⟩ A.q (m.wt.map pairL) (rest.map pairL) [.adr A.w, .adr A.p, .dat o, .dat d, e4, e5] μ1 := by
  intro done rest
  induction rest generalizing done with
  | nil =>
    intro μ1 e4 e5 hw h1 h2 h3 h4
    rw [List.append_nil] at hw
    exact ⟨h3, hX μ1 e4 e5 h1 (by rw [hw]; exact h2) h3 h4⟩
  | cons y rest ih =>
    intro μ1 e4 e5 hw h1 h2 h3 h4
    refine ⟨h3, rfl, ?_⟩
    refine ⟨_, _, _, h1, rfl, hww, ?_⟩
    have hl2 : (putW lstV (hs ++ done)).length < 1000000 := by
      have := putW_len lstV (hs ++ done)
      have e : m.wt.length = done.length + (rest.length + 1) := by rw [hw, List.length_append, List.length_cons]
      rw [List.length_append] at this
      omega
    refine ⟨_, .inl y.1, h2, rfl, hl2, ?_⟩
    refine ih (done ++ [y]) _ _ _ (by rw [hw, List.append_assoc]; rfl) (by rw [up_ne wl]; exact h1) ?_ (by rw [up_ne ql]; exact h3) (h4.trans (Frm.up (by simp)))
    rw [up_same, ← List.append_assoc, putW_snoc]; rfl
theorem h__law_sync (h : F__law_sync C ms μ P PX) : ms.length = 2 ∧ m__law_sync C (ctOne "PowerOff") (F_Disk_sync C) F__law_operate (endsM P PX) (startM N__law_sync ms) μ := by
  obtain ⟨A, m, rfl, j, hl, h⟩ := h
  refine ⟨rfl, ?_⟩
  obtain ⟨ns, hs⟩ := j.st
  have N := j.ne
  obtain ⟨o1, o2, o3, o4, o5⟩ := op_hs (m := m)
  refine ⟨A.w, m, A.l, A.q, A.c, rfl, j.wo, fun μ2 w2 f2 => ?_⟩
  have g2 : ∀ {b : Addr} {c : Cell}, b ≠ A.w → μ b = some c → μ2 b = some c := fun n e => f2.get (nin1 n) e
  have d2 : DkAt C μ2 A.p A.ar A.wa m := ⟨g2 N.wp.symm j.dk.o, g2 N.wr.symm j.dk.a, g2 N.wx.symm j.dk.w⟩
  refine ⟨⟨_, d2.o, rfl⟩, A.p, A.ar, A.wa, m, rfl, d2, by omega, ?_⟩
  by_cases ho : m.opOk = true
  · rw [if_pos ho]
    intro μ3 wa3 k3 f3 n3
    refine ⟨_, _, rfl, rfl, ⟨rfl, ?_⟩⟩
    have g3 : ∀ {b : Addr} {c : Cell}, b ≠ A.w → b ≠ A.p → b ≠ A.ar → μ b = some c → μ3 b = some c := fun n n2 n4 e => f3.get (nin2 n2 n4) (g2 n e)
    have w3 : μ3 A.w = some (.D (wD m.op A.l A.q A.c)) := f3.get (nin2 N.wp N.wr) w2
    refine ⟨_, _, _, w3, rfl, rfl, ?_⟩
    have q3 := g3 N.wq.symm N.pq.symm N.qr j.q
    refine ⟨_, q3, ?_⟩
    refine loop_last (A := A) (m := m) (hs := m.hs) N.wl N.lq.symm (by omega) _ μ3 _ _ _ rfl ?_ [] m.wt μ3 .un .un rfl w3 (by rw [List.append_nil]; exact g3 N.wl.symm N.pl.symm N.lr j.l) q3 Frm.rfl
    intro μ4 e4 e5 w4 l4 q4 f4
    intro q hq
    have qw : A.w ≠ q := ne_0 w4 hq
    refine ⟨_, .inr "waiting", (up_ne qw).trans w4, rfl, (show 7 < 1000000 by decide), ?_⟩
    refine ⟨_, _, _, up_same, rfl, rfl, ?_⟩
    have g4 : ∀ {b : Addr} {c : Cell}, b ≠ A.l → μ3 b = some c → M.up μ4 q (.L []) b = some c := fun n e => (up_ne (ne_0 (f4.get (nin1 n) e) hq)).trans (f4.get (nin1 n) e)
    have c4 := g4 N.lc.symm (g3 N.wc.symm N.pc.symm N.cr j.c)
    have c5 := (up_ne (c := Cell.D (wD { m.op with wt := [] } A.l q A.c)) N.wc.symm).trans c4
    refine ⟨_, m.s, c5, ⟨by decide, by decide⟩, rfl, ?_⟩
    refine ⟨1, _, 1, rfl, c5, rfl, ?_⟩
    show P (.d (.bool m.opOk)) _
    rw [ho]
    have k4 : ∀ {b : Addr} {c : Cell} {y z : Cell}, b ≠ A.l → b ≠ A.w → b ≠ A.c → μ3 b = some c → M.up (M.up (M.up μ4 q (.L [])) A.w y) A.c z b = some c := fun n n2 n4 e => (up_ne n4).trans ((up_ne n2).trans (g4 n e))
    have a3 : ∀ {b : Addr} {c : Cell}, b ≠ A.w → b ≠ A.p → b ≠ A.ar → μ b = some c → b ≠ wa3 := fun n n2 n4 e z => by
      have := g2 n e; rw [z, n3] at this; cases this
    have w3l : wa3 ≠ A.l := (a3 N.wl.symm N.pl.symm N.lr j.l).symm
    have w3w : wa3 ≠ A.w := fun z => by rw [z, w2] at n3; cases n3
    have w3c : wa3 ≠ A.c := (a3 N.wc.symm N.pc.symm N.cr j.c).symm
    have w3q : q ≠ wa3 := fun z => by
      have e := f4.get (nin1 w3l) k3.w
      rw [← z, hq] at e; cases e
    have ql : q ≠ A.l := (ne_0 l4 hq).symm
    have qc : q ≠ A.c := (ne_0 (f4.get (nin1 N.lc.symm) (g3 N.wc.symm N.pc.symm N.cr j.c)) hq).symm
    refine h _ ⟨A.a, A.w, A.p, A.l, q, A.c, A.ar, wa3⟩ { m.op.settle m.wt with s := m.s + 1 } ⟨⟨ns, ?_⟩, ⟨?_, ?_, ?_⟩, ?_, ?_, ?_, ?_, N.wl, N.wr, N.lr, w3q, qc, w3c.symm, op_use j.use, ?_, by show 100 ≤ m.op.size ∧ m.op.size ≤ 600; rw [o5]; exact j.sz⟩ rfl rfl rfl o5 (by show (m.op.hs ++ m.wt).length + 0 ≤ _; rw [o1, List.length_append]; omega)
    · exact k4 N.al N.aw N.ac (g3 N.aw N.ap N.ar hs)
    · exact k4 N.pl N.wp.symm N.pc k3.o
    · exact k4 N.lr.symm N.wr.symm N.cr.symm k3.a
    · exact k4 w3l w3w w3c k3.w
    · exact (up_ne N.wc).trans up_same
    · refine (up_ne N.lc).trans ((up_ne N.wl.symm).trans ((up_ne ql.symm).trans ?_))
      show μ4 A.l = some (.D (putW lstV (m.op.hs ++ m.wt)))
      rw [o1]; exact l4
    · exact (up_ne qc).trans ((up_ne qw.symm).trans up_same)
    · refine up_same.trans ?_
      show some (Cell.L [.d (.int m.w), .d (.int (m.s + 1))]) = some (.L [.d (.int m.op.w), .d (.int (m.s + 1))])
      rw [o3]
    · show ∀ z ∈ (m.op.hs ++ m.wt) ++ [], z.2.length = 256
      rw [o1, List.append_nil]; exact j.ok
  · rw [if_neg ho]
    intro μ4 k4 f4
    refine ⟨true, ct_self _, fun _ => ?_, fun z => nomatch z⟩
    have e : m.opOk = false := by simpa using ho
    show P (.d (.bool (!m.opOk))) μ4
    rw [e]
    have g4 : ∀ {b : Addr} {c : Cell}, b ≠ A.w → b ≠ A.p → μ b = some c → μ4 b = some c := fun n n2 e => f4.get (nin1 n2) (g2 n e)
    exact h μ4 A m.op ⟨⟨ns, g4 N.aw N.ap hs⟩, k4, f4.get (nin1 N.wp) w2, by rw [o1]; exact g4 N.wl.symm N.pl.symm j.l, by rw [o2]; exact g4 N.wq.symm N.pq.symm j.q, by rw [o3, o4]; exact g4 N.wc.symm N.pc.symm j.c, j.wl, j.wr, j.lr, j.qa, j.qc, j.ca, op_use j.use, by rw [o1, o2]; exact j.ok, by rw [o5]; exact j.sz⟩ rfl rfl rfl o5 (by rw [o1, o2]; omega)
theorem h__law_fail (h : FDeed C ms μ P PX) : ms.length = 3 ∧ m__law_fail C (ctOne "PowerOff") (F_Disk_fail_after C) F__law_next (endsM P PX) (startM N__law_fail ms) μ := by
  obtain ⟨A, m, rfl, j, hl, h⟩ := h
  refine ⟨rfl, ?_⟩
  obtain ⟨ns, hs⟩ := j.st
  have N := j.ne
  refine ⟨A.a, ns, hs, rfl, ⟨by decide, fun k k1 k2 => ?_⟩⟩
  obtain ⟨n, rfl⟩ : ∃ n : Nat, k = (n : Nat) := ⟨k.toNat, by omega⟩
  refine ⟨⟨_, j.dk.o, rfl⟩, A.p, A.ar, A.wa, m, n, rfl, j.dk, ?_⟩
  by_cases ho : m.on = true
  · rw [if_pos ho]
    intro μ2 k2 f2
    have g2 : ∀ {b : Addr} {c : Cell}, b ≠ A.p → μ b = some c → μ2 b = some c := fun n e => f2.get (nin1 n) e
    have w2 := g2 N.wp j.wo
    refine ⟨_, _, _, w2, rfl, rfl, ?_⟩
    rw [ho]
    refine ⟨_, _, w2, rfl, (show 7 < 1000000 by decide), ?_⟩
    have k3 : ∀ {b : Addr} {c : Cell} {y : Cell}, b ≠ A.p → b ≠ A.w → μ b = some c → M.up μ2 A.w y b = some c := fun n n2 e => (up_ne n2).trans (g2 n e)
    refine h _ A { m with left := some n } ⟨⟨ns, k3 N.ap N.aw hs⟩, ⟨(up_ne N.wp.symm).trans k2.o, (up_ne N.wr.symm).trans k2.a, (up_ne N.wx.symm).trans k2.w⟩, up_same, k3 N.pl.symm N.wl.symm j.l, k3 N.pq.symm N.wq.symm j.q, k3 N.pc.symm N.wc.symm j.c, j.wl, j.wr, j.lr, j.qa, j.qc, j.ca, ⟨j.use.1, fun z => by rw [show m.on = false from z] at ho; cases ho⟩, j.ok, j.sz⟩ rfl rfl rfl rfl (by show m.hs.length + m.wt.length ≤ _; omega)
  · rw [if_neg ho]
    refine ⟨true, ct_self _, fun _ => ?_, fun z => nomatch z⟩
    have e : m.on = false := by simpa using ho
    refine ⟨_, _, _, j.wo, rfl, rfl, ?_⟩
    show P (.d (.bool (!m.on))) μ
    rw [e]
    exact h μ A m j rfl rfl rfl rfl (by omega)
end
end Z1

set_option Elab.async false
set_option linter.all false
set_option maxRecDepth 100000
set_option maxHeartbeats 1000000
namespace Z1
open PySem PySem.Spec PyProof.Rows L2 Z M
section
variable {C : Addr} {ms : List MV} {μ : Mu} {P : MV → Mu → Prop} {PX : Str → Mu → Prop}
def bD (ks : List Bool) : List DD := ks.map PyData.bool
theorem bD_map (ks : List Bool) : (bD ks).map MV.d = ks.map fun b => .d (.bool b) := by unfold bD; rw [List.map_map]; rfl
theorem depth_B (ks : List Bool) : (PyData.list (bD ks)).depth ≤ 60 ∧ (PyData.list (bD ks)).plain = true := by
  have h : PyData.depthAll (bD ks) = 0 ∧ PyData.plainAll (bD ks) = true := by
    induction ks with
    | nil => exact ⟨rfl, rfl⟩
    | cons c cs ih =>
      refine ⟨?_, ?_⟩
      · show max 0 (PyData.depthAll (bD cs)) = 0
        rw [ih.1]; rfl
      · show (true && PyData.plainAll (bD cs)) = true
        rw [ih.2]; rfl
  refine ⟨?_, ?_⟩
  · show PyData.depthAll (bD ks) + 1 ≤ 60
    rw [h.1]; decide
  · rw [PyData.plain]; exact h.2
theorem comp_bool {ρ : En} {μ : Mu} {j : Nat} {te : ME} (R : List MV → Mu → Prop) (ht : ∀ x (P : MV → Mu → Prop), (∀ b, P (.d (.bool b)) μ) → te (ρ.set j (.dat x)) μ P noPX) (hR : ∀ ks : List Bool, R ((bD ks).map MV.d) μ) : ∀ (is : List DD) (acc : List Bool), acc.length + is.length < 1000000 → compM ρ j mYes te is ((bD acc).map MV.d) μ R := by
  intro is
  induction is with
  | nil => intro acc _; exact hR acc
  | cons i is ih =>
    intro acc hl
    simp only [List.length_cons] at hl
    refine ht i _ fun b => ⟨by rw [List.length_map]; unfold bD; rw [List.length_map]; omega, ?_⟩
    have e : (bD acc).map MV.d ++ [MV.d (.bool b)] = (bD (acc ++ [b])).map MV.d := by unfold bD; simp
    rw [e]
    exact ih (acc ++ [b]) (by simp; omega)
theorem keepW_take (ws : List Wr) (ks : List Bool) (k : Nat) (h1 : k < ws.length) (h2 : k < ks.length) : keepW (ws.take (k + 1)) (ks.take (k + 1)) = keepW (ws.take k) (ks.take k) ++ (if ks[k] = true then [ws[k]] else []) := by
  unfold keepW
  rw [← List.take_append_getElem h1, ← List.take_append_getElem h2, List.zip_append (by simp; omega), List.filter_append, List.map_append]
  congr 1
  cases h : ks[k] <;> simp [h]
theorem zip_take : ∀ (ws : List Wr) (ks : List Bool) (k : Nat), min ws.length ks.length ≤ k → (ws.take k).zip (ks.take k) = ws.zip ks
  | [], _, _, _ => by simp
  | _ :: _, [], _, _ => by simp
  | w :: ws, b :: ks, 0, h => by simp at h
  | w :: ws, b :: ks, k + 1, h => by
    rw [List.take_succ_cons, List.take_succ_cons, List.zip_cons_cons, List.zip_cons_cons, zip_take ws ks k (by simp at h; omega)]
theorem keepW_all (ws : List Wr) (ks : List Bool) (k : Nat) (h : k = min ws.length ks.length) : keepW (ws.take k) (ks.take k) = keepW ws ks := by
  unfold keepW
  rw [zip_take ws ks k (by omega)]
/-- `lasting` takes what was kept -/
theorem loop_kept {A : Ad} {m : DM} {ks : List Bool} {x : Addr} (wl : A.w ≠ A.l) (ql : A.q ≠ A.l) (hl : m.hs.length + m.wt.length ≤ 100000) (X : En → Mu → Prop) (μ0 : Mu) (Q : MV → Mu → Prop) (QX : Str → Mu → Prop) (ww : List (Key × MV)) (hww : valM ww (.inr "lasting") = some (.a A.l)) (hwq : valM ww (.inr "waiting") = some (.a A.q))
    (hX : ∀ μ2 e5, μ2 A.w = some (.D ww) → μ2 A.l = some (.D (putW lstV (m.hs ++ keepW m.wt ks))) → Frm μ0 μ2 [A.l] → X [.adr A.a, .adr A.w, .adr A.p, .dat (.list (bD ks)), .adr x, e5] μ2) (n : Int) (hn : n.toNat = min m.wt.length ks.length) : ∀ (r i : Nat) (μ1 : Mu) (e5 : Ent), n.toNat - i = r → i ≤ n.toNat → μ1 A.w = some (.D ww) → μ1 A.l = some (.D (putW lstV (m.hs ++ keepW (m.wt.take i) (ks.take i)))) → μ1 A.q = some (.L (m.wt.map pairL)) → Frm μ0 μ1 [A.l] →
    loopM (gmN 5) (xIf (mPT (dT (dOp gIx (dN 3) (dN 5)))) (xPutD (mGet (mN 1) (mP (dC (.str (Str.ofString "lasting"))))) (mOp gIx (mIx (mGet (mN 1) (mP (dC (.str (Str.ofString "waiting"))))) (mP (dN 5))) (mP (dC (.int 0)))) (mOp gIx (mIx (mGet (mN 1) (mP (dC (.str (Str.ofString "waiting"))))) (mP (dN 5))) (mP (dC (.int 1))))) xNx) ⟨X, Q, fun _ _ => False, fun _ _ => False, fun x _ μ => QX x μ⟩ ((upto n).drop i) [.adr A.a, .adr A.w, .adr A.p, .dat (.list (bD ks)), .adr x, e5] μ1 := by
  intro r
  induction r with
  | zero =>
    intro i μ1 e5 hr hi h1 h2 h3 h4
    rw [upto_end _ _ (by omega)]
    rw [keepW_all m.wt ks i (by omega)] at h2
    exact hX μ1 e5 h1 h2 h4
  | succ r ih =>
    intro i μ1 e5 hr hi h1 h2 h3 h4
    rw [upto_drop _ _ (by omega)]
    have i1 : i < m.wt.length := by omega
    have i2 : i < ks.length := by omega
    have ek := keepW_take m.wt ks i i1 i2
    show gIx (.list (bD ks)) (.int (i : Nat)) _
    rw [gIx_list _ _ _ (.bool ks[i]) (by rw [at_L (by unfold bD; rw [List.length_map]; exact i2)]; unfold bD; rw [List.getElem_map])]
    cases hb : ks[i] with
    | false =>
      rw [hb, if_neg Bool.false_ne_true, List.append_nil] at ek
      exact ih (i + 1) μ1 _ (by omega) (by omega) h1 (by rw [ek]; exact h2) h3 h4
    | true =>
      rw [hb, if_pos rfl] at ek
      have hat : atI (m.wt.map pairL) ((i : Nat) : Int) = some (pairL m.wt[i]) := by
        refine atI_nat ?_
        rw [List.getElem?_eq_getElem (by rw [List.length_map]; exact i1), List.getElem_map]
      refine ⟨_, _, _, h1, rfl, hwq, ?_⟩
      refine ⟨_, _, h3, hat, ?_⟩
      refine ⟨_, _, _, h1, rfl, hww, ?_⟩
      refine ⟨_, _, _, h1, rfl, hwq, ?_⟩
      refine ⟨_, _, h3, hat, ?_⟩
      have hl2 : (putW lstV (m.hs ++ keepW (m.wt.take i) (ks.take i))).length < 1000000 := by
        have a := putW_len lstV (m.hs ++ keepW (m.wt.take i) (ks.take i))
        have b := keepW_len (m.wt.take i) (ks.take i)
        have c : (m.wt.take i).length ≤ m.wt.length := by rw [List.length_take]; omega
        rw [List.length_append] at a
        omega
      refine ⟨_, .inl m.wt[i].1, h2, rfl, hl2, ?_⟩
      refine ih (i + 1) _ _ (by omega) (by omega) (by rw [up_ne wl]; exact h1) ?_ (by rw [up_ne ql]; exact h3) (h4.trans (Frm.up (by simp)))
      rw [up_same, ek, ← List.append_assoc, putW_snoc]; rfl
theorem kept_set (m : DM) (ks : List Bool) : ({ (if m.on = true then m.fail else m).settle (keepW m.wt ks) with on := true } : DM).hs = m.hs ++ keepW m.wt ks ∧ ({ (if m.on = true then m.fail else m).settle (keepW m.wt ks) with on := true } : DM).w = m.w ∧
    ({ (if m.on = true then m.fail else m).settle (keepW m.wt ks) with on := true } : DM).s = m.s ∧ ({ (if m.on = true then m.fail else m).settle (keepW m.wt ks) with on := true } : DM).size = m.size ∧ ((if m.on = true then m.fail else m).settle (keepW m.wt ks)).n = m.n + (if m.on = true then 1 else 0) := by
  cases h : m.on with
  | true => exact ⟨rfl, rfl, rfl, rfl, rfl⟩
  | false => exact ⟨rfl, rfl, rfl, rfl, (Int.add_zero _).symm⟩
theorem keepW_mem {x : Wr} {ws : List Wr} {ks : List Bool} (h : x ∈ keepW ws ks) : x ∈ ws := by
  unfold keepW at h
  obtain ⟨z, h1, rfl⟩ := List.mem_map.mp h
  exact (List.of_mem_zip (a := z.1) (b := z.2) (List.mem_filter.mp h1).1).1
theorem h__law_power (h : FDeed C ms μ P PX) : ms.length = 3 ∧ m__law_power C (F_Disk_power C) F__law_next (endsM P PX) (startM N__law_power ms) μ := by
  obtain ⟨A, m, rfl, j, hl, h⟩ := h
  refine ⟨rfl, ?_⟩
  obtain ⟨ns, hs⟩ := j.st
  have N := j.ne
  refine ⟨_, _, _, j.wo, rfl, rfl, ?_⟩
  refine ⟨_, see_1 (see_a (ds := m.wt.map pairDL) (by rw [j.q, map_pairL])), ⟨rfl, ?_⟩⟩
  refine ⟨A.a, ns, [.int (((m.wt.map pairDL).length : Nat) + 3)], rfl, hs, ⟨by rw [List.length_map]; omega, fun r r1 r2 => ?_⟩⟩
  rw [List.length_map] at r2
  refine ⟨⟨by omega, by omega⟩, ?_⟩
  refine comp_bool _ (fun x P hP => ?_) (fun ks => ?_) (upto r) [] (by simp [upto]; omega)
  · refine ⟨A.a, ns, hs, rfl, ⟨by decide, fun b b1 b2 => ?_⟩⟩
    exact hP (b == 1)
  intro q hq
  refine ⟨bD ks, up_same, ?_⟩
  rw [dn_up hq]
  refine ⟨_, bD ks, rfl, .inl rfl, fun x hx => ?_⟩
  have g2 : ∀ {b : Addr} {c : Cell}, μ b = some c → M.up μ x (.L ((bD ks).map MV.d)) b = some c := fun e => (up_ne (ne_0 e hx)).trans e
  have d2 : DkAt C (M.up μ x (.L ((bD ks).map MV.d))) A.p A.ar A.wa m := ⟨g2 j.dk.o, g2 j.dk.a, g2 j.dk.w⟩
  refine ⟨⟨_, d2.o, rfl⟩, A.p, A.ar, A.wa, m, x, ks, rfl, d2, by rw [up_same, bD_map], by omega, fun μ3 wa3 k3 f3 n3 => ?_⟩
  refine ⟨_, _, rfl, rfl, ⟨rfl, ?_⟩⟩
  have xp : x ≠ A.p := (ne_0 j.dk.o hx).symm
  have xr : x ≠ A.ar := (ne_0 j.dk.a hx).symm
  have x3 : μ3 x = some (.L ((bD ks).map MV.d)) := f3.get (nin2 xp xr) up_same
  refine ⟨_, _, see_a x3, rfl, ?_⟩
  rw [neD_self _ (depth_B ks).1 (depth_B ks).2]
  refine ⟨rfl, ?_⟩
  have g3 : ∀ {b : Addr} {c : Cell}, b ≠ A.p → b ≠ A.ar → μ b = some c → μ3 b = some c := fun n n2 e => f3.get (nin2 n n2) (g2 e)
  have w3 : μ3 A.w = some (.D (wD m A.l A.q A.c)) := g3 N.wp N.wr j.wo
  refine ⟨_, .inr "losses", m.n, w3, rfl, rfl, ?_⟩
  refine ⟨_, _, _, w3, rfl, rfl, ?_⟩
  refine ⟨_, see_1 rfl, ⟨rfl, ?_⟩⟩
  refine ⟨_, _, rfl, w3, (show 7 < 1000000 by decide), ?_⟩
  have rest : ∀ μ4, μ4 = M.up μ3 A.w (.D (wD { m with n := m.n + (if m.on = true then 1 else 0) } A.l A.q A.c)) → xSeq (xForI (iMr (mCallK (gM2 false) (mCons (mP (dCall (g1 gLen) (dCons (dN 3) dNil))) (mCons (mCallK (g1 gLen) (mCons (mGet (mN 1) (mP (dC (.str (Str.ofString "waiting"))))) mNil)) mNil)))) (gmN 5) (xIf (mPT (dT (dOp gIx (dN 3) (dN 5)))) (xPutD (mGet (mN 1) (mP (dC (.str (Str.ofString "lasting"))))) (mOp gIx (mIx (mGet (mN 1) (mP (dC (.str (Str.ofString "waiting"))))) (mP (dN 5))) (mP (dC (.int 0)))) (mOp gIx (mIx (mGet (mN 1) (mP (dC (.str (Str.ofString "waiting"))))) (mP (dN 5))) (mP (dC (.int 1))))) xNx))
    (xSeq (xDo (mUpd (mN 1) (mDisp ["waiting", "on", "left"] (mCons (mLst mNil) (mCons (mP (dC (.bool true))) (mCons (mP (dC .none)) mNil))))))
    (xRet (mP (dC (.bool true))))) (endsM P PX) [.adr A.a, .adr A.w, .adr A.p, .dat (.list (bD ks)), .adr x, .un] μ4 := by
    intro μ4 e4
    have w4 : μ4 A.w = some (.D (wD { m with n := m.n + (if m.on = true then 1 else 0) } A.l A.q A.c)) := by rw [e4]; exact up_same
    have g4 : ∀ {b : Addr} {c : Cell}, b ≠ A.w → μ3 b = some c → μ4 b = some c := fun n e => by rw [e4]; exact (up_ne n).trans e
    have q4 := g4 N.wq.symm (g3 N.pq.symm N.qr j.q)
    have l4 := g4 N.wl.symm (g3 N.pl.symm N.lr j.l)
    refine ⟨_, _, _, w4, rfl, rfl, ?_⟩
    refine ⟨_, see_1 (see_a (ds := m.wt.map pairDL) (by rw [q4, map_pairL])), ⟨rfl, ?_⟩⟩
    rw [List.length_map]
    refine ⟨_, see_2 rfl rfl, ⟨rfl, ?_⟩⟩
    have hb : (bD ks).length = ks.length := by unfold bD; rw [List.length_map]
    rw [hb]
    show (-1000000 ≤ (if ((m.wt.length : Nat) : Int) < (ks.length : Nat) then ((m.wt.length : Nat) : Int) else (ks.length : Nat)) ∧ (if ((m.wt.length : Nat) : Int) < (ks.length : Nat) then ((m.wt.length : Nat) : Int) else (ks.length : Nat)) ≤ 1000000) ∧ _
    have hmin : (if ((m.wt.length : Nat) : Int) < (ks.length : Nat) then ((m.wt.length : Nat) : Int) else (ks.length : Nat)).toNat = min m.wt.length ks.length := by
      split <;> omega
    have hmin2 : (if ((m.wt.length : Nat) : Int) < (ks.length : Nat) then ((m.wt.length : Nat) : Int) else (ks.length : Nat)) ≤ (m.wt.length : Nat) ∧ 0 ≤ (if ((m.wt.length : Nat) : Int) < (ks.length : Nat) then ((m.wt.length : Nat) : Int) else (ks.length : Nat)) := by
      split <;> omega
    refine ⟨⟨by omega, by omega⟩, ?_⟩
    have t0 : μ4 A.l = some (.D (putW lstV (m.hs ++ keepW (m.wt.take 0) (ks.take 0)))) := by
      rw [List.take_zero, List.take_zero]
      show μ4 A.l = some (.D (putW lstV (m.hs ++ [])))
      rw [List.append_nil]; exact l4
    rw [← List.drop_zero (l := upto _)]
    refine loop_kept (A := A) (m := m) (ks := ks) (x := x) N.wl N.lq.symm (by omega) _ μ4 P PX (wD { m with n := m.n + (if m.on = true then 1 else 0) } A.l A.q A.c) rfl rfl ?_ _ hmin _ 0 μ4 .un rfl (Nat.zero_le _) w4 t0 q4 Frm.rfl
    intro μ5 e5 w5 l5 f5
    refine ⟨⟨_, w5⟩, fun d hd => ?_⟩
    intro q hq
    have qd : d ≠ q := fun z => by rw [z, up_same] at hq; cases hq
    have hq5 : μ5 q = none := by rw [up_ne qd.symm] at hq; exact hq
    refine ⟨(up_ne qd).trans up_same, ?_⟩
    have wd : A.w ≠ d := ne_0 w5 hd
    have wq : A.w ≠ q := ne_0 w5 hq5
    refine ⟨_, _, wd, (up_ne wd).trans ((up_ne wq).trans ((up_ne wd).trans w5)), up_same, (show 7 + 3 ≤ 1000000 by decide), ?_⟩
    have k5 : ∀ {b : Addr} {c : Cell}, b ≠ A.w → b ≠ A.l → μ3 b = some c → μ5 b = some c := fun n n2 e => f5.get (nin1 n2) (g4 n e)
    have k7 : ∀ {b : Addr} {c y z v : Cell}, b ≠ A.w → b ≠ A.l → μ3 b = some c → M.up (M.up (M.up (M.up μ5 d y) q (.L [])) d z) A.w v b = some c := fun n n2 e =>
      have e := k5 n n2 e
      (up_ne n).trans ((up_ne (ne_0 e hd)).trans ((up_ne (ne_0 e hq5)).trans ((up_ne (ne_0 e hd)).trans e)))
    have n3' : μ wa3 = none := by
      cases e : μ wa3 with
      | none => rfl
      | some c => rw [g2 e] at n3; cases n3
    have a3 : ∀ {b : Addr} {c : Cell}, μ b = some c → wa3 ≠ b := fun e => (ne_0 e n3').symm
    have hwa := k5 (a3 j.wo) (a3 j.l) k3.w
    obtain ⟨s1, s2, s3, s4, s5⟩ := kept_set m ks
    refine h _ ⟨A.a, A.w, A.p, A.l, q, A.c, A.ar, wa3⟩ { (if m.on = true then m.fail else m).settle (keepW m.wt ks) with on := true } ⟨⟨ns, k7 N.aw N.al (g3 N.ap N.ar hs)⟩, ⟨k7 N.wp.symm N.pl k3.o, k7 N.wr.symm N.lr.symm k3.a, k7 (a3 j.wo) (a3 j.l) k3.w⟩, ?_, ?_, ?_, ?_, N.wl, N.wr, N.lr, (ne_0 hwa hq5).symm, (ne_0 (k5 N.wc.symm N.lc.symm (g3 N.pc.symm N.cr j.c)) hq5).symm, (a3 j.c).symm, ?_, ?_, by rw [s4]; exact j.sz⟩ rfl rfl rfl s4 ?_
    · refine up_same.trans (congrArg (fun z => some (Cell.D z)) ?_)
      show [(.inr "size", .d (.int m.size)), (.inr "lasting", .a A.l), (.inr "waiting", .a q), (.inr "on", .d (.bool true)), (.inr "left", .d .none), (.inr "losses", .d (.int (m.n + (if m.on = true then 1 else 0)))), (.inr "counts", .a A.c)] = wD _ A.l q A.c
      cases ho : m.on with
      | true => rfl
      | false =>
        have e : m.left = none := j.use.2 ho
        show [((.inr "size" : Key), MV.d (.int m.size)), (.inr "lasting", .a A.l), (.inr "waiting", .a q), (.inr "on", .d (.bool true)), (.inr "left", .d .none), (.inr "losses", .d (.int (m.n + 0))), (.inr "counts", .a A.c)] = [(.inr "size", .d (.int m.size)), (.inr "lasting", .a A.l), (.inr "waiting", .a q), (.inr "on", .d (.bool true)), (.inr "left", .d (lfD m.left)), (.inr "losses", .d (.int m.n)), (.inr "counts", .a A.c)]
        rw [e, Int.add_zero]; rfl
    · have ld : A.l ≠ d := ne_0 l5 hd
      have lq : A.l ≠ q := ne_0 l5 hq5
      rw [s1]
      exact (up_ne N.wl.symm).trans ((up_ne ld).trans ((up_ne lq).trans ((up_ne ld).trans l5)))
    · exact (up_ne wq.symm).trans ((up_ne qd.symm).trans up_same)
    · rw [s2, s3]
      exact k7 N.wc.symm N.lc.symm (g3 N.pc.symm N.cr j.c)
    · refine ⟨?_, fun z => nomatch z⟩
      show (if m.on = true then m.fail else m).use = false
      split
      · rfl
      · exact j.use.1
    · rw [s1]
      show ∀ z ∈ (m.hs ++ keepW m.wt ks) ++ [], z.2.length = 256
      rw [List.append_nil]
      intro z hz
      rcases List.mem_append.mp hz with hz | hz
      · exact j.ok z (List.mem_append_left _ hz)
      · exact j.ok z (List.mem_append_right _ (keepW_mem hz))
    · rw [s1]
      show (m.hs ++ keepW m.wt ks).length + 0 ≤ _
      have := keepW_len m.wt ks
      rw [List.length_append]; omega
  exact rest _ rfl
end
end Z1

set_option Elab.async false
set_option linter.all false
set_option maxRecDepth 100000
set_option maxHeartbeats 1000000
namespace Z1
open PySem PySem.Spec PyProof.Rows L2 Z M
section
variable {C : Addr} {ms : List MV} {μ : Mu} {P : MV → Mu → Prop} {PX : Str → Mu → Prop}
theorem if_ltc {a c : Int} {sa sb : MS} {E : MEn} {ρ : En} {μ : Mu} {i : Nat} (ha : ρ[i]? = some (.dat (.int a))) (h1 : a < c → sa E ρ μ) (h2 : ¬ a < c → sb E ρ μ) : xIf (mPT (dT (dOp (gB ltD) (dN i) (dC (.int c))))) sa sb E ρ μ := by
  unfold xIf mPT dT dOp dN
  rw [ha]
  show gB ltD (.int a) (.int c) (asB fun d => if d = true then sa E ρ μ else sb E ρ μ)
  rw [e_lt]
  by_cases e : a < c
  · rw [decide_eq_true e]; exact h1 e
  · rw [decide_eq_false e]; exact h2 e
theorem h__law_deed (h : FDeed C ms μ P PX) : ms.length = 3 ∧ m__law_deed (FDeed C) (FDeed C) (F__law_sync C) (FDeed C) F__law_next (endsM P PX) (startM N__law_deed ms) μ := by
  obtain ⟨A, m, rfl, j, hl, h⟩ := h
  refine ⟨rfl, ?_⟩
  obtain ⟨ns, hs⟩ := j.st
  refine ⟨A.a, ns, hs, rfl, ⟨by decide, fun k k1 k2 => ?_⟩⟩
  refine if_ltc (i := 3) (a := k) (ρ := [.adr A.a, .adr A.w, .adr A.p, .dat (.int k)]) rfl (fun _ => ?_) fun _ => ?_
  · exact ⟨A, m, rfl, j, hl, h⟩
  refine if_ltc (i := 3) (a := k) (ρ := [.adr A.a, .adr A.w, .adr A.p, .dat (.int k)]) rfl (fun _ => ?_) fun _ => ?_
  · exact ⟨A, m, rfl, j, hl, h⟩
  refine if_ltc (i := 3) (a := k) (ρ := [.adr A.a, .adr A.w, .adr A.p, .dat (.int k)]) rfl (fun _ => ?_) fun _ => ?_
  · exact ⟨A, m, rfl, j, hl, h⟩
  · exact ⟨A, m, rfl, j, hl, h⟩
theorem h__law_refused (h : F__law_refused ms μ P PX) : ms.length = 1 ∧ m__law_refused C (F_Disk C) (endsM P PX) (startM N__law_refused ms) μ := by
  obtain ⟨d, rfl, hd, h⟩ := h
  refine ⟨rfl, fun q hq => ⟨q, d, rfl, up_same, ?_⟩⟩
  have main : ∀ μ2, Frm (M.up μ q (.O C [])) μ2 [q] → ∃ b, ctOne "InvalidArgument" "InvalidArgument" = some b ∧
      (b = true → ∀ a, μ2 a = none → xRet (mP (dAndV (dIsE 1 a true) (dIsE 1 a true))) ⟨fun ρ2 => (endsM P PX).nx (ρ2.set 1 .un), P, fun ρ2 => (endsM P PX).bk (ρ2.set 1 .un), fun ρ2 => (endsM P PX).ct (ρ2.set 1 .un), fun _ _ _ => False⟩ [.dat d, .adr a] μ2) ∧ (b = false → PX "InvalidArgument" μ2) := by
    intro μ2 f2
    refine ⟨true, ct_self _, fun _ a na => ⟨rfl, rfl, ?_⟩, fun z => nomatch z⟩
    refine h μ2 fun b hb => ?_
    have nb : b ≠ q := fun z => hb (by rw [z]; exact hq)
    rw [f2 b (nin1 nb) (by rw [up_ne nb]; exact hb), up_ne nb]
  cases d with
  | int n =>
    have := hd n rfl
    show (if 100 ≤ n ∧ n ≤ 600 then _ else _)
    rw [if_neg (by omega)]
    exact main
  | _ => exact main
/-! ### law -/
theorem loop_ref {a : Addr} {X : En → Mu → Prop} {Q : MV → Mu → Prop} {QX : Str → Mu → Prop} (μ0 : Mu) (hX : ∀ μ2 e2, Frm0 μ0 μ2 → X [.un, .adr a, e2, .un, .un, .un, .un] μ2) : ∀ (ds : List DD) (μ1 : Mu) (e2 : Ent), (∀ d ∈ ds, ∀ n, d = .int n → n < 100 ∨ 600 < n) → Frm0 μ0 μ1 →
    loopM (gmN 2) (xIf (mNot (mT (mCall F__law_refused (mCons (mP (dN 2)) mNil)))) (xRet (mP (dC (.bool false)))) xNx) ⟨X, Q, fun _ _ => False, fun _ _ => False, fun x _ μ => QX x μ⟩ ds [.un, .adr a, e2, .un, .un, .un, .un] μ1 := by
  intro ds
  induction ds with
  | nil => intro μ1 e2 _ f; exact hX μ1 e2 f
  | cons d ds ih =>
    intro μ1 e2 hd f
    exact ⟨d, rfl, hd d (List.mem_cons_self ..), fun μ2 f2 => ih μ2 _ (fun d' hd' => hd d' (List.mem_cons_of_mem _ hd')) (f.trans f2)⟩
theorem loop_deeds {a w p : Addr} {n : Int} {X : En → Mu → Prop} {Q : MV → Mu → Prop} {QX : Str → Mu → Prop} (hX : ∀ μ A m e5, J C μ A m → A.a = a → A.w = w → A.p = p → m.size = n → m.hs.length + m.wt.length ≤ 80000 → X [.un, .adr a, .dat (.int n), .adr p, .adr w, e5, .un] μ) : ∀ (ds : List DD) (μ : Mu) (A : Ad) (m : DM) (e5 : Ent), J C μ A m → A.a = a → A.w = w → A.p = p → m.size = n → m.hs.length + m.wt.length + ds.length ≤ 80000 →
    loopM (gmN 5) (xIf (mOr (mNot (mT (mCall (F__law_is_right C) (mCons (mN 1) (mCons (mN 4) (mCons (mN 3) mNil)))))) (mNot (mT (mCall (FDeed C) (mCons (mN 1) (mCons (mN 4) (mCons (mN 3) mNil))))))) (xRet (mP (dC (.bool false)))) xNx) ⟨X, Q, fun _ _ => False, fun _ _ => False, fun x _ μ => QX x μ⟩ ds [.un, .adr a, .dat (.int n), .adr p, .adr w, e5, .un] μ := by
  intro ds
  induction ds with
  | nil => intro μ A m e5 j h1 h2 h3 h4 h5; exact hX μ A m e5 j h1 h2 h3 h4 h5
  | cons d ds ih =>
    intro μ A m e5 j h1 h2 h3 h4 h5
    subst h1 h2 h3
    simp only [List.length_cons] at h5
    refine ⟨A, m, rfl, j, by omega, fun μ2 j2 => ?_⟩
    refine ⟨A, m, rfl, j2, by omega, fun μ3 A3 m3 j3 a1 a2 a3 a4 a5 => ?_⟩
    exact ih μ3 A3 m3 _ j3 a1 a2 a3 (a4.trans h4) (by omega)
theorem loop_reads {a w p : Addr} {n : Int} {e5 : Ent} {X : En → Mu → Prop} {Q : MV → Mu → Prop} {QX : Str → Mu → Prop} (A : Ad) (m : DM) (ha : A.a = a) (hw : A.w = w) (hp : A.p = p) (hX : ∀ μ e6, J C μ A m → X [.un, .adr a, .dat (.int n), .adr p, .adr w, e5, e6] μ) : ∀ (is : List Int) (μ : Mu) (e6 : Ent), J C μ A m →
    loopM (gmN 6) (xIf (mT (mOpK (gB neD) (mMth C "read" (F_Disk_read C) (mN 3) (mCons (mP (dN 6)) mNil)) (mCall (F__law_sector C) (mCons (mN 4) (mCons (mP (dN 6)) mNil))))) (xRet (mP (dC (.bool false)))) xNx) ⟨X, Q, fun _ _ => False, fun _ _ => False, fun x _ μ => QX x μ⟩ (iD is) [.un, .adr a, .dat (.int n), .adr p, .adr w, e5, e6] μ := by
  subst ha hw hp
  intro is
  induction is with
  | nil => intro μ e6 j; exact hX μ e6 j
  | cons i is ih =>
    intro μ e6 j
    refine ⟨⟨_, j.dk.o, rfl⟩, A.p, A.ar, A.wa, m, i, rfl, j.dk, fun q hq => ?_⟩
    refine ⟨A, m, i, rfl, j.of (Frm0.new hq), ?_⟩
    refine ⟨_, _, see_a up_same, rfl, ?_⟩
    rw [neD_self _ (depth_I _).1 (depth_I _).2]
    refine ⟨rfl, ?_⟩
    exact ih _ _ (j.of (Frm0.new hq))
theorem h_law {a : Addr} {ns : List Int} (hs : μ a = some (.S ns)) : m_law C (F__law_is_right C) (F_Disk_read C) (F__law_sector C) (FDeed C) F__law_next (F_Disk C) F__law_refused (endsM (fun m _ => m = .d (.bool true)) PX) [.un, .adr a, .un, .un, .un, .un, .un] μ := by
  refine ⟨a, ns, hs, rfl, ⟨by decide, fun r1 r2 r3 => ?_⟩⟩
  refine ⟨rfl, ⟨by decide, fun s1 s2 s3 => ?_⟩⟩
  refine loop_ref μ (fun μ2 e2 f2 => ?_) _ μ .un (fun d hd n e => ?_) (fun _ _ => rfl)
  rotate_left
  · subst e
    simp at hd
    rcases hd with hd | hd <;> omega
  have hs2 : μ2 a = some (.S ns) := (f2 a (by rw [hs]; exact fun z => nomatch z)).trans hs
  refine ⟨a, ns, hs2, rfl, ⟨by decide, fun t1 t2 t3 => ?_⟩⟩
  refine ⟨rfl, ⟨by decide, fun k k1 k2 => ?_⟩⟩
  obtain ⟨n, hn, hb⟩ : ∃ n : Int, atI [PyData.int 100, .int 101, .int 600, .int (100 + t1)] k = some (.int n) ∧ (100 ≤ n ∧ n ≤ 600) := by
    have : k = 0 ∨ k = 1 ∨ k = 2 ∨ k = 3 := by omega
    rcases this with rfl | rfl | rfl | rfl
    · exact ⟨_, rfl, by decide⟩
    · exact ⟨_, rfl, by decide⟩
    · exact ⟨_, rfl, by decide⟩
    · exact ⟨_, rfl, by omega⟩
  show gIx (.list [PyData.int 100, .int 101, .int 600, .int (100 + t1)]) (.int k) _
  rw [gIx_list _ _ _ _ hn]
  intro p hp
  refine ⟨p, .int n, rfl, up_same, ?_⟩
  show (if 100 ≤ n ∧ n ≤ 600 then _ else _)
  rw [if_pos hb]
  intro μ3 ar wa k3 f3 nr nw
  refine ⟨rfl, ?_⟩
  have hs3 : μ3 a = some (.S ns) := f3.get (nin1 (ne_0 hs2 hp)) ((up_ne (ne_0 hs2 hp)).trans hs2)
  intro w hw l hl q hq c hc
  have pw : p ≠ w := ne_0 k3.o hw
  have rw' : ar ≠ w := ne_0 k3.a hw
  have ww : wa ≠ w := ne_0 k3.w hw
  have aw : a ≠ w := ne_0 hs3 hw
  have t0 : ∀ {b : Addr} {c : Cell} {y : Cell}, b ≠ w → μ3 b = some c → M.up μ3 w y b = some c := fun n e => (up_ne n).trans e
  have pl : p ≠ l := ne_0 (t0 pw k3.o) hl
  have rl : ar ≠ l := ne_0 (t0 rw' k3.a) hl
  have wl0 : wa ≠ l := ne_0 (t0 ww k3.w) hl
  have al : a ≠ l := ne_0 (t0 aw hs3) hl
  have wl : w ≠ l := fun z => by rw [← z, up_same] at hl; cases hl
  have t1 : ∀ {b : Addr} {c : Cell} {y z : Cell}, b ≠ w → b ≠ l → μ3 b = some c → M.up (M.up μ3 w y) l z b = some c := fun n n2 e => (up_ne n2).trans (t0 n e)
  have pq : p ≠ q := ne_0 (t1 pw pl k3.o) hq
  have rq : ar ≠ q := ne_0 (t1 rw' rl k3.a) hq
  have wq0 : wa ≠ q := ne_0 (t1 ww wl0 k3.w) hq
  have aq : a ≠ q := ne_0 (t1 aw al hs3) hq
  have lq : l ≠ q := fun z => by rw [← z, up_same] at hq; cases hq
  have wq : w ≠ q := fun z => by rw [← z, up_ne wl, up_same] at hq; cases hq
  have t2 : ∀ {b : Addr} {c : Cell} {y z v : Cell}, b ≠ w → b ≠ l → b ≠ q → μ3 b = some c → M.up (M.up (M.up μ3 w y) l z) q v b = some c := fun n n2 n3 e => (up_ne n3).trans (t1 n n2 e)
  have pc : p ≠ c := ne_0 (t2 pw pl pq k3.o) hc
  have rc : ar ≠ c := ne_0 (t2 rw' rl rq k3.a) hc
  have wc0 : wa ≠ c := ne_0 (t2 ww wl0 wq0 k3.w) hc
  have ac : a ≠ c := ne_0 (t2 aw al aq hs3) hc
  have qc : q ≠ c := fun z => by rw [← z, up_same] at hc; cases hc
  have lc : l ≠ c := fun z => by rw [← z, up_ne lq, up_same] at hc; cases hc
  have wc : w ≠ c := fun z => by rw [← z, up_ne wq, up_ne wl, up_same] at hc; cases hc
  refine ⟨(up_ne wc).trans ((up_ne wq).trans ((up_ne wl).trans up_same)), ?_⟩
  have t4 : ∀ {b : Addr} {e : Cell} {y z v u y2 : Cell}, b ≠ w → b ≠ l → b ≠ q → b ≠ c → μ3 b = some e → M.up (M.up (M.up (M.up (M.up μ3 w y) l z) q v) c u) w y2 b = some e := fun n n2 n3 n4 h => (up_ne n).trans ((up_ne n4).trans (t2 n n2 n3 h))
  have j : J C (M.up (M.up (M.up (M.up (M.up μ3 w (.D [])) l (.D [])) q (.L [])) c (.L [.d (.int 0), .d (.int 0)])) w (.D (wD ⟨false, n, [], [], 0, 0, true, 0, none⟩ l q c))) ⟨a, w, p, l, q, c, ar, wa⟩ ⟨false, n, [], [], 0, 0, true, 0, none⟩ :=
    ⟨⟨ns, t4 aw al aq ac hs3⟩, ⟨t4 pw pl pq pc k3.o, t4 rw' rl rq rc k3.a, t4 ww wl0 wq0 wc0 k3.w⟩, up_same, (up_ne wl.symm).trans ((up_ne lc).trans ((up_ne lq).trans up_same)), (up_ne wq.symm).trans ((up_ne qc).trans up_same), (up_ne wc.symm).trans up_same,
      wl, rw'.symm, rl.symm, wq0.symm, qc, wc0.symm, ⟨rfl, fun z => nomatch z⟩, fun x hx => (by cases hx), hb⟩
  have rest : ∀ μ5, J C μ5 ⟨a, w, p, l, q, c, ar, wa⟩ ⟨false, n, [], [], 0, 0, true, 0, none⟩ → xSeq (xIf (mT (mOpK gNotB (mFld C "in_use" (mN 3)) (mP (dC (.bool false))))) (xRet (mP (dC (.bool false)))) xNx)
    (xSeq (xForI (iPS fun a => (dIr (dSt a 1 F__law_next (dCons (dC (.int 41)) dNil)))) (gmN 5) (xIf (mOr (mNot (mT (mCall (F__law_is_right C) (mCons (mN 1) (mCons (mN 4) (mCons (mN 3) mNil)))))) (mNot (mT (mCall (FDeed C) (mCons (mN 1) (mCons (mN 4) (mCons (mN 3) mNil))))))) (xRet (mP (dC (.bool false)))) xNx))
    (xSeq (xForI (iP (dIr (dN 2))) (gmN 6) (xIf (mT (mOpK (gB neD) (mMth C "read" (F_Disk_read C) (mN 3) (mCons (mP (dN 6)) mNil)) (mCall (F__law_sector C) (mCons (mN 4) (mCons (mP (dN 6)) mNil))))) (xRet (mP (dC (.bool false)))) xNx))
    (xRet (mCall (F__law_is_right C) (mCons (mN 1) (mCons (mN 4) (mCons (mN 3) mNil))))))) (endsM (fun m _ => m = .d (.bool true)) PX) [.un, .adr a, .dat (.int n), .adr p, .adr w, .un, .un] μ5 := by
    intro μ5 j5
    refine ⟨_, _, j5.dk.o, rfl, ?_⟩
    refine ⟨_, _, rfl, rfl, ⟨rfl, ?_⟩⟩
    obtain ⟨ns5, hs5⟩ := j5.st
    refine ⟨a, ns5, hs5, rfl, ⟨by decide, fun u u1 u2 => ?_⟩⟩
    refine ⟨⟨by omega, by omega⟩, ?_⟩
    refine loop_deeds (a := a) (w := w) (p := p) (n := n) (fun μ6 A6 m6 e5 j6 h1 h2 h3 h4 h5 => ?_) _ μ5 _ _ .un j5 rfl rfl rfl rfl (by simp [upto]; omega)
    refine ⟨⟨by omega, by omega⟩, ?_⟩
    rw [upto_I]
    refine loop_reads A6 m6 h1 h2 h3 (fun μ7 e6 j7 => ?_) _ μ6 .un j6
    subst h1 h2 h3
    exact ⟨A6, m6, rfl, j7, by omega, fun _ _ => rfl⟩
  exact rest _ j
end
end Z1

set_option Elab.async false
set_option linter.all false
set_option maxRecDepth 100000
set_option maxHeartbeats 0
namespace Z
open PySem PySem.Spec PyProof.Rows L2
/-- a def without defaults, as the head tells it -/
theorem fun_ofD {K : PySem.W.Frag} {x q : Str} {st : Stmt} {f : Addr} {fd : FuncData} {ks : List (Str × V)} (F : FunD K x q (defArgs st) (defBody st) (defScope st) [] ks f fd) : Fun K x q st f fd := by
  obtain ⟨⟨v1, v2, v3, v4, v5, v6, v7, v8, v9, v10, e1, e2, e3, e4, _⟩, kp⟩ := F
  have e5 : v3 = .none := e4.elim (fun z => z.2) (fun z => absurd rfl z.1)
  subst e5
  exact ⟨⟨v1, v2, v4, v5, v6, v7, v8, v9, v10, e1, e2, e3⟩, kp⟩
def spLaw (K : PySem.W.Frag) : Sp := fun vs H Q _ => ∃ (a : Addr) (ns : List Int), vs = [.ref a] ∧ SqL K H a (ns.map V.int) ∧ ∀ H', Q (.bl true) H'
/-- the head's facts, and looks of one's own -/
def obE (ck : PySem.W.Frag → Bool) (n : Nat) (fa : List He.Fa) (fn : List He.DefD) (g : Addr → Option Obj) : Bool × He.AlD := (ck (He.frG g (He.asD g n)), He.obsD fa fn (He.frG g (He.asD g n)))
def hkE (ck : PySem.W.Frag → Bool) (n : Nat) (fa : List He.Fa) (fn : List He.DefD) : PySem.W.Hook where
  α := Bool × He.AlD
  obs := fun s => obE ck n fa fn s.heap.get?
  val := fun _ => (true, He.valD fn)
  says := fun _ h => ∃ K : PySem.W.Frag, K.In h ∧ ck K = true ∧ He.SaysD fa fn K
  of := fun _ _ e => ⟨_, He.frG_in, congrArg (fun z : Bool × He.AlD => z.1) e, congrArg (fun z : Bool × He.AlD => z.2) e⟩
  keeps := fun _ _ _ ⟨K, hK, c⟩ k => ⟨K, PySem.W.Frag.In.keeps hK k, c⟩
theorem obE_eq {ck : PySem.W.Frag → Bool} {n : Nat} {fa : List He.Fa} {fn : List He.DefD} {g : Addr → Option Obj} {s : Shared} (h : ∀ a, g a = s.heap.get? a) : obE ck n fa fn g = (hkE ck n fa fn).obs s := by
  have e : g = s.heap.get? := funext h
  subst e
  rfl
end Z
namespace Z1
open PySem PySem.Spec PyProof.Rows L2 Z M
theorem fnOk_0 {P : Program} {wd : World} {K : PySem.W.Frag} {mg : Str → Option Value} {base : Heap} {k : Nat} {f : Addr} {fd : FuncData} {ps : List Str} {sp : Sp} (h : FnOk P wd K mg base (L2.CX P wd) k f fd ps sp) (hE : ∀ vs H Q E, sp vs H Q E → sp vs H Q fun _ _ _ => False) : FnOk P wd K mg base CX0 k f fd ps sp := by
  refine ⟨h.len, fun A outer s H args us vs Q E hr he hb hv hs => codeAny_mono (h.run A outer s H args us vs Q _ hr he hb hv (hE _ _ _ _ hs)) fun r s' q => ?_⟩
  cases r with
  | error e =>
    obtain ⟨_, _, _, _, _, _, _, _, _, _, _, _, z⟩ := q
    exact z.elim
  | ok fl => cases fl <;> exact q
def d__law_next : He.DefD := ⟨("_law_next", none), "_law_next", "_law_next", defArgs (topS 10), defBody (topS 10), defScope (topS 10), [], []⟩
def d__law_same : He.DefD := ⟨("_law_same", none), "_law_same", "_law_same", defArgs (topS 11), defBody (topS 11), defScope (topS 11), [], []⟩
def d__law_refused : He.DefD := ⟨("_law_refused", none), "_law_refused", "_law_refused", defArgs (topS 12), defBody (topS 12), defScope (topS 12), [], []⟩
def d__law_operate : He.DefD := ⟨("_law_operate", none), "_law_operate", "_law_operate", defArgs (topS 13), defBody (topS 13), defScope (topS 13), [], []⟩
def d__law_write : He.DefD := ⟨("_law_write", none), "_law_write", "_law_write", defArgs (topS 14), defBody (topS 14), defScope (topS 14), [], []⟩
def d__law_sync : He.DefD := ⟨("_law_sync", none), "_law_sync", "_law_sync", defArgs (topS 15), defBody (topS 15), defScope (topS 15), [], []⟩
def d__law_fail : He.DefD := ⟨("_law_fail", none), "_law_fail", "_law_fail", defArgs (topS 16), defBody (topS 16), defScope (topS 16), [], []⟩
def d__law_power : He.DefD := ⟨("_law_power", none), "_law_power", "_law_power", defArgs (topS 17), defBody (topS 17), defScope (topS 17), [], []⟩
def d__law_deed : He.DefD := ⟨("_law_deed", none), "_law_deed", "_law_deed", defArgs (topS 18), defBody (topS 18), defScope (topS 18), [], []⟩
def d__law_sector : He.DefD := ⟨("_law_sector", none), "_law_sector", "_law_sector", defArgs (topS 19), defBody (topS 19), defScope (topS 19), [], []⟩
def d__law_is_right : He.DefD := ⟨("_law_is_right", none), "_law_is_right", "_law_is_right", defArgs (topS 20), defBody (topS 20), defScope (topS 20), [], []⟩
def d_law : He.DefD := ⟨("law", none), "law", "law", defArgs (topS 21), defBody (topS 21), defScope (topS 21), [], []⟩
def d_Disk___init__ : He.DefD := ⟨("Disk", some "__init__"), "__init__", "Disk.__init__", defArgs (inClass (topS 8) 0), defBody (inClass (topS 8) 0), defScope (inClass (topS 8) 0), [], []⟩
def d_Disk_size : He.DefD := ⟨("Disk", some "size"), "size", "Disk.size", defArgs (inClass (topS 8) 1), defBody (inClass (topS 8) 1), defScope (inClass (topS 8) 1), [], []⟩
def d_Disk_read : He.DefD := ⟨("Disk", some "read"), "read", "Disk.read", defArgs (inClass (topS 8) 2), defBody (inClass (topS 8) 2), defScope (inClass (topS 8) 2), [], []⟩
def d_Disk_pending : He.DefD := ⟨("Disk", some "pending"), "pending", "Disk.pending", defArgs (inClass (topS 8) 3), defBody (inClass (topS 8) 3), defScope (inClass (topS 8) 3), [], []⟩
def d_Disk_counts : He.DefD := ⟨("Disk", some "counts"), "counts", "Disk.counts", defArgs (inClass (topS 8) 4), defBody (inClass (topS 8) 4), defScope (inClass (topS 8) 4), [], []⟩
def d_Disk_write : He.DefD := ⟨("Disk", some "write"), "write", "Disk.write", defArgs (inClass (topS 8) 5), defBody (inClass (topS 8) 5), defScope (inClass (topS 8) 5), [], []⟩
def d_Disk_sync : He.DefD := ⟨("Disk", some "sync"), "sync", "Disk.sync", defArgs (inClass (topS 8) 6), defBody (inClass (topS 8) 6), defScope (inClass (topS 8) 6), [], []⟩
def d_Disk_fail_after : He.DefD := ⟨("Disk", some "fail_after"), "fail_after", "Disk.fail_after", defArgs (inClass (topS 8) 7), defBody (inClass (topS 8) 7), defScope (inClass (topS 8) 7), [], []⟩
def d_Disk_power : He.DefD := ⟨("Disk", some "power"), "power", "Disk.power", defArgs (inClass (topS 8) 8), defBody (inClass (topS 8) 8), defScope (inClass (topS 8) 8), [], []⟩
def d_Disk_is_on : He.DefD := ⟨("Disk", some "is_on"), "is_on", "Disk.is_on", defArgs (inClass (topS 8) 9), defBody (inClass (topS 8) 9), defScope (inClass (topS 8) 9), [], []⟩
def d_Disk_losses : He.DefD := ⟨("Disk", some "losses"), "losses", "Disk.losses", defArgs (inClass (topS 8) 10), defBody (inClass (topS 8) 10), defScope (inClass (topS 8) 10), [], []⟩
def d_Disk__operate : He.DefD := ⟨("Disk", some "_operate"), "_operate", "Disk._operate", defArgs (inClass (topS 8) 11), defBody (inClass (topS 8) 11), defScope (inClass (topS 8) 11), [], []⟩
def d_Disk__fail : He.DefD := ⟨("Disk", some "_fail"), "_fail", "Disk._fail", defArgs (inClass (topS 8) 12), defBody (inClass (topS 8) 12), defScope (inClass (topS 8) 12), [], []⟩
def d_Disk__settle : He.DefD := ⟨("Disk", some "_settle"), "_settle", "Disk._settle", defArgs (inClass (topS 8) 13), defBody (inClass (topS 8) 13), defScope (inClass (topS 8) 13), [], []⟩
def fnL : List He.DefD := [d__law_next, d__law_same, d__law_refused, d__law_operate, d__law_write, d__law_sync, d__law_fail, d__law_power, d__law_deed, d__law_sector, d__law_is_right, d_law, d_Disk___init__, d_Disk_size, d_Disk_read, d_Disk_pending, d_Disk_counts, d_Disk_write, d_Disk_sync, d_Disk_fail_after, d_Disk_power, d_Disk_is_on, d_Disk_losses, d_Disk__operate, d_Disk__fail, d_Disk__settle]
def faL : List He.Fa := [.glo "_law_next", .glo "_law_same", .glo "_law_refused", .glo "_law_operate", .glo "_law_write", .glo "_law_sync", .glo "_law_fail", .glo "_law_power", .glo "_law_deed", .glo "_law_sector", .glo "_law_is_right", .glo "law", .free "len", .free "abs", .free "ord", .free "max", .free "min", .free "int", .free "str", .free "bool", .free "tuple", .free "list", .free "isinstance", .free "range", .free "any", .free "enumerate", .free "reversed", .free "zip", .glo "Disk", .cls "Disk", .mkr "Disk", .noat "Disk" "_arrived", .noat "Disk" "_left", .noat "Disk" "_losses", .noat "Disk" "_on", .noat "Disk" "_size", .noat "Disk" "_syncs", .noat "Disk" "_waiting", .noat "Disk" "_writes", .noat "Disk" "in_use", .meth "Disk" "size", .meth "Disk" "read", .meth "Disk" "pending", .meth "Disk" "counts", .meth "Disk" "write", .meth "Disk" "sync", .meth "Disk" "fail_after", .meth "Disk" "power", .meth "Disk" "is_on", .meth "Disk" "losses", .meth "Disk" "_operate", .meth "Disk" "_fail", .meth "Disk" "_settle", .glo "InvalidArgument", .glo "PowerOff", .glo "AnswerError", .exc "InvalidArgument", .exc "PowerOff", .exm "InvalidArgument" "AnswerError" true, .exm "PowerOff" "PowerOff" true, .free "ValueError", .int "SECTOR_SIZE" 256, .int "FEWEST_SECTORS" 100, .int "MOST_SECTORS" 600]
def ckL (K : PySem.W.Frag) : Bool := [decide (PySem.W.findIn K (.ref (He.ga K "InvalidArgument")) "__getattribute__" = some (some (.builtin "BaseException.__getattribute__"))),
  decide (PySem.W.findIn K (.ref (He.ga K "InvalidArgument")) "__getattr__" = some none),
  decide (PySem.W.subIn K (.ref (He.ga K "InvalidArgument")) (.type "BaseException") = some true),
  PySem.W.hasDictIn K (He.ga K "InvalidArgument"),
  decide (PySem.W.findIn K (.ref (He.ga K "InvalidArgument")) "__class__" = some (some (.builtin "object.__class__"))),
  decide (PySem.W.specialIn K (.builtin "object.__class__") "__get__" = some (some (.builtin "getset_descriptor.__get__"))),
  decide (PySem.W.takesIn K (.builtin "object.__class__") = some true),
  decide (PySem.W.mroIn K (He.ga K "InvalidArgument") (.type "object") = some true),
  decide (PySem.W.kitOne K (.ref (He.ga K "InvalidArgument")) (.ref (He.ga K "InvalidArgument")) = some true),
  decide (PySem.W.kitOne K (.ref (He.ga K "InvalidArgument")) (.type "ValueError") = some true)].all id
section
variable {K : PySem.W.Frag} {h : Heap} {mg : Str → Option Value}
theorem bltL (X : K.In h) (G : h.Ns mainGlobals mg) (c : He.SaysD faL fnL K) : Blt mg :=
  ⟨He.free_ok X G (c.fact 12 (f := .free "len") rfl), He.free_ok X G (c.fact 13 (f := .free "abs") rfl), He.free_ok X G (c.fact 14 (f := .free "ord") rfl), He.free_ok X G (c.fact 15 (f := .free "max") rfl), He.free_ok X G (c.fact 16 (f := .free "min") rfl), He.free_ok X G (c.fact 17 (f := .free "int") rfl), He.free_ok X G (c.fact 18 (f := .free "str") rfl), He.free_ok X G (c.fact 19 (f := .free "bool") rfl), He.free_ok X G (c.fact 20 (f := .free "tuple") rfl), He.free_ok X G (c.fact 21 (f := .free "list") rfl), He.free_ok X G (c.fact 22 (f := .free "isinstance") rfl), He.free_ok X G (c.fact 23 (f := .free "range") rfl), He.free_ok X G (c.fact 24 (f := .free "any") rfl), He.free_ok X G (c.fact 25 (f := .free "enumerate") rfl)⟩
theorem ckAt (k : ckL K = true) {i : Nat} {b : Bool} (e : [decide (PySem.W.findIn K (.ref (He.ga K "InvalidArgument")) "__getattribute__" = some (some (.builtin "BaseException.__getattribute__"))), decide (PySem.W.findIn K (.ref (He.ga K "InvalidArgument")) "__getattr__" = some none), decide (PySem.W.subIn K (.ref (He.ga K "InvalidArgument")) (.type "BaseException") = some true), PySem.W.hasDictIn K (He.ga K "InvalidArgument"), decide (PySem.W.findIn K (.ref (He.ga K "InvalidArgument")) "__class__" = some (some (.builtin "object.__class__"))), decide (PySem.W.specialIn K (.builtin "object.__class__") "__get__" = some (some (.builtin "getset_descriptor.__get__"))), decide (PySem.W.takesIn K (.builtin "object.__class__") = some true), decide (PySem.W.mroIn K (He.ga K "InvalidArgument") (.type "object") = some true), decide (PySem.W.kitOne K (.ref (He.ga K "InvalidArgument")) (.ref (He.ga K "InvalidArgument")) = some true), decide (PySem.W.kitOne K (.ref (He.ga K "InvalidArgument")) (.type "ValueError") = some true)][i]? = some b) : b = true := by
  unfold ckL at k
  exact List.all_eq_true.mp k b (List.mem_of_getElem? e)
theorem is_InvalidArgument (X : K.In h) (G : h.Ns mainGlobals mg) (c : He.SaysD faL fnL K) (k : ckL K = true) : IsF K mg "InvalidArgument" :=
  ⟨He.glo_ok X G (c.fact 53 (f := .glo "InvalidArgument") rfl), ⟨of_decide_eq_true (ckAt k (i := 0) rfl), of_decide_eq_true (ckAt k (i := 1) rfl), of_decide_eq_true (ckAt k (i := 2) rfl), ckAt k (i := 3) rfl, of_decide_eq_true (ckAt k (i := 4) rfl), of_decide_eq_true (ckAt k (i := 5) rfl), of_decide_eq_true (ckAt k (i := 6) rfl), of_decide_eq_true (ckAt k (i := 7) rfl)⟩, of_decide_eq_true (ckAt k (i := 8) rfl), He.free_ok X G (c.fact 60 (f := .free "ValueError") rfl), of_decide_eq_true (ckAt k (i := 9) rfl)⟩
theorem ct_InvalidArgument_AnswerError (c : He.SaysD faL fnL K) : ∀ y b, ctOne "InvalidArgument" y = some b → PySem.W.exmOne K (.ref (He.ga K y)) (.ref (He.ga K "AnswerError")) = some b := fun y b hy => by
  obtain ⟨rfl, rfl⟩ := ctOne_eq hy
  exact He.exm_ok (c.fact 58 (f := .exm "InvalidArgument" "AnswerError" true) rfl)
theorem ct_PowerOff_PowerOff (c : He.SaysD faL fnL K) : ∀ y b, ctOne "PowerOff" y = some b → PySem.W.exmOne K (.ref (He.ga K y)) (.ref (He.ga K "PowerOff")) = some b := fun y b hy => by
  obtain ⟨rfl, rfl⟩ := ctOne_eq hy
  exact He.exm_ok (c.fact 59 (f := .exm "PowerOff" "PowerOff" true) rfl)
theorem x_InvalidArgument (X : K.In h) (G : h.Ns mainGlobals mg) (c : He.SaysD faL fnL K) : ErC K mg "InvalidArgument" := ⟨He.glo_ok X G (c.fact 53 (f := .glo "InvalidArgument") rfl), (c.fact 56 (f := .exc "InvalidArgument") rfl)⟩
theorem x_PowerOff (X : K.In h) (G : h.Ns mainGlobals mg) (c : He.SaysD faL fnL K) : ErC K mg "PowerOff" := ⟨He.glo_ok X G (c.fact 54 (f := .glo "PowerOff") rfl), (c.fact 57 (f := .exc "PowerOff") rfl)⟩
theorem D__law_next (X : K.In h) (G : h.Ns mainGlobals mg) (c : He.SaysD faL fnL K) : Dfn K mg "_law_next" (topS 10) ["state", "limit"] := by
  obtain ⟨fd, F⟩ := c.def_ 0 (d := d__law_next) rfl
  have F2 : Fun K "_law_next" "_law_next" (topS 10) _ fd := fun_ofD (ks := []) F
  exact ⟨_, fd, F2, He.glo_ok X G (c.fact 0 (f := .glo "_law_next") rfl), F2.binds (fun _ _ _ _ _ _ us hl => match us, hl with | [_, _], _ => rfl)⟩
theorem D__law_same (X : K.In h) (G : h.Ns mainGlobals mg) (c : He.SaysD faL fnL K) : Dfn K mg "_law_same" (topS 11) ["actual", "expected"] := by
  obtain ⟨fd, F⟩ := c.def_ 1 (d := d__law_same) rfl
  have F2 : Fun K "_law_same" "_law_same" (topS 11) _ fd := fun_ofD (ks := []) F
  exact ⟨_, fd, F2, He.glo_ok X G (c.fact 1 (f := .glo "_law_same") rfl), F2.binds (fun _ _ _ _ _ _ us hl => match us, hl with | [_, _], _ => rfl)⟩
theorem D__law_refused (X : K.In h) (G : h.Ns mainGlobals mg) (c : He.SaysD faL fnL K) : Dfn K mg "_law_refused" (topS 12) ["size"] := by
  obtain ⟨fd, F⟩ := c.def_ 2 (d := d__law_refused) rfl
  have F2 : Fun K "_law_refused" "_law_refused" (topS 12) _ fd := fun_ofD (ks := []) F
  exact ⟨_, fd, F2, He.glo_ok X G (c.fact 2 (f := .glo "_law_refused") rfl), F2.binds (fun _ _ _ _ _ _ us hl => match us, hl with | [_], _ => rfl)⟩
theorem D__law_operate (X : K.In h) (G : h.Ns mainGlobals mg) (c : He.SaysD faL fnL K) : Dfn K mg "_law_operate" (topS 13) ["world"] := by
  obtain ⟨fd, F⟩ := c.def_ 3 (d := d__law_operate) rfl
  have F2 : Fun K "_law_operate" "_law_operate" (topS 13) _ fd := fun_ofD (ks := []) F
  exact ⟨_, fd, F2, He.glo_ok X G (c.fact 3 (f := .glo "_law_operate") rfl), F2.binds (fun _ _ _ _ _ _ us hl => match us, hl with | [_], _ => rfl)⟩
theorem D__law_write (X : K.In h) (G : h.Ns mainGlobals mg) (c : He.SaysD faL fnL K) : Dfn K mg "_law_write" (topS 14) ["state", "world", "disk"] := by
  obtain ⟨fd, F⟩ := c.def_ 4 (d := d__law_write) rfl
  have F2 : Fun K "_law_write" "_law_write" (topS 14) _ fd := fun_ofD (ks := []) F
  exact ⟨_, fd, F2, He.glo_ok X G (c.fact 4 (f := .glo "_law_write") rfl), F2.binds (fun _ _ _ _ _ _ us hl => match us, hl with | [_, _, _], _ => rfl)⟩
theorem D__law_sync (X : K.In h) (G : h.Ns mainGlobals mg) (c : He.SaysD faL fnL K) : Dfn K mg "_law_sync" (topS 15) ["world", "disk"] := by
  obtain ⟨fd, F⟩ := c.def_ 5 (d := d__law_sync) rfl
  have F2 : Fun K "_law_sync" "_law_sync" (topS 15) _ fd := fun_ofD (ks := []) F
  exact ⟨_, fd, F2, He.glo_ok X G (c.fact 5 (f := .glo "_law_sync") rfl), F2.binds (fun _ _ _ _ _ _ us hl => match us, hl with | [_, _], _ => rfl)⟩
theorem D__law_fail (X : K.In h) (G : h.Ns mainGlobals mg) (c : He.SaysD faL fnL K) : Dfn K mg "_law_fail" (topS 16) ["state", "world", "disk"] := by
  obtain ⟨fd, F⟩ := c.def_ 6 (d := d__law_fail) rfl
  have F2 : Fun K "_law_fail" "_law_fail" (topS 16) _ fd := fun_ofD (ks := []) F
  exact ⟨_, fd, F2, He.glo_ok X G (c.fact 6 (f := .glo "_law_fail") rfl), F2.binds (fun _ _ _ _ _ _ us hl => match us, hl with | [_, _, _], _ => rfl)⟩
theorem D__law_power (X : K.In h) (G : h.Ns mainGlobals mg) (c : He.SaysD faL fnL K) : Dfn K mg "_law_power" (topS 17) ["state", "world", "disk"] := by
  obtain ⟨fd, F⟩ := c.def_ 7 (d := d__law_power) rfl
  have F2 : Fun K "_law_power" "_law_power" (topS 17) _ fd := fun_ofD (ks := []) F
  exact ⟨_, fd, F2, He.glo_ok X G (c.fact 7 (f := .glo "_law_power") rfl), F2.binds (fun _ _ _ _ _ _ us hl => match us, hl with | [_, _, _], _ => rfl)⟩
theorem D__law_deed (X : K.In h) (G : h.Ns mainGlobals mg) (c : He.SaysD faL fnL K) : Dfn K mg "_law_deed" (topS 18) ["state", "world", "disk"] := by
  obtain ⟨fd, F⟩ := c.def_ 8 (d := d__law_deed) rfl
  have F2 : Fun K "_law_deed" "_law_deed" (topS 18) _ fd := fun_ofD (ks := []) F
  exact ⟨_, fd, F2, He.glo_ok X G (c.fact 8 (f := .glo "_law_deed") rfl), F2.binds (fun _ _ _ _ _ _ us hl => match us, hl with | [_, _, _], _ => rfl)⟩
theorem D__law_sector (X : K.In h) (G : h.Ns mainGlobals mg) (c : He.SaysD faL fnL K) : Dfn K mg "_law_sector" (topS 19) ["world", "index"] := by
  obtain ⟨fd, F⟩ := c.def_ 9 (d := d__law_sector) rfl
  have F2 : Fun K "_law_sector" "_law_sector" (topS 19) _ fd := fun_ofD (ks := []) F
  exact ⟨_, fd, F2, He.glo_ok X G (c.fact 9 (f := .glo "_law_sector") rfl), F2.binds (fun _ _ _ _ _ _ us hl => match us, hl with | [_, _], _ => rfl)⟩
theorem D__law_is_right (X : K.In h) (G : h.Ns mainGlobals mg) (c : He.SaysD faL fnL K) : Dfn K mg "_law_is_right" (topS 20) ["state", "world", "disk"] := by
  obtain ⟨fd, F⟩ := c.def_ 10 (d := d__law_is_right) rfl
  have F2 : Fun K "_law_is_right" "_law_is_right" (topS 20) _ fd := fun_ofD (ks := []) F
  exact ⟨_, fd, F2, He.glo_ok X G (c.fact 10 (f := .glo "_law_is_right") rfl), F2.binds (fun _ _ _ _ _ _ us hl => match us, hl with | [_, _, _], _ => rfl)⟩
theorem D_law (X : K.In h) (G : h.Ns mainGlobals mg) (c : He.SaysD faL fnL K) : Dfn K mg "law" (topS 21) ["script"] := by
  obtain ⟨fd, F⟩ := c.def_ 11 (d := d_law) rfl
  have F2 : Fun K "law" "law" (topS 21) _ fd := fun_ofD (ks := []) F
  exact ⟨_, fd, F2, He.glo_ok X G (c.fact 11 (f := .glo "law") rfl), F2.binds (fun _ _ _ _ _ _ us hl => match us, hl with | [_], _ => rfl)⟩
theorem c_SECTOR_SIZE (X : K.In h) (G : h.Ns mainGlobals mg) (c : He.SaysD faL fnL K) : Cst mg "SECTOR_SIZE" (.int 256) := by
  obtain ⟨t, e⟩ := He.int_ok X G (c.fact 61 (f := .int "SECTOR_SIZE" 256) rfl)
  exact .int e
theorem c_FEWEST_SECTORS (X : K.In h) (G : h.Ns mainGlobals mg) (c : He.SaysD faL fnL K) : Cst mg "FEWEST_SECTORS" (.int 100) := by
  obtain ⟨t, e⟩ := He.int_ok X G (c.fact 62 (f := .int "FEWEST_SECTORS" 100) rfl)
  exact .int e
theorem c_MOST_SECTORS (X : K.In h) (G : h.Ns mainGlobals mg) (c : He.SaysD faL fnL K) : Cst mg "MOST_SECTORS" (.int 600) := by
  obtain ⟨t, e⟩ := He.int_ok X G (c.fact 63 (f := .int "MOST_SECTORS" 600) rfl)
  exact .int e
end
section
variable {P : Program} {wd : World} {K : PySem.W.Frag} {base h : Heap} {mg : Str → Option Value}
theorem Q_Disk__fail (X : K.In h) (G : h.Ns mainGlobals mg) (c : He.SaysD faL fnL K) (k : ckL K = true) : MtM P wd K mg base 1 (He.ga K "Disk") "_fail" (F_Disk__fail (He.ga K "Disk")) := by
  have B := bltL X G c
  obtain ⟨fd, F⟩ := c.def_ 24 (d := d_Disk__fail) rfl
  have F2 : Fun K "_fail" "Disk._fail" s_Disk__fail _ fd := fun_ofD (ks := []) F
  exact ⟨_, fd, ["self"], fn_m F2 S_Disk__fail (fun cdv A outer s H E hr => b_Disk__fail B (He.cls_ok (c.fact 29 (f := .cls "Disk") rfl)) (He.noat_ok (c.fact 39 (f := .noat "Disk" "in_use") rfl)) (He.noat_ok (c.fact 33 (f := .noat "Disk" "_losses") rfl)) (He.noat_ok (c.fact 32 (f := .noat "Disk" "_left") rfl)) (He.noat_ok (c.fact 34 (f := .noat "Disk" "_on") rfl)) cdv A outer s H E hr) (fun ms μ P PX z => h_Disk__fail z), He.meth_ok (c.fact 51 (f := .meth "Disk" "_fail") rfl), F2.binds (fun _ _ _ _ _ _ us hl => match us, hl with | [_], _ => rfl)⟩
theorem Q_Disk__settle (X : K.In h) (G : h.Ns mainGlobals mg) (c : He.SaysD faL fnL K) (k : ckL K = true) : MtM P wd K mg base 1 (He.ga K "Disk") "_settle" (F_Disk__settle (He.ga K "Disk")) := by
  have B := bltL X G c
  obtain ⟨fd, F⟩ := c.def_ 25 (d := d_Disk__settle) rfl
  have F2 : Fun K "_settle" "Disk._settle" s_Disk__settle _ fd := fun_ofD (ks := []) F
  exact ⟨_, fd, ["self", "writes"], fn_m F2 S_Disk__settle (fun cdv A outer s H E hr => b_Disk__settle B (He.cls_ok (c.fact 29 (f := .cls "Disk") rfl)) (He.noat_ok (c.fact 37 (f := .noat "Disk" "_waiting") rfl)) (He.noat_ok (c.fact 31 (f := .noat "Disk" "_arrived") rfl)) cdv A outer s H E hr) (fun ms μ P PX z => h_Disk__settle z), He.meth_ok (c.fact 52 (f := .meth "Disk" "_settle") rfl), F2.binds (fun _ _ _ _ _ _ us hl => match us, hl with | [_, _], _ => rfl)⟩
theorem Q_Disk_counts (X : K.In h) (G : h.Ns mainGlobals mg) (c : He.SaysD faL fnL K) (k : ckL K = true) : MtM P wd K mg base 1 (He.ga K "Disk") "counts" (FG0 (He.ga K "Disk") fun m => .tuple [.int m.w, .int m.s]) := by
  have B := bltL X G c
  obtain ⟨fd, F⟩ := c.def_ 16 (d := d_Disk_counts) rfl
  have F2 : Fun K "counts" "Disk.counts" s_Disk_counts _ fd := fun_ofD (ks := []) F
  exact ⟨_, fd, ["self"], fn_m F2 S_Disk_counts (fun cdv A outer s H E hr => b_Disk_counts B (He.cls_ok (c.fact 29 (f := .cls "Disk") rfl)) (He.noat_ok (c.fact 36 (f := .noat "Disk" "_syncs") rfl)) (He.noat_ok (c.fact 38 (f := .noat "Disk" "_writes") rfl)) cdv A outer s H E hr) (fun ms μ P PX z => h_Disk_counts z), He.meth_ok (c.fact 43 (f := .meth "Disk" "counts") rfl), F2.binds (fun _ _ _ _ _ _ us hl => match us, hl with | [_], _ => rfl)⟩
theorem Q_Disk_fail_after (X : K.In h) (G : h.Ns mainGlobals mg) (c : He.SaysD faL fnL K) (k : ckL K = true) : MtM P wd K mg base 1 (He.ga K "Disk") "fail_after" (F_Disk_fail_after (He.ga K "Disk")) := by
  have B := bltL X G c
  obtain ⟨fd, F⟩ := c.def_ 19 (d := d_Disk_fail_after) rfl
  have F2 : Fun K "fail_after" "Disk.fail_after" s_Disk_fail_after _ fd := fun_ofD (ks := []) F
  exact ⟨_, fd, ["self", "operations"], fn_m F2 S_Disk_fail_after (fun cdv A outer s H E hr => b_Disk_fail_after B (He.cls_ok (c.fact 29 (f := .cls "Disk") rfl)) (He.noat_ok (c.fact 32 (f := .noat "Disk" "_left") rfl)) (He.noat_ok (c.fact 34 (f := .noat "Disk" "_on") rfl)) (x_PowerOff X G c) cdv A outer s H E hr) (fun ms μ P PX z => h_Disk_fail_after z), He.meth_ok (c.fact 46 (f := .meth "Disk" "fail_after") rfl), F2.binds (fun _ _ _ _ _ _ us hl => match us, hl with | [_, _], _ => rfl)⟩
theorem Q_Disk_is_on (X : K.In h) (G : h.Ns mainGlobals mg) (c : He.SaysD faL fnL K) (k : ckL K = true) : MtM P wd K mg base 1 (He.ga K "Disk") "is_on" (FG0 (He.ga K "Disk") fun m => .bool m.on) := by
  have B := bltL X G c
  obtain ⟨fd, F⟩ := c.def_ 21 (d := d_Disk_is_on) rfl
  have F2 : Fun K "is_on" "Disk.is_on" s_Disk_is_on _ fd := fun_ofD (ks := []) F
  exact ⟨_, fd, ["self"], fn_m F2 S_Disk_is_on (fun cdv A outer s H E hr => b_Disk_is_on B (He.cls_ok (c.fact 29 (f := .cls "Disk") rfl)) (He.noat_ok (c.fact 34 (f := .noat "Disk" "_on") rfl)) cdv A outer s H E hr) (fun ms μ P PX z => h_Disk_is_on z), He.meth_ok (c.fact 48 (f := .meth "Disk" "is_on") rfl), F2.binds (fun _ _ _ _ _ _ us hl => match us, hl with | [_], _ => rfl)⟩
theorem Q_Disk_losses (X : K.In h) (G : h.Ns mainGlobals mg) (c : He.SaysD faL fnL K) (k : ckL K = true) : MtM P wd K mg base 1 (He.ga K "Disk") "losses" (FG0 (He.ga K "Disk") fun m => .int m.n) := by
  have B := bltL X G c
  obtain ⟨fd, F⟩ := c.def_ 22 (d := d_Disk_losses) rfl
  have F2 : Fun K "losses" "Disk.losses" s_Disk_losses _ fd := fun_ofD (ks := []) F
  exact ⟨_, fd, ["self"], fn_m F2 S_Disk_losses (fun cdv A outer s H E hr => b_Disk_losses B (He.cls_ok (c.fact 29 (f := .cls "Disk") rfl)) (He.noat_ok (c.fact 33 (f := .noat "Disk" "_losses") rfl)) cdv A outer s H E hr) (fun ms μ P PX z => h_Disk_losses z), He.meth_ok (c.fact 49 (f := .meth "Disk" "losses") rfl), F2.binds (fun _ _ _ _ _ _ us hl => match us, hl with | [_], _ => rfl)⟩
theorem Q_Disk_pending (X : K.In h) (G : h.Ns mainGlobals mg) (c : He.SaysD faL fnL K) (k : ckL K = true) : MtM P wd K mg base 1 (He.ga K "Disk") "pending" (FG0 (He.ga K "Disk") fun m => .int (m.wt.length : Nat)) := by
  have B := bltL X G c
  obtain ⟨fd, F⟩ := c.def_ 15 (d := d_Disk_pending) rfl
  have F2 : Fun K "pending" "Disk.pending" s_Disk_pending _ fd := fun_ofD (ks := []) F
  exact ⟨_, fd, ["self"], fn_m F2 S_Disk_pending (fun cdv A outer s H E hr => b_Disk_pending B (He.cls_ok (c.fact 29 (f := .cls "Disk") rfl)) (He.noat_ok (c.fact 37 (f := .noat "Disk" "_waiting") rfl)) cdv A outer s H E hr) (fun ms μ P PX z => h_Disk_pending z), He.meth_ok (c.fact 42 (f := .meth "Disk" "pending") rfl), F2.binds (fun _ _ _ _ _ _ us hl => match us, hl with | [_], _ => rfl)⟩
theorem Q_Disk_read (X : K.In h) (G : h.Ns mainGlobals mg) (c : He.SaysD faL fnL K) (k : ckL K = true) : MtM P wd K mg base 1 (He.ga K "Disk") "read" (F_Disk_read (He.ga K "Disk")) := by
  have B := bltL X G c
  obtain ⟨fd, F⟩ := c.def_ 14 (d := d_Disk_read) rfl
  have F2 : Fun K "read" "Disk.read" s_Disk_read _ fd := fun_ofD (ks := []) F
  exact ⟨_, fd, ["self", "index"], fn_m F2 S_Disk_read (fun cdv A outer s H E hr => b_Disk_read B (He.cls_ok (c.fact 29 (f := .cls "Disk") rfl)) (He.noat_ok (c.fact 31 (f := .noat "Disk" "_arrived") rfl)) (c_SECTOR_SIZE X G c) (He.noat_ok (c.fact 37 (f := .noat "Disk" "_waiting") rfl)) (He.free_ok X G (c.fact 26 (f := .free "reversed") rfl)) cdv A outer s H E hr) (fun ms μ P PX z => h_Disk_read z), He.meth_ok (c.fact 41 (f := .meth "Disk" "read") rfl), F2.binds (fun _ _ _ _ _ _ us hl => match us, hl with | [_, _], _ => rfl)⟩
theorem Q_Disk_size (X : K.In h) (G : h.Ns mainGlobals mg) (c : He.SaysD faL fnL K) (k : ckL K = true) : MtM P wd K mg base 1 (He.ga K "Disk") "size" (FG0 (He.ga K "Disk") fun m => .int m.size) := by
  have B := bltL X G c
  obtain ⟨fd, F⟩ := c.def_ 13 (d := d_Disk_size) rfl
  have F2 : Fun K "size" "Disk.size" s_Disk_size _ fd := fun_ofD (ks := []) F
  exact ⟨_, fd, ["self"], fn_m F2 S_Disk_size (fun cdv A outer s H E hr => b_Disk_size B (He.cls_ok (c.fact 29 (f := .cls "Disk") rfl)) (He.noat_ok (c.fact 35 (f := .noat "Disk" "_size") rfl)) cdv A outer s H E hr) (fun ms μ P PX z => h_Disk_size z), He.meth_ok (c.fact 40 (f := .meth "Disk" "size") rfl), F2.binds (fun _ _ _ _ _ _ us hl => match us, hl with | [_], _ => rfl)⟩
theorem Q_Disk (X : K.In h) (G : h.Ns mainGlobals mg) (c : He.SaysD faL fnL K) (k : ckL K = true) : InM P wd K mg base 1 (He.ga K "Disk") (F_Disk (He.ga K "Disk")) := by
  have B := bltL X G c
  obtain ⟨fd, F⟩ := c.def_ 12 (d := d_Disk___init__) rfl
  have F2 : Fun K "__init__" "Disk.__init__" s_Disk___init__ _ fd := fun_ofD (ks := []) F
  exact ⟨_, fd, ["self", "sectors"], fn_m F2 S_Disk___init__ (fun cdv A outer s H E hr => b_Disk___init__ B (He.cls_ok (c.fact 29 (f := .cls "Disk") rfl)) (He.noat_ok (c.fact 32 (f := .noat "Disk" "_left") rfl)) (He.noat_ok (c.fact 33 (f := .noat "Disk" "_losses") rfl)) (He.noat_ok (c.fact 34 (f := .noat "Disk" "_on") rfl)) (He.noat_ok (c.fact 36 (f := .noat "Disk" "_syncs") rfl)) (He.noat_ok (c.fact 38 (f := .noat "Disk" "_writes") rfl)) (He.noat_ok (c.fact 37 (f := .noat "Disk" "_waiting") rfl)) (He.noat_ok (c.fact 31 (f := .noat "Disk" "_arrived") rfl)) (He.noat_ok (c.fact 35 (f := .noat "Disk" "_size") rfl)) (He.noat_ok (c.fact 39 (f := .noat "Disk" "in_use") rfl)) (c_FEWEST_SECTORS X G c) (c_MOST_SECTORS X G c) (x_InvalidArgument X G c) cdv A outer s H E hr) (fun ms μ P PX z => h_Disk z), He.mkr_ok (c.fact 30 (f := .mkr "Disk") rfl), F2.binds (fun _ _ _ _ _ _ us hl => match us, hl with | [_, _], _ => rfl)⟩
theorem Q__law_next (X : K.In h) (G : h.Ns mainGlobals mg) (c : He.SaysD faL fnL K) (k : ckL K = true) : Sfn P wd K mg base 1 "_law_next" F__law_next :=
  have B := bltL X G c
  next_ok (D__law_next X G c) B
theorem Q__law_operate (X : K.In h) (G : h.Ns mainGlobals mg) (c : He.SaysD faL fnL K) (k : ckL K = true) : FnM P wd K mg base 1 "_law_operate" (F__law_operate) :=
  have B := bltL X G c
  fnm_mk (D__law_operate X G c) S__law_operate (fun f cdv A outer s H E hr => b__law_operate B cdv A outer s H E hr) (fun ms μ P PX z => h__law_operate z)
theorem Q__law_sector (X : K.In h) (G : h.Ns mainGlobals mg) (c : He.SaysD faL fnL K) (k : ckL K = true) : FnM P wd K mg base 1 "_law_sector" (F__law_sector (He.ga K "Disk")) :=
  have B := bltL X G c
  fnm_mk (D__law_sector X G c) S__law_sector (fun f cdv A outer s H E hr => b__law_sector B cdv A outer s H E hr) (fun ms μ P PX z => h__law_sector z)
theorem Q_Disk__operate (X : K.In h) (G : h.Ns mainGlobals mg) (c : He.SaysD faL fnL K) (k : ckL K = true) : MtM P wd K mg base 2 (He.ga K "Disk") "_operate" (F_Disk__operate (He.ga K "Disk")) := by
  have B := bltL X G c
  obtain ⟨fd, F⟩ := c.def_ 23 (d := d_Disk__operate) rfl
  have F2 : Fun K "_operate" "Disk._operate" s_Disk__operate _ fd := fun_ofD (ks := []) F
  exact ⟨_, fd, ["self"], fn_m F2 S_Disk__operate (fun cdv A outer s H E hr => b_Disk__operate B (He.cls_ok (c.fact 29 (f := .cls "Disk") rfl)) (He.noat_ok (c.fact 32 (f := .noat "Disk" "_left") rfl)) (x_PowerOff X G c) (Q_Disk__fail X G c k) (He.noat_ok (c.fact 34 (f := .noat "Disk" "_on") rfl)) cdv A outer s H E hr) (fun ms μ P PX z => h_Disk__operate z), He.meth_ok (c.fact 50 (f := .meth "Disk" "_operate") rfl), F2.binds (fun _ _ _ _ _ _ us hl => match us, hl with | [_], _ => rfl)⟩
theorem Q_Disk_power (X : K.In h) (G : h.Ns mainGlobals mg) (c : He.SaysD faL fnL K) (k : ckL K = true) : MtM P wd K mg base 2 (He.ga K "Disk") "power" (F_Disk_power (He.ga K "Disk")) := by
  have B := bltL X G c
  obtain ⟨fd, F⟩ := c.def_ 20 (d := d_Disk_power) rfl
  have F2 : Fun K "power" "Disk.power" s_Disk_power _ fd := fun_ofD (ks := []) F
  exact ⟨_, fd, ["self", "kept"], fn_m F2 S_Disk_power (fun cdv A outer s H E hr => b_Disk_power B (He.cls_ok (c.fact 29 (f := .cls "Disk") rfl)) (He.noat_ok (c.fact 34 (f := .noat "Disk" "_on") rfl)) (Q_Disk__settle X G c k) (He.noat_ok (c.fact 37 (f := .noat "Disk" "_waiting") rfl)) (He.free_ok X G (c.fact 27 (f := .free "zip") rfl)) (Q_Disk__fail X G c k) cdv A outer s H E hr) (fun ms μ P PX z => h_Disk_power z), He.meth_ok (c.fact 47 (f := .meth "Disk" "power") rfl), F2.binds (fun _ _ _ _ _ _ us hl => match us, hl with | [_, _], _ => rfl)⟩
theorem Q__law_same (X : K.In h) (G : h.Ns mainGlobals mg) (c : He.SaysD faL fnL K) (k : ckL K = true) : Fnc P wd K mg base 3 "_law_same" F__law_same :=
  have B := bltL X G c
  same_rec (D__law_same X G c) B 3
theorem Q_Disk_sync (X : K.In h) (G : h.Ns mainGlobals mg) (c : He.SaysD faL fnL K) (k : ckL K = true) : MtM P wd K mg base 3 (He.ga K "Disk") "sync" (F_Disk_sync (He.ga K "Disk")) := by
  have B := bltL X G c
  obtain ⟨fd, F⟩ := c.def_ 18 (d := d_Disk_sync) rfl
  have F2 : Fun K "sync" "Disk.sync" s_Disk_sync _ fd := fun_ofD (ks := []) F
  exact ⟨_, fd, ["self"], fn_m F2 S_Disk_sync (fun cdv A outer s H E hr => b_Disk_sync B (He.cls_ok (c.fact 29 (f := .cls "Disk") rfl)) (He.noat_ok (c.fact 36 (f := .noat "Disk" "_syncs") rfl)) (Q_Disk__settle X G c k) (He.noat_ok (c.fact 37 (f := .noat "Disk" "_waiting") rfl)) (Q_Disk__operate X G c k) cdv A outer s H E hr) (fun ms μ P PX z => h_Disk_sync z), He.meth_ok (c.fact 45 (f := .meth "Disk" "sync") rfl), F2.binds (fun _ _ _ _ _ _ us hl => match us, hl with | [_], _ => rfl)⟩
theorem Q_Disk_write (X : K.In h) (G : h.Ns mainGlobals mg) (c : He.SaysD faL fnL K) (k : ckL K = true) : MtM P wd K mg base 3 (He.ga K "Disk") "write" (F_Disk_write (He.ga K "Disk")) := by
  have B := bltL X G c
  obtain ⟨fd, F⟩ := c.def_ 17 (d := d_Disk_write) rfl
  have F2 : Fun K "write" "Disk.write" s_Disk_write _ fd := fun_ofD (ks := []) F
  exact ⟨_, fd, ["self", "index", "data"], fn_m F2 S_Disk_write (fun cdv A outer s H E hr => b_Disk_write B (He.cls_ok (c.fact 29 (f := .cls "Disk") rfl)) (He.noat_ok (c.fact 38 (f := .noat "Disk" "_writes") rfl)) (He.noat_ok (c.fact 37 (f := .noat "Disk" "_waiting") rfl)) (Q_Disk__operate X G c k) cdv A outer s H E hr) (fun ms μ P PX z => h_Disk_write z), He.meth_ok (c.fact 44 (f := .meth "Disk" "write") rfl), F2.binds (fun _ _ _ _ _ _ us hl => match us, hl with | [_, _, _], _ => rfl)⟩
theorem Q__law_refused (X : K.In h) (G : h.Ns mainGlobals mg) (c : He.SaysD faL fnL K) (k : ckL K = true) : FnM P wd K mg base 3 "_law_refused" (F__law_refused) :=
  have B := bltL X G c
  fnm_mk (D__law_refused X G c) S__law_refused (fun f cdv A outer s H E hr => b__law_refused B (He.cls_ok (c.fact 29 (f := .cls "Disk") rfl)) (He.glo_ok X G (c.fact 55 (f := .glo "AnswerError") rfl)) (ct_InvalidArgument_AnswerError c) (is_InvalidArgument X G c k) (Q_Disk X G c k) (He.glo_ok X G (c.fact 28 (f := .glo "Disk") rfl)) cdv A outer s H E hr) (fun ms μ P PX z => h__law_refused z)
theorem Q__law_fail (X : K.In h) (G : h.Ns mainGlobals mg) (c : He.SaysD faL fnL K) (k : ckL K = true) : FnM P wd K mg base 4 "_law_fail" (FDeed (He.ga K "Disk")) :=
  have B := bltL X G c
  fnm_mk (D__law_fail X G c) S__law_fail (fun f cdv A outer s H E hr => b__law_fail B (He.cls_ok (c.fact 29 (f := .cls "Disk") rfl)) (He.glo_ok X G (c.fact 54 (f := .glo "PowerOff") rfl)) (ct_PowerOff_PowerOff c) (Q_Disk_fail_after X G c k) (Q__law_next X G c k) cdv A outer s H E hr) (fun ms μ P PX z => h__law_fail z)
theorem Q__law_is_right (X : K.In h) (G : h.Ns mainGlobals mg) (c : He.SaysD faL fnL K) (k : ckL K = true) : FnM P wd K mg base 4 "_law_is_right" (F__law_is_right (He.ga K "Disk")) :=
  have B := bltL X G c
  fnm_mk (D__law_is_right X G c) S__law_is_right (fun f cdv A outer s H E hr => b__law_is_right B (He.cls_ok (c.fact 29 (f := .cls "Disk") rfl)) (Q__law_same X G c k) (Q__law_sector X G c k) (Q_Disk_read X G c k) (Q__law_next X G c k) (He.noat_ok (c.fact 39 (f := .noat "Disk" "in_use") rfl)) (Q_Disk_losses X G c k) (Q_Disk_is_on X G c k) (Q_Disk_counts X G c k) (Q_Disk_pending X G c k) (Q_Disk_size X G c k) cdv A outer s H E hr) (fun ms μ P PX z => h__law_is_right z)
theorem Q__law_power (X : K.In h) (G : h.Ns mainGlobals mg) (c : He.SaysD faL fnL K) (k : ckL K = true) : FnM P wd K mg base 4 "_law_power" (FDeed (He.ga K "Disk")) :=
  have B := bltL X G c
  fnm_mk (D__law_power X G c) S__law_power (fun f cdv A outer s H E hr => b__law_power B (He.cls_ok (c.fact 29 (f := .cls "Disk") rfl)) (Q_Disk_power X G c k) (Q__law_next X G c k) cdv A outer s H E hr) (fun ms μ P PX z => h__law_power z)
theorem Q__law_sync (X : K.In h) (G : h.Ns mainGlobals mg) (c : He.SaysD faL fnL K) (k : ckL K = true) : FnM P wd K mg base 4 "_law_sync" (F__law_sync (He.ga K "Disk")) :=
  have B := bltL X G c
  fnm_mk (D__law_sync X G c) S__law_sync (fun f cdv A outer s H E hr => b__law_sync B (He.cls_ok (c.fact 29 (f := .cls "Disk") rfl)) (He.glo_ok X G (c.fact 54 (f := .glo "PowerOff") rfl)) (ct_PowerOff_PowerOff c) (Q_Disk_sync X G c k) (Q__law_operate X G c k) cdv A outer s H E hr) (fun ms μ P PX z => h__law_sync z)
theorem Q__law_write (X : K.In h) (G : h.Ns mainGlobals mg) (c : He.SaysD faL fnL K) (k : ckL K = true) : FnM P wd K mg base 4 "_law_write" (FDeed (He.ga K "Disk")) :=
  have B := bltL X G c
  fnm_mk (D__law_write X G c) S__law_write (fun f cdv A outer s H E hr => b__law_write B (He.cls_ok (c.fact 29 (f := .cls "Disk") rfl)) (He.glo_ok X G (c.fact 54 (f := .glo "PowerOff") rfl)) (ct_PowerOff_PowerOff c) (Q_Disk_write X G c k) (Q__law_operate X G c k) (Q__law_next X G c k) cdv A outer s H E hr) (fun ms μ P PX z => h__law_write z)
theorem Q__law_deed (X : K.In h) (G : h.Ns mainGlobals mg) (c : He.SaysD faL fnL K) (k : ckL K = true) : FnM P wd K mg base 5 "_law_deed" (FDeed (He.ga K "Disk")) :=
  have B := bltL X G c
  fnm_mk (D__law_deed X G c) S__law_deed (fun f cdv A outer s H E hr => b__law_deed B (Q__law_power X G c k) (Q__law_fail X G c k) (Q__law_sync X G c k) (Q__law_write X G c k) (Q__law_next X G c k) cdv A outer s H E hr) (fun ms μ P PX z => h__law_deed z)
def startL (q : Addr) : En := .un :: .adr q :: List.replicate 5 .un
theorem startL_at {q b : Addr} {i : Nat} (h : (startL q)[i]? = some (.adr b)) : i = 1 ∧ b = q := by
  match i, h with
  | 0, h => cases h
  | 1, h => exact ⟨rfl, by injection (Option.some.inj h) with e; exact e.symm⟩
  | n + 2, h =>
    have z : Ent.adr b ∈ List.replicate 5 Ent.un := List.mem_of_getElem? (i := n) h
    rw [List.mem_replicate] at z; cases z.2
theorem startL_da {q : Addr} {i : Nat} {d : DD} (h : (startL q)[i]? = some (.dat d)) : False := by
  match i, h with
  | 0, h => cases h
  | 1, h => cases h
  | n + 2, h =>
    have z : Ent.dat d ∈ List.replicate 5 Ent.un := List.mem_of_getElem? (i := n) h
    rw [List.mem_replicate] at z; cases z.2
theorem law_fn {f : Addr} {fd : FuncData} (Fn : Fun K "law" "law" s_law f fd) (X : K.In h) (G : h.Ns mainGlobals mg) (c : He.SaysD faL fnL K) (k : ckL K = true) : FnOk P wd K mg base CX0 7 f fd ["script"] (spLaw K) := by
  have B := bltL X G c
  refine fnOk_0 (Fn.okX S_law (fun vs H Q E h => ?_) (fun cdv A outer s H vs Q E hr h => ?_)) fun vs H Q E h => h
  · obtain ⟨a, ns, rfl, _⟩ := h
    rfl
  obtain ⟨a, ns, rfl, hs, hq⟩ := h
  refine ⟨_, pss_cons (ps_set (i := 1) S_law.nd rfl (by first | exact .inl rfl | exact .inr rfl) (pe_lst (pa_cons (pe_callTy call_list_of (by rfl) B.list bt_list (pa_cons (pv 0) pa_nil)) (pa_cons pe_int (pa_cons pe_int (pa_cons pe_int pa_nil)))))) pss_any, ?_⟩
  refine ⟨_, rfl, a, _, rfl, .inl hs, fun l hl => ⟨by show 4 ≤ sizeLine; decide, fun q hp => ?_⟩⟩
  obtain ⟨ts, t1, t2⟩ := b_law B (He.cls_ok (c.fact 29 (f := .cls "Disk") rfl)) (Q__law_is_right X G c k) (Q_Disk_read X G c k) (Q__law_sector X G c k) (Q__law_deed X G c k) (Q__law_next X G c k) (He.noat_ok (c.fact 39 (f := .noat "Disk" "in_use") rfl)) (Q_Disk X G c k) (He.glo_ok X G (c.fact 28 (f := .glo "Disk") rfl)) (Q__law_refused X G c k) cdv A outer s H E hr
  refine ⟨ts, t1, ?_⟩
  have hlq : l ≠ q := fun e => by
    subst e
    rw [upd_same] at hp
    cases hp
  have k0 : OkM K (M.up (fun _ => none) q (.S ns)) (L2.upd (fun _ => none) l (.lst (ns.map V.int))) (upd (upd H l (.lst (ns.map V.int))) q (.lst [.ref l, .int 0, .int 0, .int 1])) := by
    refine ⟨fun x u e => ?_, fun x u e => ?_, fun x e => ?_⟩
    · by_cases z : x = l
      · subst z; rw [upd_ne hlq, upd_same]; rw [upd_same] at e; exact e
      · rw [upd_ne z] at e; cases e
    · by_cases z : x = q
      · subst z
        rw [up_same] at e; cases e
        exact ⟨_, upd_same, l, 0, 0, 1, upd_same, rfl, Nat.zero_le _, by decide, by decide, by decide⟩
      · rw [up_ne z] at e; cases e
    · by_cases z : x = q
      · subst z; rw [upd_ne hlq.symm]
      · rw [up_ne z] at e; exact absurd rfl e
  refine t2 _ _ _ _ (startL q) _ _ _ (endsM (fun m _ => m = .d (.bool true)) fun _ _ => False) ⟨_, k0.stp, ⟨rfl, fun i d h => (startL_da h).elim, fun i b h => ?_⟩⟩ (h_law (up_same)) ⟨fun σ ρ μ' H' s' h' => (by cases h'), fun v m μ' G' H' s' r' h' => ?_, fun _ _ _ _ _ h' => h'.elim, fun _ _ _ _ _ h' => h'.elim, fun _ _ _ _ _ _ h' => h'.elim⟩
  · obtain ⟨rfl, rfl⟩ := startL_at h
    rfl
  · have e : m = .d (.bool true) := h'
    subst e
    cases (show Rp K G' v (.bool true) from r')
    exact hq _
end
theorem facts {P : Program} {w : World} {K : PySem.W.Frag} {h : Heap} {mg : Str → Option Value} {f : Addr} (X : K.In h) (G : h.Ns mainGlobals mg) (hfa : mg ("law" : Str) = some (.ref f)) (c : He.SaysD faL fnL K) (k : ckL K = true) :
    ∃ fd : FuncData, (∀ (s : Shared) (v : Value), BindsTo s fd ⟨[v], []⟩ [("script", v)]) ∧ ∀ base : Heap, FnOk P w K mg base CX0 7 f fd ["script"] (spLaw K) := by
  obtain ⟨fd, F⟩ := c.def_ 11 (d := d_law) rfl
  have Fn : Fun K "law" "law" (topS 21) _ fd := fun_ofD (ks := []) F
  have e := hfa.symm.trans (He.glo_ok X G (c.fact 11 (f := .glo "law") rfl))
  have ef := Value.ref.inj (Option.some.inj e)
  subst ef
  have b := FunD.bindsA (ps := ["script"]) F fun _ _ _ _ _ _ us hl => match us, hl with | [_], _ => rfl
  exact ⟨fd, fun s v => b s [v] rfl, fun base => law_fn Fn X G c k⟩

abbrev R : PySem.W.OpenRow := PySem.W.OpenLaw.row PySem.Challenge.rw_sameanswer_k05_disk_keeps_what_was_synce
abbrev hk : PySem.W.Hook := hkE ckL 4 faL fnL
def ob (s : PySem.W.SharedT) : Bool × He.AlD := obE ckL 4 faL fnL (HandSHeadRun.getT s)
theorem ob_eq (s : PySem.W.SharedT) : ob s = hk.obs s.abs := obE_eq (HandSHeadRun.getT_eq s)
def nmL : List PySem.Str := (["AnswerError", "InvalidArgument", "PowerOff", "SECTOR_SIZE", "FEWEST_SECTORS", "MOST_SECTORS", "Disk", "_law_next", "_law_same", "_law_refused", "_law_operate", "_law_write", "_law_sync", "_law_fail", "_law_power", "_law_deed", "_law_sector", "_law_is_right"] : List PySem.Str)
theorem run (w : World) : HandSHeadRun.RunEq R (PySem.W.view R.prog [21]) hk ob 4000 nmL w := by
  intro os
  kernel_rfl
end Z1
open PySem PySem.W PySem.Calls PyProof.Rows
set_option maxRecDepth 100000 in
set_option maxHeartbeats 0 in
theorem PySem.Challenge.cw_sameanswer_k05_disk_keeps_what_was_synce_holds : PySem.Challenge.rw_sameanswer_k05_disk_keeps_what_was_synce.Holds := by
  w_on; o_law
  refine HandSHeadRun.head_any (r := OpenLaw.row PySem.Challenge.rw_sameanswer_k05_disk_keeps_what_was_synce) (q := view (OpenLaw.row PySem.Challenge.rw_sameanswer_k05_disk_keeps_what_was_synce).prog [21]) (H := Z1.hk) (ob := Z1.ob) (M := 4000) (loose := Z1.nmL) (d := HandSHeadRun.topDef (OpenLaw.row PySem.Challenge.rw_sameanswer_k05_disk_keeps_what_was_synce).prog 21) (kwd := []) Z1.ob_eq
    (by kernel_rfl) (fun s => by kernel_rfl) Z1.run (by kernel_rfl) (by kernel_rfl) (by kernel_rfl) (by rfl) (by first | assumption | decide +kernel) (by decide +kernel) ⟨rfl, rfl, rfl, rfl, rfl, by decide +kernel⟩ ?hw ?hc
  case hw => w_witness2
  case hc =>
    refine L2.walk_ofE (l := PySem.Challenge.rw_sameanswer_k05_disk_keeps_what_was_synce) (n := 63) (k := 7) (x := "script") (CX := L2.CX0) rfl (by decide) (by kernel_rfl) ⟨rfl, by decide, by decide⟩ ?F (fun _ _ _ _ z => z)
    intro w mg fa h Y G hmg0
    obtain ⟨K, KX, ck, c⟩ := Y
    have hmg : mg ("law" : PySem.Str) = some (.ref fa) := by
      have e : (HandSHeadRun.topDef (OpenLaw.row PySem.Challenge.rw_sameanswer_k05_disk_keeps_what_was_synce).prog 21).name = ("law" : PySem.Str) := by kernel_rfl
      rw [← e]
      exact hmg0
    obtain ⟨fd, hb, hF⟩ := Z1.facts (P := (PySem.Challenge.rw_sameanswer_k05_disk_keeps_what_was_synce).prog) (w := w) KX G hmg c ck
    exact ⟨K, fd, Z.spLaw K, KX, hb, fun H a ns hl _ hS => ⟨a, ns, rfl, hS, fun _ => rfl⟩, fun base _ _ => hF base⟩

