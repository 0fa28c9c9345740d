import PyProof.Rows.All
import Wide.All
import OpenK.AllK
import Wide.FinOn
import HandS.ForMost
import HandS.ForExc
import HandS.CallSlots
import HandS.Lambda
import HandS.HeadHook4
import HandS.Walk
import HandS.Defaults
import HandS.TupAny
import HandS.MakeKwOnly
import HandS.Wide
import HandS.More
import HandS.WideBits
import HandS.IsInst
import HandS.SortInts
import HandS.TupLe
import HandS.SetKeys
import HandS.DictComp
import HandS.TupSets
import HandS.Conv
import HandS.FStr
import KE.KLam
import KE.SortKeyHeap
import HandS.HeadHook2
import HandS.Gcd
import HandS.HeadHook1
import KE.GoesMore
import PyProof.EnumMake
import HandS.Iter
import HandS.Style
import HandS.RaiseMore
import KE.DataMinMax
import OpenK.KEqL
import HandS.SortKw
import HandS.Text
import HandS.Flow
import KE.KExcInit
import HandS.ExcOwn
import HandS.ExcField
import HandS.ExcInit
import HandS.TryMany
import HandS.ExcIs
import HandS.HeadWalk
import HandS.Head2
import HandS.NestedK
import KE.KStateDown
import PyProof.P3Eq
import PySem.Challenge.RW_promptworks_k54_bounds_of_messages
set_option Elab.async false
set_option linter.all false
set_option maxRecDepth 100000
namespace Sm
open PySem PySem.Spec L2

/-! ## values without the heap -/
inductive D where
  | non | bl (b : Bool) | int (i : Int) | str (s : Str) | ty (n : String) | fn (n : Str)
  | tup (ds : List D) | lst (ds : List D) | fix (ds : List D) | ktp (ds : List D)
  | dic (ks : List Key) (ds : List D) | dtp (ks : List (List Key)) (ds : List D)
  | obj (C : Str) (ns : List Str) (ds : List D)
  | hnd (n : Nat)

/-- mutable things by number -/
inductive MO where
  | dead
  | lst (ds : List D)
  | dic (ks : List Key) (ds : List D) | dtp (ks : List (List Key)) (ds : List D)
  | ins (C : Str) (ns : List Str) (ds : List D)
  | tab (p : Str × Option Str) (q : Str)

abbrev Sto := List MO
abbrev Env := List (Option D)

structure Cfg where
  K : PySem.W.Frag
  mg : Str → Option Value

/-- H' has all that H has -/
abbrev Sub (H H' : Hp) : Prop := ∀ a o, H a = some o → H' a = some o
theorem Sub.refl (H : Hp) : Sub H H := fun _ _ h => h
theorem Sub.trans {H H1 H2 : Hp} (a : Sub H H1) (b : Sub H1 H2) : Sub H H2 := fun x o h => b x o (a x o h)
theorem Sub.new {H : Hp} {p : Addr} {o : HO} (h : H p = none) : Sub H (upd H p o) := fun a u e => by
  rw [upd_ne (ne_of_none e h)]
  exact e
theorem Sub.rd {H H' : Hp} {a : Addr} {u : HO} (e : Sub H H') (h : Rd H a u) : Rd H' a u := by
  rcases h with h | ⟨o, h⟩
  · exact .inl (e a _ h)
  · exact .inr ⟨o, e a _ h⟩
theorem Sub.sql {K : PySem.W.Frag} {H H' : Hp} {a : Addr} {xs : List V} (e : Sub H H') (h : SqL K H a xs) : SqL K H' a xs := by
  rcases h with h | h
  · exact .inl (e.rd h)
  · exact .inr h
theorem Sub.sqt {K : PySem.W.Frag} {H H' : Hp} {a : Addr} {xs : List V} (e : Sub H H') (h : SqT K H a xs) : SqT K H' a xs := by
  rcases h with h | h
  · exact .inl (e.rd h)
  · exact .inr h

mutual
inductive RD (c : Cfg) (F : Hp) (μ : List Addr) : V → D → Prop
  | non : RD c F μ .non .non
  | bl (b : Bool) : RD c F μ (.bl b) (.bl b)
  | int (i : Int) : RD c F μ (.int i) (.int i)
  | str (s : Str) : RD c F μ (.str s) (.str s)
  | ty (n : String) : RD c F μ (.ty n) (.ty n)
  | fn {n : Str} {a : Addr} (h : c.mg n = some (.ref a)) : RD c F μ (.ref a) (.fn n)
  | tup {a : Addr} {vs : List V} {ds : List D} (h : F a = some (.tup vs)) (r : RDs c F μ vs ds) : RD c F μ (.ref a) (.tup ds)
  | ktp {a : Addr} {vs : List V} {ds : List D} (h : SqT c.K F a vs) (r : RDs c F μ vs ds) : RD c F μ (.ref a) (.ktp ds)
  | lst {a : Addr} {vs : List V} {ds : List D} (h : F a = some (.lst vs)) (r : RDs c F μ vs ds) : RD c F μ (.ref a) (.lst ds)
  | fix {a : Addr} {vs : List V} {ds : List D} (h : SqL c.K F a vs) (r : RDs c F μ vs ds) : RD c F μ (.ref a) (.fix ds)
  | dic {a : Addr} {kvs : List (Key × V)} {ds : List D} (h : Rd F a (.dK kvs)) (r : RDs c F μ (kvs.map (·.2)) ds) : RD c F μ (.ref a) (.dic (kvs.map (·.1)) ds)
  | dtp {a : Addr} {kvs : List (List Key × V)} {ds : List D} (h : Rd F a (.dT kvs)) (r : RDs c F μ (kvs.map (·.2)) ds) : RD c F μ (.ref a) (.dtp (kvs.map (·.1)) ds)
  | obj {a cl dx : Addr} {C : Str} {fs : List (Str × V)} {ds : List D} (hc : c.mg C = some (.ref cl)) (h : F a = some (.ins cl dx fs)) (hd : F dx = some (.own a)) (r : RDs c F μ (fs.map (·.2)) ds) : RD c F μ (.ref a) (.obj C (fs.map (·.1)) ds)
  | hnd {a : Addr} {n : Nat} (h : μ[n]? = some a) : RD c F μ (.ref a) (.hnd n)
inductive RDs (c : Cfg) (F : Hp) (μ : List Addr) : List V → List D → Prop
  | nil : RDs c F μ [] []
  | cons {v : V} {d : D} {vs : List V} {ds : List D} (h : RD c F μ v d) (r : RDs c F μ vs ds) : RDs c F μ (v :: vs) (d :: ds)
end

section
variable {c : Cfg} {F F' : Hp} {μ μ' : List Addr}
theorem pre_get {a : Addr} {n : Nat} (p : μ <+: μ') (h : μ[n]? = some a) : μ'[n]? = some a := by
  obtain ⟨t, rfl⟩ := p
  obtain ⟨hn, e⟩ := List.getElem?_eq_some_iff.mp h
  rw [List.getElem?_append_left hn]; exact h
mutual
theorem RD.mono (s : Sub F F') (p : μ <+: μ') : ∀ {v : V} {d : D}, RD c F μ v d → RD c F' μ' v d
  | _, _, .non => .non
  | _, _, .bl b => .bl b
  | _, _, .int i => .int i
  | _, _, .str i => .str i
  | _, _, .ty i => .ty i
  | _, _, .fn h => .fn h
  | _, _, .tup h r => .tup (s _ _ h) (RDs.mono s p r)
  | _, _, .ktp h r => .ktp (s.sqt h) (RDs.mono s p r)
  | _, _, .lst h r => .lst (s _ _ h) (RDs.mono s p r)
  | _, _, .fix h r => .fix (s.sql h) (RDs.mono s p r)
  | _, _, .dic h r => .dic (s.rd h) (RDs.mono s p r)
  | _, _, .dtp h r => .dtp (s.rd h) (RDs.mono s p r)
  | _, _, .obj hc h hd r => .obj hc (s _ _ h) (s _ _ hd) (RDs.mono s p r)
  | _, _, .hnd h => .hnd (pre_get p h)
theorem RDs.mono (s : Sub F F') (p : μ <+: μ') : ∀ {vs : List V} {ds : List D}, RDs c F μ vs ds → RDs c F' μ' vs ds
  | _, _, .nil => .nil
  | _, _, .cons h r => .cons (RD.mono s p h) (RDs.mono s p r)
end
theorem RDs.length : ∀ {vs : List V} {ds : List D}, RDs c F μ vs ds → vs.length = ds.length
  | _, _, .nil => rfl
  | _, _, .cons h r => by simp [RDs.length r]
theorem RDs.append : ∀ {vs ws : List V} {ds es : List D}, RDs c F μ vs ds → RDs c F μ ws es → RDs c F μ (vs ++ ws) (ds ++ es)
  | _, _, _, _, .nil, s => s
  | _, _, _, _, .cons h r, s => .cons h (RDs.append r s)
theorem RDs.get : ∀ {vs : List V} {ds : List D} {i : Nat} {d : D}, RDs c F μ vs ds → ds[i]? = some d → ∃ v, vs[i]? = some v ∧ RD c F μ v d
  | _, _, _, _, .nil, e => by simp at e
  | _, _, 0, _, .cons h r, e => by simp at e; subst e; exact ⟨_, rfl, h⟩
  | _, _, i + 1, _, .cons h r, e => by
    obtain ⟨v, e1, h1⟩ := RDs.get (i := i) r (by simpa using e)
    exact ⟨v, by simpa using e1, h1⟩
theorem RDs.getV : ∀ {vs : List V} {ds : List D} {i : Nat} {v : V}, RDs c F μ vs ds → vs[i]? = some v → ∃ d, ds[i]? = some d ∧ RD c F μ v d
  | _, _, _, _, .nil, e => by simp at e
  | _, _, 0, _, .cons h r, e => by simp at e; subst e; exact ⟨_, rfl, h⟩
  | _, _, i + 1, _, .cons h r, e => by
    obtain ⟨v, e1, h1⟩ := RDs.getV (i := i) r (by simpa using e)
    exact ⟨v, by simpa using e1, h1⟩
theorem RDs.take : ∀ {vs : List V} {ds : List D} (n : Nat), RDs c F μ vs ds → RDs c F μ (vs.take n) (ds.take n)
  | _, _, 0, _ => .nil
  | _, _, _ + 1, .nil => .nil
  | _, _, n + 1, .cons h r => .cons h (RDs.take n r)
theorem RDs.drop : ∀ {vs : List V} {ds : List D} (n : Nat), RDs c F μ vs ds → RDs c F μ (vs.drop n) (ds.drop n)
  | _, _, 0, r => r
  | _, _, _ + 1, .nil => .nil
  | _, _, n + 1, .cons h r => RDs.drop n r
theorem RDs.reverse : ∀ {vs : List V} {ds : List D}, RDs c F μ vs ds → RDs c F μ vs.reverse ds.reverse
  | _, _, .nil => .nil
  | _, _, .cons h r => by
    rw [List.reverse_cons, List.reverse_cons]
    exact (RDs.reverse r).append (.cons h .nil)
theorem RDs.ints : ∀ {vs : List V} {ns : List Int}, RDs c F μ vs (ns.map D.int) → vs = ns.map V.int
  | _, [], .nil => rfl
  | _, n :: ns, .cons h r => by
    cases h
    rw [RDs.ints r]; rfl
theorem RDs.of_ints : ∀ (ns : List Int), RDs c F μ (ns.map V.int) (ns.map D.int)
  | [] => .nil
  | n :: ns => .cons (.int n) (RDs.of_ints ns)
theorem RDs.strs : ∀ {vs : List V} {ns : List Str}, RDs c F μ vs (ns.map D.str) → vs = ns.map V.str
  | _, [], .nil => rfl
  | _, n :: ns, .cons h r => by
    cases h
    rw [RDs.strs r]; rfl
theorem RDs.bls : ∀ {vs : List V} {ns : List Bool}, RDs c F μ vs (ns.map D.bl) → vs = ns.map V.bl
  | _, [], .nil => rfl
  | _, n :: ns, .cons h r => by
    cases h
    rw [RDs.bls r]; rfl
theorem RDs.set : ∀ {vs : List V} {ds : List D} {v : V} {d : D} (i : Nat), RDs c F μ vs ds → RD c F μ v d → RDs c F μ (vs.set i v) (ds.set i d)
  | _, _, _, _, _, .nil, _ => .nil
  | _, _, _, _, 0, .cons h r, k => .cons k r
  | _, _, _, _, i + 1, .cons h r, k => .cons h (RDs.set i r k)
end

/-! ## the store -/
/-- what a walk may lock -/
def isDict : HO → Bool
  | .dK _ => true
  | .dT _ => true
  | _ => false
/-- the table of the codes of the def at p -/
def tabP (c : Cfg) (p : Str × Option Str) : Addr := (He.cT c.K p).2
def RM (c : Cfg) (F : Hp) (μ : List Addr) (H : Hp) (a : Addr) : MO → Prop
  | .dead => True
  | .lst ds => ∃ vs, H a = some (.lst vs) ∧ RDs c F μ vs ds
  | .dic ks ds => ∃ kvs, H a = some (.dK kvs) ∧ kvs.map (·.1) = ks ∧ RDs c F μ (kvs.map (·.2)) ds
  | .dtp ks ds => ∃ kvs, H a = some (.dT kvs) ∧ kvs.map (·.1) = ks ∧ RDs c F μ (kvs.map (·.2)) ds
  | .ins C ns ds => ∃ cl dx fs, c.mg C = some (.ref cl) ∧ H a = some (.ins cl dx fs) ∧ H dx = some (.own a) ∧ fs.map (·.1) = ns ∧ RDs c F μ (fs.map (·.2)) ds
  | .tab p q => a = tabP c p ∧ LamX.TabS H (tabP c p) q
structure Rel (c : Cfg) (F : Hp) (μ : List Addr) (S : Sto) (H : Hp) : Prop where
  frz : ∀ a o, F a = some o → H a = some o
  len : μ.length = S.length
  nd : μ.Nodup
  free : ∀ (n : Nat) (a : Addr) (m : MO), μ[n]? = some a → S[n]? = some m → m ≠ MO.dead → F a = none
  known : ∀ a ∈ μ, ∃ o, H a = some o ∧ ∀ b, o ≠ .own b
  at_ : ∀ (n : Nat) (a : Addr) (m : MO), μ[n]? = some a → S[n]? = some m → RM c F μ H a m

/-- what a step leaves as it is -/
structure Ext (F : Hp) (μ : List Addr) (H F' : Hp) (μ' : List Addr) (H' : Hp) : Prop where
  mono : Sub F F'
  pre : μ <+: μ'
  keep : ∀ b o, H b = some o → b ∉ μ → H' b = some o ∧ ((∀ a, o ≠ .own a) → F b = none → F' b = none)
  fresh : ∀ b ∈ μ', b ∈ μ ∨ H b = none
theorem Ext.refl {F : Hp} {μ : List Addr} {H : Hp} : Ext F μ H F μ H := ⟨Sub.refl _, List.prefix_refl _, fun _ _ h _ => ⟨h, fun _ => id⟩, fun _ h => .inl h⟩
theorem Ext.trans {F H F1 H1 F2 H2 : Hp} {μ μ1 μ2 : List Addr} (a : Ext F μ H F1 μ1 H1) (b : Ext F1 μ1 H1 F2 μ2 H2) : Ext F μ H F2 μ2 H2 where
  mono := a.mono.trans b.mono
  pre := a.pre.trans b.pre
  keep := fun x o h n => by
    obtain ⟨h1, k1⟩ := a.keep x o h n
    have n1 : x ∉ μ1 := fun z => (a.fresh x z).elim n (fun q => by rw [h] at q; cases q)
    obtain ⟨h2, k2⟩ := b.keep x o h1 n1
    exact ⟨h2, fun z q => k2 z (k1 z q)⟩
  fresh := fun x hx => by
    by_cases n : x ∈ μ
    · exact .inl n
    · rcases b.fresh x hx with h | h
      · exact a.fresh x h
      · right
        cases q : H x with
        | none => rfl
        | some o => rw [(a.keep x o q n).1] at h; cases h

/-! ## results -/
inductive Res (α : Type) where
  | ok (a : α) (S : Sto)
  | exc (C : Str) (ns : List Str) (ds : List D) (S : Sto)
  | bad
def Res.bind {α β : Type} (r : Res α) (k : α → Sto → Res β) : Res β := match r with
  | .ok a S => k a S
  | .exc C ns ds S => .exc C ns ds S
  | .bad => .bad
@[simp] theorem Res.bind_ok {α β : Type} (a : α) (S : Sto) (k : α → Sto → Res β) : (Res.ok a S).bind k = k a S := rfl
@[simp] theorem Res.bind_exc {α β : Type} (C : Str) (ns : List Str) (ds : List D) (S : Sto) (k : α → Sto → Res β) : (Res.exc C ns ds S).bind k = .exc C ns ds S := rfl
@[simp] theorem Res.bind_bad {α β : Type} (k : α → Sto → Res β) : (Res.bad).bind k = .bad := rfl

abbrev EV := Env → Sto → Res D
abbrev TV := Env → Sto → Res Bool
abbrev AV := Env → Sto → Res (List D)
abbrev OV := Env → Sto → Res (Option Int)

structure EnvR (c : Cfg) (F : Hp) (μ : List Addr) (σ : L2.St) (env : Env) : Prop where
  len : σ.length = env.length
  at_ : ∀ (i : Nat) (d : D), env[i]? = some (some d) → ∃ v, σ[i]? = some (some v) ∧ RD c F μ v d
theorem EnvR.mono {c : Cfg} {F F' : Hp} {μ μ' : List Addr} {σ : L2.St} {env : Env} (e : EnvR c F μ σ env) (s : Sub F F') (p : μ <+: μ') : EnvR c F' μ' σ env :=
  ⟨e.len, fun i d h => let ⟨v, h1, h2⟩ := e.at_ i d h; ⟨v, h1, h2.mono s p⟩⟩
theorem EnvR.ext {c : Cfg} {F F' H H' : Hp} {μ μ' : List Addr} {σ : L2.St} {env : Env} (e : EnvR c F μ σ env) (x : Ext F μ H F' μ' H') : EnvR c F' μ' σ env := e.mono x.mono x.pre
theorem EnvR.set {c : Cfg} {F : Hp} {μ : List Addr} {σ : L2.St} {env : Env} (e : EnvR c F μ σ env) (i : Nat) {v : V} {d : D} (r : RD c F μ v d) : EnvR c F μ (σ.set i (some v)) (env.set i (some d)) := by
  refine ⟨by simpa using e.len, fun j d' h => ?_⟩
  by_cases hj : i = j
  · subst hj
    have hlt : i < env.length := by
      have := (List.getElem?_eq_some_iff.mp h).1
      simpa using this
    rw [List.getElem?_set_self hlt] at h
    cases h
    exact ⟨v, by rw [List.getElem?_set_self (by rw [e.len]; exact hlt)], r⟩
  · rw [List.getElem?_set_ne hj] at h
    obtain ⟨w, h1, h2⟩ := e.at_ j d' h
    exact ⟨w, by rw [List.getElem?_set_ne hj]; exact h1, h2⟩

/-- how a heap-side value is related to an own one -/
abbrev RR (β α : Type) := Hp → List Addr → β → α → Prop
class Mono {β α : Type} (R : RR β α) : Prop where
  mono : ∀ {F F' : Hp} {μ μ' : List Addr} {b : β} {a : α}, Sub F F' → μ <+: μ' → R F μ b a → R F' μ' b a
abbrev rE (c : Cfg) : RR V D := fun F μ v d => RD c F μ v d
abbrev rA (c : Cfg) : RR (List V) (List D) := fun F μ v d => RDs c F μ v d
def rId {α : Type} : RR α α := fun _ _ b a => b = a
instance {c : Cfg} : Mono (rE c) := ⟨fun s p h => h.mono s p⟩
instance {c : Cfg} : Mono (rA c) := ⟨fun s p h => h.mono s p⟩
instance {α : Type} : Mono (rId (α := α)) := ⟨fun _ _ h => h⟩

/-- what is wanted of a raised thing -/
def WantX (c : Cfg) (W : WX) (σ : L2.St) (F : Hp) (μ : List Addr) (H : Hp) (C : Str) (ns : List Str) (ds : List D) (S' : Sto) : Prop :=
  ∀ cl dd F' μ' H' fs, Ext F μ H F' μ' H' → Rel c F' μ' S' H' → c.mg C = some (.ref cl) → H' dd = some (.xd fs) → fs.map (·.1) = ns → RDs c F' μ' (fs.map (·.2)) ds → (F' dd = none ∧ dd ∉ μ') → W (.ref cl) (some dd) σ H'
def Want {β α : Type} (c : Cfg) (W : WX) (R : RR β α) (σ : L2.St) (F : Hp) (μ : List Addr) (H : Hp) (Q : β → Hp → Prop) : Res α → Prop
  | .ok a S' => ∀ b F' μ' H', Ext F μ H F' μ' H' → Rel c F' μ' S' H' → R F' μ' b a → Q b H'
  | .exc C ns ds S' => WantX c W σ F μ H C ns ds S'
  | .bad => False
abbrev TX (β : Type) := L2.St → Hp → (β → Hp → Prop) → Prop
/-- te does what ev says, in every world from (F0, μ0) on -/
def Sm {β α : Type} (c : Cfg) (W : WX) (F0 : Hp) (μ0 : List Addr) (R : RR β α) (te : TX β) (ev : Env → Sto → Res α) : Prop :=
  ∀ σ env F μ S H Q, Sub F0 F → μ0 <+: μ → EnvR c F μ σ env → Rel c F μ S H → Want c W R σ F μ H Q (ev env S) → te σ H Q

section
variable {c : Cfg} {W : WX} {F0 : Hp} {μ0 : List Addr}
theorem Sm.bind {β α γ δ : Type} {R : RR β α} {T : RR γ δ} [Mono R] {ta : TX β} {ea : Env → Sto → Res α} {kt : β → TX γ} {ke : α → Env → Sto → Res δ}
    (ha : Sm c W F0 μ0 R ta ea) (hk : ∀ F1 μ1 b a, Sub F0 F1 → μ0 <+: μ1 → R F1 μ1 b a → Sm c W F1 μ1 T (kt b) (ke a)) :
    Sm c W F0 μ0 T (fun σ H Q => ta σ H fun b H1 => kt b σ H1 Q) (fun env S => (ea env S).bind fun a S1 => ke a env S1) := by
  intro σ env F μ S H Q s0 p0 eR rel want
  refine ha σ env F μ S H _ s0 p0 eR rel ?_
  change Want c W T σ F μ H Q ((ea env S).bind fun a S1 => ke a env S1) at want
  show Want c W R σ F μ H _ (ea env S)
  cases h : ea env S with
  | bad => rw [h] at want; exact want
  | exc C ns ds S' => rw [h] at want; exact want
  | ok a S1 =>
    rw [h] at want
    intro b F1 μ1 H1 x1 rel1 r1
    have s1 : Sub F0 F1 := s0.trans x1.mono
    have p1 : μ0 <+: μ1 := p0.trans x1.pre
    refine hk F1 μ1 b a s1 p1 r1 σ env F1 μ1 S1 H1 Q (Sub.refl _) (List.prefix_refl _) (eR.ext x1) rel1 ?_
    have w : Want c W T σ F μ H Q (ke a env S1) := want
    cases h2 : ke a env S1 with
    | bad => rw [h2] at w; exact w
    | exc C ns ds S' =>
      rw [h2] at w
      intro cl dd F' μ' H' fs x' rel' hc hd hn hr hf
      exact w cl dd F' μ' H' fs (x1.trans x') rel' hc hd hn hr hf
    | ok d S' =>
      rw [h2] at w
      intro g F' μ' H' x' rel' r'
      exact w g F' μ' H' (x1.trans x') rel' r'
theorem Sm.weaken {β α : Type} {R : RR β α} {te : TX β} {ev : Env → Sto → Res α} {F1 : Hp} {μ1 : List Addr} (h : Sm c W F0 μ0 R te ev) (s : Sub F0 F1) (p : μ0 <+: μ1) : Sm c W F1 μ1 R te ev :=
  fun σ env F μ S H Q s0 p0 eR rel want => h σ env F μ S H Q (s.trans s0) (p.trans p0) eR rel want
/-- a step that gives its answer at once -/
theorem Sm.pure {β α : Type} {R : RR β α} {te : TX β} {ev : Env → Sto → Res α} (h : ∀ σ env F μ S H, Sub F0 F → μ0 <+: μ → EnvR c F μ σ env → Rel c F μ S H →
    match ev env S with
    | .ok a S' => S' = S ∧ ∃ b, R F μ b a ∧ ∀ Q : β → Hp → Prop, Q b H → te σ H Q
    | .exc _ _ _ _ => False
    | .bad => True) : Sm c W F0 μ0 R te ev := by
  intro σ env F μ S H Q s0 p0 eR rel want
  have q := h σ env F μ S H s0 p0 eR rel
  revert q want
  cases ev env S with
  | bad => intro want _; exact want.elim
  | exc C ns ds S' => intro _ q; exact q.elim
  | ok a S' =>
    rintro want ⟨rfl, b, r, k⟩
    exact k Q (want b F μ H Ext.refl rel r)
end

/-- a new thing at p, that will not change -/
theorem Rel.frozen {c : Cfg} {F : Hp} {μ : List Addr} {S : Sto} {H : Hp} {p : Addr} {o : HO} (rel : Rel c F μ S H) (hp : H p = none) :
    Rel c (upd F p o) μ S (upd H p o) ∧ Ext F μ H (upd F p o) μ (upd H p o) ∧ Sub F (upd F p o) := by
  have fp : F p = none := by
    cases q : F p with
    | none => rfl
    | some u =>
      have h := rel.frz p u q
      rw [hp] at h; cases h
  have nm : p ∉ μ := fun z => by obtain ⟨o', h, _⟩ := rel.known p z; rw [hp] at h; cases h
  have sF : Sub F (upd F p o) := Sub.new fp
  have sH : Sub H (upd H p o) := Sub.new hp
  refine ⟨⟨fun a u h => ?_, rel.len, rel.nd, fun n a m e1 e2 e3 => ?_, fun a ha => ?_, fun n a m e1 e2 => ?_⟩, ⟨sF, List.prefix_refl _, fun b u h n => ⟨sH b u h, fun _ q => ?_⟩, fun b hb => .inl hb⟩, sF⟩
  · by_cases ha : a = p
    · subst ha; rw [upd_same] at h; cases h; exact upd_same
    · rw [upd_ne ha] at h
      exact sH _ _ (rel.frz a u h)
  · have ha : a ≠ p := fun z => nm (z ▸ List.mem_of_getElem? e1)
    rw [upd_ne ha]; exact rel.free n a m e1 e2 e3
  · obtain ⟨u, h, hn⟩ := rel.known a ha; exact ⟨u, sH _ _ h, hn⟩
  · have q := rel.at_ n a m e1 e2
    cases m with
    | dead => trivial
    | lst ds => obtain ⟨vs, h, r⟩ := q; exact ⟨vs, sH _ _ h, r.mono sF (List.prefix_refl _)⟩
    | dic ks ds => obtain ⟨kvs, h, hk, r⟩ := q; exact ⟨kvs, sH _ _ h, hk, r.mono sF (List.prefix_refl _)⟩
    | dtp ks ds => obtain ⟨kvs, h, hk, r⟩ := q; exact ⟨kvs, sH _ _ h, hk, r.mono sF (List.prefix_refl _)⟩
    | ins C ns ds =>
      obtain ⟨cl, dx, fs, hc, h, hd, hn, r⟩ := q
      exact ⟨cl, dx, fs, hc, sH _ _ h, sH _ _ hd, hn, r.mono sF (List.prefix_refl _)⟩
    | tab q1 q2 => exact ⟨q.1, q.2.ext sH⟩
  · rw [upd_ne (ne_of_none h hp)]; exact q
end Sm
set_option Elab.async false
set_option linter.all false
set_option maxRecDepth 100000
namespace Sm
open PySem PySem.Spec L2

section
variable {c : Cfg} {W : WX}
theorem Want.ext {β α : Type} {R : RR β α} {σ : L2.St} {F H F1 H1 : Hp} {μ μ1 : List Addr} {Q : β → Hp → Prop} {r : Res α} (w : Want c W R σ F μ H Q r) (x : Ext F μ H F1 μ1 H1) : Want c W R σ F1 μ1 H1 Q r := by
  cases r with
  | bad => exact w
  | exc C ns ds S' =>
    intro cl dd F' μ' H' fs x' rel' hc hd hn hr hf
    exact w cl dd F' μ' H' fs (x.trans x') rel' hc hd hn hr hf
  | ok d S' =>
    intro g F' μ' H' x' rel' r'
    exact w g F' μ' H' (x.trans x') rel' r'
theorem Want.imp {β α : Type} {R : RR β α} {σ : L2.St} {F H : Hp} {μ : List Addr} {Q Q' : β → Hp → Prop} {r : Res α} (w : Want c W R σ F μ H Q r) (h : ∀ b H', Q b H' → Q' b H') : Want c W R σ F μ H Q' r := by
  cases r with
  | bad => exact w
  | exc C ns ds S' => exact w
  | ok d S' =>
    intro g F' μ' H' x' rel' r'
    exact h _ _ (w g F' μ' H' x' rel' r')

/-! ## statements -/
end
inductive Flow where
  | nx (env : Env) | rt (d : D) | bk (env : Env) | ct (env : Env)
abbrev SV := Env → Sto → Res Flow

def WantF (c : Cfg) (W : WX) (E : Ends) (F : Hp) (μ : List Addr) (H : Hp) : Res Flow → Prop
  | .ok (.nx env') S' => ∀ σ' F' μ' H', Ext F μ H F' μ' H' → Rel c F' μ' S' H' → EnvR c F' μ' σ' env' → E.nx σ' H'
  | .ok (.bk env') S' => ∀ σ' F' μ' H', Ext F μ H F' μ' H' → Rel c F' μ' S' H' → EnvR c F' μ' σ' env' → E.bk σ' H'
  | .ok (.ct env') S' => ∀ σ' F' μ' H', Ext F μ H F' μ' H' → Rel c F' μ' S' H' → EnvR c F' μ' σ' env' → E.ct σ' H'
  | .ok (.rt d) S' => ∀ v F' μ' H', Ext F μ H F' μ' H' → Rel c F' μ' S' H' → RD c F' μ' v d → E.rt v H'
  | .exc C ns ds S' => ∀ σ', WantX c W σ' F μ H C ns ds S'
  | .bad => False
def SmS (c : Cfg) (W : WX) (ts : TS) (sv : SV) : Prop :=
  ∀ E σ env F μ S H, EnvR c F μ σ env → Rel c F μ S H → WantF c W E F μ H (sv env S) → ts E σ H

section
variable {c : Cfg} {W : WX}
theorem WantX.ext {σ : L2.St} {F H F1 H1 : Hp} {μ μ1 : List Addr} {C : Str} {ns : List Str} {ds : List D} {S' : Sto} (w : WantX c W σ F μ H C ns ds S') (x : Ext F μ H F1 μ1 H1) : WantX c W σ F1 μ1 H1 C ns ds S' := by
  intro cl dd F' μ' H' fs x' rel' hc hd hn hr hf
  exact w cl dd F' μ' H' fs (x.trans x') rel' hc hd hn hr hf
theorem WantF.ext {E : Ends} {F H F1 H1 : Hp} {μ μ1 : List Addr} {r : Res Flow} (w : WantF c W E F μ H r) (x : Ext F μ H F1 μ1 H1) : WantF c W E F1 μ1 H1 r := by
  cases r with
  | bad => exact w
  | exc C ns ds S' => exact fun σ' => (w σ').ext x
  | ok fl S' =>
    cases fl with
    | nx env => exact fun σ' F' μ' H' x' => w σ' F' μ' H' (x.trans x')
    | bk env => exact fun σ' F' μ' H' x' => w σ' F' μ' H' (x.trans x')
    | ct env => exact fun σ' F' μ' H' x' => w σ' F' μ' H' (x.trans x')
    | rt d => exact fun σ' F' μ' H' x' => w σ' F' μ' H' (x.trans x')

def sNext : SV := fun env S => .ok (.nx env) S
def sSeq (a b : SV) : SV := fun env S => (a env S).bind fun fl S1 => match fl with
  | .nx env1 => b env1 S1
  | .rt d => .ok (.rt d) S1
  | .bk env1 => .ok (.bk env1) S1
  | .ct env1 => .ok (.ct env1) S1
theorem sm_next : SmS c W tNext sNext := by
  intro E σ env F μ S H eR rel want
  exact want σ F μ H Ext.refl rel eR
theorem sm_seq {t u : TS} {a b : SV} (ha : SmS c W t a) (hb : SmS c W u b) : SmS c W (tSeq t u) (sSeq a b) := by
  intro E σ env F μ S H eR rel want
  refine ha _ σ env F μ S H eR rel ?_
  change WantF c W E F μ H ((a env S).bind _) at want
  cases h : a env S with
  | bad => rw [h] at want; exact want
  | exc C ns ds S' => rw [h] at want; exact want
  | ok fl S' =>
    rw [h] at want
    cases fl with
    | nx env1 =>
      intro σ' F' μ' H' x' rel' eR'
      exact hb E σ' env1 F' μ' S' H' eR' rel' (WantF.ext want x')
    | bk env1 => exact want
    | ct env1 => exact want
    | rt d => exact want
def sBreak : SV := fun env S => .ok (.bk env) S
def sCont : SV := fun env S => .ok (.ct env) S
theorem sm_break : SmS c W tBreak sBreak := fun E σ env F μ S H eR rel want => want σ F μ H Ext.refl rel eR
theorem sm_cont : SmS c W tCont sCont := fun E σ env F μ S H eR rel want => want σ F μ H Ext.refl rel eR
/-- an expression's statement, from an expression's Sm at the empty world -/
abbrev SmE {β α : Type} (c : Cfg) (W : WX) (R : RR β α) (te : TX β) (ev : Env → Sto → Res α) : Prop := Sm c W (fun _ => none) [] R te ev
theorem SmE.go {β α : Type} {R : RR β α} {te : TX β} {ev : Env → Sto → Res α} (h : SmE c W R te ev) {σ : L2.St} {env : Env} {F H : Hp} {μ : List Addr} {S : Sto} {Q : β → Hp → Prop} (eR : EnvR c F μ σ env) (rel : Rel c F μ S H) (w : Want c W R σ F μ H Q (ev env S)) : te σ H Q :=
  h σ env F μ S H Q (fun _ _ h => nomatch h) (List.nil_prefix) eR rel w
def sDrop (e : EV) : SV := fun env S => (e env S).bind fun _ S1 => .ok (.nx env) S1
theorem sm_drop {te : TE} {e : EV} (he : SmE c W (rE c) te e) : SmS c W (tDrop te) (sDrop e) := by
  intro E σ env F μ S H eR rel want
  refine he.go eR rel ?_
  change WantF c W E F μ H ((e env S).bind _) at want
  cases h : e env S with
  | bad => rw [h] at want; exact want
  | exc C ns ds S' => rw [h] at want; exact want σ
  | ok d S' =>
    rw [h] at want
    intro v F' μ' H' x' rel' r'
    exact want σ F' μ' H' x' rel' (eR.ext x')
def sRet (e : EV) : SV := fun env S => (e env S).bind fun d S1 => .ok (.rt d) S1
theorem sm_ret {te : TE} {e : EV} (he : SmE c W (rE c) te e) : SmS c W (tRet te) (sRet e) := by
  intro E σ env F μ S H eR rel want
  refine he.go eR rel ?_
  change WantF c W E F μ H ((e env S).bind _) at want
  cases h : e env S with
  | bad => rw [h] at want; exact want
  | exc C ns ds S' => rw [h] at want; exact want σ
  | ok d S' =>
    rw [h] at want
    intro v F' μ' H' x' rel' r'
    exact want v F' μ' H' x' rel' r'
def sRetN : SV := fun env S => .ok (.rt .non) S
theorem sm_retN : SmS c W tRetN sRetN := fun E σ env F μ S H eR rel want => want .non F μ H Ext.refl rel .non
def sIf (t : TV) (a b : SV) : SV := fun env S => (t env S).bind fun k S1 => if k = true then a env S1 else b env S1
theorem sm_if {tt : TT} {t u : TS} {e : TV} {a b : SV} (ht : SmE c W rId tt e) (ha : SmS c W t a) (hb : SmS c W u b) : SmS c W (tIfS tt t u) (sIf e a b) := by
  intro E σ env F μ S H eR rel want
  refine ht.go eR rel ?_
  change WantF c W E F μ H ((e env S).bind _) at want
  cases h : e env S with
  | bad => rw [h] at want; exact want
  | exc C ns ds S' => rw [h] at want; exact want σ
  | ok k S' =>
    rw [h] at want
    rintro k' F' μ' H' x' rel' rfl
    change WantF c W E F μ H (if k' = true then a env S' else b env S') at want
    show if k' = true then t E σ H' else u E σ H'
    cases k' with
    | true =>
      rw [if_pos rfl] at want ⊢
      exact ha E σ env F' μ' S' H' (eR.ext x') rel' (want.ext x')
    | false =>
      rw [if_neg Bool.false_ne_true] at want ⊢
      exact hb E σ env F' μ' S' H' (eR.ext x') rel' (want.ext x')

/-! ## targets -/
/-- a target stores: an own value into the slots; it may be refused -/
abbrev GV := D → Env → Option Env
/-- σ' is σ but for the slots L -/
def Bar (L : List Nat) (σ σ' : L2.St) : Prop := ∀ L', (∀ i ∈ L, i ∈ L') → wipe σ' L' = wipe σ L'
theorem wipe_set {σ : L2.St} {i : Nat} {x : Option V} : ∀ {L : List Nat}, i ∈ L → wipe (σ.set i x) L = wipe σ L
  | v :: vs, h => by
    show (wipe (σ.set i x) vs).set v none = (wipe σ vs).set v none
    by_cases hi : i ∈ vs
    · rw [wipe_set hi]
    · have e : i = v := by simpa [hi] using h
      subst e
      have : ∀ (L : List Nat), i ∉ L → wipe (σ.set i x) L = (wipe σ L).set i x := by
        intro L
        induction L with
        | nil => intro _; rfl
        | cons w ws ih =>
          intro hn
          have h1 : i ≠ w := fun z => hn (by simp [z])
          have h2 : i ∉ ws := fun z => hn (List.mem_cons_of_mem _ z)
          show (wipe (σ.set i x) ws).set w none = ((wipe σ ws).set w none).set i x
          rw [ih h2, List.set_comm _ _ h1]
      rw [this vs hi, List.set_set]
theorem Bar.set {σ : L2.St} {i : Nat} {x : Option V} : Bar [i] σ (σ.set i x) := fun L' h => wipe_set (h i (by simp))
theorem Bar.refl {σ : L2.St} : Bar [] σ σ := fun _ _ => rfl
theorem Bar.trans {σ σ1 σ2 : L2.St} {L M : List Nat} (a : Bar L σ σ1) (b : Bar M σ1 σ2) : Bar (L ++ M) σ σ2 := fun L' h =>
  (b L' fun i hi => h i (List.mem_append_right _ hi)).trans (a L' fun i hi => h i (List.mem_append_left _ hi))
def SmG (c : Cfg) (g : TG) (gv : GV) (L : List Nat) : Prop := ∀ v d σ env env' F μ S H (Q : L2.St → Hp → Prop), RD c F μ v d → EnvR c F μ σ env → Rel c F μ S H → gv d env = some env' → (∀ σ', EnvR c F μ σ' env' → Bar L σ σ' → Q σ' H) → g v σ H Q
def SmGs (c : Cfg) (g : TGs) (gv : List D → Env → Option Env) (L : List Nat) : Prop := ∀ vs ds σ env env' F μ S H (Q : L2.St → Hp → Prop), RDs c F μ vs ds → EnvR c F μ σ env → Rel c F μ S H → gv ds env = some env' → (∀ σ', EnvR c F μ σ' env' → Bar L σ σ' → Q σ' H) → g vs σ H Q
def vName (i : Nat) : GV := fun d env => some (env.set i (some d))
theorem sm_gname {i : Nat} : SmG c (gName i) (vName i) [i] := by
  intro v d σ env env' F μ S H Q r eR rel e k
  cases e
  exact k _ (eR.set i r) Bar.set
def vNil : List D → Env → Option Env := fun ds env => match ds with | [] => some env | _ => none
def vCons (g : GV) (gs : List D → Env → Option Env) : List D → Env → Option Env := fun ds env => match ds with | [] => none | d :: r => (g d env).bind (gs r)
theorem sm_gnil : SmGs c gNil vNil [] := by
  intro vs ds σ env env' F μ S H Q r eR rel e k
  cases r with
  | nil => cases e; exact ⟨rfl, k _ eR Bar.refl⟩
  | cons h r => cases e
theorem sm_gcons {g : TG} {gs : TGs} {v : GV} {vs : List D → Env → Option Env} {L M : List Nat} (h1 : SmG c g v L) (h2 : SmGs c gs vs M) : SmGs c (gCons g gs) (vCons v vs) (L ++ M) := by
  intro ws ds σ env env' F μ S H Q r eR rel e k
  cases r with
  | nil => cases e
  | cons h r =>
    change (v _ env).bind (vs _) = some env' at e
    cases q : v _ env with
    | none => rw [q] at e; cases e
    | some env1 =>
      rw [q] at e
      exact ⟨_, _, rfl, h1 _ _ σ env env1 F μ S H _ h eR rel q fun σ1 eR1 b1 => h2 _ _ σ1 env1 env' F μ S H Q r eR1 rel e fun σ2 eR2 b2 => k σ2 eR2 (b1.trans b2)⟩
/-- what is frozen may be read -/
theorem Rel.rd {F H : Hp} {μ : List Addr} {S : Sto} {a : Addr} {u : HO} (rel : Rel c F μ S H) (h : Rd F a u) : Rd H a u := by
  rcases h with h | ⟨o, h⟩
  · exact .inl (rel.frz a _ h)
  · exact .inr ⟨o, rel.frz a _ h⟩
theorem Rel.sqt {F H : Hp} {μ : List Addr} {S : Sto} {a : Addr} {vs : List V} (rel : Rel c F μ S H) (h : SqT c.K F a vs) : SqT c.K H a vs := by
  rcases h with h | h
  · exact .inl (rel.rd h)
  · exact .inr h
theorem Rel.sql {F H : Hp} {μ : List Addr} {S : Sto} {a : Addr} {vs : List V} (rel : Rel c F μ S H) (h : SqL c.K F a vs) : SqL c.K H a vs := by
  rcases h with h | h
  · exact .inl (rel.rd h)
  · exact .inr h
/-- a frozen list stands as it is -/
theorem Rel.lst {F H : Hp} {μ : List Addr} {S : Sto} {a : Addr} {vs : List V} (rel : Rel c F μ S H) (h : F a = some (.lst vs)) : H a = some (.lst vs) := by
  exact rel.frz a _ h
theorem Rel.tup {F H : Hp} {μ : List Addr} {S : Sto} {a : Addr} {vs : List V} (rel : Rel c F μ S H) (h : F a = some (.tup vs)) : H a = some (.tup vs) := by
  exact rel.frz a _ h
theorem Rel.ins {F H : Hp} {μ : List Addr} {S : Sto} {a C dx : Addr} {fs : List (Str × V)} (rel : Rel c F μ S H) (h : F a = some (.ins C dx fs)) : H a = some (.ins C dx fs) := by
  exact rel.frz a _ h
/-- a list by value, or the script -/
def dLst : D → Option (List D) | .lst ds => some ds | .fix ds => some ds | _ => none
theorem RD.sql {F : Hp} {μ : List Addr} {v : V} {d : D} {ds : List D} (r : RD c F μ v d) (e : dLst d = some ds) : ∃ a vs, v = .ref a ∧ SqL c.K F a vs ∧ RDs c F μ vs ds := by
  cases r with
  | lst h r => cases e; exact ⟨_, _, rfl, SqL.of h, r⟩
  | fix h r => cases e; exact ⟨_, _, rfl, h, r⟩
  | _ => cases e
/-- a tuple, made or written -/
def dTup : D → Option (List D) | .tup ds => some ds | .ktp ds => some ds | _ => none
theorem RD.sqt {F : Hp} {μ : List Addr} {v : V} {d : D} {ds : List D} (r : RD c F μ v d) (e : dTup d = some ds) : ∃ a vs, v = .ref a ∧ SqT c.K F a vs ∧ RDs c F μ vs ds := by
  cases r with
  | tup h r => cases e; exact ⟨_, _, rfl, SqT.of h, r⟩
  | ktp h r => cases e; exact ⟨_, _, rfl, h, r⟩
  | _ => cases e
/-- a, b, .. = a tuple -/
def vTup (n : Nat) (g : List D → Env → Option Env) : GV := fun d env => match d with | .tup ds => if ds.length = n then g ds env else none | _ => none
theorem sm_gtup {n : Nat} {g : TGs} {v : List D → Env → Option Env} {L : List Nat} (h : SmGs c g v L) : SmG c (gTup c.K n g) (vTup n v) L := by
  intro x d σ env env' F μ S H Q r eR rel e k
  cases r with
  | tup hs hr =>
    change (if _ then _ else none) = some env' at e
    split at e
    · rename_i hl
      exact ⟨_, _, rfl, rel.sqt (SqT.of hs), by rw [hr.length]; exact hl, h _ _ σ env env' F μ S H Q hr eR rel e k⟩
    · cases e
  | _ => cases e
def sAsg (e : EV) (g : GV) : SV := fun env S => (e env S).bind fun d S1 => match g d env with | some env1 => .ok (.nx env1) S1 | none => .bad
theorem sm_asg {te : TE} {e : EV} {tg : TG} {g : GV} (he : SmE c W (rE c) te e) {L : List Nat} (hg : SmG c tg g L) : SmS c W (tAsg te tg) (sAsg e g) := by
  intro E σ env F μ S H eR rel want
  refine he.go eR rel ?_
  change WantF c W E F μ H ((e env S).bind _) at want
  cases h : e env S with
  | bad => rw [h] at want; exact want
  | exc C ns ds S' => rw [h] at want; exact want σ
  | ok d S' =>
    rw [h] at want
    intro v F' μ' H' x' rel' r'
    change WantF c W E F μ H (match g d env with | some env1 => .ok (.nx env1) S' | none => .bad) at want
    cases q : g d env with
    | none => rw [q] at want; exact want.elim
    | some env1 =>
      rw [q] at want
      exact hg v d σ env env1 F' μ' S' H' _ r' (eR.ext x') rel' q fun σ' eR' _ => want σ' F' μ' H' x' rel' eR'
abbrev sSet (i : Nat) (e : EV) : SV := sAsg e (vName i)
theorem sm_set {i : Nat} {te : TE} {e : EV} (he : SmE c W (rE c) te e) : SmS c W (tAsg te (gName i)) (sSet i e) := sm_asg he sm_gname

/-! ## what is walked -/
def rIt (c : Cfg) : RR It (List D) := fun F μ J ds => ∀ i F1 μ1 S1 H1, Sub F F1 → μ <+: μ1 → Rel c F1 μ1 S1 H1 →
  (i < ds.length → J.go i H1 ∧ ∀ x H2, J.yld i H1 x H2 → ∃ F2 d, Ext F1 μ1 H1 F2 μ1 H2 ∧ Rel c F2 μ1 S1 H2 ∧ ds[i]? = some d ∧ RD c F2 μ1 x d) ∧ (i = ds.length → J.stop i H1)
instance : Mono (rIt c) := ⟨fun s p h i F1 μ1 S1 H1 s1 p1 => h i F1 μ1 S1 H1 (s.trans s1) (p.trans p1)⟩

/-- the turns of a for -/
def forGo (g : GV) (b : SV) : List D → SV
  | [], env, S => .ok (.nx env) S
  | d :: ds, env, S => match g d env with
    | none => .bad
    | some env1 => (b env1 S).bind fun fl S1 => match fl with
      | .nx env2 => forGo g b ds env2 S1
      | .ct env2 => forGo g b ds env2 S1
      | .bk env2 => .ok (.nx env2) S1
      | .rt d => .ok (.rt d) S1
def sFor (it : AV) (g : GV) (b : SV) : SV := fun env S => (it env S).bind fun ds S1 => forGo g b ds env S1
theorem for_at {wi : TI} {it : AV} {tg : TG} {g : GV} {tb : TS} {b : SV} {E : Ends} {σ : L2.St} {env : Env} {F : Hp} {μ : List Addr} {S : Sto} {H : Hp} (hi : ∀ Q', Want c W (rIt c) σ F μ H Q' (it env S) → wi σ H Q') {L : List Nat} (hg : SmG c tg g L) (hb : SmS c W tb b)
    (eR : EnvR c F μ σ env) (rel : Rel c F μ S H) (want : WantF c W E F μ H (sFor it g b env S)) : tFor wi tg tb E σ H := by
  refine hi _ ?_
  change WantF c W E F μ H ((it env S).bind _) at want
  cases h : it env S with
  | bad => rw [h] at want; exact want
  | exc C ns ds S' => rw [h] at want; exact want σ
  | ok ds S1 =>
    rw [h] at want
    intro J F1 μ1 H1 x1 rel1 r1
    change WantF c W E F μ H (forGo g b ds env S1) at want
    refine ⟨fun i m σ H => m = ds.length - i ∧ i ≤ ds.length ∧ ∃ env F μ S, Sub F1 F ∧ μ1 <+: μ ∧ EnvR c F μ σ env ∧ Rel c F μ S H ∧ WantF c W E F μ H (forGo g b (ds.drop i) env S),
      ⟨ds.length, rfl, Nat.zero_le _, env, F1, μ1, S1, Sub.refl _, List.prefix_refl _, eR.ext x1, rel1, want.ext x1⟩, ?_⟩
    rintro i m σ2 H2 ⟨rfl, hi, env2, F2, μ2, S2, s2, p2, eR2, rel2, w2⟩
    have st := r1 i F2 μ2 S2 H2 s2 p2 rel2
    by_cases hlt : i < ds.length
    · refine .inr ⟨(st.1 hlt).1, fun σ' H' => ∃ env F μ S, Sub F1 F ∧ μ1 <+: μ ∧ EnvR c F μ σ' env ∧ Rel c F μ S H' ∧ WantF c W E F μ H' (forGo g b (ds.drop (i + 1)) env S),
        fun σ' H' q => ⟨ds.length - (i + 1), by omega, rfl, hlt, q⟩, fun x H3 y => ?_⟩
      obtain ⟨F3, d, x3, rel3, ed, rd⟩ := (st.1 hlt).2 x H3 y
      have ed2 : ds.drop i = d :: ds.drop (i + 1) := by
        rw [List.drop_eq_getElem_cons hlt]
        rw [List.getElem?_eq_getElem hlt] at ed
        rw [Option.some.inj ed]
      rw [ed2] at w2
      have w3 := w2.ext x3
      change WantF c W E F3 μ2 H3 (match g d env2 with | none => .bad | some env1 => _) at w3
      cases q : g d env2 with
      | none => rw [q] at w3; exact w3.elim
      | some env3 =>
        rw [q] at w3
        refine hg x d σ2 env2 env3 F3 μ2 S2 H3 _ rd (eR2.ext x3) rel3 q fun σ' eR' _ => ?_
        refine hb _ σ' env3 F3 μ2 S2 H3 eR' rel3 ?_
        change WantF c W E F3 μ2 H3 ((b env3 S2).bind _) at w3
        cases h3 : b env3 S2 with
        | bad => rw [h3] at w3; exact w3
        | exc C ns es S' => rw [h3] at w3; exact w3
        | ok fl S' =>
          rw [h3] at w3
          cases fl with
          | nx e4 => exact fun σ4 F4 μ4 H4 x4 rel4 eR4 => ⟨e4, F4, μ4, S', (s2.trans x3.mono).trans x4.mono, p2.trans x4.pre, eR4, rel4, WantF.ext w3 x4⟩
          | ct e4 => exact fun σ4 F4 μ4 H4 x4 rel4 eR4 => ⟨e4, F4, μ4, S', (s2.trans x3.mono).trans x4.mono, p2.trans x4.pre, eR4, rel4, WantF.ext w3 x4⟩
          | bk e4 => exact w3
          | rt d => exact w3
    · have e : i = ds.length := by omega
      refine .inl ⟨st.2 e, ?_⟩
      rw [e, List.drop_length] at w2
      exact w2 σ2 F2 μ2 H2 Ext.refl rel2 eR2

theorem sm_for {wi : TI} {it : AV} {tg : TG} {g : GV} {tb : TS} {b : SV} (hi : SmE c W (rIt c) wi it) {L : List Nat} (hg : SmG c tg g L) (hb : SmS c W tb b) : SmS c W (tFor wi tg tb) (sFor it g b) :=
  fun E σ env F μ S H eR rel want => for_at (fun Q' w => hi.go eR rel w) hg hb eR rel want
/-! ## while: with fuel -/
def sWhile (t : TV) (b : SV) : Nat → SV
  | 0, _, _ => .bad
  | n + 1, env, S => (t env S).bind fun k S1 => if k = true then (b env S1).bind fun fl S2 => match fl with
      | .nx env2 => sWhile t b n env2 S2
      | .ct env2 => sWhile t b n env2 S2
      | .bk env2 => .ok (.nx env2) S2
      | .rt d => .ok (.rt d) S2
    else .ok (.nx env) S1
theorem sm_while {tt : TT} {t : TV} {tb : TS} {b : SV} (n : Nat) (ht : SmE c W rId tt t) (hb : SmS c W tb b) : SmS c W (tWhile tt tb) (sWhile t b n) := by
  intro E σ env F μ S H eR rel want
  refine ⟨fun m σ H => ∃ env F μ S, EnvR c F μ σ env ∧ Rel c F μ S H ∧ WantF c W E F μ H (sWhile t b m env S), ⟨n, env, F, μ, S, eR, rel, want⟩, ?_⟩
  rintro m σ H ⟨env, F, μ, S, eR, rel, want⟩
  cases m with
  | zero => exact want.elim
  | succ m =>
    refine ht.go eR rel ?_
    change WantF c W E F μ H ((t env S).bind _) at want
    cases h : t env S with
    | bad => rw [h] at want; exact want
    | exc C ns ds S' => rw [h] at want; exact want σ
    | ok k S1 =>
      rw [h] at want
      rintro k' F1 μ1 H1 x1 rel1 rfl
      cases k' with
      | false =>
        rw [if_neg Bool.false_ne_true]
        change WantF c W E F μ H (.ok (.nx env) S1) at want
        exact want σ F1 μ1 H1 x1 rel1 (eR.ext x1)
      | true =>
        rw [if_pos rfl]
        have w1 : WantF c W E F1 μ1 H1 ((b env S1).bind _) := WantF.ext want x1
        refine ⟨fun σ' H' => ∃ env F μ S, EnvR c F μ σ' env ∧ Rel c F μ S H' ∧ WantF c W E F μ H' (sWhile t b m env S), fun σ' H' q => ⟨m, Nat.lt_succ_self _, q⟩, ?_⟩
        refine hb _ σ env F1 μ1 S1 H1 (eR.ext x1) rel1 ?_
        cases h3 : b env S1 with
        | bad => rw [h3] at w1; exact w1
        | exc C ns es S' => rw [h3] at w1; exact w1
        | ok fl S' =>
          rw [h3] at w1
          cases fl with
          | nx e4 => exact fun σ4 F4 μ4 H4 x4 rel4 eR4 => ⟨e4, F4, μ4, S', eR4, rel4, WantF.ext w1 x4⟩
          | ct e4 => exact fun σ4 F4 μ4 H4 x4 rel4 eR4 => ⟨e4, F4, μ4, S', eR4, rel4, WantF.ext w1 x4⟩
          | bk e4 => exact w1
          | rt d => exact w1
end
end Sm
set_option Elab.async false
set_option linter.all false
set_option maxRecDepth 100000
namespace Sm
open PySem PySem.Spec L2

/-! ## what a value's handles are below -/
mutual
def D.lim : D → Nat
  | .tup ds => Ds.lim ds
  | .lst ds => Ds.lim ds
  | .fix ds => Ds.lim ds
  | .ktp ds => Ds.lim ds
  | .dic _ ds => Ds.lim ds
  | .dtp _ ds => Ds.lim ds
  | .obj _ _ ds => Ds.lim ds
  | .hnd n => n + 1
  | .non => 0 | .bl _ => 0 | .int _ => 0 | .str _ => 0 | .ty _ => 0 | .fn _ => 0
def Ds.lim : List D → Nat
  | [] => 0
  | d :: r => max (D.lim d) (Ds.lim r)
end
def MO.lim : MO → Nat
  | .dead => 0
  | .lst ds => Ds.lim ds
  | .dic _ ds => Ds.lim ds
  | .dtp _ ds => Ds.lim ds
  | .ins _ _ ds => Ds.lim ds
  | .tab _ _ => 0
section
variable {c : Cfg} {F : Hp} {μ : List Addr} {m : Nat}
mutual
theorem RD.cut : ∀ {v : V} {d : D}, RD c F μ v d → d.lim ≤ m → RD c F (μ.take m) v d
  | _, _, .non, _ => .non
  | _, _, .bl b, _ => .bl b
  | _, _, .int i, _ => .int i
  | _, _, .str i, _ => .str i
  | _, _, .ty i, _ => .ty i
  | _, _, .fn h, _ => .fn h
  | _, _, .tup h r, e => .tup h (RDs.cut r e)
  | _, _, .lst h r, e => .lst h (RDs.cut r e)
  | _, _, .fix h r, e => .fix h (RDs.cut r e)
  | _, _, .ktp h r, e => .ktp h (RDs.cut r e)
  | _, _, .dic h r, e => .dic h (RDs.cut r e)
  | _, _, .dtp h r, e => .dtp h (RDs.cut r e)
  | _, _, .obj hc h hd r, e => .obj hc h hd (RDs.cut r e)
  | _, _, .hnd (n := n) h, e => .hnd (by
      have e' : n + 1 ≤ m := e
      rw [List.getElem?_take, if_pos (by omega)]; exact h)
theorem RDs.cut : ∀ {vs : List V} {ds : List D}, RDs c F μ vs ds → Ds.lim ds ≤ m → RDs c F (μ.take m) vs ds
  | _, _, .nil, _ => .nil
  | _, _, .cons (d := d) (ds := ds) h r, e =>
    have e' : max (D.lim d) (Ds.lim ds) ≤ m := e
    .cons (RD.cut h (Nat.le_trans (Nat.le_max_left _ _) e')) (RDs.cut r (Nat.le_trans (Nat.le_max_right _ _) e'))
end
theorem RM.cut {H : Hp} {a : Addr} {o : MO} (h : RM c F μ H a o) (e : o.lim ≤ m) : RM c F (μ.take m) H a o := by
  cases o with
  | dead => trivial
  | lst ds => obtain ⟨vs, h, r⟩ := h; exact ⟨vs, h, r.cut e⟩
  | dic ks ds => obtain ⟨vs, h, k, r⟩ := h; exact ⟨vs, h, k, r.cut e⟩
  | dtp ks ds => obtain ⟨vs, h, k, r⟩ := h; exact ⟨vs, h, k, r.cut e⟩
  | ins C ns ds => obtain ⟨cl, dx, fs, a1, a2, a3, a4, r⟩ := h; exact ⟨cl, dx, fs, a1, a2, a3, a4, r.cut e⟩
  | tab p q => exact h
theorem Rel.cut {S : Sto} {H : Hp} (rel : Rel c F μ S H) (e : ∀ o ∈ S.take m, o.lim ≤ m) : Rel c F (μ.take m) (S.take m) H := by
  refine ⟨rel.frz, by simp [rel.len], rel.nd.sublist (List.take_sublist _ _), fun n a o e1 e2 => ?_, fun a ha => rel.known a (List.mem_of_mem_take ha), fun n a o e1 e2 => ?_⟩
  · by_cases hn : n < m
    · rw [List.getElem?_take, if_pos hn] at e1 e2
      exact rel.free n a o e1 e2
    · rw [List.getElem?_take, if_neg hn] at e1; cases e1
  · by_cases hn : n < m
    · have e2' := e2
      rw [List.getElem?_take, if_pos hn] at e1 e2
      exact (rel.at_ n a o e1 e2).cut (e o (List.mem_of_getElem? e2'))
    · rw [List.getElem?_take, if_neg hn] at e1; cases e1
end

/-! ## functions -/
def WE (E : XK) : WX := fun cls d _ H => E cls d H
def SpF (c : Cfg) (ar : Nat) (ev : List D → Sto → Res D) : Sp := fun vs H Q E => vs.length = ar ∧ ∃ F μ S ds, RDs c F μ vs ds ∧ Rel c F μ S H ∧ Want c (WE E) (rE c) [] F μ H Q (ev ds S)
/-- a body: n slots -/
def fnK (n : Nat) (b : SV) : List D → Sto → Res D := fun ds S => (b (ds.map some ++ List.replicate (n - ds.length) none) S).bind fun fl S1 => match fl with
  | .rt d => .ok d S1
  | .nx _ => .ok .non S1
  | .bk _ => .bad
  | .ct _ => .bad
/-- what was made within is forgotten -/
def cutR (m : Nat) : Res D → Res D
  | .ok d S => if S.length ≤ m then .ok d S else if d.lim ≤ m ∧ ∀ o ∈ S.take m, o.lim ≤ m then .ok d (S.take m) else .bad
  | .exc C ns ds S => if S.length ≤ m then .exc C ns ds S else if Ds.lim ds ≤ m ∧ ∀ o ∈ S.take m, o.lim ≤ m then .exc C ns ds (S.take m) else .bad
  | .bad => .bad
def fnT (n : Nat) (b : SV) : List D → Sto → Res D := fun ds S => cutR S.length (fnK n b ds S)

theorem Ext.cut {F H F' H' : Hp} {μ μ' : List Addr} (x : Ext F μ H F' μ' H') : Ext F μ H F' (μ'.take μ.length) H' := by
  refine ⟨x.mono, ?_, x.keep, fun b hb => x.fresh b (List.mem_of_mem_take hb)⟩
  obtain ⟨t, rfl⟩ := x.pre
  simp
theorem Want.cut {c : Cfg} {W : WX} {σ : L2.St} {F H : Hp} {μ : List Addr} {Q : V → Hp → Prop} {r : Res D} {m : Nat} (hm : μ.length = m) (w : Want c W (rE c) σ F μ H Q (cutR m r)) : Want c W (rE c) σ F μ H Q r := by
  cases r with
  | bad => exact w
  | ok d S =>
    change Want c W (rE c) σ F μ H Q (if S.length ≤ m then .ok d S else if d.lim ≤ m ∧ ∀ o ∈ S.take m, o.lim ≤ m then .ok d (S.take m) else .bad) at w
    intro v F' μ' H' x rel r
    split at w
    · exact w v F' μ' H' x rel r
    · split at w
      · rename_i h
        exact w v F' (μ'.take m) H' (hm ▸ x.cut) (rel.cut h.2) (RD.cut r h.1)
      · exact w.elim
  | exc C ns ds S =>
    change Want c W (rE c) σ F μ H Q (if S.length ≤ m then .exc C ns ds S else if Ds.lim ds ≤ m ∧ ∀ o ∈ S.take m, o.lim ≤ m then .exc C ns ds (S.take m) else .bad) at w
    intro cl dd F' μ' H' fs x rel hc hd hn hr hf
    split at w
    · exact w cl dd F' μ' H' fs x rel hc hd hn hr hf
    · split at w
      · rename_i h
        exact w cl dd F' (μ'.take m) H' fs (hm ▸ x.cut) (rel.cut h.2) hc hd hn (hr.cut h.1) ⟨hf.1, fun z => hf.2 (List.mem_of_mem_take z)⟩
      · exact w.elim
theorem start_env {c : Cfg} {F : Hp} {μ : List Addr} {N : List Str} {vs : List V} {ds : List D} (r : RDs c F μ vs ds) : EnvR c F μ (start N vs) (ds.map some ++ List.replicate (N.length - ds.length) none) := by
  have hl := r.length
  refine ⟨by simp [L2.start, hl], fun i d e => ?_⟩
  by_cases hi : i < ds.length
  · rw [List.getElem?_append_left (by simpa using hi), List.getElem?_map] at e
    cases q : ds[i]? with
    | none => rw [q] at e; cases e
    | some d' =>
      rw [q] at e
      cases e
      obtain ⟨v, e1, h1⟩ := r.get q
      refine ⟨v, ?_, h1⟩
      unfold L2.start
      rw [List.getElem?_append_left (by rw [List.length_map, hl]; exact hi), List.getElem?_map, e1]; rfl
  · rw [List.getElem?_append_right (by simpa using Nat.le_of_not_lt hi)] at e
    rw [List.getElem?_replicate] at e
    split at e <;> cases e

section
variable {P : Program} {w : World} {K : PySem.W.Frag} {mg : Str → Option Value} {base : Heap} {x qual : Str} {params : Arguments} {body : List Stmt} {scope : Scope} {dvs : List V} {kws : List (Str × V)} {f : Addr} {fd : FuncData}
/-- THE RULE for a def -/
theorem fn_sm {N ps : List Str} {k : Nat} {b : SV} (F : FunD K x qual params body scope dvs kws f fd) (Sc : FnScope N ps scope)
    (hb : ∀ (cdv : Value) (A : Around) (outer : List PySem.Env) (s : Shared) (H : Hp) (E : XK), Room k (A.deeper (PyProof.Rows.envOfC qual scope s.heap.objs.size f cdv)) →
      ∃ t, PSs (cxOf (L2.CX P w) P w K mg base N qual scope f cdv A outer s H E) body t ∧ SmS ⟨K, mg⟩ (WE E) t b) :
    FnOk P w K mg base (L2.CX P w) (k + 1) f fd ps (SpF ⟨K, mg⟩ ps.length (fnK N.length b)) := by
  refine F.ok Sc (fun vs H Q E h => h.1) (fun cdv A outer s H vs Q E hr h => ?_)
  obtain ⟨hl, F0, μ, S, ds, r, rel, want⟩ := h
  obtain ⟨t, ht, hs⟩ := hb cdv A outer s H E hr
  refine ⟨t, ht, hs _ _ (ds.map some ++ List.replicate (N.length - ds.length) none) F0 μ S H (start_env r) rel ?_⟩
  change Want _ _ _ _ _ _ _ Q ((b (ds.map some ++ List.replicate (N.length - ds.length) none) S).bind _) at want
  cases q : b (ds.map some ++ List.replicate (N.length - ds.length) none) S with
  | bad => rw [q] at want; exact want
  | exc C ns es S' => rw [q] at want; exact fun σ' => want
  | ok fl S' =>
    rw [q] at want
    cases fl with
    | nx env => exact fun σ' F' μ' H' x' rel' eR' => want .non F' μ' H' x' rel' .non
    | bk env => exact want.elim
    | ct env => exact want.elim
    | rt d => exact want
end
end Sm
set_option Elab.async false
set_option linter.all false
set_option maxRecDepth 100000
namespace Sm
open PySem PySem.Spec L2

theorem fn_cut {P : Program} {w : World} {K : PySem.W.Frag} {mg : Str → Option Value} {base : Heap} {CX : CXT} {k n ar : Nat} {f : Addr} {fd : FuncData} {ps : List Str} {b : SV} {c : Cfg}
    (F : FnOk P w K mg base CX k f fd ps (SpF c ar (fnK n b))) : FnOk P w K mg base CX k f fd ps (SpF c ar (fnT n b)) :=
  F.imp fun vs H Q E ⟨hl, F0, μ, S, ds, r, rel, want⟩ => ⟨hl, F0, μ, S, ds, r, rel, Want.cut rel.len want⟩

abbrev cf (X : Cx) : Cfg := ⟨X.K, X.mg⟩
/-- an expression that does what ev says -/
structure GE (X : Cx) (W : WX) (e : Expr) (ev : EV) : Prop where
  ex : ∃ t, PE X e t ∧ SmE (cf X) W (rE (cf X)) t ev
structure GT (X : Cx) (W : WX) (e : Expr) (tv : TV) : Prop where
  ex : ∃ t, PT X e t ∧ SmE (cf X) W rId t tv
structure GW (X : Cx) (W : WX) (e : Expr) (tv : TV) : Prop where
  ex : ∃ t, PW X e t ∧ SmE (cf X) W rId t tv
structure GA (X : Cx) (W : WX) (es : List Expr) (av : AV) : Prop where
  ex : ∃ t, PA X es t ∧ SmE (cf X) W (rA (cf X)) t av
structure GO (X : Cx) (W : WX) (e : Option Expr) (ov : OV) : Prop where
  ex : ∃ t, PO X e t ∧ SmE (cf X) W rId t ov
structure GI (X : Cx) (W : WX) (tg e : Expr) (iv : AV) : Prop where
  ex : ∃ t, PI X tg e t ∧ SmE (cf X) W (rIt (cf X)) t iv
structure GG (X : Cx) (e : Expr) (g : GV) (L : List Nat) : Prop where
  ex : ∃ t, PG X e t ∧ SmG (cf X) t g L
structure GGs (X : Cx) (es : List Expr) (g : List D → Env → Option Env) (L : List Nat) : Prop where
  ex : ∃ t, PGs X es t ∧ SmGs (cf X) t g L
structure GS (X : Cx) (W : WX) (st : Stmt) (sv : SV) : Prop where
  ex : ∃ t, PS X st t ∧ SmS (cf X) W t sv
structure GB (X : Cx) (W : WX) (sts : List Stmt) (sv : SV) : Prop where
  ex : ∃ t, PSs X sts t ∧ SmS (cf X) W t sv

section
variable {X : Cx} {W : WX} {c : Cfg}
/-! ### names and constants -/
def eV (i : Nat) : EV := fun env S => match env[i]? with | some (some d) => .ok d S | _ => .bad
def eC (d : D) : EV := fun _ S => .ok d S
theorem sm_var {F0 : Hp} {μ0 : List Addr} {i : Nat} : Sm c W F0 μ0 (rE c) (tVar i) (eV i) := by
  refine Sm.pure fun σ env F μ S H _ _ eR rel => ?_
  unfold eV
  cases h : env[i]? with
  | none => trivial
  | some o =>
    cases o with
    | none => trivial
    | some d =>
      obtain ⟨v, h1, h2⟩ := eR.at_ i d h
      exact ⟨rfl, v, h2, fun Q q => ⟨v, h1, q⟩⟩
theorem sm_const {F0 : Hp} {μ0 : List Addr} {v : V} {d : D} (h : ∀ F μ, RD c F μ v d) : Sm c W F0 μ0 (rE c) (tC v) (eC d) :=
  Sm.pure fun _ _ F μ S H _ _ _ _ => ⟨rfl, v, h F μ, fun Q q => q⟩
theorem gv (i : Nat) {x : Str} {pos : Pos} (hN : X.N[i]? = some x := by rfl) (hv : Vis X.env.scope x := by first | exact Or.inl rfl | exact Or.inr (Or.inl rfl) | exact Or.inr (Or.inr rfl)) (hd : (x == ("__debug__" : Str)) = false := by decide)
    (hcd : (x == ("__classdict__" : Str)) = false := by decide) : GE X W (.Name x pos) (eV i) := ⟨_, pe_var hN hv hd hcd, sm_var⟩
theorem ge_int {i j pos} : GE X W (.Constant (.int i) j pos) (eC (.int i)) := ⟨_, pe_int, sm_const fun _ _ => .int i⟩
theorem ge_bl {b j pos} : GE X W (.Constant (.bool b) j pos) (eC (.bl b)) := ⟨_, pe_bl, sm_const fun _ _ => .bl b⟩
theorem ge_non {j pos} : GE X W (.Constant .none j pos) (eC .non) := ⟨_, pe_non, sm_const fun _ _ => .non⟩
theorem ge_str {x j pos} : GE X W (.Constant (.str x) j pos) (eC (.str x)) := ⟨_, pe_str, sm_const fun _ _ => .str x⟩
/-- a module's constant, a text or a number -/
theorem ge_gstr {x z : Str} {t : Tok} {pos : Pos} (hm : X.mg x = some (.str z t)) (hg : Gl X x := by rfl) (hd : (x == ("__debug__" : Str)) = false := by decide) : GE X W (.Name x pos) (eC (.str z)) := ⟨_, pe_glob (v := .str z) hg hm ⟨t, rfl⟩ hd, sm_const fun _ _ => .str z⟩
theorem ge_gint {x : Str} {z : Int} {t : Tok} {pos : Pos} (hm : X.mg x = some (.int z t)) (hg : Gl X x := by rfl) (hd : (x == ("__debug__" : Str)) = false := by decide) : GE X W (.Name x pos) (eC (.int z)) := ⟨_, pe_glob (v := .int z) hg hm ⟨t, rfl⟩ hd, sm_const fun _ _ => .int z⟩
/-- a built-in class as a value -/
theorem ge_ty {x : Str} {n : String} {pos : Pos} (hm : X.mg x = none) (hv : bootBuiltins x = some (.type n)) (hg : Gl X x := by rfl) (hn : x ≠ "__name__" := by decide) (hd : (x == ("__debug__" : Str)) = false := by decide) : GE X W (.Name x pos) (eC (.ty n)) :=
  ⟨_, pe_bltn (v := .ty n) hg hm hv rfl hn hd, sm_const fun _ _ => .ty n⟩
/-- a class, a def of the module as a value -/
theorem ge_gfn {x : Str} {a : Addr} {pos : Pos} (hm : X.mg x = some (.ref a)) (hg : Gl X x := by rfl) (hd : (x == ("__debug__" : Str)) = false := by decide) : GE X W (.Name x pos) (eC (.fn x)) :=
  ⟨_, pe_glob (v := .ref a) hg hm rfl hd, sm_const fun _ _ => .fn hm⟩

/-! ### operators, by values -/
abbrev OV2 := D → D → Sto → Res D
abbrev OV1 := D → Sto → Res D
/-- r does what f says -/
def OpSm (c : Cfg) (r : R2) (f : OV2) : Prop := ∀ F μ S H x y dx dy (Q : VK), Rel c F μ S H → RD c F μ x dx → RD c F μ y dy → Want c (fun _ _ _ _ => False) (rE c) [] F μ H Q (f dx dy S) → r x y H Q
def UnSm (c : Cfg) (r : V → Hp → VK → Prop) (f : OV1) : Prop := ∀ F μ S H x dx (Q : VK), Rel c F μ S H → RD c F μ x dx → Want c (fun _ _ _ _ => False) (rE c) [] F μ H Q (f dx S) → r x H Q
def ArSm (c : Cfg) (r : List V → Hp → VK → Prop) (f : List D → Sto → Res D) : Prop := ∀ F μ S H xs dxs (Q : VK), Rel c F μ S H → RDs c F μ xs dxs → Want c (fun _ _ _ _ => False) (rE c) [] F μ H Q (f dxs S) → r xs H Q
/-- no exception -/
def noX {α : Type} : Res α → Res α
  | .ok a S => .ok a S
  | .exc _ _ _ _ => .bad
  | .bad => .bad
theorem Want.noX {β α : Type} {R : RR β α} {σ : L2.St} {F H : Hp} {μ : List Addr} {Q : β → Hp → Prop} {r : Res α} (w : Want c W R σ F μ H Q (noX r)) {W' : WX} {σ' : L2.St} : Want c W' R σ' F μ H Q r := by
  cases r with
  | ok a S => exact w
  | exc C ns ds S => exact w.elim
  | bad => exact w.elim
def eOp (f : OV2) (a b : EV) : EV := fun env S => (a env S).bind fun x S1 => (b env S1).bind fun y S2 => noX (f x y S2)
def eUn (f : OV1) (a : EV) : EV := fun env S => (a env S).bind fun x S1 => noX (f x S1)
def eAr (f : List D → Sto → Res D) (a : AV) : EV := fun env S => (a env S).bind fun x S1 => noX (f x S1)
theorem sm_op {F0 : Hp} {μ0 : List Addr} {r : R2} {f : OV2} {ta tb : TE} {a b : EV} (hr : OpSm c r f) (ha : Sm c W F0 μ0 (rE c) ta a) (hb : Sm c W F0 μ0 (rE c) tb b) : Sm c W F0 μ0 (rE c) (tOp r ta tb) (eOp f a b) := by
  refine Sm.bind (kt := fun x σ H1 Q => tb σ H1 fun y H2 => r x y H2 Q) (ke := fun dx env S1 => (b env S1).bind fun dy S2 => noX (f dx dy S2)) ha fun F1 μ1 x dx s1 p1 r1 => Sm.bind (kt := fun y σ H2 Q => r x y H2 Q) (ke := fun dy env S2 => noX (f dx dy S2)) (hb.weaken s1 p1) fun F2 μ2 y dy s2 p2 r2 => ?_
  intro σ env F μ S H Q s p eR rel want
  exact hr F μ S H x y dx dy Q rel (r1.mono (s2.trans s) (p2.trans p)) (r2.mono s p) want.noX
theorem sm_un {F0 : Hp} {μ0 : List Addr} {r : V → Hp → VK → Prop} {f : OV1} {ta : TE} {a : EV} (hr : UnSm c r f) (ha : Sm c W F0 μ0 (rE c) ta a) : Sm c W F0 μ0 (rE c) (tUn r ta) (eUn f a) := by
  refine Sm.bind (kt := fun x σ H1 Q => r x H1 Q) (ke := fun dx env S1 => noX (f dx S1)) ha fun F1 μ1 x dx s1 p1 r1 => ?_
  intro σ env F μ S H Q s p eR rel want
  exact hr F μ S H x dx Q rel (r1.mono s p) want.noX
theorem sm_ar {F0 : Hp} {μ0 : List Addr} {r : List V → Hp → VK → Prop} {f : List D → Sto → Res D} {ta : TA} {a : AV} (hr : ArSm c r f) (ha : Sm c W F0 μ0 (rA c) ta a) : Sm c W F0 μ0 (rE c) (tCB r ta) (eAr f a) := by
  refine Sm.bind (kt := fun x σ H1 Q => r x H1 Q) (ke := fun dx env S1 => noX (f dx S1)) ha fun F1 μ1 x dx s1 p1 r1 => ?_
  intro σ env F μ S H Q s p eR rel want
  exact hr F μ S H x dx Q rel (r1.mono s p) want.noX
variable {a b : Expr} {pos : Pos}
/-- an operator of the program that does what f says -/
structure GOp (X : Cx) (f : Value → Value → Sem Value) (g : OV2) : Prop where
  ex : ∃ r, OpR X f r ∧ OpSm (cf X) r g
theorem GOp.or {X : Cx} {f : Value → Value → Sem Value} {g1 g2 g : OV2} (h1 : GOp X f g1) (h2 : GOp X f g2) (h : ∀ x y S, g x y S = g1 x y S ∨ g x y S = g2 x y S) : GOp X f g := by
  obtain ⟨r1, o1, s1⟩ := h1
  obtain ⟨r2, o2, s2⟩ := h2
  refine ⟨_, o1.or o2, fun F μ S H x y dx dy Q rel rx ry want => ?_⟩
  rcases h dx dy S with e | e
  · rw [e] at want; exact .inl (s1 F μ S H x y dx dy Q rel rx ry want)
  · rw [e] at want; exact .inr (s2 F μ S H x y dx dy Q rel rx ry want)
theorem ge_op {op : Operator} {f : OV2} {ea eb : EV} (o : GOp X (binaryOp op) f) (ha : GE X W a ea) (hb : GE X W b eb) : GE X W (.BinOp a op b pos) (eOp f ea eb) := by
  obtain ⟨r, o, s⟩ := o
  obtain ⟨ta, pa, sa⟩ := ha
  obtain ⟨tb, pb, sb⟩ := hb
  exact ⟨_, pe_op o pa pb, sm_op s sa sb⟩
theorem ge_cmp {op : CmpOp} {f : OV2} {ea eb : EV} (o : GOp X (compareOp op) f) (ha : GE X W a ea) (hb : GE X W b eb) (hm : behindInMarks op b = false := by first | exact nomark _ | rfl) : GE X W (.Compare a [op] [b] pos) (eOp f ea eb) := by
  obtain ⟨r, o, s⟩ := o
  obtain ⟨ta, pa, sa⟩ := ha
  obtain ⟨tb, pb, sb⟩ := hb
  exact ⟨_, pe_cmpR o pa pb hm, sm_op s sa sb⟩
/-- a value as a truth -/
def tB' (e : EV) : TV := fun env S => (e env S).bind fun d S1 => match d with | .bl k => .ok k S1 | _ => .bad
theorem gt_cmp {op : CmpOp} {f : OV2} {ea eb : EV} (o : GOp X (compareOp op) f) (ha : GE X W a ea) (hb : GE X W b eb) (hm : behindInMarks op b = false := by first | exact nomark _ | rfl) : GT X W (.Compare a [op] [b] pos) (tB' (eOp f ea eb)) := by
  obtain ⟨r, o, s⟩ := o
  obtain ⟨ta, pa, sa⟩ := ha
  obtain ⟨tb, pb, sb⟩ := hb
  refine ⟨_, pt_cmpR o pa pb hm, ?_⟩
  refine Sm.bind (kt := fun x σ H1 Q => ∃ k, x = .bl k ∧ Q k H1) (ke := fun d env S1 => match d with | .bl k => .ok k S1 | _ => .bad) (sm_op s sa sb) fun F1 μ1 x dx s1 p1 r1 => Sm.pure fun σ env F μ S H s p _ _ => ?_
  cases r1 with
  | bl k => exact ⟨rfl, k, rfl, fun Q q => ⟨k, rfl, q⟩⟩
  | _ => trivial
theorem gt_val {e : Expr} {ev : EV} (h : GE X W e ev) (he : ∀ whole, isTrue e X.env whole = (do let v ← whole; standAt e.pos; holding [v] (truthy v)) := by intro _; rfl) : GT X W e (tB' ev) := by
  obtain ⟨t, pt, st⟩ := h
  refine ⟨_, pt_val pt he, ?_⟩
  refine Sm.bind (kt := fun x σ H1 Q => ∃ k, x = .bl k ∧ Q k H1) (ke := fun d env S1 => match d with | .bl k => .ok k S1 | _ => .bad) st fun F1 μ1 x dx s1 p1 r1 => Sm.pure fun σ env F μ S H s p _ _ => ?_
  cases r1 with
  | bl k => exact ⟨rfl, k, rfl, fun Q q => ⟨k, rfl, q⟩⟩
  | _ => trivial
/-! ### and, or, not -/
def tvAnd (a b : TV) : TV := fun env S => (a env S).bind fun k S1 => if k = true then b env S1 else .ok false S1
def tvOr (a b : TV) : TV := fun env S => (a env S).bind fun k S1 => if k = true then .ok true S1 else b env S1
def tvNot (a : TV) : TV := fun env S => (a env S).bind fun k S1 => .ok (!k) S1
theorem sm_and {t u : TT} {a b : TV} (ha : SmE c W rId t a) (hb : SmE c W rId u b) : SmE c W rId (tAnd t u) (tvAnd a b) := by
  refine Sm.bind (kt := fun k σ H1 Q => if k = true then u σ H1 Q else Q false H1) (ke := fun k env S1 => if k = true then b env S1 else .ok false S1) ha fun F1 μ1 x dx s1 p1 r1 => ?_
  cases r1
  cases x with
  | true => exact hb.weaken s1 p1
  | false => exact Sm.pure fun _ _ F μ S H _ _ _ _ => ⟨rfl, false, rfl, fun Q q => q⟩
theorem sm_or {t u : TT} {a b : TV} (ha : SmE c W rId t a) (hb : SmE c W rId u b) : SmE c W rId (tOr t u) (tvOr a b) := by
  refine Sm.bind (kt := fun k σ H1 Q => if k = true then Q true H1 else u σ H1 Q) (ke := fun k env S1 => if k = true then .ok true S1 else b env S1) ha fun F1 μ1 x dx s1 p1 r1 => ?_
  cases r1
  cases x with
  | false => exact hb.weaken s1 p1
  | true => exact Sm.pure fun _ _ F μ S H _ _ _ _ => ⟨rfl, true, rfl, fun Q q => q⟩
theorem sm_not {t : TT} {a : TV} (ha : SmE c W rId t a) : SmE c W rId (tNot t) (tvNot a) := by
  refine Sm.bind (kt := fun k σ H1 Q => Q (!k) H1) (ke := fun k env S1 => .ok (!k) S1) ha fun F1 μ1 x dx s1 p1 r1 => ?_
  cases r1
  exact Sm.pure fun _ _ F μ S H _ _ _ _ => ⟨rfl, !x, rfl, fun Q q => q⟩
variable {rest : List Expr} {va vb : TV}
theorem gw_and1 (ha : GT X W a va) : GW X W (.BoolOp .And [a] pos) va := let ⟨t, p, s⟩ := ha; ⟨t, pw_and1 p, s⟩
theorem gw_or1 (ha : GT X W a va) : GW X W (.BoolOp .Or [a] pos) va := let ⟨t, p, s⟩ := ha; ⟨t, pw_or1 p, s⟩
theorem gw_and (ha : GT X W a va) (hb : GW X W (.BoolOp .And (b :: rest) pos) vb) : GW X W (.BoolOp .And (a :: b :: rest) pos) (tvAnd va vb) :=
  let ⟨_, p, s⟩ := ha; let ⟨_, p', s'⟩ := hb; ⟨_, pw_and p p', sm_and s s'⟩
theorem gw_or (ha : GT X W a va) (hb : GW X W (.BoolOp .Or (b :: rest) pos) vb) : GW X W (.BoolOp .Or (a :: b :: rest) pos) (tvOr va vb) :=
  let ⟨_, p, s⟩ := ha; let ⟨_, p', s'⟩ := hb; ⟨_, pw_or p p', sm_or s s'⟩
theorem GW.t {e : Expr} {v : TV} (h : GW X W e v) : GT X W e v := let ⟨_, p, s⟩ := h; ⟨_, p.pt, s⟩
theorem gt_not (ha : GT X W a va) : GT X W (.UnaryOp .Not a pos) (tvNot va) := let ⟨_, p, s⟩ := ha; ⟨_, pt_not p, sm_not s⟩
/-- .. as values -/
def eAnd (a b : EV) : EV := fun env S => (a env S).bind fun d S1 => match d with | .bl true => b env S1 | .bl false => .ok (.bl false) S1 | _ => .bad
def eOr (a b : EV) : EV := fun env S => (a env S).bind fun d S1 => match d with | .bl true => .ok (.bl true) S1 | .bl false => b env S1 | _ => .bad
def eNot (a : EV) : EV := fun env S => (a env S).bind fun d S1 => match d with | .bl k => .ok (.bl (!k)) S1 | _ => .bad
theorem sm_bad {β α : Type} {R : RR β α} {F0 : Hp} {μ0 : List Addr} {t : TX β} : Sm c W F0 μ0 R t (fun _ _ => (.bad : Res α)) := fun _ _ _ _ _ _ _ _ _ _ _ w => w.elim
theorem ge_one {op : BoolOp} {ea : EV} (h : GE X W a ea) : GE X W (.BoolOp op [a] pos) ea := let ⟨_, p, s⟩ := h; ⟨_, pe_one p, s⟩
theorem ge_and {ea eb : EV} (ha : GE X W a ea) (hb : GE X W (.BoolOp .And (b :: rest) pos) eb) : GE X W (.BoolOp .And (a :: b :: rest) pos) (eAnd ea eb) := by
  obtain ⟨_, p, s⟩ := ha
  obtain ⟨tb, p', s'⟩ := hb
  refine ⟨_, pe_and p p', Sm.bind (kt := fun x σ H1 Q => ∃ c, x = .bl c ∧ if c = true then tb σ H1 Q else Q (.bl false) H1) (ke := fun d env S1 => match d with | .bl true => eb env S1 | .bl false => .ok (.bl false) S1 | _ => .bad) s fun F1 μ1 x dx s1 p1 r1 => ?_⟩
  cases r1 with
  | bl k =>
    cases k with
    | true => exact fun σ env F μ S H Q s0 p0 eR rel w => ⟨true, rfl, s'.weaken s1 p1 σ env F μ S H Q s0 p0 eR rel w⟩
    | false => exact Sm.pure fun _ _ F μ S H _ _ _ _ => ⟨rfl, .bl false, .bl false, fun Q q => ⟨false, rfl, q⟩⟩
  | _ => exact sm_bad
theorem ge_or {ea eb : EV} (ha : GE X W a ea) (hb : GE X W (.BoolOp .Or (b :: rest) pos) eb) : GE X W (.BoolOp .Or (a :: b :: rest) pos) (eOr ea eb) := by
  obtain ⟨_, p, s⟩ := ha
  obtain ⟨tb, p', s'⟩ := hb
  refine ⟨_, pe_or p p', Sm.bind (kt := fun x σ H1 Q => ∃ c, x = .bl c ∧ if c = true then Q (.bl true) H1 else tb σ H1 Q) (ke := fun d env S1 => match d with | .bl true => .ok (.bl true) S1 | .bl false => eb env S1 | _ => .bad) s fun F1 μ1 x dx s1 p1 r1 => ?_⟩
  cases r1 with
  | bl k =>
    cases k with
    | false => exact fun σ env F μ S H Q s0 p0 eR rel w => ⟨false, rfl, s'.weaken s1 p1 σ env F μ S H Q s0 p0 eR rel w⟩
    | true => exact Sm.pure fun _ _ F μ S H _ _ _ _ => ⟨rfl, .bl true, .bl true, fun Q q => ⟨true, rfl, q⟩⟩
  | _ => exact sm_bad
theorem ge_not {ea : EV} (ha : GE X W a ea) : GE X W (.UnaryOp .Not a pos) (eNot ea) := by
  obtain ⟨_, p, s⟩ := ha
  refine ⟨_, pe_not p, Sm.bind (kt := fun x σ H1 (Q : VK) => ∃ c, x = V.bl c ∧ Q (.bl (!c)) H1) (ke := fun (d : D) env S1 => match d with | .bl k => (.ok (.bl (!k)) S1 : Res D) | _ => .bad) s fun F1 μ1 x dx s1 p1 r1 => ?_⟩
  cases r1 with
  | bl k => exact Sm.pure fun _ _ F μ S H _ _ _ _ => ⟨rfl, .bl (!k), .bl (!k), fun Q q => ⟨k, rfl, q⟩⟩
  | _ => exact sm_bad
def eIf (t : TV) (a b : EV) : EV := fun env S => (t env S).bind fun k S1 => if k = true then a env S1 else b env S1
theorem ge_if {e : Expr} {t : TV} {ea eb : EV} (ht : GT X W e t) (ha : GE X W a ea) (hb : GE X W b eb) : GE X W (.IfExp e a b pos) (eIf t ea eb) := by
  obtain ⟨_, p, s⟩ := ht
  obtain ⟨t1, p1, s1⟩ := ha
  obtain ⟨t2, p2, s2⟩ := hb
  refine ⟨_, pe_ifExp p p1 p2, Sm.bind (kt := fun k σ H1 Q => if k = true then t1 σ H1 Q else t2 σ H1 Q) (ke := fun k env S1 => if k = true then ea env S1 else eb env S1) s fun F1 μ1 x dx q1 q2 r1 => ?_⟩
  cases r1
  cases x with
  | true => exact s1.weaken q1 q2
  | false => exact s2.weaken q1 q2

/-! ### arguments, displays -/
def aNil : AV := fun _ S => .ok [] S
def aCons (e : EV) (r : AV) : AV := fun env S => (e env S).bind fun d S1 => (r env S1).bind fun ds S2 => .ok (d :: ds) S2
theorem ga_nil : GA X W [] aNil := ⟨_, pa_nil, Sm.pure fun _ _ F μ S H _ _ _ _ => ⟨rfl, [], .nil, fun Q q => q⟩⟩
theorem sm_cons {te : TE} {tr : TA} {e : EV} {r : AV} (he : SmE c W (rE c) te e) (hr : SmE c W (rA c) tr r) : SmE c W (rA c) (tCons te tr) (aCons e r) := by
  refine Sm.bind (kt := fun x σ H1 Q => tr σ H1 fun xs H2 => Q (x :: xs) H2) (ke := fun d env S1 => (r env S1).bind fun ds S2 => .ok (d :: ds) S2) he fun F1 μ1 x dx s1 p1 r1 => Sm.bind (kt := fun xs σ H2 Q => Q (x :: xs) H2) (ke := fun ds env S2 => .ok (dx :: ds) S2) (hr.weaken s1 p1) fun F2 μ2 y dy s2 p2 r2 => ?_
  exact Sm.pure fun _ _ F μ S H s p _ _ => ⟨rfl, x :: y, .cons (r1.mono (s2.trans s) (p2.trans p)) (r2.mono s p), fun Q q => q⟩
theorem ga_cons {e : Expr} {es : List Expr} {ev : EV} {av : AV} (he : GE X W e ev) (hr : GA X W es av) (hs : starEach (e :: es) X.env = (false, eval e X.env) :: starEach es X.env := by rfl) : GA X W (e :: es) (aCons ev av) :=
  let ⟨_, p, s⟩ := he; let ⟨_, p', s'⟩ := hr; ⟨_, pa_cons p p' hs, sm_cons s s'⟩
theorem le_line {n : Nat} (h : n ≤ 16777216) : n ≤ sizeLine := by rw [sizeLine_eq]; exact h
def eTup (a : AV) : EV := fun env S => (a env S).bind fun ds S1 => if ds.length ≤ 16777216 then .ok (.tup ds) S1 else .bad
theorem Rel.new {F H : Hp} {μ : List Addr} {S : Sto} {o : HO} {d : D} {Q : VK} (rel : Rel c F μ S H) {W : WX} {σ : L2.St} (hr : ∀ p, RD c (upd F p o) μ (.ref p) d) (w : Want c W (rE c) σ F μ H Q (.ok d S)) : ∀ p, H p = none → Q (.ref p) (upd H p o) := fun p hp => by
  obtain ⟨r, x, _⟩ := rel.frozen (o := o) hp
  exact w (.ref p) _ μ _ x r (hr p)
theorem ge_tup {es : List Expr} {av : AV} {x1} (h : GA X W es av) : GE X W (.Tuple es x1 pos) (eTup av) := by
  obtain ⟨_, p, s⟩ := h
  refine ⟨_, pe_tup p, Sm.bind (kt := fun (xs : List V) σ H1 (Q : VK) => xs.length ≤ sizeLine ∧ ∀ p, H1 p = none → Q (.ref p) (upd H1 p (.tup xs))) (ke := fun (ds : List D) env S1 => if ds.length ≤ 16777216 then (.ok (.tup ds) S1 : Res D) else .bad) s fun F1 μ1 xs ds s1 p1 r1 => ?_⟩
  intro σ env F μ S H Q s p eR rel want
  change Want _ _ _ _ _ _ _ _ (if ds.length ≤ 16777216 then (.ok (.tup ds) S : Res D) else .bad) at want
  split at want
  · rename_i hl
    refine ⟨by rw [r1.length]; exact le_line hl, fun p hp => ?_⟩
    obtain ⟨rel', x', sF⟩ := rel.frozen (o := .tup xs) hp
    exact want (.ref p) _ μ _ x' rel' (.tup upd_same (r1.mono (s.trans sF) (by assumption)))
  · exact want.elim
/-- a list by value -/
def eLst (a : AV) : EV := fun env S => (a env S).bind fun ds S1 => if ds.length ≤ 16777216 then .ok (.lst ds) S1 else .bad
theorem ge_lst {es : List Expr} {av : AV} (h : GA X W es av) : GE X W (.List es pos) (eLst av) := by
  obtain ⟨_, p, s⟩ := h
  refine ⟨_, pe_lst p, Sm.bind (kt := fun (xs : List V) σ H1 (Q : VK) => xs.length ≤ sizeLine ∧ ∀ p, H1 p = none → Q (.ref p) (upd H1 p (.lst xs))) (ke := fun (ds : List D) env S1 => if ds.length ≤ 16777216 then (.ok (.lst ds) S1 : Res D) else .bad) s fun F1 μ1 xs ds s1 p1 r1 => ?_⟩
  intro σ env F μ S H Q s p eR rel want
  change Want _ _ _ _ _ _ _ _ (if ds.length ≤ 16777216 then (.ok (.lst ds) S : Res D) else .bad) at want
  split at want
  · rename_i hl
    refine ⟨by rw [r1.length]; exact le_line hl, fun p hp => ?_⟩
    obtain ⟨rel', x', sF⟩ := rel.frozen (o := .lst xs) hp
    exact want (.ref p) _ μ _ x' rel' (.lst upd_same (r1.mono (s.trans sF) (by assumption)))
  · exact want.elim
end
end Sm
set_option Elab.async false
set_option linter.all false
set_option maxRecDepth 100000
namespace Sm
open PySem PySem.Spec L2

section
variable {X : Cx} {W : WX} {c : Cfg} {st : Stmt} {rest body els : List Stmt} {a b : SV} {e : Expr} {ev : EV} {pos : Pos}
/-! ## statements of the text -/
theorem gb_nil : GB X W [] sNext := ⟨_, pss_nil, sm_next⟩
theorem gb_one (h : GS X W st a) : GB X W [st] a := let ⟨_, p, s⟩ := h; ⟨_, pss_one p, s⟩
theorem gb_cons (h : GS X W st a) (r : GB X W rest b) : GB X W (st :: rest) (sSeq a b) := let ⟨_, p, s⟩ := h; let ⟨_, p', s'⟩ := r; ⟨_, pss_cons p p', sm_seq s s'⟩
theorem gs_pass : GS X W (.Pass pos) sNext := ⟨_, ps_pass, sm_next⟩
theorem gs_break : GS X W (.Break pos) sBreak := ⟨_, ps_break, sm_break⟩
theorem gs_cont : GS X W (.Continue pos) sCont := ⟨_, ps_continue, sm_cont⟩
theorem gs_expr (h : GE X W e ev) (hs : swapsWith e none pos.line X.env = pure false := by rfl) : GS X W (.Expr e pos) (sDrop ev) := let ⟨_, p, s⟩ := h; ⟨_, ps_expr p hs, sm_drop s⟩
theorem gs_ret (h : GE X W e ev) : GS X W (.Return (some e) pos) (sRet ev) := let ⟨_, p, s⟩ := h; ⟨_, ps_ret p, sm_ret s⟩
theorem gs_retN : GS X W (.Return none pos) sRetN := ⟨_, ps_retN, sm_retN⟩
theorem gs_if {t : TV} (ht : GT X W e t) (ha : GB X W body a) (hb : GB X W els b) : GS X W (.If e body els pos) (sIf t a b) :=
  let ⟨_, p, s⟩ := ht; let ⟨_, p1, s1⟩ := ha; let ⟨_, p2, s2⟩ := hb; ⟨_, ps_if p p1 p2, sm_if s s1 s2⟩
theorem gg_name (i : Nat) {x : Str} (hN : X.N.Nodup) (hi : X.N[i]? = some x := by rfl) (hx : Loc X.env.scope x := by first | exact Or.inl rfl | exact Or.inr rfl) (hf : X.fn x = true ∨ X.env.scope.names.lookup x = some .local := by first | exact .inl rfl | exact .inr rfl) : GG X (.Name x pos) (vName i) [i] :=
  ⟨_, pg_name hN hi hx hf, sm_gname⟩
theorem ggs_nil : GGs X [] vNil [] := ⟨_, pgs_nil, sm_gnil⟩
theorem ggs_cons {es : List Expr} {g : GV} {gs : List D → Env → Option Env} {L M : List Nat} (h : GG X e g L) (r : GGs X es gs M) (hs : (assignEach (e :: es) X.env).map (·.2) = assign e X.env :: (assignEach es X.env).map (·.2) := by rfl) : GGs X (e :: es) (vCons g gs) (L ++ M) :=
  let ⟨_, p, s⟩ := h; let ⟨_, p', s'⟩ := r; ⟨_, pgs_cons p p' hs, sm_gcons s s'⟩
theorem gg_tup {es : List Expr} {k n : Nat} {gs : List D → Env → Option Env} {L : List Nat} (h : GGs X es gs L) (hc : X.calm = true := by rfl) (hn : (assignEach es X.env).length = n := by rfl) (hst : (assignEach es X.env).findIdx? (·.1) = none := by rfl) : GG X (.Tuple es k pos) (vTup n gs) L :=
  let ⟨_, p, s⟩ := h; ⟨_, pg_tup hc p hn hst, sm_gtup s⟩
theorem gs_set (i : Nat) {x : Str} {pos' : Pos} (hN : X.N.Nodup) (h : GE X W e ev) (hi : X.N[i]? = some x := by rfl) (hx : Loc X.env.scope x := by first | exact Or.inl rfl | exact Or.inr rfl) (hs : swapsWith e (some (.Name x pos')) pos.line X.env = pure false := by rfl)
    (hf : X.fn x = true ∨ X.env.scope.names.lookup x = some .local := by first | exact .inl rfl | exact .inr rfl) : GS X W (.Assign [.Name x pos'] e pos) (sSet i ev) := let ⟨_, p, s⟩ := h; ⟨_, ps_set hN hi hx p hs hf, sm_set s⟩
theorem gs_asg {tg : Expr} {g : GV} {L : List Nat} (h : GE X W e ev) (hg : GG X tg g L) (hs : swapsWithSole [tg] e pos.line X.env = pure false := by rfl) (hw : swappedStores [tg] e X.env = pure none := by rfl) (h1 : (assignEach [tg] X.env).map (·.2) = [assign tg X.env] := by rfl) :
    GS X W (.Assign [tg] e pos) (sAsg ev g) := let ⟨_, p, s⟩ := h; let ⟨_, p', s'⟩ := hg; ⟨_, ps_asg p p' hs hw h1, sm_asg s s'⟩
/-- a, b = x, y with plain names -/
def sPar (i j : Nat) (a : AV) : SV := fun env S => (a env S).bind fun ds S1 => match ds with | [x, y] => .ok (.nx ((env.set i (some x)).set j (some y))) S1 | _ => .bad
theorem gs_par (i j : Nat) {x y : Str} {ea eb : Expr} {av : AV} {px py pt : Pos} {kt k2 pt2} (hN : X.N.Nodup) (ha : GA X W [ea, eb] av) (hc : X.calm = true := by rfl) (hi : X.N[i]? = some x := by rfl) (hj : X.N[j]? = some y := by rfl) (hij : i ≠ j := by decide)
    (hx : X.env.scope.names.lookup x = some .local := by rfl) (hy : X.env.scope.names.lookup y = some .local := by rfl)
    (hw : swappedStores [.Tuple [.Name x px, .Name y py] kt pt] (.Tuple [ea, eb] k2 pt2) X.env = pure (some [x, y]) := by rfl)
    (hs : swapsWithSole [.Tuple [.Name x px, .Name y py] kt pt] (.Tuple [ea, eb] k2 pt2) pos.line X.env = pure false := by rfl) :
    GS X W (.Assign [.Tuple [.Name x px, .Name y py] kt pt] (.Tuple [ea, eb] k2 pt2) pos) (sPar i j av) := by
  obtain ⟨t, p, s⟩ := ha
  refine ⟨_, ps_par hc hN hi hj hij hx hy p hw hs, ?_⟩
  intro E σ env F μ S H eR rel want
  refine s.go eR rel ?_
  change WantF _ W E F μ H ((av env S).bind _) at want
  cases h : av env S with
  | bad => rw [h] at want; exact want
  | exc C ns ds S' => rw [h] at want; exact want σ
  | ok ds S' =>
    rw [h] at want
    intro vs F' μ' H' x' rel' r'
    cases r' with
    | nil => exact want.elim
    | cons h1 r1 =>
      cases r1 with
      | nil => exact want.elim
      | cons h2 r2 =>
        cases r2 with
        | cons _ _ => exact want.elim
        | nil => exact ⟨_, _, rfl, want _ F' μ' H' x' rel' (((eR.ext x').set i h1).set j h2)⟩
theorem gs_for {tg it : Expr} {iv : AV} {g : GV} (hp : PassesOwn (model X.prog X.w) X.A X.env X.xe) {L : List Nat} (hi : GI X W tg it iv) (hg : GG X tg g L) (hb : GB X W body a) (hc : X.calm = true := by rfl) (hs : ∀ x, foldedSetIterable it X.env x = pure x := by intro _; rfl) :
    GS X W (.For tg it body [] pos) (sFor iv g a) := let ⟨_, p, s⟩ := hi; let ⟨_, p1, s1⟩ := hg; let ⟨_, p2, s2⟩ := hb; ⟨_, ps_for hp hc p p1 p2 hs, sm_for s s1 s2⟩
theorem gs_while (n : Nat) {t : TV} (hp : PassesOwn (model X.prog X.w) X.A X.env X.xe) (ht : GT X W e t) (hb : GB X W body a) : GS X W (.While e body [] pos) (sWhile t a n) :=
  let ⟨_, p, s⟩ := ht; let ⟨_, p2, s2⟩ := hb; ⟨_, ps_while hp p p2, sm_while n s s2⟩

/-! ## what is walked -/
def optR {α : Type} (o : Option α) (S : Sto) : Res α := match o with | some a => .ok a S | none => .bad
def aIt (f : D → Option (List D)) (e : EV) : AV := fun env S => (e env S).bind fun d S1 => optR (f d) S1
theorem gi_list {tg : Expr} {ev : EV} (h : GE X W e ev) : GI X W tg e (aIt dLst ev) := by
  obtain ⟨t, p, s⟩ := h
  refine ⟨_, pi_list p, Sm.bind (kt := fun x σ H1 (Q : It → Hp → Prop) => ∃ a, x = .ref a ∧ (∃ xs, SqL X.K H1 a xs) ∧ Q (Itl X.K a) H1) (ke := fun d env S1 => optR (dLst d) S1) s fun F1 μ1 x dx s1 p1 r1 => ?_⟩
  cases hd : dLst dx with
  | none => exact Sm.pure fun σ env F μ S H _ _ _ _ => by simp only [hd, optR]
  | some ds =>
    obtain ⟨ad, vs, rfl, h, r⟩ := RD.sql r1 hd
    refine Sm.pure fun σ env F μ S H sF pF _ rel => ?_
    simp only [hd, optR]
    refine ⟨trivial, Itl X.K ad, ?_, fun Q q => ⟨ad, rfl, ⟨_, rel.sql (sF.sql h)⟩, q⟩⟩
    intro i F2 μ2 S2 H2 s2 p2 rel2
    have hq : SqL X.K H2 ad vs := rel2.sql (s2.sql (sF.sql h))
    have w := walk_list (K := X.K) (a := ad) (xs := vs)
    refine ⟨fun hi => ⟨w.goes i H2 (by rw [r.length]; exact hi) hq, fun x H3 y => ?_⟩, fun hi => by rw [hi, ← r.length]; exact w.stops H2 hq⟩
    obtain ⟨e1, e2⟩ := w.yields i H2 x H3 (by rw [r.length]; exact hi) hq y
    subst e1
    obtain ⟨d, e3, r3⟩ := r.getV e2
    exact ⟨F2, d, Ext.refl, rel2, e3, r3.mono (sF.trans s2) (pF.trans p2)⟩
theorem gi_tup {tg : Expr} {ev : EV} (h : GE X W e ev) : GI X W tg e (aIt dTup ev) := by
  obtain ⟨t, p, s⟩ := h
  refine ⟨_, pi_tup p, Sm.bind (kt := fun x σ H1 (Q : It → Hp → Prop) => ∃ a, x = .ref a ∧ (∃ xs, SqT X.K H1 a xs) ∧ Q (Itt X.K a) H1) (ke := fun d env S1 => optR (dTup d) S1) s fun F1 μ1 x dx s1 p1 r1 => ?_⟩
  cases hd : dTup dx with
  | none => exact Sm.pure fun σ env F μ S H _ _ _ _ => by simp only [hd, optR]
  | some ds =>
    obtain ⟨ad, vs, rfl, h, r⟩ := RD.sqt r1 hd
    refine Sm.pure fun σ env F μ S H sF pF _ rel => ?_
    simp only [hd, optR]
    refine ⟨trivial, Itt X.K ad, ?_, fun Q q => ⟨ad, rfl, ⟨_, rel.sqt (sF.sqt h)⟩, q⟩⟩
    intro i F2 μ2 S2 H2 s2 p2 rel2
    have hq : SqT X.K H2 ad vs := rel2.sqt (s2.sqt (sF.sqt h))
    have w := walk_tup (K := X.K) (a := ad) (xs := vs)
    refine ⟨fun hi => ⟨w.goes i H2 (by rw [r.length]; exact hi) hq, fun x H3 y => ?_⟩, fun hi => by rw [hi, ← r.length]; exact w.stops H2 hq⟩
    obtain ⟨e1, e2⟩ := w.yields i H2 x H3 (by rw [r.length]; exact hi) hq y
    subst e1
    obtain ⟨d, e3, r3⟩ := r.getV e2
    exact ⟨F2, d, Ext.refl, rel2, e3, r3.mono (sF.trans s2) (pF.trans p2)⟩
/-- a list or a tuple, whichever comes: the PI is one or the other -/
theorem PI.or {tg : Expr} {t u : TI} (h1 : PI X tg e t) (h2 : PI X tg e u) : PI X tg e (fun σ H R => t σ H R ∨ u σ H R) :=
  ⟨fun pins s σ H R I h => h.elim (h1.run pins s σ H R I) (h2.run pins s σ H R I)⟩
def dSeq : D → Option (List D) | .lst ds => some ds | .fix ds => some ds | .tup ds => some ds | .ktp ds => some ds | _ => none
theorem gi_seq {tg : Expr} {ev : EV} (h : GE X W e ev) : GI X W tg e (aIt dSeq ev) := by
  obtain ⟨t1, p1, s1⟩ := gi_list (tg := tg) h
  obtain ⟨t2, p2, s2⟩ := gi_tup (tg := tg) h
  refine ⟨_, PI.or p1 p2, ?_⟩
  intro σ env F μ S H Q s p eR rel want
  change Want _ _ _ _ _ _ _ _ ((ev env S).bind fun d S1 => optR (dSeq d) S1) at want
  cases h : ev env S with
  | bad => rw [h] at want; exact want.elim
  | exc C ns ds S' =>
    rw [h] at want
    refine .inl (s1 σ env F μ S H Q s p eR rel ?_)
    change Want _ _ _ _ _ _ _ _ ((ev env S).bind fun d S1 => optR (dLst d) S1)
    rw [h]; exact want
  | ok d S' =>
    rw [h] at want
    cases d with
    | lst ds =>
      refine .inl (s1 σ env F μ S H Q s p eR rel ?_)
      change Want _ _ _ _ _ _ _ _ ((ev env S).bind fun d S1 => optR (dLst d) S1)
      rw [h]; exact want
    | fix ds =>
      refine .inl (s1 σ env F μ S H Q s p eR rel ?_)
      change Want _ _ _ _ _ _ _ _ ((ev env S).bind fun d S1 => optR (dLst d) S1)
      rw [h]; exact want
    | tup ds =>
      refine .inr (s2 σ env F μ S H Q s p eR rel ?_)
      change Want _ _ _ _ _ _ _ _ ((ev env S).bind fun d S1 => optR (dTup d) S1)
      rw [h]; exact want
    | ktp ds =>
      refine .inr (s2 σ env F μ S H Q s p eR rel ?_)
      change Want _ _ _ _ _ _ _ _ ((ev env S).bind fun d S1 => optR (dTup d) S1)
      rw [h]; exact want
    | _ => exact want.elim
def upto (lo : Int) (n : Nat) : List D := (List.range n).map fun i => .int (lo + (i : Nat))
theorem upto_get {lo : Int} {n i : Nat} (h : i < n) : (upto lo n)[i]? = some (.int (lo + (i : Nat))) := by simp [upto, h]
theorem upto_len {lo : Int} {n : Nat} : (upto lo n).length = n := by simp [upto]
theorem rit_range {c : Cfg} {F : Hp} {μ : List Addr} {lo : Int} {n : Nat} : rIt c F μ (Itr lo n) (upto lo n) := by
  intro i F2 μ2 S2 H2 s2 p2 rel2
  have w := walk_range (lo := lo) (n := n)
  refine ⟨fun hi => ⟨w.goes i H2 (by rwa [upto_len] at hi) trivial, fun x H3 y => ?_⟩, fun hi => by rw [hi, upto_len]; exact w.stops H2 trivial⟩
  rw [upto_len] at hi
  obtain ⟨e1, e2⟩ := w.yields i H2 x H3 hi trivial y
  subst e1 e2
  exact ⟨F2, _, Ext.refl, rel2, upto_get hi, .int _⟩
def dRng1 : List D → Option (List D)
  | [.int j] => if -4611686018427387904 ≤ j ∧ j < 4611686018427387904 then some (upto 0 j.toNat) else none
  | _ => none
def dRng2 : List D → Option (List D)
  | [.int i, .int j] => if (-4611686018427387904 ≤ i ∧ i < 4611686018427387904) ∧ -4611686018427387904 ≤ j ∧ j < 4611686018427387904 then some (upto i (j - i).toNat) else none
  | _ => none
def aRng (f : List D → Option (List D)) (a : AV) : AV := fun env S => (a env S).bind fun ds S1 => optR (f ds) S1
theorem gi_range1 {tg x : Expr} {av : AV} {p : Pos} (hm : X.mg "range" = none) (h : GA X W [x] av) (hg : Gl X "range" := by rfl) (hs : starEach [x] X.env = [(false, eval x X.env)] := by rfl) : GI X W tg (.Call (.Name "range" p) [x] [] pos) (aRng dRng1 av) := by
  obtain ⟨t, pt, s⟩ := h
  refine ⟨_, pi_range1 hg hm pt hs, Sm.bind (kt := fun (vs : List V) σ H1 (Q : It → Hp → Prop) => ∃ j : Int, vs = [.int j] ∧ -(2 ^ 62) ≤ j ∧ j < 2 ^ 62 ∧ Q (Itr 0 j.toNat) H1) (ke := fun ds env S1 => optR (dRng1 ds) S1) s fun F1 μ1 xs dx s1 p1 r1 => ?_⟩
  match dx, r1 with
  | [.int j], .cons (.int _) .nil =>
    by_cases hj : -4611686018427387904 ≤ j ∧ j < 4611686018427387904
    · refine Sm.pure fun σ env F μ S H _ _ _ _ => ?_
      simp only [dRng1, if_pos hj, optR]
      exact ⟨trivial, Itr 0 j.toNat, rit_range, fun Q q => ⟨j, rfl, by omega, by omega, q⟩⟩
    · refine Sm.pure fun σ env F μ S H _ _ _ _ => ?_
      simp only [dRng1, if_neg hj, optR]
  | [], _ => exact sm_bad
  | _ :: _ :: _, _ => exact Sm.pure fun σ env F μ S H _ _ _ _ => by simp only [dRng1, optR]
  | [.non], _ | [.bl _], _ | [.str _], _ | [.ty _], _ | [.fn _], _ | [.tup _], _ | [.lst _], _ | [.fix _], _ | [.ktp _], _ | [.dic _ _], _ | [.dtp _ _], _ | [.obj _ _ _], _ | [.hnd _], _ => exact sm_bad
theorem gi_range2 {tg x y : Expr} {av : AV} {p : Pos} (hm : X.mg "range" = none) (h : GA X W [x, y] av) (hg : Gl X "range" := by rfl) (hs : starEach [x, y] X.env = [(false, eval x X.env), (false, eval y X.env)] := by rfl) (hs2 : starEach [y] X.env = [(false, eval y X.env)] := by rfl) : GI X W tg (.Call (.Name "range" p) [x, y] [] pos) (aRng dRng2 av) := by
  obtain ⟨t, pt, s⟩ := h
  refine ⟨_, pi_range2 hg hm pt hs hs2, Sm.bind (kt := fun (vs : List V) σ H1 (Q : It → Hp → Prop) => ∃ i j : Int, vs = [.int i, .int j] ∧ (-(2 ^ 62) ≤ i ∧ i < 2 ^ 62 ∧ -(2 ^ 62) ≤ j ∧ j < 2 ^ 62) ∧ Q (Itr i (j - i).toNat) H1) (ke := fun ds env S1 => optR (dRng2 ds) S1) s fun F1 μ1 xs dx s1 p1 r1 => ?_⟩
  by_cases hd : ∃ i j, dx = [.int i, .int j]
  · obtain ⟨i, j, rfl⟩ := hd
    match r1 with
    | .cons (.int _) (.cons (.int _) .nil) =>
      by_cases hj : (-4611686018427387904 ≤ i ∧ i < 4611686018427387904) ∧ -4611686018427387904 ≤ j ∧ j < 4611686018427387904
      · refine Sm.pure fun σ env F μ S H _ _ _ _ => ?_
        simp only [dRng2, if_pos hj, optR]
        exact ⟨trivial, Itr i (j - i).toNat, rit_range, fun Q q => ⟨i, j, rfl, by omega, q⟩⟩
      · refine Sm.pure fun σ env F μ S H _ _ _ _ => ?_
        simp only [dRng2, if_neg hj, optR]
  · refine Sm.pure fun σ env F μ S H _ _ _ _ => ?_
    have e : dRng2 dx = none := by
      unfold dRng2
      split
      · exact absurd ⟨_, _, rfl⟩ hd
      · rfl
    simp only [e, optR]
end
end Sm
set_option Elab.async false
set_option linter.all false
set_option maxRecDepth 100000
namespace Sm
open PySem PySem.Spec L2

/-! ## one reading for all worlds -/
def Xof {β α : Type} (c : Cfg) (W : WX) (R : RR β α) (ev : Env → Sto → Res α) : TX β := fun σ H Q => ∃ env F μ S, EnvR c F μ σ env ∧ Rel c F μ S H ∧ Want c W R σ F μ H Q (ev env S)
def Gof (c : Cfg) (gv : GV) (L : List Nat) : TG := fun v σ H Q => ∃ d env env' F μ S, RD c F μ v d ∧ EnvR c F μ σ env ∧ Rel c F μ S H ∧ gv d env = some env' ∧ ∀ σ', EnvR c F μ σ' env' → Bar L σ σ' → Q σ' H
section
variable {X : Cx} {W : WX} {c : Cfg}
theorem Xof.le {β α : Type} {R : RR β α} {ev : Env → Sto → Res α} {t : TX β} (h : SmE c W R t ev) {σ : L2.St} {H : Hp} {Q : β → Hp → Prop} (x : Xof c W R ev σ H Q) : t σ H Q :=
  let ⟨_, _, _, _, eR, rel, w⟩ := x; h.go eR rel w
theorem GE.canon {e : Expr} {ev : EV} (h : GE X W e ev) : PE X e (Xof (cf X) W (rE (cf X)) ev) := by
  obtain ⟨t, p, s⟩ := h
  exact ⟨fun pins s0 σ H Q I x => p.run pins s0 σ H Q I (Xof.le s x)⟩
theorem GT.canon {e : Expr} {ev : TV} (h : GT X W e ev) : PT X e (Xof (cf X) W rId ev) := by
  obtain ⟨t, p, s⟩ := h
  exact ⟨fun pins s0 σ H Q I x => p.run pins s0 σ H Q I (Xof.le s x)⟩
theorem GI.canon {tg e : Expr} {ev : AV} (h : GI X W tg e ev) : PI X tg e (Xof (cf X) W (rIt (cf X)) ev) := by
  obtain ⟨t, p, s⟩ := h
  exact ⟨fun pins s0 σ H R I x => p.run pins s0 σ H R I (Xof.le s x)⟩
theorem GG.canon {e : Expr} {gv : GV} {L : List Nat} (h : GG X e gv L) : PG X e (Gof (cf X) gv L) := by
  obtain ⟨t, p, s⟩ := h
  exact ⟨fun pins s0 σ H v u Q I r ⟨d, env, env', F, μ, S, rd, eR, rel, e, k⟩ => p.run pins s0 σ H v u Q I r (s v d σ env env' F μ S H Q rd eR rel e k)⟩
end
/-- nothing is raised -/
abbrev W0 : WX := fun _ _ _ _ => False
/-- the tests of a comprehension -/
structure GTs (X : Cx) (W : WX) (es : List Expr) (tv : TV) : Prop where
  ex : ∃ t, PTs X es t ∧ SmE (cf X) W rId t tv
def tvYes : TV := fun _ S => .ok true S
section
variable {X : Cx} {W : WX} {c : Cfg}
theorem gts_nil : GTs X W [] tvYes := ⟨_, pts_nil, Sm.pure fun _ _ F μ S H _ _ _ _ => ⟨rfl, true, rfl, fun Q q => q⟩⟩
theorem gts_one {e : Expr} {t : TV} (h : GT X W e t) : GTs X W [e] t := let ⟨_, p, s⟩ := h; ⟨_, pts_one p, s⟩
theorem GTs.canon {es : List Expr} {ev : TV} (h : GTs X W es ev) : PTs X es (Xof (cf X) W rId ev) := by
  obtain ⟨t, p, s⟩ := h
  exact ⟨fun pins s0 σ H Q I x => p.run pins s0 σ H Q I (Xof.le s x)⟩
end

/-! ## comprehensions -/
def wipeE (env : Env) : List Nat → Env
  | [] => env
  | v :: vs => (wipeE env vs).set v none
section
variable {c : Cfg}
theorem EnvR.none {F : Hp} {μ : List Addr} {σ : L2.St} {env : Env} (e : EnvR c F μ σ env) (i : Nat) : EnvR c F μ (σ.set i none) (env.set i none) := by
  refine ⟨by simpa using e.len, fun j d h => ?_⟩
  by_cases hj : i = j
  · subst hj
    have hlt : i < env.length := by
      have := (List.getElem?_eq_some_iff.mp h).1
      simpa using this
    rw [List.getElem?_set_self hlt] at h
    cases h
  · rw [List.getElem?_set_ne hj] at h
    obtain ⟨w, h1, h2⟩ := e.at_ j d h
    exact ⟨w, by rw [List.getElem?_set_ne hj]; exact h1, h2⟩
theorem EnvR.wipe {F : Hp} {μ : List Addr} {σ : L2.St} {env : Env} (e : EnvR c F μ σ env) : ∀ (L : List Nat), EnvR c F μ (wipe σ L) (wipeE env L)
  | [] => e
  | v :: vs => (e.wipe vs).none v
theorem _root_.LamX.TabS.keep {H H' : Hp} {P : Addr} {q : Str} (t : LamX.TabS H P q) (h1 : H' P = H P) (h2 : ∀ b k, H b = some (.ext k) → H' b = some (.ext k)) : LamX.TabS H' P q := by
  obtain ⟨ps, a1, a2, a3⟩ := t
  refine ⟨ps, h1.trans a1, a2, fun p' cv hcv => ?_⟩
  obtain ⟨c0, e1, e2⟩ := a3 p' cv hcv
  exact ⟨c0, e1, h2 _ _ e2⟩
/-- a thing aside (no one of ours) changes -/
theorem Rel.aside {F H : Hp} {μ : List Addr} {S : Sto} {p : Addr} {o u : HO} (rel : Rel c F μ S H) (hp : H p = some o) (ho : ∀ a, o ≠ .own a) (hf : F p = none) (hm : p ∉ μ) (hx : ∀ k, o ≠ .ext k := by exact fun _ z => by cases z) : Rel c F μ S (upd H p u) := by
  refine ⟨fun a v h => ?_, rel.len, rel.nd, rel.free, fun a ha => ?_, fun n a m e1 e2 => ?_⟩
  · have ha : a ≠ p := fun z => by rw [z, hf] at h; cases h
    rw [upd_ne ha]; exact rel.frz a v h
  · have hap : a ≠ p := fun z => hm (z ▸ ha)
    rw [upd_ne hap]; exact rel.known a ha
  · have hap : a ≠ p := fun z => hm (z ▸ List.mem_of_getElem? e1)
    have q := rel.at_ n a m e1 e2
    cases m with
    | dead => trivial
    | lst ds => obtain ⟨vs, h, r⟩ := q; exact ⟨vs, by rw [upd_ne hap]; exact h, r⟩
    | dic ks ds => obtain ⟨kvs, h, hk, r⟩ := q; exact ⟨kvs, by rw [upd_ne hap]; exact h, hk, r⟩
    | dtp ks ds => obtain ⟨kvs, h, hk, r⟩ := q; exact ⟨kvs, by rw [upd_ne hap]; exact h, hk, r⟩
    | ins C ns ds =>
      obtain ⟨cl, dx, fs, hc, h, hd, hn, r⟩ := q
      have hdp : dx ≠ p := fun z => by rw [z, hp] at hd; exact ho _ (Option.some.inj hd)
      exact ⟨cl, dx, fs, hc, by rw [upd_ne hap]; exact h, by rw [upd_ne hdp]; exact hd, hn, r⟩
    | tab q1 q2 => exact ⟨q.1, q.2.keep (upd_ne (by rw [← q.1]; exact hap)) fun b k e => by rw [upd_ne (fun z => by rw [z, hp] at e; exact hx k (Option.some.inj e))]; exact e⟩
/-- a new thing aside -/
theorem Rel.beside {F H : Hp} {μ : List Addr} {S : Sto} {p : Addr} {u : HO} (rel : Rel c F μ S H) (hp : H p = none) : Rel c F μ S (upd H p u) ∧ F p = none ∧ p ∉ μ := by
  have fp : F p = none := by
    cases q : F p with
    | none => rfl
    | some u =>
      have h := rel.frz p u q
      rw [hp] at h; cases h
  have nm : p ∉ μ := fun z => by obtain ⟨o', h, _⟩ := rel.known p z; rw [hp] at h; cases h
  have sH : Sub H (upd H p u) := Sub.new hp
  refine ⟨⟨fun a v h => ?_, rel.len, rel.nd, rel.free, fun a ha => ?_, fun n a m e1 e2 => ?_⟩, fp, nm⟩
  · exact sH _ _ (rel.frz a v h)
  · obtain ⟨v, h, hn⟩ := rel.known a ha; exact ⟨v, sH _ _ h, hn⟩
  · have q := rel.at_ n a m e1 e2
    cases m with
    | dead => trivial
    | lst ds => obtain ⟨vs, h, r⟩ := q; exact ⟨vs, sH _ _ h, r⟩
    | dic ks ds => obtain ⟨kvs, h, hk, r⟩ := q; exact ⟨kvs, sH _ _ h, hk, r⟩
    | dtp ks ds => obtain ⟨kvs, h, hk, r⟩ := q; exact ⟨kvs, sH _ _ h, hk, r⟩
    | ins C ns ds =>
      obtain ⟨cl, dx, fs, hc, h, hd, hn, r⟩ := q
      exact ⟨cl, dx, fs, hc, sH _ _ h, sH _ _ hd, hn, r⟩
    | tab q1 q2 => exact ⟨q.1, q.2.ext sH⟩
/-- what stands aside is frozen -/
theorem Rel.freeze {F H : Hp} {μ : List Addr} {S : Sto} {p : Addr} {o : HO} (rel : Rel c F μ S H) (hp : H p = some o) (ho : ∀ a, o ≠ .own a) (hf : F p = none) (hm : p ∉ μ) : Rel c (upd F p o) μ S H ∧ Sub F (upd F p o) := by
  have sF : Sub F (upd F p o) := Sub.new hf
  refine ⟨⟨fun a v h => ?_, rel.len, rel.nd, fun n a m e1 e2 e3 => ?_, rel.known, fun n a m e1 e2 => ?_⟩, sF⟩
  · by_cases ha : a = p
    · subst ha; rw [upd_same] at h; cases h; exact hp
    · rw [upd_ne ha] at h; exact rel.frz a v h
  · have hap : a ≠ p := fun z => hm (z ▸ List.mem_of_getElem? e1)
    rw [upd_ne hap]; exact rel.free n a m e1 e2 e3
  · have q := rel.at_ n a m e1 e2
    cases m with
    | dead => trivial
    | lst ds => obtain ⟨vs, h, r⟩ := q; exact ⟨vs, h, r.mono sF (List.prefix_refl _)⟩
    | dic ks ds => obtain ⟨kvs, h, hk, r⟩ := q; exact ⟨kvs, h, hk, r.mono sF (List.prefix_refl _)⟩
    | dtp ks ds => obtain ⟨kvs, h, hk, r⟩ := q; exact ⟨kvs, h, hk, r.mono sF (List.prefix_refl _)⟩
    | ins C ns ds =>
      obtain ⟨cl, dx, fs, hc, h, hd, hn, r⟩ := q
      exact ⟨cl, dx, fs, hc, h, hd, hn, r.mono sF (List.prefix_refl _)⟩
    | tab q1 q2 => exact q
end
/-- a comprehension's turns -/
def lcGo (g : GV) (t : TV) (e : EV) (env : Env) : List D → Sto → Res (List D)
  | [], S => .ok [] S
  | d :: ds, S => match g d env with
    | none => .bad
    | some env1 => (noX (t env1 S)).bind fun k S1 => if k = true then (noX (e env1 S1)).bind fun y S2 => (lcGo g t e env ds S2).bind fun ys S3 => .ok (y :: ys) S3 else lcGo g t e env ds S1
def fin (acc : List D) (r : Res (List D)) : Res D := match r with
  | .ok ys S => if (acc ++ ys).length ≤ 16777216 then .ok (.lst (acc ++ ys)) S else .bad
  | _ => .bad
def eLc (own : List Nat) (iv : AV) (g : GV) (t : TV) (e : EV) : EV := fun env S => (iv env S).bind fun ds S1 => fin [] (lcGo g t e (wipeE env own) ds S1)
theorem noX_ok {α : Type} {r : Res α} {a : α} {S : Sto} (h : noX r = .ok a S) : r = .ok a S := by
  cases r with
  | ok a S => exact h
  | _ => cases h
section
variable {c : Cfg} {W : WX}
theorem fin_ok {W : WX} {R : RR V D} {σ : L2.St} {F H : Hp} {μ : List Addr} {Q : V → Hp → Prop} {acc : List D} {r : Res (List D)} (w : Want c W R σ F μ H Q (fin acc r)) : ∃ ys S, r = .ok ys S ∧ (acc ++ ys).length ≤ 16777216 := by
  cases r with
  | ok ys S =>
    refine ⟨ys, S, rfl, ?_⟩
    change Want c W R σ F μ H Q (if _ then _ else _) at w
    split at w
    · assumption
    · exact w.elim
  | _ => exact w.elim
theorem wipe_at {σ : L2.St} {v : Nat} : ∀ {L : List Nat}, v ∈ L → (wipe σ L).set v none = wipe σ L
  | w :: ws, h => by
    show ((wipe σ ws).set w none).set v none = (wipe σ ws).set w none
    by_cases e : v = w
    · subst e; rw [List.set_set]
    · have hv : v ∈ ws := by simpa [e] using h
      rw [List.set_comm _ _ (Ne.symm e), wipe_at hv]
theorem wipe_sub {σ : L2.St} {L : List Nat} : ∀ {M : List Nat}, (∀ i ∈ M, i ∈ L) → wipe (wipe σ L) M = wipe σ L
  | [], _ => rfl
  | v :: vs, h => by
    show (wipe (wipe σ L) vs).set v none = wipe σ L
    rw [wipe_sub fun i hi => h i (List.mem_cons_of_mem _ hi), wipe_at (h v (by simp))]
theorem lc_at {own L : List Nat} {wi : TI} {iv : AV} {g : GV} {t : TV} {e : EV} {σ : L2.St} {env : Env} {F : Hp} {μ : List Addr} {S : Sto} {H : Hp} {Q : V → Hp → Prop} (hi : ∀ Q', Want c W (rIt c) σ F μ H Q' (iv env S) → wi σ H Q') (hL : ∀ i ∈ L, i ∈ own)
    (eR : EnvR c F μ σ env) (rel : Rel c F μ S H) (want : Want c W (rE c) σ F μ H Q (eLc own iv g t e env S)) : tLc wi (Gof c g L) (Xof c W0 rId t) (Xof c W0 (rE c) e) own σ H Q := by
  refine hi _ ?_
  change Want _ _ _ _ _ _ _ _ ((iv env S).bind _) at want
  cases h : iv env S with
  | bad => rw [h] at want; exact want.elim
  | exc C ns ds S' => rw [h] at want; exact want
  | ok ds S1 =>
    rw [h] at want
    intro J F1 μ1 H1 x1 rel1 r1
    change Want c W (rE c) σ F μ H Q (fin [] (lcGo g t e (wipeE env own) ds S1)) at want
    have want1 := want.ext x1
    have eR1 := eR.ext x1
    intro D hD
    refine ⟨fun i m H => m = ds.length - i ∧ i ≤ ds.length ∧ ∃ F μ S acc vacc, Ext F1 μ1 H1 F μ H ∧ Rel c F μ S H ∧ H D = some (.lst vacc) ∧ F D = none ∧ D ∉ μ ∧ RDs c F μ vacc acc ∧ Want c W (rE c) σ F1 μ1 H1 Q (fin acc (lcGo g t e (wipeE env own) (ds.drop i) S)),
      ⟨ds.length, rfl, Nat.zero_le _, ?_⟩, ?_⟩
    · obtain ⟨rl, fp, nm⟩ := rel1.beside (u := .lst []) hD
      exact ⟨F1, μ1, S1, [], [], ⟨Sub.refl _, List.prefix_refl _, fun b o hb _ => ⟨Sub.new hD b o hb, fun _ => id⟩, fun b hb => .inl hb⟩, rl, upd_same, fp, nm, .nil, want1⟩
    · rintro i m H2 ⟨rfl, hi, F2, μ2, S2, acc, vacc, x2, rel2, hDv, fD, nD, ra, w2⟩
      have st := r1 i F2 μ2 S2 H2 x2.mono x2.pre rel2
      by_cases hlt : i < ds.length
      · refine .inr ⟨(st.1 hlt).1, fun H => ∃ F μ S acc vacc, Ext F1 μ1 H1 F μ H ∧ Rel c F μ S H ∧ H D = some (.lst vacc) ∧ F D = none ∧ D ∉ μ ∧ RDs c F μ vacc acc ∧ Want c W (rE c) σ F1 μ1 H1 Q (fin acc (lcGo g t e (wipeE env own) (ds.drop (i + 1)) S)),
          fun H' q => ⟨ds.length - (i + 1), by omega, rfl, hlt, q⟩, fun x H3 y => ?_⟩
        obtain ⟨F3, d, x3, rel3, ed, rd⟩ := (st.1 hlt).2 x H3 y
        have ed2 : ds.drop i = d :: ds.drop (i + 1) := by
          rw [List.drop_eq_getElem_cons hlt]
          rw [List.getElem?_eq_getElem hlt] at ed
          rw [Option.some.inj ed]
        rw [ed2] at w2
        obtain ⟨hD3, fD3'⟩ := x3.keep D _ hDv nD
        have fD3 := fD3' (fun a z => by cases z) fD
        change Want c W (rE c) σ F1 μ1 H1 Q (fin acc (match g d (wipeE env own) with | none => .bad | some env1 => _)) at w2
        have eR3 : EnvR c F3 μ2 (wipe σ own) (wipeE env own) := ((eR1.ext x2).ext x3).wipe own
        cases q : g d (wipeE env own) with
        | none => rw [q] at w2; exact w2.elim
        | some env3 =>
          rw [q] at w2
          change Want c W (rE c) σ F1 μ1 H1 Q (fin acc ((noX (t env3 S2)).bind fun k S1 => if k = true then (noX (e env3 S1)).bind fun y S2 => (lcGo g t e (wipeE env own) (ds.drop (i + 1)) S2).bind fun ys S3 => .ok (y :: ys) S3 else lcGo g t e (wipeE env own) (ds.drop (i + 1)) S1)) at w2
          refine ⟨d, wipeE env own, env3, F3, μ2, S2, rd, eR3, rel3, q, fun σ3 eR4 bar => ⟨(bar own hL).trans (wipe_sub fun i hi => hi), ?_⟩⟩
          obtain ⟨ys, Sy, hy, _⟩ := fin_ok w2
          refine ⟨env3, F3, μ2, S2, eR4, rel3, ?_⟩
          cases ht : noX (t env3 S2) with
          | bad => rw [ht] at hy; cases hy
          | exc C ns es S' => rw [ht] at hy; cases hy
          | ok k S4 =>
            have w3 : Want c W (rE c) σ F1 μ1 H1 Q (fin acc (if k = true then (noX (e env3 S4)).bind fun y S2 => (lcGo g t e (wipeE env own) (ds.drop (i + 1)) S2).bind fun ys S3 => .ok (y :: ys) S3 else lcGo g t e (wipeE env own) (ds.drop (i + 1)) S4)) := by
              rw [ht] at w2; exact w2
            rw [noX_ok ht]
            rintro k' F4 μ4 H4 x4 rel4 rfl
            obtain ⟨hD4, fD4'⟩ := x4.keep D _ hD3 nD
            have fD4 := fD4' (fun a z => by cases z) fD3
            have nD4 : D ∉ μ4 := fun z => (x4.fresh D z).elim nD fun z => by rw [hD3] at z; cases z
            have x14 := (x2.trans x3).trans x4
            have ra4 : RDs c F4 μ4 vacc acc := (ra.mono x3.mono x3.pre).mono x4.mono x4.pre
            cases k' with
            | false =>
              rw [if_neg Bool.false_ne_true] at w3 ⊢
              exact ⟨F4, μ4, S4, acc, vacc, x14, rel4, hD4, fD4, nD4, ra4, w3⟩
            | true =>
              rw [if_pos rfl] at w3 ⊢
              refine ⟨env3, F4, μ4, S4, eR4.ext x4, rel4, ?_⟩
              obtain ⟨ys', Sy', hy', hl⟩ := fin_ok w3
              cases he : noX (e env3 S4) with
              | bad => rw [he] at hy'; cases hy'
              | exc C ns es S' => rw [he] at hy'; cases hy'
              | ok y5 S5 =>
                rw [he] at hy' w3
                rw [noX_ok he]
                intro v5 F5 μ5 H5 x5 rel5 r5
                obtain ⟨hD5, fD5'⟩ := x5.keep D _ hD4 nD4
                have fD5 := fD5' (fun a z => by cases z) fD4
                have nD5 : D ∉ μ5 := fun z => (x5.fresh D z).elim nD4 fun z => by rw [hD4] at z; cases z
                change (lcGo g t e (wipeE env own) (ds.drop (i + 1)) S5).bind _ = _ at hy'
                cases hr : lcGo g t e (wipeE env own) (ds.drop (i + 1)) S5 with
                | bad => rw [hr] at hy'; cases hy'
                | exc C ns es S' => rw [hr] at hy'; cases hy'
                | ok zs S6 =>
                  rw [hr] at hy'
                  have e1 : y5 :: zs = ys' := by
                    have : Res.ok (y5 :: zs) S6 = Res.ok ys' Sy' := hy'
                    injection this
                  have hl2 : vacc.length < 16777216 := by
                    rw [ra4.length]
                    rw [← e1] at hl
                    simp at hl
                    omega
                  refine ⟨vacc, hD5, by rw [sizeLine_eq]; exact hl2, F5, μ5, S5, acc ++ [y5], vacc ++ [v5], ?_, rel5.aside hD5 (fun a z => by cases z) fD5 nD5, upd_same, fD5, nD5, (ra4.mono x5.mono x5.pre).append (.cons r5 .nil), ?_⟩
                  · have x15 := x14.trans x5
                    refine ⟨x15.mono, x15.pre, fun b o hb hn => ?_, x15.fresh⟩
                    rw [upd_ne (ne_of_none hb hD)]
                    exact x15.keep b o hb hn
                  · change Want c W (rE c) σ F1 μ1 H1 Q (fin acc ((lcGo g t e (wipeE env own) (ds.drop (i + 1)) S5).bind _)) at w3
                    rw [hr] at w3 ⊢
                    change Want c W (rE c) σ F1 μ1 H1 Q (if (acc ++ (y5 :: zs)).length ≤ 16777216 then .ok (.lst (acc ++ (y5 :: zs))) S6 else .bad) at w3
                    show Want c W (rE c) σ F1 μ1 H1 Q (if ((acc ++ [y5]) ++ zs).length ≤ 16777216 then .ok (.lst ((acc ++ [y5]) ++ zs)) S6 else .bad)
                    rw [List.append_assoc]
                    exact w3
      · have e0 : i = ds.length := by omega
        refine .inl ⟨st.2 e0, ?_⟩
        rw [e0, List.drop_length] at w2
        change Want c W (rE c) σ F1 μ1 H1 Q (if (acc ++ []).length ≤ 16777216 then .ok (.lst (acc ++ [])) S2 else .bad) at w2
        rw [List.append_nil] at w2
        split at w2
        · obtain ⟨rl, sF⟩ := rel2.freeze hDv (fun a z => by cases z) fD nD
          refine w2 (.ref D) _ μ2 H2 ⟨x2.mono.trans sF, x2.pre, fun b o hb hn => ?_, x2.fresh⟩ rl (.lst upd_same (ra.mono sF (List.prefix_refl _)))
          obtain ⟨k1, k2⟩ := x2.keep b o hb hn
          exact ⟨k1, fun y z => by rw [upd_ne (ne_of_none hb hD)]; exact k2 y z⟩
        · exact w2.elim
theorem sm_lc {own L : List Nat} {wi : TI} {iv : AV} {g : GV} {t : TV} {e : EV} (hi : SmE c W (rIt c) wi iv) (hL : ∀ i ∈ L, i ∈ own) : SmE c W (rE c) (tLc wi (Gof c g L) (Xof c W0 rId t) (Xof c W0 (rE c) e) own) (eLc own iv g t e) :=
  fun σ env F μ S H Q s p eR rel want => lc_at (fun Q' w => hi.go eR rel w) hL eR rel want
end
end Sm
set_option Elab.async false
set_option linter.all false
set_option maxRecDepth 100000
namespace Sm
open PySem PySem.Spec L2

section
variable {X : Cx} {W : WX} {c : Cfg}
theorem ge_lc {elt tg iter : Expr} {ifs : List Expr} {scope : Scope} {own : List (Str × Nat)} {pos : Pos} {iv : AV} {g : GV} {tv : TV} {ev : EV} {L : List Nat} (hN : X.N.Nodup) (hi : GI X W tg iter iv) (ok : blkC X.N X.env.scope scope own = true)
    (hg : ∀ (s : Shared) (H : Hp) (C : Addr) (cl : List (Str × Addr)) (fp : List Addr), GG (X.blk s H scope (compEnvC scope cl C X.env) fp) tg g L)
    (ht : ∀ (s : Shared) (H : Hp) (C : Addr) (cl : List (Str × Addr)) (fp : List Addr), GTs (X.blk s H scope (compEnvC scope cl C X.env) fp) W0 ifs tv)
    (he : ∀ (s : Shared) (H : Hp) (C : Addr) (cl : List (Str × Addr)) (fp : List Addr), GE (X.blk s H scope (compEnvC scope cl C X.env) fp) W0 elt ev)
    (hL : ∀ i ∈ L, i ∈ own.map (·.2) := by decide) (hc : X.calm = true := by rfl) (hs : ∀ x, foldedSetIterable iter X.env x = pure x := by intro _; rfl) :
    GE X W (.ListComp elt [⟨tg, iter, ifs, 0⟩] scope pos) (eLc (own.map (·.2)) iv g tv ev) := by
  obtain ⟨wi, p, s⟩ := hi
  exact ⟨_, pe_lc hc hN p (blkOk_by ok) (fun s H C cl fp => (hg s H C cl fp).canon) (fun s H C cl fp => (ht s H C cl fp).canon) (fun s H C cl fp => (he s H C cl fp).canon) hs, sm_lc s hL⟩
/-- y = [..] on one line, y a local of the def alone -/
theorem gs_setLc (i : Nat) {y : Str} {py : Pos} {elt tg iter : Expr} {ifs : List Expr} {scope : Scope} {own : List (Str × Nat)} {pos spos : Pos} {iv : AV} {g : GV} {tv : TV} {ev : EV} {L : List Nat} (hN : X.N.Nodup) (hsw : swapsWith (.ListComp elt [⟨tg, iter, ifs, 0⟩] scope pos) (some (.Name y py)) spos.line X.env = pure true)
    (hi : GI X W tg iter iv) (ok : blkC X.N X.env.scope scope own = true)
    (hg : ∀ (s : Shared) (H : Hp) (C : Addr) (cl : List (Str × Addr)) (fp : List Addr), GG (X.blk s H scope (compEnvC scope cl C X.env) fp) tg g L)
    (ht : ∀ (s : Shared) (H : Hp) (C : Addr) (cl : List (Str × Addr)) (fp : List Addr), GTs (X.blk s H scope (compEnvC scope cl C X.env) fp) W0 ifs tv)
    (he : ∀ (s : Shared) (H : Hp) (C : Addr) (cl : List (Str × Addr)) (fp : List Addr), GE (X.blk s H scope (compEnvC scope cl C X.env) fp) W0 elt ev)
    (hy : X.N[i]? = some y := by rfl) (hyl : X.env.scope.names.lookup y = some .local := by rfl)
    (hL : ∀ i ∈ L, i ∈ own.map (·.2) := by decide) (hc : X.calm = true := by rfl) (hs : ∀ x, foldedSetIterable iter X.env x = pure x := by intro _; rfl) :
    GS X W (.Assign [.Name y py] (.ListComp elt [⟨tg, iter, ifs, 0⟩] scope pos) spos) (sSet i (eLc (own.map (·.2)) iv g tv ev)) := by
  obtain ⟨wi, p, s⟩ := hi
  exact ⟨_, ps_setLc hc hN hy hyl hsw p (blkOk_by ok) (fun s H C cl fp => (hg s H C cl fp).canon) (fun s H C cl fp => (ht s H C cl fp).canon) (fun s H C cl fp => (he s H C cl fp).canon) hs, sm_set (sm_lc s hL)⟩

/-! ## calls of the program's own defs -/
/-- what a callee lets out is taken here -/
structure PassW (X : Cx) (W : WX) : Prop where
  ex : ∃ E : XK, Passes (L2.CX X.prog X.w) X E ∧ ∀ cls d σ H, W cls d σ H → E cls d H
theorem passW0 {X : Cx} : PassW X W0 := ⟨E0, passL, fun _ _ _ _ h => h⟩
theorem passWE {X : Cx} {E : XK} (t : Takes X (WE E)) : PassW X (WE E) := ⟨E, passes_call t fun _ _ _ _ h => h, fun _ _ _ _ h => h⟩
/-- a def of the module that does what ev says, by at most level k, ar arguments -/
structure Fo (P : Program) (w : World) (K : PySem.W.Frag) (mg : Str → Option Value) (base : Heap) (k : Nat) (x : Str) (ar : Nat) (ev : List D → Sto → Res D) : Prop where
  ex : ∃ (f : Addr) (fd : FuncData) (ps : List Str), FnOk P w K mg base (L2.CX P w) k f fd ps (SpF ⟨K, mg⟩ ar ev) ∧ mg x = some (.ref f) ∧ PySem.W.keepIn K (.ref f) = true ∧ Binds K fd ps [] ∧ ps.length = ar
def eCall (ev : List D → Sto → Res D) (n : Nat) (a : AV) : EV := fun env S => (a env S).bind fun ds S1 => if ds.length = n then ev ds S1 else .bad
theorem want_of_callee {β α : Type} {R : RR β α} {E : XK} {W : WX} {σ : L2.St} {F H : Hp} {μ : List Addr} {Q : β → Hp → Prop} {r : Res α} (hE : ∀ cls d σ H, W cls d σ H → E cls d H) (w : Want c W R σ F μ H Q r) : Want c (WE E) R [] F μ H Q r := by
  cases r with
  | bad => exact w
  | ok a S => exact w
  | exc C ns ds S' => exact fun cl dd F' μ' H' fs x rel hc hd hn hr hf => hE _ _ _ _ (w cl dd F' μ' H' fs x rel hc hd hn hr hf)
theorem ge_call {k ar : Nat} {x : Str} {ev : List D → Sto → Res D} {e : Expr} {es : List Expr} {av : AV} {p pos : Pos} (F : Fo X.prog X.w X.K X.mg X.base k x ar ev) (hr : Room k X.A) (px : PassW X W) (ha : GA X W (e :: es) av) (hg : Gl X x := by rfl)
    (hdb : (x == ("__debug__" : Str)) = false := by decide) (he : starEach (e :: es) X.env = (false, eval e X.env) :: starEach es X.env := by rfl) (hpl : (backTo pos (starEach es X.env)).any (·.1) = false := by rfl) :
    GE X W (.Call (.Name x p) (e :: es) [] pos) (eCall ev ar av) := by
  obtain ⟨f, fd, ps, F, hm, hk, hb, hl⟩ := F
  obtain ⟨E, hp, hE⟩ := px
  obtain ⟨t, pt, st⟩ := ha
  refine ⟨_, pe_call F hr hg hm hk hb .nil hp pt hdb he hpl, ?_⟩
  refine Sm.bind (kt := fun vs σ H1 Q => SpF (cf X) ar ev (vs ++ []) H1 Q E) (ke := fun ds env S1 => if ds.length = ar then ev ds S1 else .bad) st fun F1 μ1 xs ds s1 p1 r1 => ?_
  intro σ env F μ S H Q s p eR rel want
  split at want
  · rename_i h
    refine ⟨by simp [r1.length, h], F, μ, S, ds, by simpa using r1.mono s p, rel, want_of_callee hE want⟩
  · exact want.elim
theorem ge_call0 {k : Nat} {x : Str} {ev : List D → Sto → Res D} {p pos : Pos} (F : Fo X.prog X.w X.K X.mg X.base k x 0 ev) (hr : Room k X.A) (px : PassW X W) (hg : Gl X x := by rfl) (hdb : (x == ("__debug__" : Str)) = false := by decide) :
    GE X W (.Call (.Name x p) [] [] pos) (fun _ S => ev [] S) := by
  obtain ⟨f, fd, ps, F, hm, hk, hb, hl⟩ := F
  obtain ⟨E, hp, hE⟩ := px
  refine ⟨_, pe_call0 F hr hg hm hk hb .nil hp hdb, ?_⟩
  intro σ env F μ S H Q s p eR rel want
  exact ⟨rfl, F, μ, S, [], .nil, rel, want_of_callee hE want⟩
end
end Sm
set_option Elab.async false
set_option linter.all false
set_option maxRecDepth 100000
namespace Sm
open PySem PySem.Spec L2

section
variable {X : Cx} {c : Cfg}
/-! ## values out of values -/
def q2 (f : D → D → Option D) : OV2 := fun x y S => optR (f x y) S
/-- an operator that makes nothing -/
theorem op_flat {g : Value → Value → Sem Value} {r : R2} {f : D → D → Option D} (ho : OpR X g r)
    (h : ∀ F μ S H x y dx dy d (Q : VK), Rel (cf X) F μ S H → RD (cf X) F μ x dx → RD (cf X) F μ y dy → f dx dy = some d → (∀ v, RD (cf X) F μ v d → Q v H) → r x y H Q) : GOp X g (q2 f) := by
  refine ⟨r, ho, fun F μ S H x y dx dy Q rel rx ry want => ?_⟩
  cases e : f dx dy with
  | none =>
    simp only [q2, e, optR] at want
    exact want.elim
  | some d =>
    simp only [q2, e, optR] at want
    exact h F μ S H x y dx dy d Q rel rx ry e fun v hv => want v F μ H Ext.refl rel hv
/-- an operator that makes one thing that stays -/
theorem op_new {g : Value → Value → Sem Value} {r : R2} {f : D → D → Option D} (ho : OpR X g r)
    (h : ∀ F μ S H x y dx dy d (Q : VK), Rel (cf X) F μ S H → RD (cf X) F μ x dx → RD (cf X) F μ y dy → f dx dy = some d → (∀ v F' H', Ext F μ H F' μ H' → Rel (cf X) F' μ S H' → RD (cf X) F' μ v d → Q v H') → r x y H Q) : GOp X g (q2 f) := by
  refine ⟨r, ho, fun F μ S H x y dx dy Q rel rx ry want => ?_⟩
  cases e : f dx dy with
  | none =>
    simp only [q2, e, optR] at want
    exact want.elim
  | some d =>
    simp only [q2, e, optR] at want
    exact h F μ S H x y dx dy d Q rel rx ry e fun v F' H' x' rel' hv => want v F' μ H' x' rel' hv
/-- ints alone -/
def i2 (f : Int → Int → Option D) : D → D → Option D | .int i, .int j => f i j | _, _ => none
theorem op_ints {g : Value → Value → Sem Value} {r : R2} {f : Int → Int → Option D} (ho : OpR X g r)
    (h : ∀ (i j : Int) (d : D) (H : Hp) (Q : VK), f i j = some d → (∀ v, (∀ F μ, RD (cf X) F μ v d) → Q v H) → r (.int i) (.int j) H Q) : GOp X g (q2 (i2 f)) := by
  refine op_flat ho fun F μ S H x y dx dy d Q rel rx ry e k => ?_
  cases rx with
  | int i =>
    cases ry with
    | int j => exact h i j d H Q e fun v hv => k v (hv F μ)
    | _ => cases e
  | _ => cases e
def fAdd : Int → Int → Option D := fun i j => some (.int (i + j))
def fSub : Int → Int → Option D := fun i j => some (.int (i - j))
/-- how great a number may be that the great rules take -/
def BIG : Nat := 2 ^ 4096
theorem big_two : 2 < BIG := by decide +kernel
theorem big_ten : 10 ^ 400 < BIG := by decide +kernel
theorem big_lim {i : Int} (h1 : -18446744073709551616 ≤ i) (h2 : i ≤ 18446744073709551616) : i.natAbs < BIG := by
  have : (18446744073709551616 : Nat) < BIG := by decide +kernel
  omega
def CMulB (i j : Int) : Prop := ((-18446744073709551616 < i ∧ i < 18446744073709551616) ∨ (-18446744073709551616 < j ∧ j < 18446744073709551616)) ∨ (i.natAbs < BIG ∧ j.natAbs < BIG)
theorem CMulB.ok {i j : Int} (h : CMulB i j) : IntMulOk i j := by
  rcases h with h | ⟨h1, h2⟩
  · exact CMul.ok h
  · exact CMulX.ok (mulx_ok (a := 4096) (b := 4096) h1 h2 (by decide))
theorem op_mulB {X : Cx} : OpR X (binaryOp .Mult) (rI CMulB fun i j => .int (i * j)) := opI fun _ _ _ _ _ _ _ hc q => PyProof.Rows.mul_int q hc.ok
instance {i j : Int} : Decidable (CMulB i j) := inferInstanceAs (Decidable (_ ∨ _))
def fMul : Int → Int → Option D := fun i j => if CMulB i j then some (.int (i * j)) else none
def fDiv : Int → Int → Option D := fun i j => if 0 < j ∧ j.natAbs < BIG then some (.int (i / j)) else none
def fMod : Int → Int → Option D := fun i j => if 0 < j then some (.int (i % j)) else none
def fPow : Int → Int → Option D := fun i j => if 0 ≤ j ∧ j ≤ 1000000 ∧ i.natAbs < 18446744073709551616 then some (.int (i ^ j.toNat)) else none
def fLt : Int → Int → Option D := fun i j => some (.bl (decide (i < j)))
def fLe : Int → Int → Option D := fun i j => some (.bl (decide (i ≤ j)))
def fGt : Int → Int → Option D := fun i j => some (.bl (decide (j < i)))
def fGe : Int → Int → Option D := fun i j => some (.bl (decide (j ≤ i)))
theorem go_subI : GOp X (binaryOp .Sub) (q2 (i2 fSub)) := op_ints op_sub fun i j d H Q e k => by cases e; exact ⟨i, j, rfl, rfl, k _ fun _ _ => .int _⟩
theorem go_addI : GOp X (binaryOp .Add) (q2 (i2 fAdd)) := op_ints op_add fun i j d H Q e k => by cases e; exact ⟨i, j, rfl, rfl, k _ fun _ _ => .int _⟩
theorem go_mulI : GOp X (binaryOp .Mult) (q2 (i2 fMul)) := op_ints op_mulB fun i j d H Q e k => by
  unfold fMul at e
  split at e
  · rename_i h
    cases e
    exact ⟨i, j, rfl, rfl, h, k _ fun _ _ => .int _⟩
  · cases e
theorem go_divI : GOp X (binaryOp .FloorDiv) (q2 (i2 fDiv)) := op_ints op_fdivW fun i j d H Q e k => by
  unfold fDiv at e
  split at e
  · rename_i h
    cases e
    exact ⟨i, j, rfl, rfl, wide_div (b := 4096) h.1 h.2 (by decide) (by decide), k _ fun _ _ => .int _⟩
  · cases e
theorem go_modI : GOp X (binaryOp .Mod) (q2 (i2 fMod)) := op_ints op_mod fun i j d H Q e k => by
  unfold fMod at e
  split at e
  · rename_i h
    cases e
    exact ⟨i, j, rfl, rfl, h, k _ fun _ _ => .int _⟩
  · cases e
theorem go_powI : GOp X (binaryOp .Pow) (q2 (i2 fPow)) := op_ints op_pow fun i j d H Q e k => by
  unfold fPow at e
  split at e
  · rename_i h
    cases e
    exact ⟨i, j, rfl, rfl, ⟨h.1, h.2.1, by have := h.2.2; omega⟩, k _ fun _ _ => .int _⟩
  · cases e
theorem go_lt : GOp X (compareOp .Lt) (q2 (i2 fLt)) := op_ints op_lt fun i j d H Q e k => by cases e; exact ⟨i, j, rfl, rfl, k _ fun _ _ => .bl _⟩
theorem go_le : GOp X (compareOp .LtE) (q2 (i2 fLe)) := op_ints op_le fun i j d H Q e k => by cases e; exact ⟨i, j, rfl, rfl, k _ fun _ _ => .bl _⟩
theorem go_gt : GOp X (compareOp .Gt) (q2 (i2 fGt)) := op_ints op_gt fun i j d H Q e k => by cases e; exact ⟨i, j, rfl, rfl, k _ fun _ _ => .bl _⟩
theorem go_ge : GOp X (compareOp .GtE) (q2 (i2 fGe)) := op_ints op_ge fun i j d H Q e k => by cases e; exact ⟨i, j, rfl, rfl, k _ fun _ _ => .bl _⟩

/-! ### + of anything -/
def addS : D → D → Option D | .str a, .str b => if a.length + b.length ≤ 16777216 then some (.str (a ++ b)) else none | _, _ => none
def addT : D → D → Option D | .tup a, .tup b => if a.length + b.length ≤ 16777216 then some (.tup (a ++ b)) else none | _, _ => none
def addL : D → D → Option D | .lst a, .lst b => if a.length + b.length ≤ 16777216 then some (.lst (a ++ b)) else none | _, _ => none
theorem go_addS : GOp X (binaryOp .Add) (q2 addS) := op_flat op_add_str fun F μ S H x y dx dy d Q rel rx ry e k => by
  cases rx with
  | str a =>
    cases ry with
    | str b =>
      change (if _ then _ else none) = some d at e
      split at e
      · rename_i h
        cases e
        exact ⟨a, b, rfl, rfl, le_line h, k _ (.str _)⟩
      · cases e
    | _ => cases e
  | _ => cases e
theorem go_addL : GOp X (binaryOp .Add) (q2 addL) := op_new op_cat fun F μ S H x y dx dy d Q rel rx ry e k => by
  cases rx with
  | lst h1 r1 =>
    cases ry with
    | lst h2 r2 =>
      change (if _ then _ else none) = some d at e
      split at e
      · rename_i h
        cases e
        refine ⟨_, _, _, _, rfl, rfl, rel.lst h1, rel.lst h2, by rw [r1.length, r2.length]; exact le_line h, fun p hp => ?_⟩
        obtain ⟨rl, xl, sF⟩ := rel.frozen (o := .lst _) hp
        exact k _ _ _ xl rl (.lst upd_same ((r1.append r2).mono sF (List.prefix_refl _)))
      · cases e
    | _ => cases e
  | _ => cases e
theorem go_addT : GOp X (binaryOp .Add) (q2 addT) := op_new op_catA fun F μ S H x y dx dy d Q rel rx ry e k => by
  cases rx with
  | tup h1 r1 =>
    cases ry with
    | tup h2 r2 =>
      change (if _ then _ else none) = some d at e
      split at e
      · rename_i h
        cases e
        refine ⟨_, _, _, _, rfl, rfl, rel.sqt (SqT.of h1), rel.sqt (SqT.of h2), by rw [r1.length, r2.length]; exact le_line h, fun z => ?_, fun _ z => ?_, fun _ _ p hp => ?_⟩
        · subst z
          cases r1
          exact k _ F H Ext.refl rel (.tup h2 r2)
        · subst z
          cases r2
          exact k _ F H Ext.refl rel (by rw [List.append_nil]; exact .tup h1 r1)
        · obtain ⟨rl, xl, sF⟩ := rel.frozen (o := .tup _) hp
          exact k _ _ _ xl rl (.tup upd_same ((r1.append r2).mono sF (List.prefix_refl _)))
      · cases e
    | _ => cases e
  | _ => cases e
def dAdd : D → D → Option D
  | .int i, .int j => some (.int (i + j))
  | .str a, .str b => if a.length + b.length ≤ 16777216 then some (.str (a ++ b)) else none
  | .tup a, .tup b => if a.length + b.length ≤ 16777216 then some (.tup (a ++ b)) else none
  | .lst a, .lst b => if a.length + b.length ≤ 16777216 then some (.lst (a ++ b)) else none
  | _, _ => none
def dAdd1 (x y : D) : Option D := match addS x y with | some d => some d | none => addT x y
theorem GOp.or2 {g : Value → Value → Sem Value} {f1 f2 f : D → D → Option D} (h1 : GOp X g (q2 f1)) (h2 : GOp X g (q2 f2)) (h : ∀ x y, f x y = f1 x y ∨ f x y = f2 x y) : GOp X g (q2 f) :=
  h1.or h2 fun x y S => by rcases h x y with e | e <;> simp [q2, e]
def alt2 (f g : D → D → Option D) : D → D → Option D := fun x y => match f x y with | some d => some d | none => g x y
theorem GOp.orL {g : Value → Value → Sem Value} {f1 f2 : D → D → Option D} (h1 : GOp X g (q2 f1)) (h2 : GOp X g (q2 f2)) : GOp X g (q2 (alt2 f1 f2)) :=
  h1.or2 h2 fun x y => by
    unfold alt2
    cases f1 x y with
    | some d => exact .inl rfl
    | none => exact .inr rfl
theorem go_add : GOp X (binaryOp .Add) (q2 dAdd) := by
  have h := (go_addI (X := X)).orL ((go_addS (X := X)).orL ((go_addT (X := X)).orL go_addL))
  have e : dAdd = alt2 (i2 fAdd) (alt2 addS (alt2 addT addL)) := by
    funext x y
    cases x <;> cases y <;> first | rfl | (simp only [dAdd, alt2, i2, addS, addT, addL]; split <;> rfl)
  rw [e]; exact h
end
end Sm
set_option Elab.async false
set_option linter.all false
set_option maxRecDepth 100000
namespace Sm
open PySem PySem.Spec L2

section
variable {X : Cx} {W : WX} {c : Cfg}
/-! ## == and != -/
def eqF (n : Bool) : D → D → Option D
  | .int i, .int j => some (.bl (xor n (decide (i = j))))
  | .str i, .str j => some (.bl (xor n (decide (i = j))))
  | .bl i, .bl j => some (.bl (xor n (decide (i = j))))
  | .non, .non => some (.bl (xor n true))
  | .non, .int _ | .int _, .non | .non, .bl _ | .bl _, .non | .non, .str _ | .str _, .non | .int _, .str _ | .str _, .int _ | .bl _, .str _ | .str _, .bl _ => some (.bl n)
  | _, _ => none
theorem eqF_ok {F : Hp} {μ : List Addr} {x y : V} {dx dy d : D} {n : Bool} (rx : RD c F μ x dx) (ry : RD c F μ y dy) (e : eqF n dx dy = some d) : scal x y = true ∧ d = .bl (xor n (decide (x = y))) := by
  cases rx <;> cases ry <;> first | cases e; done | (cases e; refine ⟨rfl, ?_⟩; simp)
theorem go_eqF : GOp X (compareOp .Eq) (q2 (eqF false)) := op_flat op_eq fun F μ S H x y dx dy d Q rel rx ry e k => by
  obtain ⟨h1, h2⟩ := eqF_ok rx ry e
  subst h2
  exact ⟨h1, by simpa using k (.bl _) (.bl _)⟩
theorem go_neF : GOp X (compareOp .NotEq) (q2 (eqF true)) := op_flat op_ne fun F μ S H x y dx dy d Q rel rx ry e k => by
  obtain ⟨h1, h2⟩ := eqF_ok rx ry e
  subst h2
  exact ⟨h1, by simpa using k (.bl _) (.bl _)⟩
mutual
def D.py : D → Option PyData
  | .non => some .none
  | .bl b => some (.bool b)
  | .int i => some (.int i)
  | .str s => some (.str s)
  | .tup ds => (Ds.py ds).map .tuple
  | .lst ds => (Ds.py ds).map .list
  | .fix ds => (Ds.py ds).map .list
  | .ktp ds => (Ds.py ds).map .tuple
  | .ty _ => none | .fn _ => none | .dic _ _ => none | .dtp _ _ => none | .obj _ _ _ => none | .hnd _ => none
def Ds.py : List D → Option (List PyData)
  | [] => some []
  | d :: r => match D.py d, Ds.py r with | some p, some ps => some (p :: ps) | _, _ => none
end
mutual
theorem RD.dp {F H : Hp} {μ : List Addr} {S : Sto} (rel : Rel c F μ S H) : ∀ {v : V} {d : D} {p : PyData}, RD c F μ v d → d.py = some p → Dp c.K H v p
  | _, _, _, .non, e => by cases e; exact .non
  | _, _, _, .bl b, e => by cases e; exact .bl b
  | _, _, _, .int b, e => by cases e; exact .int b
  | _, _, _, .str b, e => by cases e; exact .str b
  | _, _, _, .tup (ds := ds) h r, e => by
    change (Ds.py ds).map PyData.tuple = _ at e
    cases q : Ds.py ds with
    | none => rw [q] at e; cases e
    | some ps => rw [q] at e; cases e; exact .tup (rel.sqt (SqT.of h)) (RDs.dp rel r q)
  | _, _, _, .lst (ds := ds) h r, e => by
    change (Ds.py ds).map PyData.list = _ at e
    cases q : Ds.py ds with
    | none => rw [q] at e; cases e
    | some ps => rw [q] at e; cases e; exact .lst (rel.sql (SqL.of h)) (RDs.dp rel r q)
  | _, _, _, .fix (ds := ds) h r, e => by
    change (Ds.py ds).map PyData.list = _ at e
    cases q : Ds.py ds with
    | none => rw [q] at e; cases e
    | some ps => rw [q] at e; cases e; exact .lst (rel.sql h) (RDs.dp rel r q)
  | _, _, _, .ktp (ds := ds) h r, e => by
    change (Ds.py ds).map PyData.tuple = _ at e
    cases q : Ds.py ds with
    | none => rw [q] at e; cases e
    | some ps => rw [q] at e; cases e; exact .tup (rel.sqt h) (RDs.dp rel r q)
  | _, _, _, .ty _, e => by cases e
  | _, _, _, .fn _, e => by cases e
  | _, _, _, .dic _ _, e => by cases e
  | _, _, _, .dtp _ _, e => by cases e
  | _, _, _, .obj _ _ _ _, e => by cases e
  | _, _, _, .hnd _, e => by cases e
theorem RDs.dp {F H : Hp} {μ : List Addr} {S : Sto} (rel : Rel c F μ S H) : ∀ {vs : List V} {ds : List D} {ps : List PyData}, RDs c F μ vs ds → Ds.py ds = some ps → DpAll c.K H vs ps
  | _, _, _, .nil, e => by cases e; exact .nil
  | _, _, _, .cons (d := d) (ds := ds) h r, e => by
    change (match D.py d, Ds.py ds with | some p, some ps => some (p :: ps) | _, _ => none) = _ at e
    cases q1 : D.py d with
    | none => rw [q1] at e; cases e
    | some p =>
      cases q2 : Ds.py ds with
      | none => rw [q1, q2] at e; cases e
      | some ps => rw [q1, q2] at e; cases e; exact .cons (RD.dp rel h q1) (RDs.dp rel r q2)
end
def eqP (n : Bool) (x y : D) : Option D := match x.py, y.py with
  | some p, some q => if SeqAt.shaped p = true ∧ SeqAt.shaped q = true then some (.bl (xor n (PyData.eqv p q))) else none
  | _, _ => none
theorem eqP_ok {n : Bool} {x y d : D} (e : eqP n x y = some d) : ∃ p q, x.py = some p ∧ y.py = some q ∧ SeqAt.shaped p = true ∧ SeqAt.shaped q = true ∧ d = .bl (xor n (PyData.eqv p q)) := by
  unfold eqP at e
  cases h1 : x.py with
  | none => rw [h1] at e; cases e
  | some p =>
    cases h2 : y.py with
    | none => rw [h1, h2] at e; cases e
    | some q =>
      rw [h1, h2] at e
      change (if _ then _ else none) = some d at e
      split at e
      · rename_i h
        exact ⟨p, q, rfl, rfl, h.1, h.2, (Option.some.inj e).symm⟩
      · cases e
theorem go_eqP (hu : X.A.units + 64 < cLine) : GOp X (compareOp .Eq) (q2 (eqP false)) := op_flat (op_eqD hu) fun F μ S H x y dx dy d Q rel rx ry e k => by
  obtain ⟨p, q, e1, e2, s1, s2, rfl⟩ := eqP_ok e
  exact ⟨p, q, rx.dp rel e1, ry.dp rel e2, s1, s2, by simpa using k (.bl _) (.bl _)⟩
theorem go_neP (hu : X.A.units + 64 < cLine) : GOp X (compareOp .NotEq) (q2 (eqP true)) := op_flat (op_neD hu) fun F μ S H x y dx dy d Q rel rx ry e k => by
  obtain ⟨p, q, e1, e2, s1, s2, rfl⟩ := eqP_ok e
  exact ⟨p, q, rx.dp rel e1, ry.dp rel e2, s1, s2, by simpa using k (.bl _) (.bl _)⟩
def dEq : D → D → Option D := alt2 (eqF false) (eqP false)
def dNe : D → D → Option D := alt2 (eqF true) (eqP true)
theorem go_eq {k : Nat} (hr : Room k X.A) : GOp X (compareOp .Eq) (q2 dEq) := go_eqF.orL (go_eqP hr.units)
theorem go_ne {k : Nat} (hr : Room k X.A) : GOp X (compareOp .NotEq) (q2 dNe) := go_neF.orL (go_neP hr.units)
/-! ## is -/
def D.isNon : D → Bool | .non => true | _ => false
theorem isN_val {F : Hp} {μ : List Addr} {x : V} {dx : D} (rx : RD c F μ x dx) : decide (x = .non) = dx.isNon := by cases rx <;> simp [D.isNon]
def isN1 (n : Bool) : D → D → Option D
  | x, .non => some (.bl (xor n x.isNon))
  | _, _ => none
def isT (n : Bool) : D → D → Option D
  | .ty a, .ty b => some (.bl (xor n (decide (a = b))))
  | _, _ => none
theorem go_isN : GOp X (compareOp .Is) (q2 (isN1 false)) := op_flat op_isN fun F μ S H x y dx dy d Q rel rx ry e k => by
  cases ry with
  | non =>
    cases e
    exact ⟨rfl, by rw [isN_val rx]; simpa using k (.bl _) (.bl _)⟩
  | _ => cases e
theorem go_notN : GOp X (compareOp .IsNot) (q2 (isN1 true)) := op_flat op_notN fun F μ S H x y dx dy d Q rel rx ry e k => by
  cases ry with
  | non =>
    cases e
    exact ⟨rfl, by rw [isN_val rx]; simpa using k (.bl _) (.bl _)⟩
  | _ => cases e
theorem go_isT : GOp X (compareOp .Is) (q2 (isT false)) := op_flat op_isTyB fun F μ S H x y dx dy d Q rel rx ry e k => by
  cases rx with
  | ty a =>
    cases ry with
    | ty b => cases e; exact ⟨a, b, rfl, rfl, by simpa using k (.bl _) (.bl _)⟩
    | _ => cases e
  | _ => cases e
theorem go_notT : GOp X (compareOp .IsNot) (q2 (isT true)) := op_flat op_notTyB fun F μ S H x y dx dy d Q rel rx ry e k => by
  cases rx with
  | ty a =>
    cases ry with
    | ty b => cases e; exact ⟨a, b, rfl, rfl, by simpa using k (.bl _) (.bl _)⟩
    | _ => cases e
  | _ => cases e
/-! ## in, not in: flat things in a list or a tuple; one sign in a text -/
def flatD : D → Bool | .non => true | .bl _ => true | .int _ => true | .str _ => true | _ => false
def eqD : D → D → Bool
  | .non, .non => true
  | .bl a, .bl b => a == b
  | .bl a, .int b => (if a then 1 else 0) == b
  | .int a, .bl b => a == (if b then 1 else 0)
  | .int a, .int b => a == b
  | .str a, .str b => a == b
  | _, _ => false
theorem flat_ok {F : Hp} {μ : List Addr} {x : V} {dx : D} (rx : RD c F μ x dx) (h : flatD dx = true) : flatV x = true := by cases rx <;> first | rfl | cases h
theorem eqD_ok {F : Hp} {μ : List Addr} {x y : V} {dx dy : D} (rx : RD c F μ x dx) (ry : RD c F μ y dy) (h : flatD dx = true) (h' : flatD dy = true) : eqV x y = eqD dx dy := by
  cases rx <;> first | (cases h; done) | (cases ry <;> first | (cases h'; done) | rfl)
theorem flats_ok {F : Hp} {μ : List Addr} : ∀ {xs : List V} {ds : List D}, RDs c F μ xs ds → ds.all flatD = true → xs.all flatV = true
  | _, _, .nil, _ => rfl
  | _, _, .cons h r, e => by
    simp only [List.all_cons, Bool.and_eq_true] at e ⊢
    exact ⟨flat_ok h e.1, flats_ok r e.2⟩
theorem inD_ok {F : Hp} {μ : List Addr} {x : V} {dx : D} (rx : RD c F μ x dx) (h : flatD dx = true) : ∀ {xs : List V} {ds : List D}, RDs c F μ xs ds → ds.all flatD = true → inV x xs = ds.any fun y => eqD y dx
  | _, _, .nil, _ => rfl
  | _, _, .cons (v := v) (vs := vs) h1 r, e => by
    simp only [List.all_cons, Bool.and_eq_true] at e
    have ih := inD_ok rx h r e.2
    show (eqV v x || inV x vs) = _
    rw [eqD_ok h1 rx e.1 h, ih]
    rfl
def dSq : D → Option (List D) | .lst ds => some ds | .fix ds => some ds | .tup ds => some ds | .ktp ds => some ds | _ => none
theorem RD.seq {F H : Hp} {μ : List Addr} {S : Sto} {v : V} {d : D} {ds : List D} (rel : Rel c F μ S H) (r : RD c F μ v d) (e : dSq d = some ds) : ∃ a vs, v = .ref a ∧ (SqL c.K H a vs ∨ SqT c.K H a vs) ∧ RDs c F μ vs ds := by
  cases r with
  | lst h r => cases e; exact ⟨_, _, rfl, .inl (rel.sql (SqL.of h)), r⟩
  | fix h r => cases e; exact ⟨_, _, rfl, .inl (rel.sql h), r⟩
  | tup h r => cases e; exact ⟨_, _, rfl, .inr (rel.sqt (SqT.of h)), r⟩
  | ktp h r => cases e; exact ⟨_, _, rfl, .inr (rel.sqt h), r⟩
  | _ => cases e
def inQ (n : Bool) (x y : D) : Option D := match dSq y with
  | some ds => if flatD x = true ∧ ds.all flatD = true then some (.bl (xor n (ds.any fun y => eqD y x))) else none
  | none => none
theorem inQ_ok {n : Bool} {x y d : D} (e : inQ n x y = some d) : ∃ ds, dSq y = some ds ∧ flatD x = true ∧ ds.all flatD = true ∧ d = .bl (xor n (ds.any fun y => eqD y x)) := by
  unfold inQ at e
  cases h : dSq y with
  | none => rw [h] at e; cases e
  | some ds =>
    rw [h] at e
    change (if _ then _ else none) = some d at e
    split at e
    · rename_i hh
      exact ⟨ds, rfl, hh.1, hh.2, (Option.some.inj e).symm⟩
    · cases e
theorem go_inQ : GOp X (compareOp .In) (q2 (inQ false)) := op_flat op_in_seq fun F μ S H x y dx dy d Q rel rx ry e k => by
  obtain ⟨ds, e1, f1, f2, rfl⟩ := inQ_ok e
  obtain ⟨a, vs, rfl, hq, r⟩ := ry.seq rel e1
  refine ⟨a, vs, rfl, hq, flat_ok rx f1, flats_ok r f2, ?_⟩
  rw [if_neg Bool.false_ne_true, inD_ok rx f1 r f2]
  simpa using k (.bl _) (.bl _)
theorem go_ninQ : GOp X (compareOp .NotIn) (q2 (inQ true)) := op_flat op_notIn_seq fun F μ S H x y dx dy d Q rel rx ry e k => by
  obtain ⟨ds, e1, f1, f2, rfl⟩ := inQ_ok e
  obtain ⟨a, vs, rfl, hq, r⟩ := ry.seq rel e1
  refine ⟨a, vs, rfl, hq, flat_ok rx f1, flats_ok r f2, ?_⟩
  rw [if_pos rfl, inD_ok rx f1 r f2]
  simpa using k (.bl _) (.bl _)
end
end Sm
set_option Elab.async false
set_option linter.all false
set_option maxRecDepth 100000
namespace Sm
open PySem PySem.Spec L2

section
variable {X : Cx} {W : WX} {c : Cfg}
/-! ## o[i] -/
structure GIx (X : Cx) (g : OV2) : Prop where
  ex : ∃ r, IxR X r ∧ OpSm (cf X) r g
theorem IxR.or {r r' : R2} (h : IxR X r) (h' : IxR X r') : IxR X (fun x y H Q => r x y H Q ∨ r' x y H Q) := by
  intro value slice pins s σ H x y v u Q I rx ry q hs
  rcases q with q | q
  · exact h value slice pins s σ H x y v u Q I rx ry q hs
  · exact h' value slice pins s σ H x y v u Q I rx ry q hs
theorem ge_ix {a b : Expr} {pos : Pos} {f : OV2} {ea eb : EV} (o : GIx X f) (ha : GE X W a ea) (hb : GE X W b eb) (hs : PlainIx b := by exact fun _ _ => rfl) : GE X W (.Subscript a b pos) (eOp f ea eb) := by
  obtain ⟨r, o, s⟩ := o
  obtain ⟨ta, pa, sa⟩ := ha
  obtain ⟨tb, pb, sb⟩ := hb
  exact ⟨_, pe_ix o pa pb hs, sm_op s sa sb⟩
theorem RDs.atI {F : Hp} {μ : List Addr} {vs : List V} {ds : List D} {i : Int} {d : D} (r : RDs c F μ vs ds) (e : L2.atI ds i = some d) : ∃ v, L2.atI vs i = some v ∧ RD c F μ v d := by
  unfold L2.atI at e ⊢
  rw [r.length]
  cases h : ixN ds.length i with
  | none => rw [h] at e; cases e
  | some j =>
    rw [h] at e
    obtain ⟨v, h1, h2⟩ := r.get (i := j) (d := d) e
    exact ⟨v, h1, h2⟩
def ixL : D → D → Option D | x, .int i => (dLst x).bind fun ds => L2.atI ds i | _, _ => none
def ixT : D → D → Option D | x, .int i => (dTup x).bind fun ds => L2.atI ds i | _, _ => none
def ixS : D → D → Option D | .str z, .int i => if z.length ≤ 16777216 then (L2.atI z.cps.toList i).map fun k => .str ⟨#[k]⟩ else none | _, _ => none
theorem gx_list : GIx X (q2 ixL) := by
  refine ⟨_, ix_list, fun F μ S H x y dx dy Q rel rx ry want => ?_⟩
  cases e : ixL dx dy with
  | none => simp only [q2, e, optR] at want; exact want.elim
  | some d =>
    simp only [q2, e, optR] at want
    cases ry with
    | int i =>
      change (dLst dx).bind _ = some d at e
      cases h : dLst dx with
      | none => rw [h] at e; cases e
      | some ds =>
        rw [h] at e
        obtain ⟨a, vs, rfl, hq, r⟩ := rx.sql h
        obtain ⟨v, h1, h2⟩ := r.atI e
        exact ⟨a, vs, i, v, rfl, rfl, rel.sql hq, h1, want v F μ H Ext.refl rel h2⟩
    | _ => cases e
theorem gx_tup : GIx X (q2 ixT) := by
  refine ⟨_, ix_tup, fun F μ S H x y dx dy Q rel rx ry want => ?_⟩
  cases e : ixT dx dy with
  | none => simp only [q2, e, optR] at want; exact want.elim
  | some d =>
    simp only [q2, e, optR] at want
    cases ry with
    | int i =>
      change (dTup dx).bind _ = some d at e
      cases h : dTup dx with
      | none => rw [h] at e; cases e
      | some ds =>
        rw [h] at e
        obtain ⟨a, vs, rfl, hq, r⟩ := rx.sqt h
        obtain ⟨v, h1, h2⟩ := r.atI e
        exact ⟨a, vs, i, v, rfl, rfl, rel.sqt hq, h1, want v F μ H Ext.refl rel h2⟩
    | _ => cases e
theorem gx_str : GIx X (q2 ixS) := by
  refine ⟨_, ix_str, fun F μ S H x y dx dy Q rel rx ry want => ?_⟩
  cases e : ixS dx dy with
  | none => simp only [q2, e, optR] at want; exact want.elim
  | some d =>
    simp only [q2, e, optR] at want
    cases ry with
    | int i =>
      cases rx with
      | str z =>
        change (if _ then _ else none) = some d at e
        split at e
        · rename_i hz
          cases h : L2.atI z.cps.toList i with
          | none => rw [h] at e; cases e
          | some k =>
            rw [h] at e
            cases e
            exact ⟨z, i, k, rfl, rfl, le_line hz, h, want _ F μ H Ext.refl rel (.str _)⟩
        · cases e
      | _ => cases e
    | _ => cases dx <;> cases e
theorem GIx.alt {f1 f2 : D → D → Option D} (h1 : GIx X (q2 f1)) (h2 : GIx X (q2 f2)) : GIx X (q2 (alt2 f1 f2)) := by
  obtain ⟨r1, o1, s1⟩ := h1
  obtain ⟨r2, o2, s2⟩ := h2
  refine ⟨_, o1.or o2, fun F μ S H x y dx dy Q rel rx ry want => ?_⟩
  cases e : f1 dx dy with
  | some d =>
    refine .inl (s1 F μ S H x y dx dy Q rel rx ry ?_)
    simp only [q2, alt2, e] at want ⊢; exact want
  | none =>
    refine .inr (s2 F μ S H x y dx dy Q rel rx ry ?_)
    simp only [q2, alt2, e] at want ⊢; exact want
def dIx : D → D → Option D := alt2 ixT (alt2 ixL ixS)
theorem gx_any : GIx X (q2 dIx) := gx_tup.alt (gx_list.alt gx_str)

/-! ## slices -/
def oNone : OV := fun _ S => .ok none S
def oSome (e : EV) : OV := fun env S => (e env S).bind fun d S1 => match d with | .int i => .ok (some i) S1 | _ => .bad
theorem go_none : GO X W none oNone := ⟨_, po_none, Sm.pure fun _ _ F μ S H _ _ _ _ => ⟨rfl, none, rfl, fun Q q => q⟩⟩
theorem go_some {e : Expr} {ev : EV} (h : GE X W e ev) : GO X W (some e) (oSome ev) := by
  obtain ⟨t, p, s⟩ := h
  refine ⟨_, po_some p, Sm.bind (kt := fun x σ H1 (Q : Option Int → Hp → Prop) => ∃ i, x = V.int i ∧ Q (some i) H1) (ke := fun (d : D) env S1 => match d with | .int i => (.ok (some i) S1 : Res (Option Int)) | _ => .bad) s fun F1 μ1 x dx s1 p1 r1 => ?_⟩
  cases r1 with
  | int i => exact Sm.pure fun _ _ F μ S H _ _ _ _ => ⟨rfl, some i, rfl, fun Q q => ⟨i, rfl, q⟩⟩
  | _ => exact sm_bad
def cutD (xs : List D) (lo hi : Option Int) : List D := (xs.drop (HT.sIx xs.length 0 lo)).take (HT.sIx xs.length xs.length hi - HT.sIx xs.length 0 lo)
theorem RDs.slice {F : Hp} {μ : List Addr} {vs : List V} {ds : List D} (r : RDs c F μ vs ds) (lo hi : Option Int) : RDs c F μ (cutV vs lo hi) (cutD ds lo hi) := by
  unfold cutV cutD
  rw [r.length]
  exact (r.drop _).take _
abbrev SlV := D → Option Int → Option Int → Option D
structure GSl (X : Cx) (f : SlV) : Prop where
  ex : ∃ r, SlR X r ∧ ∀ F μ S H x dx lo hi d (Q : VK), Rel (cf X) F μ S H → RD (cf X) F μ x dx → f dx lo hi = some d → (∀ v F' H', Ext F μ H F' μ H' → Rel (cf X) F' μ S H' → RD (cf X) F' μ v d → Q v H') → r x lo hi H Q
def eSl (f : SlV) (e : EV) (l h : OV) : EV := fun env S => (e env S).bind fun d S1 => (l env S1).bind fun lo S2 => (h env S2).bind fun hi S3 => optR (f d lo hi) S3
theorem ge_slice {e : Expr} {lo hi : Option Expr} {p2 pos : Pos} {f : SlV} {ev : EV} {l h : OV} (o : GSl X f) (he : GE X W e ev) (hl : GO X W lo l) (hh : GO X W hi h) : GE X W (.Subscript e (.Slice lo hi none p2) pos) (eSl f ev l h) := by
  obtain ⟨r, o, so⟩ := o
  obtain ⟨te, pe, se⟩ := he
  obtain ⟨tl, pl, sl⟩ := hl
  obtain ⟨th, ph, sh⟩ := hh
  refine ⟨_, pe_slice o pe pl ph, ?_⟩
  refine Sm.bind (kt := fun x σ H1 (Q : VK) => tl σ H1 fun a H2 => th σ H2 fun b H3 => r x a b H3 Q) (ke := fun d env S1 => (l env S1).bind fun lo S2 => (h env S2).bind fun hi S3 => optR (f d lo hi) S3) se fun F1 μ1 x dx s1 p1 r1 => ?_
  refine Sm.bind (kt := fun a σ H1 (Q : VK) => th σ H1 fun b H3 => r x a b H3 Q) (ke := fun lo env S1 => (h env S1).bind fun hi S3 => optR (f dx lo hi) S3) (sl.weaken (fun _ _ h => nomatch h) List.nil_prefix) fun F2 μ2 a da s2 p2 r2 => ?_
  refine Sm.bind (kt := fun b σ H1 (Q : VK) => r x a b H1 Q) (ke := fun hi env S1 => optR (f dx da hi) S1) (sh.weaken (fun _ _ h => nomatch h) List.nil_prefix) fun F3 μ3 b db s3 p3 r3 => ?_
  cases r2
  cases r3
  intro σ env F μ S H Q s p eR rel want
  cases q : f dx a b with
  | none => simp only [q, optR] at want; exact want.elim
  | some d =>
    simp only [q, optR] at want
    exact so F μ S H x dx a b d Q rel (r1.mono ((s2.trans s3).trans s) ((p2.trans p3).trans p)) q fun v F' H' x' rel' r' => want v F' μ H' x' rel' r'
def slL : SlV := fun d lo hi => (dLst d).map fun ds => .lst (cutD ds lo hi)
def slT : SlV := fun d lo hi => match d with | .tup ds => some (.tup (cutD ds lo hi)) | _ => none
theorem gsl_list : GSl X slL := by
  refine ⟨_, sl_list, fun F μ S H x dx lo hi d Q rel rx e k => ?_⟩
  unfold slL at e
  cases h : dLst dx with
  | none => rw [h] at e; cases e
  | some ds =>
    rw [h] at e
    cases e
    obtain ⟨a, vs, rfl, hq, r⟩ := rx.sql h
    refine ⟨a, vs, rfl, rel.sql hq, fun p hp => ?_⟩
    obtain ⟨rl, xl, sF⟩ := rel.frozen (o := .lst _) hp
    exact k _ _ _ xl rl (.lst upd_same ((r.slice lo hi).mono sF (List.prefix_refl _)))
theorem gsl_tup : GSl X slT := by
  refine ⟨_, sl_tupA, fun F μ S H x dx lo hi d Q rel rx e k => ?_⟩
  cases rx with
  | tup hq r =>
    rename_i a vs ds
    cases e
    refine ⟨a, vs, rfl, rel.sqt (SqT.of hq), fun hw => ?_, fun _ p hp => ?_⟩
    · have e2 : cutD ds lo hi = ds := by
        unfold cutD
        rw [r.length] at hw
        rw [hw.1, hw.2]
        simp
      rw [e2] at k
      exact k _ F H Ext.refl rel (.tup hq r)
    · obtain ⟨rl, xl, sF⟩ := rel.frozen (o := .tup _) hp
      exact k _ _ _ xl rl (.tup upd_same ((r.slice lo hi).mono sF (List.prefix_refl _)))
  | _ => cases e
def altS (f g : SlV) : SlV := fun d lo hi => match f d lo hi with | some e => some e | none => g d lo hi
theorem GSl.alt {f g : SlV} (h1 : GSl X f) (h2 : GSl X g) : GSl X (altS f g) := by
  obtain ⟨r1, o1, s1⟩ := h1
  obtain ⟨r2, o2, s2⟩ := h2
  refine ⟨_, o1.or o2, fun F μ S H x dx lo hi d Q rel rx e k => ?_⟩
  unfold altS at e
  cases q : f dx lo hi with
  | some d' =>
    rw [q] at e
    exact .inl (s1 F μ S H x dx lo hi d Q rel rx (by rw [q]; exact e) k)
  | none =>
    rw [q] at e
    exact .inr (s2 F μ S H x dx lo hi d Q rel rx e k)
theorem gsl_any : GSl X (altS slT slL) := gsl_tup.alt gsl_list

/-! ## slices with a step, of lists -/
def pickN {α : Type} (xs : List α) (lo hi st : Option Int) : List α := (sliceRange (sliceBounds lo hi st xs.length).1 (sliceBounds lo hi st xs.length).2.1 (sliceBounds lo hi st xs.length).2.2).filterMap (xs[·]?)
theorem vals_places {xs : List V} {us : List Value} (r : Vals xs us) : ∀ L : List Nat, Vals (L.filterMap (xs[·]?)) (L.filterMap (us[·]?))
  | [] => .nil
  | i :: L => by
    have ih := vals_places r L
    cases h : xs[i]? with
    | none =>
      rw [List.filterMap_cons_none h, List.filterMap_cons_none (r.none_of h)]
      exact ih
    | some x =>
      obtain ⟨u, h1, h2⟩ := r.get h
      rw [List.filterMap_cons_some h, List.filterMap_cons_some h1]
      exact .cons h2 ih
theorem RDs.places {F : Hp} {μ : List Addr} {vs : List V} {ds : List D} (r : RDs c F μ vs ds) : ∀ L : List Nat, RDs c F μ (L.filterMap (vs[·]?)) (L.filterMap (ds[·]?))
  | [] => .nil
  | i :: L => by
    have ih := r.places L
    cases h : vs[i]? with
    | none =>
      have h' : ds[i]? = none := by
        have := List.getElem?_eq_none_iff.mp h
        rw [r.length] at this
        exact List.getElem?_eq_none_iff.mpr this
      rw [List.filterMap_cons_none h, List.filterMap_cons_none h']
      exact ih
    | some x =>
      obtain ⟨u, h1, h2⟩ := r.getV h
      rw [List.filterMap_cons_some h, List.filterMap_cons_some h1]
      exact .cons h2 ih
theorem slicePick_N {its : List Value} {lo hi st : Option Int} : (slicePick its.toArray lo hi st).toList = pickN its lo hi st := by simp [slicePick, pickN]
def tSl3 (K : PySem.W.Frag) (te : TE) (tl th : TO) (ts : TE) : TE := fun σ H Q => te σ H fun x H1 => tl σ H1 fun lo H2 => th σ H2 fun hi H3 => ts σ H3 fun y H4 => ∃ ad xs k, x = V.ref ad ∧ y = V.int k ∧ k ≠ 0 ∧ SqL K H4 ad xs ∧ ∀ p, H4 p = none → Q (.ref p) (upd H4 p (.lst (pickN xs lo hi (some k))))
theorem pickN_le {xs : List V} {its : List Value} (r : Vals xs its) (lo hi st : Option Int) : Vals (pickN xs lo hi st) (pickN its lo hi st) ∧ (pickN xs lo hi st).length ≤ xs.length := by
  have h1 : Vals (pickN xs lo hi st) (pickN its lo hi st) := by
    unfold pickN
    rw [r.length]
    exact vals_places r _
  refine ⟨h1, ?_⟩
  have h2 := slicePick_size_le its.toArray lo hi st
  rw [h1.length, r.length, ← slicePick_N]
  simpa using h2
theorem pe_slice3 {e st : Expr} {lo hi : Option Expr} {p2 pos : Pos} {te ts : TE} {tl th : TO} (he : PE X e te) (hl : PO X lo tl) (hh : PO X hi th) (hst : PE X st ts)
    (hs : ∀ v a, subscripted (.Slice lo hi (some st) p2) false v (.ref a) = operate [v, .ref a] (getItem v (.ref a)) := by intro _ _; with_unfolding_all rfl) : PE X (.Subscript e (.Slice lo hi (some st) p2) pos) (tSl3 X.K te tl th ts) := by
  refine ⟨fun pins s σ H Q I h => ?_⟩
  refine PyProof.Rows.Subscript_ (thn (he.run pins s σ H _ I h) fun v s1 ⟨x, H1, I1, r1, q1⟩ => ?_)
  refine wpAny_Slice (thn (hl.run pins s1 σ H1 _ I1 q1) fun vl s2 ⟨l, H2, I2, pl, q2⟩ => thn (hh.run pins s2 σ H2 _ I2 q2) fun vu s3 ⟨u, H3, I3, pu, q3⟩ => thn (hst.run pins s3 σ H3 _ I3 q3) fun vk s4 ⟨y, H4, I4, ry, q4⟩ => ?_)
  obtain ⟨ad, xs, k, rfl, rfl, k0, hx, q⟩ := q4
  cases r1
  obtain ⟨tk, rfl⟩ := ry
  have I5 : Inv X pins σ H4 { s4 with heap := s4.heap.push { cls := .type "slice", data := .fields #[vl, vu, .int k tk] } } := I4.kept (t' := s4.toks) fun b ob z => Heap.get?_push_of_some _ z
  obtain ⟨its, r, ht, hz⟩ := I5.list hx
  have hlen := r.length
  obtain ⟨rv, hle⟩ := pickN_le r l u (some k)
  refine PyProof.Rows.tail_any (ops := [.ref ad, .ref s4.heap.objs.size]) (s := { s4 with heap := s4.heap.push { cls := .type "slice", data := .fields #[vl, vu, .int k tk] } }) ht.isList.typeIs slot_list_getitem.lookup ?_ (hs _ _)
  refine wpAny_getItem_list_slice ht.isList (Heap.IsSliceOf.new ..) pl pu (.int k tk) (by simpa using k0) ?_ (by rw [List.size_toArray, ← hlen]; exact hz)
  refine ⟨.ref _, _, I5.laid (t' := s4.toks) (o := .lst (pickN xs l u (some k))) (fun b ob z => Heap.get?_push_of_some _ z) (Nat.le_refl _) ?_, rfl, q _ (I5.hok.fresh (Nat.le_refl _))⟩
  refine ⟨Nat.le_trans hle hz, pickN its l u (some k), 0, rv, ?_⟩
  have e : (slicePick its.toArray l u (some k)) = (pickN its l u (some k)).toArray := by rw [← slicePick_N]
  rw [e]
  exact Heap.get?_push_size _ rfl
def stepD (d : D) (lo hi : Option Int) (k : D) : Option D := match dLst d, k with
  | some ds, .int k => if k = 0 then none else some (.lst (pickN ds lo hi (some k)))
  | _, _ => none
def eSl3 (e : EV) (l h : OV) (st : EV) : EV := fun env S => (e env S).bind fun d S1 => (l env S1).bind fun lo S2 => (h env S2).bind fun hi S3 => (st env S3).bind fun k S4 => optR (stepD d lo hi k) S4
theorem ge_slice3 {e st : Expr} {lo hi : Option Expr} {p2 pos : Pos} {ev es : EV} {l h : OV} (he : GE X W e ev) (hl : GO X W lo l) (hh : GO X W hi h) (hst : GE X W st es)
    (hs : ∀ v a, subscripted (.Slice lo hi (some st) p2) false v (.ref a) = operate [v, .ref a] (getItem v (.ref a)) := by intro _ _; with_unfolding_all rfl) : GE X W (.Subscript e (.Slice lo hi (some st) p2) pos) (eSl3 ev l h es) := by
  obtain ⟨te, pe, se⟩ := he
  obtain ⟨tl, pl, sl⟩ := hl
  obtain ⟨th, ph, sh⟩ := hh
  obtain ⟨ts, ps, ss⟩ := hst
  refine ⟨_, pe_slice3 pe pl ph ps hs, ?_⟩
  refine Sm.bind (kt := fun x σ H1 (Q : VK) => tl σ H1 fun a H2 => th σ H2 fun b H3 => ts σ H3 fun y H4 => ∃ ad xs k, x = V.ref ad ∧ y = V.int k ∧ k ≠ 0 ∧ SqL X.K H4 ad xs ∧ ∀ p, H4 p = none → Q (.ref p) (upd H4 p (.lst (pickN xs a b (some k))))) (ke := fun d env S1 => (l env S1).bind fun lo S2 => (h env S2).bind fun hi S3 => (es env S3).bind fun k S4 => optR (stepD d lo hi k) S4) se fun F1 μ1 x dx s1 p1 r1 => ?_
  refine Sm.bind (kt := fun a σ H1 (Q : VK) => th σ H1 fun b H3 => ts σ H3 fun y H4 => ∃ ad xs k, x = V.ref ad ∧ y = V.int k ∧ k ≠ 0 ∧ SqL X.K H4 ad xs ∧ ∀ p, H4 p = none → Q (.ref p) (upd H4 p (.lst (pickN xs a b (some k))))) (ke := fun lo env S1 => (h env S1).bind fun hi S3 => (es env S3).bind fun k S4 => optR (stepD dx lo hi k) S4) (sl.weaken (fun _ _ h => nomatch h) List.nil_prefix) fun F2 μ2 a da s2 p2 r2 => ?_
  refine Sm.bind (kt := fun b σ H1 (Q : VK) => ts σ H1 fun y H4 => ∃ ad xs k, x = V.ref ad ∧ y = V.int k ∧ k ≠ 0 ∧ SqL X.K H4 ad xs ∧ ∀ p, H4 p = none → Q (.ref p) (upd H4 p (.lst (pickN xs a b (some k))))) (ke := fun hi env S1 => (es env S1).bind fun k S4 => optR (stepD dx da hi k) S4) (sh.weaken (fun _ _ h => nomatch h) List.nil_prefix) fun F3 μ3 b db s3 p3 r3 => ?_
  refine Sm.bind (kt := fun y σ H4 (Q : VK) => ∃ ad xs k, x = V.ref ad ∧ y = V.int k ∧ k ≠ 0 ∧ SqL X.K H4 ad xs ∧ ∀ p, H4 p = none → Q (.ref p) (upd H4 p (.lst (pickN xs a b (some k))))) (ke := fun k env S4 => optR (stepD dx da db k) S4) (ss.weaken (fun _ _ h => nomatch h) List.nil_prefix) fun F4 μ4 y dy s4 p4 r4 => ?_
  cases r2
  cases r3
  intro σ env F μ S H Q s p eR rel want
  have r1' : RD (cf X) F μ x dx := r1.mono (((s2.trans s3).trans s4).trans s) (((p2.trans p3).trans p4).trans p)
  change Want _ _ _ _ _ _ _ _ (optR (stepD dx a b dy) S) at want
  cases hq : dLst dx with
  | none => simp only [stepD, hq, optR] at want; exact want.elim
  | some ds =>
    cases r4 with
    | int k =>
      by_cases k0 : k = 0
      · simp only [stepD, hq, if_pos k0, optR] at want; exact want.elim
      · simp only [stepD, hq, if_neg k0, optR] at want
        obtain ⟨ad, vs, rfl, hx, r⟩ := r1'.sql hq
        refine ⟨ad, vs, k, rfl, rfl, k0, rel.sql hx, fun p hp => ?_⟩
        obtain ⟨rl, xl, sF⟩ := rel.frozen (o := .lst _) hp
        refine want _ _ _ _ xl rl (.lst upd_same ?_)
        have : RDs (cf X) F μ (pickN vs a b (some k)) (pickN ds a b (some k)) := by
          unfold pickN
          rw [r.length]
          exact r.places _
        exact this.mono sF (List.prefix_refl _)
    | _ => simp only [stepD, hq, optR] at want; exact want.elim
end
end Sm
set_option Elab.async false
set_option linter.all false
set_option maxRecDepth 100000
namespace Sm
open PySem PySem.Spec L2

section
variable {X : Cx} {W : WX} {c : Cfg}
/-- a built-in, by values: g is what it tells -/
structure GCb (X : Cx) (f : Value) (g : List D → Option D) : Prop where
  ex : ∃ r, CallR X f r ∧ ∀ F μ S H xs ds d (Q : VK), Rel (cf X) F μ S H → RDs (cf X) F μ xs ds → g ds = some d → (∀ v F' H', Ext F μ H F' μ H' → Rel (cf X) F' μ S H' → RD (cf X) F' μ v d → Q v H') → r xs H Q
def qA (g : List D → Option D) : List D → Sto → Res D := fun ds S => optR (g ds) S
theorem GCb.ar {f : Value} {g : List D → Option D} (h : GCb X f g) : ∃ r, CallR X f r ∧ ArSm (cf X) r (qA g) := by
  obtain ⟨r, o, s⟩ := h
  refine ⟨r, o, fun F μ S H xs ds Q rel rx want => ?_⟩
  cases e : g ds with
  | none => simp only [qA, e, optR] at want; exact want.elim
  | some d =>
    simp only [qA, e, optR] at want
    exact s F μ S H xs ds d Q rel rx e fun v F' H' x' rel' r' => want v F' μ H' x' rel' r'
theorem ge_callB {id : String} {x : Str} {e : Expr} {es : List Expr} {p pos : Pos} {g : List D → Option D} {av : AV} (hc : GCb X (.builtin id) g) (hm : X.mg x = none) (ha : GA X W (e :: es) av) (hv : bootBuiltins x = some (.builtin id) := by decide +kernel) (hg : Gl X x := by rfl) (hn : x ≠ "__name__" := by decide) (hdb : (x == ("__debug__" : Str)) = false := by decide)
    (he : starEach (e :: es) X.env = (false, eval e X.env) :: starEach es X.env := by rfl) (hpl : (backTo pos (starEach es X.env)).any (·.1) = false := by rfl) : GE X W (.Call (.Name x p) (e :: es) [] pos) (eAr (qA g) av) := by
  obtain ⟨r, o, s⟩ := hc.ar
  obtain ⟨t, pt, st⟩ := ha
  exact ⟨_, pe_callB o hg hm hv pt hn hdb he hpl, sm_ar s st⟩
theorem ge_callTy {T : String} {x : Str} {e : Expr} {es : List Expr} {p pos : Pos} {g : List D → Option D} {av : AV} (hc : GCb X (.type T) g) (hm : X.mg x = none) (ha : GA X W (e :: es) av) (hv : bootBuiltins x = some (.type T) := by decide +kernel) (hg : Gl X x := by rfl) (hn : x ≠ "__name__" := by decide) (hdb : (x == ("__debug__" : Str)) = false := by decide)
    (he : starEach (e :: es) X.env = (false, eval e X.env) :: starEach es X.env := by rfl) (hpl : (backTo pos (starEach es X.env)).any (·.1) = false := by rfl) : GE X W (.Call (.Name x p) (e :: es) [] pos) (eAr (qA g) av) := by
  obtain ⟨r, o, s⟩ := hc.ar
  obtain ⟨t, pt, st⟩ := ha
  exact ⟨_, pe_callTy o hg hm hv pt hn hdb he hpl, sm_ar s st⟩
theorem GCb.alt {f : Value} {g1 g2 : List D → Option D} (h1 : GCb X f g1) (h2 : GCb X f g2) : GCb X f (fun ds => match g1 ds with | some d => some d | none => g2 ds) := by
  obtain ⟨r1, o1, s1⟩ := h1
  obtain ⟨r2, o2, s2⟩ := h2
  refine ⟨_, o1.or o2, fun F μ S H xs ds d Q rel rx e k => ?_⟩
  cases q : g1 ds with
  | some d' =>
    rw [q] at e
    exact .inl (s1 F μ S H xs ds d Q rel rx (by rw [q]; exact e) k)
  | none =>
    rw [q] at e
    exact .inr (s2 F μ S H xs ds d Q rel rx e k)
/-! ### len, abs, max, min, sum, any, all -/
def dLen : List D → Option D
  | [.str z] => if z.length ≤ 16777216 then some (.int z.length) else none
  | [.lst ds] => some (.int ds.length)
  | [.fix ds] => some (.int ds.length)
  | [.tup ds] => some (.int ds.length)
  | [.ktp ds] => some (.int ds.length)
  | _ => none
theorem cb_len : GCb X (.builtin "len") dLen := by
  refine ⟨_, call_len, fun F μ S H xs ds d Q rel rx e k => ?_⟩
  match ds, rx with
  | [.str z], .cons (.str _) .nil =>
    change (if _ then _ else none) = some d at e
    split at e
    · rename_i hz
      cases e
      exact ⟨_, z.length, rfl, ⟨le_line hz, rfl⟩, k _ F H Ext.refl rel (.int _)⟩
    · cases e
  | [.lst ds], .cons (.lst h r) .nil =>
    cases e
    exact ⟨_, ds.length, rfl, .inl ⟨_, rel.sql (SqL.of h), r.length.symm⟩, k _ F H Ext.refl rel (.int _)⟩
  | [.fix ds], .cons (.fix h r) .nil =>
    cases e
    exact ⟨_, ds.length, rfl, .inl ⟨_, rel.sql h, r.length.symm⟩, k _ F H Ext.refl rel (.int _)⟩
  | [.tup ds], .cons (.tup h r) .nil =>
    cases e
    exact ⟨_, ds.length, rfl, .inr ⟨_, rel.sqt (SqT.of h), r.length.symm⟩, k _ F H Ext.refl rel (.int _)⟩
  | [.ktp ds], .cons (.ktp h r) .nil =>
    cases e
    exact ⟨_, ds.length, rfl, .inr ⟨_, rel.sqt h, r.length.symm⟩, k _ F H Ext.refl rel (.int _)⟩
def dAbs : List D → Option D | [.int i] => some (.int (if i < 0 then -i else i)) | _ => none
theorem cb_abs : GCb X (.builtin "abs") dAbs := by
  refine ⟨_, call_abs, fun F μ S H xs ds d Q rel rx e k => ?_⟩
  match ds, rx with
  | [.int i], .cons (.int _) .nil => cases e; exact ⟨i, rfl, k _ F H Ext.refl rel (.int _)⟩
def dMax2 : List D → Option D | [.int i, .int j] => some (.int (if j > i then j else i)) | _ => none
def dMin2 : List D → Option D | [.int i, .int j] => some (.int (if j < i then j else i)) | _ => none
theorem cb_max2 (hc : X.calm = true) : GCb X (.builtin "max") dMax2 := by
  refine ⟨_, call_max2 hc, fun F μ S H xs ds d Q rel rx e k => ?_⟩
  match ds, rx with
  | [.int i, .int j], .cons (.int _) (.cons (.int _) .nil) => cases e; exact ⟨i, j, rfl, k _ F H Ext.refl rel (.int _)⟩
theorem cb_min2 (hc : X.calm = true) : GCb X (.builtin "min") dMin2 := by
  refine ⟨_, call_min2 hc, fun F μ S H xs ds d Q rel rx e k => ?_⟩
  match ds, rx with
  | [.int i, .int j], .cons (.int _) (.cons (.int _) .nil) => cases e; exact ⟨i, j, rfl, k _ F H Ext.refl rel (.int _)⟩
/-- ints | bools of a list -/
def D.ints : List D → Option (List Int)
  | [] => some []
  | .int i :: r => (D.ints r).map (i :: ·)
  | _ => none
def D.bls : List D → Option (List Bool)
  | [] => some []
  | .bl i :: r => (D.bls r).map (i :: ·)
  | _ => none
def D.strs : List D → Option (List Str)
  | [] => some []
  | .str i :: r => (D.strs r).map (i :: ·)
  | _ => none
theorem ints_eq : ∀ {ds : List D} {ns : List Int}, D.ints ds = some ns → ds = ns.map D.int
  | [], _, e => by cases e; rfl
  | .int i :: r, ns, e => by
    change (D.ints r).map (i :: ·) = _ at e
    cases h : D.ints r with
    | none => rw [h] at e; cases e
    | some ms => rw [h] at e; cases e; rw [ints_eq h]; rfl
  | .non :: _, _, e | .bl _ :: _, _, e | .str _ :: _, _, e | .ty _ :: _, _, e | .fn _ :: _, _, e | .tup _ :: _, _, e | .lst _ :: _, _, e | .fix _ :: _, _, e | .ktp _ :: _, _, e | .dic _ _ :: _, _, e | .dtp _ _ :: _, _, e | .obj _ _ _ :: _, _, e | .hnd _ :: _, _, e => by cases e
theorem bls_eq : ∀ {ds : List D} {ns : List Bool}, D.bls ds = some ns → ds = ns.map D.bl
  | [], _, e => by cases e; rfl
  | .bl i :: r, ns, e => by
    change (D.bls r).map (i :: ·) = _ at e
    cases h : D.bls r with
    | none => rw [h] at e; cases e
    | some ms => rw [h] at e; cases e; rw [bls_eq h]; rfl
  | .non :: _, _, e | .int _ :: _, _, e | .str _ :: _, _, e | .ty _ :: _, _, e | .fn _ :: _, _, e | .tup _ :: _, _, e | .lst _ :: _, _, e | .fix _ :: _, _, e | .ktp _ :: _, _, e | .dic _ _ :: _, _, e | .dtp _ _ :: _, _, e | .obj _ _ _ :: _, _, e | .hnd _ :: _, _, e => by cases e
theorem strs_eq : ∀ {ds : List D} {ns : List Str}, D.strs ds = some ns → ds = ns.map D.str
  | [], _, e => by cases e; rfl
  | .str i :: r, ns, e => by
    change (D.strs r).map (i :: ·) = _ at e
    cases h : D.strs r with
    | none => rw [h] at e; cases e
    | some ms => rw [h] at e; cases e; rw [strs_eq h]; rfl
  | .non :: _, _, e | .bl _ :: _, _, e | .int _ :: _, _, e | .ty _ :: _, _, e | .fn _ :: _, _, e | .tup _ :: _, _, e | .lst _ :: _, _, e | .fix _ :: _, _, e | .ktp _ :: _, _, e | .dic _ _ :: _, _, e | .dtp _ _ :: _, _, e | .obj _ _ _ :: _, _, e | .hnd _ :: _, _, e => by cases e
def oneL {α : Type} (f : List D → Option α) : List D → Option α | [x] => (dLst x).bind f | _ => none
theorem oneL_ok {α : Type} {f : List D → Option α} {ds : List D} {a : α} {F : Hp} {μ : List Addr} {xs : List V} (rx : RDs c F μ xs ds) (e : oneL f ds = some a) : ∃ ad vs es, xs = [.ref ad] ∧ SqL c.K F ad vs ∧ RDs c F μ vs es ∧ f es = some a := by
  match ds, rx with
  | [x], .cons h .nil =>
    change (dLst x).bind f = some a at e
    cases q : dLst x with
    | none => rw [q] at e; cases e
    | some es =>
      rw [q] at e
      obtain ⟨ad, vs, rfl, hq, r⟩ := h.sql q
      exact ⟨ad, vs, es, rfl, hq, r, e⟩
  | [], _ => cases e
  | _ :: _ :: _, _ => cases e
def dSum : List D → Option D := oneL fun es => (D.ints es).map fun ns => .int ns.sum
theorem map_some {α β : Type} {f : α → β} {o : Option α} {b : β} (h : o.map f = some b) : ∃ a, o = some a ∧ f a = b := by
  cases o with
  | none => cases h
  | some a => exact ⟨a, rfl, Option.some.inj h⟩
theorem cb_sum (hc : X.calm = true) : GCb X (.builtin "sum") dSum := by
  refine ⟨_, cr_sum hc, fun F μ S H xs ds d Q rel rx e k => ?_⟩
  obtain ⟨ad, vs, es, rfl, hq, r, e⟩ := oneL_ok rx e
  obtain ⟨ns, e1, rfl⟩ := map_some e
  have e2 := ints_eq e1
  subst e2
  have e3 := r.ints
  subst e3
  exact ⟨ad, ns, rfl, rel.sql hq, k _ F H Ext.refl rel (.int _)⟩
def dAll : List D → Option D := oneL fun es => (D.bls es).map fun ns => .bl (ns.all id)
def dAny : List D → Option D := oneL fun es => (D.bls es).map fun ns => .bl (ns.any id)
theorem cb_all (hc : X.calm = true) : GCb X (.builtin "all") dAll := by
  refine ⟨_, cr_all hc, fun F μ S H xs ds d Q rel rx e k => ?_⟩
  obtain ⟨ad, vs, es, rfl, hq, r, e⟩ := oneL_ok rx e
  obtain ⟨ns, e1, rfl⟩ := map_some e
  have e2 := bls_eq e1
  subst e2
  have e3 := r.bls
  subst e3
  exact ⟨ad, ns, rfl, rel.sql hq, k _ F H Ext.refl rel (.bl _)⟩
theorem cb_any (hc : X.calm = true) : GCb X (.builtin "any") dAny := by
  refine ⟨_, cr_any hc, fun F μ S H xs ds d Q rel rx e k => ?_⟩
  obtain ⟨ad, vs, es, rfl, hq, r, e⟩ := oneL_ok rx e
  obtain ⟨ns, e1, rfl⟩ := map_some e
  have e2 := bls_eq e1
  subst e2
  have e3 := r.bls
  subst e3
  exact ⟨ad, ns, rfl, rel.sql hq, k _ F H Ext.refl rel (.bl _)⟩
/-- the greatest, the least of ints -/
def maxI : List Int → Option Int | [] => none | a :: r => some (r.foldl max a)
def minI : List Int → Option Int | [] => none | a :: r => some (r.foldl min a)
theorem foldl_max : ∀ (r : List Int) (a : Int), a ≤ r.foldl max a ∧ (∀ y ∈ r, y ≤ r.foldl max a) ∧ (r.foldl max a = a ∨ r.foldl max a ∈ r)
  | [], a => by simp
  | b :: r, a => by
    obtain ⟨h1, h2, h3⟩ := foldl_max r (max a b)
    refine ⟨Int.le_trans (Int.le_max_left a b) h1, fun y hy => ?_, ?_⟩
    · rcases List.mem_cons.mp hy with rfl | hy
      · exact Int.le_trans (Int.le_max_right a _) h1
      · exact h2 y hy
    · show r.foldl max (max a b) = a ∨ r.foldl max (max a b) ∈ b :: r
      rcases h3 with h | h
      · rw [h]
        by_cases hab : a ≤ b
        · right; rw [Int.max_eq_right hab]; simp
        · left; exact Int.max_eq_left (by omega)
      · exact .inr (List.mem_cons_of_mem _ h)
theorem foldl_min : ∀ (r : List Int) (a : Int), r.foldl min a ≤ a ∧ (∀ y ∈ r, r.foldl min a ≤ y) ∧ (r.foldl min a = a ∨ r.foldl min a ∈ r)
  | [], a => by simp
  | b :: r, a => by
    obtain ⟨h1, h2, h3⟩ := foldl_min r (min a b)
    refine ⟨Int.le_trans h1 (Int.min_le_left a b), fun y hy => ?_, ?_⟩
    · rcases List.mem_cons.mp hy with rfl | hy
      · exact Int.le_trans h1 (Int.min_le_right a _)
      · exact h2 y hy
    · show r.foldl min (min a b) = a ∨ r.foldl min (min a b) ∈ b :: r
      rcases h3 with h | h
      · rw [h]
        by_cases hab : a ≤ b
        · left; exact Int.min_eq_left hab
        · right; rw [Int.min_eq_right (by omega)]; simp
      · exact .inr (List.mem_cons_of_mem _ h)
theorem maxI_ok {ns : List Int} {m : Int} (h : maxI ns = some m) : 0 < ns.length ∧ m ∈ ns ∧ ∀ y ∈ ns, y ≤ m := by
  cases ns with
  | nil => cases h
  | cons a r =>
    cases h
    obtain ⟨h1, h2, h3⟩ := foldl_max r a
    refine ⟨by simp, ?_, fun y hy => ?_⟩
    · rcases h3 with h | h
      · rw [h]; simp
      · exact List.mem_cons_of_mem _ h
    · rcases List.mem_cons.mp hy with rfl | hy
      · exact h1
      · exact h2 y hy
theorem minI_ok {ns : List Int} {m : Int} (h : minI ns = some m) : 0 < ns.length ∧ m ∈ ns ∧ ∀ y ∈ ns, m ≤ y := by
  cases ns with
  | nil => cases h
  | cons a r =>
    cases h
    obtain ⟨h1, h2, h3⟩ := foldl_min r a
    refine ⟨by simp, ?_, fun y hy => ?_⟩
    · rcases h3 with h | h
      · rw [h]; simp
      · exact List.mem_cons_of_mem _ h
    · rcases List.mem_cons.mp hy with rfl | hy
      · exact h1
      · exact h2 y hy
def dMaxL : List D → Option D := oneL fun es => ((D.ints es).bind maxI).map D.int
def dMinL : List D → Option D := oneL fun es => ((D.ints es).bind minI).map D.int
theorem bind_some {α β : Type} {f : α → Option β} {o : Option α} {b : β} (h : o.bind f = some b) : ∃ a, o = some a ∧ f a = some b := by
  cases o with
  | none => cases h
  | some a => exact ⟨a, rfl, h⟩
theorem cb_maxL (hc : X.calm = true) : GCb X (.builtin "max") dMaxL := by
  refine ⟨_, cr_max hc, fun F μ S H xs ds d Q rel rx e k => ?_⟩
  obtain ⟨ad, vs, es, rfl, hq, r, e⟩ := oneL_ok rx e
  obtain ⟨m, e0, rfl⟩ := map_some e
  obtain ⟨ns, e1, em⟩ := bind_some e0
  have e2 := ints_eq e1
  subst e2
  have e3 := r.ints
  subst e3
  obtain ⟨h0, h1, h2⟩ := maxI_ok em
  refine ⟨ad, ns, rfl, rel.sql hq, h0, fun m' hm' hle => ?_⟩
  have : m' = m := Int.le_antisymm (h2 m' hm') (hle m h1)
  rw [this]
  exact k _ F H Ext.refl rel (.int _)
theorem cb_minL (hc : X.calm = true) : GCb X (.builtin "min") dMinL := by
  refine ⟨_, cr_min hc, fun F μ S H xs ds d Q rel rx e k => ?_⟩
  obtain ⟨ad, vs, es, rfl, hq, r, e⟩ := oneL_ok rx e
  obtain ⟨m, e0, rfl⟩ := map_some e
  obtain ⟨ns, e1, em⟩ := bind_some e0
  have e2 := ints_eq e1
  subst e2
  have e3 := r.ints
  subst e3
  obtain ⟨h0, h1, h2⟩ := minI_ok em
  refine ⟨ad, ns, rfl, rel.sql hq, h0, fun m' hm' hle => ?_⟩
  have : m' = m := Int.le_antisymm (hle m h1) (h2 m' hm')
  rw [this]
  exact k _ F H Ext.refl rel (.int _)
/-! ### list(..), tuple(..) of a list or a tuple -/
def dMkL : List D → Option D | [x] => (dSq x).map .lst | _ => none
def dMkT : List D → Option D | [.ktp es] => some (.ktp es) | [x] => (dSq x).map .tup | _ => none
theorem cb_list : GCb X (.type "list") dMkL := by
  refine ⟨_, call_list_of, fun F μ S H xs ds d Q rel rx e k => ?_⟩
  match ds, rx with
  | [x], .cons h .nil =>
    obtain ⟨es, e1, rfl⟩ := map_some (show (dSq x).map .lst = some d from e)
    obtain ⟨a, vs, rfl, hq, r⟩ := h.seq rel e1
    refine ⟨a, vs, rfl, hq, fun l hl => ?_⟩
    obtain ⟨rl, xl, sF⟩ := rel.frozen (o := .lst vs) hl
    exact k _ _ _ xl rl (.lst upd_same (r.mono sF (List.prefix_refl _)))
  | [], _ => cases e
  | _ :: _ :: _, _ => cases e
theorem cb_tuple : GCb X (.type "tuple") dMkT := by
  refine ⟨_, call_tuple_of, fun F μ S H xs ds d Q rel rx e k => ?_⟩
  match ds, rx with
  | [.tup es], .cons (.tup h r) .nil =>
    cases e
    exact ⟨_, _, rfl, .inr ⟨rel.sqt (SqT.of h), k _ F H Ext.refl rel (.tup h r)⟩⟩
  | [.ktp es], .cons (.ktp h r) .nil =>
    cases e
    exact ⟨_, _, rfl, .inr ⟨rel.sqt h, k _ F H Ext.refl rel (.ktp h r)⟩⟩
  | [.lst es], .cons (.lst h r) .nil =>
    cases e
    refine ⟨_, _, rfl, .inl ⟨rel.sql (SqL.of h), fun l hl => ?_⟩⟩
    obtain ⟨rl, xl, sF⟩ := rel.frozen (o := .tup _) hl
    exact k _ _ _ xl rl (.tup upd_same (r.mono sF (List.prefix_refl _)))
  | [.fix es], .cons (.fix h r) .nil =>
    cases e
    refine ⟨_, _, rfl, .inl ⟨rel.sql h, fun l hl => ?_⟩⟩
    obtain ⟨rl, xl, sF⟩ := rel.frozen (o := .tup _) hl
    exact k _ _ _ xl rl (.tup upd_same (r.mono sF (List.prefix_refl _)))
  | [], _ => cases e
  | _ :: _ :: _, _ => simp [dMkT] at e
end
end Sm
set_option Elab.async false
set_option linter.all false
set_option maxRecDepth 100000
namespace Sm
open PySem PySem.Spec L2

section
variable {X : Cx} {W : WX} {c : Cfg}
/-! ## things that change -/
theorem RM.mono {F F' H : Hp} {μ μ' : List Addr} {a : Addr} {m : MO} (q : RM c F μ H a m) (s : Sub F F') (p : μ <+: μ') : RM c F' μ' H a m := by
  cases m with
  | dead => trivial
  | lst ds => obtain ⟨vs, h, r⟩ := q; exact ⟨vs, h, r.mono s p⟩
  | dic ks ds => obtain ⟨kvs, h, hk, r⟩ := q; exact ⟨kvs, h, hk, r.mono s p⟩
  | dtp ks ds => obtain ⟨kvs, h, hk, r⟩ := q; exact ⟨kvs, h, hk, r.mono s p⟩
  | ins C ns ds => obtain ⟨cl, dx, fs, hc, h, hx, hn, r⟩ := q; exact ⟨cl, dx, fs, hc, h, hx, hn, r.mono s p⟩
  | tab q1 q2 => exact q
theorem RM.heap {F H H' : Hp} {μ : List Addr} {a : Addr} {m : MO} (q : RM c F μ H a m) (h1 : H' a = H a) (h2 : ∀ dx b, H dx = some (.own b) → H' dx = some (.own b)) (h3 : ∀ b k, H b = some (.ext k) → H' b = some (.ext k)) : RM c F μ H' a m := by
  cases m with
  | dead => trivial
  | lst ds => obtain ⟨vs, h, r⟩ := q; exact ⟨vs, h1.trans h, r⟩
  | dic ks ds => obtain ⟨kvs, h, hk, r⟩ := q; exact ⟨kvs, h1.trans h, hk, r⟩
  | dtp ks ds => obtain ⟨kvs, h, hk, r⟩ := q; exact ⟨kvs, h1.trans h, hk, r⟩
  | ins C ns ds => obtain ⟨cl, dx, fs, hc, h, hx, hn, r⟩ := q; exact ⟨cl, dx, fs, hc, h1.trans h, h2 _ _ hx, hn, r⟩
  | tab q1 q2 => exact ⟨q.1, q.2.keep (q.1 ▸ h1) h3⟩
theorem nodup_at {α : Type} : ∀ {l : List α} {i j : Nat} {a : α}, l.Nodup → l[i]? = some a → l[j]? = some a → i = j
  | [], i, _, _, _, h, _ => by simp at h
  | b :: l, 0, 0, _, _, _, _ => rfl
  | b :: l, 0, j + 1, a, nd, h1, h2 => by
    have e : b = a := by simpa using h1
    have m : a ∈ l := List.mem_of_getElem? (i := j) (by simpa using h2)
    exact absurd (e ▸ m) (List.nodup_cons.mp nd).1
  | b :: l, i + 1, 0, a, nd, h1, h2 => by
    have e : b = a := by simpa using h2
    have m : a ∈ l := List.mem_of_getElem? (i := i) (by simpa using h1)
    exact absurd (e ▸ m) (List.nodup_cons.mp nd).1
  | b :: l, i + 1, j + 1, a, nd, h1, h2 => by
    rw [nodup_at (l := l) (i := i) (j := j) (a := a) (List.nodup_cons.mp nd).2 (by simpa using h1) (by simpa using h2)]
/-- the n-th thing is written -/
theorem Rel.write {F H : Hp} {μ : List Addr} {S : Sto} {n : Nat} {a : Addr} {m m' : MO} {o o' : HO} (rel : Rel c F μ S H) (hn : μ[n]? = some a) (hs : S[n]? = some m) (hm : m ≠ .dead) (ho : H a = some o) (hno : ∀ b, o ≠ .own b) (new : RM c F μ (upd H a o') a m') (hno' : ∀ b, o' ≠ .own b := by simp) (hxt : ∀ k, o ≠ .ext k := by exact fun _ z => by cases z) :
    Rel c F μ (S.set n m') (upd H a o') ∧ Ext F μ H F μ (upd H a o') := by
  have fa := rel.free n a m hn hs hm
  have ha : a ∈ μ := List.mem_of_getElem? hn
  refine ⟨⟨fun b u h => ?_, by simp [rel.len], rel.nd, fun k b x e1 e2 e3 => ?_, fun b hb => ?_, fun k b x e1 e2 => ?_⟩, ⟨Sub.refl _, List.prefix_refl _, fun b u h nb => ⟨?_, fun _ => id⟩, fun b hb => .inl hb⟩⟩
  · have hb : b ≠ a := fun z => by rw [z, fa] at h; cases h
    rw [upd_ne hb]; exact rel.frz b u h
  · by_cases hk : n = k
    · subst hk
      rw [hn] at e1; cases e1
      exact fa
    · rw [List.getElem?_set_ne hk] at e2
      exact rel.free k b x e1 e2 e3
  · by_cases hb' : b = a
    · rw [hb']; exact ⟨_, upd_same, hno'⟩
    · rw [upd_ne hb']; exact rel.known b hb
  · by_cases hk : n = k
    · subst hk
      rw [hn] at e1; cases e1
      have hlt : n < S.length := (List.getElem?_eq_some_iff.mp hs).1
      rw [List.getElem?_set_self hlt] at e2
      cases e2
      exact new
    · rw [List.getElem?_set_ne hk] at e2
      have hb : b ≠ a := fun z => by
        exact hk (nodup_at rel.nd hn (z ▸ e1))
      exact (rel.at_ k b x e1 e2).heap (upd_ne hb) (fun dx y h => by
        rw [upd_ne (fun z => by rw [z, ho] at h; exact hno _ (Option.some.inj h))]; exact h) fun b k h => by
        rw [upd_ne (fun z => by rw [z, ho] at h; exact hxt _ (Option.some.inj h))]; exact h
  · rw [upd_ne (fun z => nb (by rw [z]; exact ha))]; exact h
/-- a new thing that may change -/
theorem Rel.newH {F H : Hp} {μ : List Addr} {S : Sto} {p : Addr} {o : HO} {m : MO} (rel : Rel c F μ S H) (hp : H p = none) (new : RM c F (μ ++ [p]) (upd H p o) p m) (hno : ∀ b, o ≠ .own b := by simp) :
    Rel c F (μ ++ [p]) (S ++ [m]) (upd H p o) ∧ Ext F μ H F (μ ++ [p]) (upd H p o) ∧ (μ ++ [p])[S.length]? = some p := by
  obtain ⟨rl, fp, nm⟩ := rel.beside (u := o) hp
  have sH : Sub H (upd H p o) := Sub.new hp
  have hl := rel.len
  have last : (μ ++ [p])[S.length]? = some p := by rw [← hl]; simp
  refine ⟨⟨rl.frz, by simp [hl], ?_, fun n a x e1 e2 e3 => ?_, fun a ha => ?_, fun n a x e1 e2 => ?_⟩, ⟨Sub.refl _, List.prefix_append _ _, fun b u h nb => ⟨sH _ _ h, fun _ => id⟩, fun b hb => ?_⟩, last⟩
  · rw [List.nodup_append]
    exact ⟨rel.nd, by simp, fun a ha b hb => by
      have : b = p := by simpa using hb
      rintro rfl
      exact nm (this ▸ ha)⟩
  · by_cases hn : n < μ.length
    · rw [List.getElem?_append_left hn] at e1
      rw [List.getElem?_append_left (by omega)] at e2
      exact rel.free n a x e1 e2 e3
    · have h1 := (List.getElem?_eq_some_iff.mp e1).1
      simp at h1
      have : n = S.length := by omega
      subst this
      rw [last] at e1; cases e1
      exact fp
  · rcases List.mem_append.mp ha with h | h
    · obtain ⟨u, hu, hn⟩ := rel.known a h; exact ⟨u, sH _ _ hu, hn⟩
    · have : a = p := by simpa using h
      rw [this]; exact ⟨_, upd_same, hno⟩
  · by_cases hn : n < μ.length
    · rw [List.getElem?_append_left hn] at e1
      rw [List.getElem?_append_left (by omega)] at e2
      exact (rl.at_ n a x e1 e2).mono (Sub.refl _) (List.prefix_append _ _)
    · have h1 := (List.getElem?_eq_some_iff.mp e1).1
      simp at h1
      have : n = S.length := by omega
      subst this
      rw [last] at e1; cases e1
      have e3 : (S ++ [m])[S.length]? = some m := by simp
      rw [e3] at e2; cases e2
      exact new
  · rcases List.mem_append.mp hb with h | h
    · exact .inl h
    · have : b = p := by simpa using h
      exact .inr (this ▸ hp)
/-- a list that may change -/
def eLstH (a : AV) : EV := fun env S => (a env S).bind fun ds S1 => if ds.length ≤ 16777216 then .ok (.hnd S1.length) (S1 ++ [.lst ds]) else .bad
theorem ge_lstH {es : List Expr} {av : AV} {pos : Pos} (h : GA X W es av) : GE X W (.List es pos) (eLstH av) := by
  obtain ⟨_, p, s⟩ := h
  refine ⟨_, pe_lst p, Sm.bind (kt := fun (xs : List V) σ H1 (Q : VK) => xs.length ≤ sizeLine ∧ ∀ p, H1 p = none → Q (.ref p) (upd H1 p (.lst xs))) (ke := fun (ds : List D) env S1 => if ds.length ≤ 16777216 then (.ok (.hnd S1.length) (S1 ++ [.lst ds]) : Res D) else .bad) s fun F1 μ1 xs ds s1 p1 r1 => ?_⟩
  intro σ env F μ S H Q s p eR rel want
  change Want _ _ _ _ _ _ _ _ (if ds.length ≤ 16777216 then (.ok (.hnd S.length) (S ++ [.lst ds]) : Res D) else .bad) at want
  split at want
  · rename_i hl
    refine ⟨by rw [r1.length]; exact le_line hl, fun q hq => ?_⟩
    obtain ⟨rl, xl, last⟩ := rel.newH (o := .lst xs) (m := .lst ds) hq ⟨xs, upd_same, r1.mono s (p.trans (List.prefix_append _ _))⟩
    exact want (.ref q) _ _ _ xl rl (.hnd last)
  · exact want.elim
/-- it changes no more -/
def frzM (n : Nat) (S : Sto) : Res D := match S[n]? with
  | some (.lst ds) => .ok (.lst ds) (S.set n .dead)
  | some (.dic ks ds) => .ok (.dic ks ds) (S.set n .dead)
  | some (.dtp ks ds) => .ok (.dtp ks ds) (S.set n .dead)
  | _ => .bad
def frzD (d : D) (S : Sto) : Res D := match d with | .hnd n => frzM n S | _ => .bad
def eFrz (e : EV) : EV := fun env S => (e env S).bind frzD
theorem Rel.stay {F H : Hp} {μ : List Addr} {S : Sto} {n : Nat} {a : Addr} {m : MO} {o : HO} (rel : Rel c F μ S H) (hn : μ[n]? = some a) (hs : S[n]? = some m) (hm : m ≠ .dead) (ho : H a = some o) (hno : ∀ b, o ≠ .own b) :
    Rel c (upd F a o) μ (S.set n .dead) H ∧ Ext F μ H (upd F a o) μ H ∧ Sub F (upd F a o) := by
  have fa := rel.free n a m hn hs hm
  have ha : a ∈ μ := List.mem_of_getElem? hn
  have sF : Sub F (upd F a o) := Sub.new fa
  have neq : ∀ k b, n ≠ k → μ[k]? = some b → b ≠ a := fun k b hk e1 z => by
    exact hk (nodup_at rel.nd hn (z ▸ e1))
  refine ⟨⟨fun b u h => ?_, by simp [rel.len], rel.nd, fun k b x e1 e2 e3 => ?_, rel.known, fun k b x e1 e2 => ?_⟩, ⟨sF, List.prefix_refl _, fun b u h nb => ⟨h, fun _ q => ?_⟩, fun b hb => .inl hb⟩, sF⟩
  · by_cases hb : b = a
    · subst hb; rw [upd_same] at h; cases h; exact ho
    · rw [upd_ne hb] at h; exact rel.frz b u h
  · by_cases hk : n = k
    · subst hk
      have hlt : n < S.length := (List.getElem?_eq_some_iff.mp hs).1
      rw [List.getElem?_set_self hlt] at e2
      cases e2
      exact absurd rfl e3
    · rw [List.getElem?_set_ne hk] at e2
      rw [upd_ne (neq k b hk e1)]
      exact rel.free k b x e1 e2 e3
  · by_cases hk : n = k
    · subst hk
      have hlt : n < S.length := (List.getElem?_eq_some_iff.mp hs).1
      rw [List.getElem?_set_self hlt] at e2
      cases e2
      trivial
    · rw [List.getElem?_set_ne hk] at e2
      exact (rel.at_ k b x e1 e2).mono sF (List.prefix_refl _)
  · rw [upd_ne (fun z => nb (by rw [z]; exact ha))]; exact q
theorem RD.hnd_at {F H : Hp} {μ : List Addr} {v : V} {n : Nat} (r : RD c F μ v (.hnd n)) : ∃ a, v = .ref a ∧ μ[n]? = some a := by
  cases r with
  | hnd h => exact ⟨_, rfl, h⟩
theorem frz_ok {F H : Hp} {μ : List Addr} {S S' : Sto} {v : V} {d d' : D} (rel : Rel c F μ S H) (r1 : RD c F μ v d) (e : frzD d S = .ok d' S') : ∃ F', Ext F μ H F' μ H ∧ Rel c F' μ S' H ∧ RD c F' μ v d' := by
  cases d with
  | hnd n =>
    obtain ⟨a, rfl, hn⟩ := RD.hnd_at (H := H) r1
    change frzM n S = _ at e
    unfold frzM at e
    cases hs : S[n]? with
    | none => rw [hs] at e; cases e
    | some m =>
      rw [hs] at e
      have q := rel.at_ n a m hn hs
      cases m with
      | dead => cases e
      | tab _ _ => cases e
      | ins _ _ _ => cases e
      | lst ds =>
        cases e
        obtain ⟨vs, ho, r⟩ := q
        obtain ⟨rl, xl, sF⟩ := rel.stay hn hs (by simp) ho (by simp)
        exact ⟨_, xl, rl, .lst upd_same (r.mono sF (List.prefix_refl _))⟩
      | dic ks ds =>
        cases e
        obtain ⟨kvs, ho, rfl, r⟩ := q
        obtain ⟨rl, xl, sF⟩ := rel.stay hn hs (by simp) ho (by simp)
        exact ⟨_, xl, rl, .dic (.inl upd_same) (r.mono sF (List.prefix_refl _))⟩
      | dtp ks ds =>
        cases e
        obtain ⟨kvs, ho, rfl, r⟩ := q
        obtain ⟨rl, xl, sF⟩ := rel.stay hn hs (by simp) ho (by simp)
        exact ⟨_, xl, rl, .dtp (.inl upd_same) (r.mono sF (List.prefix_refl _))⟩
  | _ => cases e
theorem ge_frz {e : Expr} {ev : EV} (h : GE X W e ev) : GE X W e (eFrz ev) := by
  obtain ⟨t, p, s⟩ := h
  refine ⟨t, p, ?_⟩
  intro σ env F μ S H Q s0 p0 eR rel want
  refine s.go eR rel ?_
  change Want _ _ _ _ _ _ _ _ ((ev env S).bind _) at want
  cases h : ev env S with
  | bad => rw [h] at want; exact want
  | exc C ns ds S' => rw [h] at want; exact want
  | ok d S1 =>
    rw [h] at want
    intro v F1 μ1 H1 x1 rel1 r1
    have want1 : Want _ _ _ _ _ _ _ _ (frzD d S1) := Want.ext want x1
    cases q : frzD d S1 with
    | bad => rw [q] at want1; exact want1.elim
    | exc C ns ds S' =>
      cases d with
      | hnd n =>
        change frzM n S1 = _ at q
        unfold frzM at q
        split at q <;> cases q
      | _ => cases q
    | ok d' S' =>
      rw [q] at want1
      obtain ⟨F', x', rel', r'⟩ := frz_ok rel1 r1 q
      exact want1 v F' μ1 H1 x' rel' r'
/-- .. a name's thing, behind which the name holds it by value -/
def sFrz (i : Nat) : SV := fun env S => (eFrz (eV i) env S).bind fun d S1 => .ok (.nx (env.set i (some d))) S1
/-- a statement, behind it some names' things change no more -/
def sThen (a b : SV) : SV := sSeq a b
theorem sm_frz {i : Nat} : SmS c W tNext (sFrz i) := by
  intro E σ env F μ S H eR rel want
  change WantF c W E F μ H (((eV i env S).bind frzD).bind _) at want
  unfold eV at want
  cases h : env[i]? with
  | none => rw [h] at want; exact want.elim
  | some o =>
    rw [h] at want
    cases o with
    | none => exact want.elim
    | some d =>
      obtain ⟨v, hv, r1⟩ := eR.at_ i d h
      change WantF c W E F μ H ((frzD d S).bind _) at want
      cases q : frzD d S with
      | bad => rw [q] at want; exact want.elim
      | exc C ns ds S' =>
        cases d with
        | hnd n =>
          change frzM n S = _ at q
          unfold frzM at q
          split at q <;> cases q
        | _ => cases q
      | ok d' S' =>
        rw [q] at want
        obtain ⟨F', x', rel', r'⟩ := frz_ok rel r1 q
        have e := (eR.ext x').set i r'
        have e2 : σ.set i (some v) = σ := by
          obtain ⟨hlt, e1⟩ := List.getElem?_eq_some_iff.mp hv
          rw [← e1]; exact List.set_getElem_self hlt
        rw [e2] at e
        exact want σ _ _ _ x' rel' e
theorem gb_frz {sts : List Stmt} {b : SV} (i : Nat) (h : GB X W sts b) : GB X W sts (sSeq (sFrz i) b) := by
  obtain ⟨t, p, s⟩ := h
  refine ⟨t, p, fun E σ env F μ S H eR rel want => ?_⟩
  exact sm_seq (t := tNext) (u := t) sm_frz s E σ env F μ S H eR rel want
end
end Sm
set_option Elab.async false
set_option linter.all false
set_option maxRecDepth 100000
namespace Sm
open PySem PySem.Spec L2

section
variable {X : Cx} {W : WX} {c : Cfg}
/-! ## methods of built-in types -/
abbrev MV := D → List D → Sto → Res D
def MtSm (c : Cfg) (r : V → List V → Hp → VK → Prop) (f : MV) : Prop := ∀ F μ S H x dx xs ds (Q : VK), Rel c F μ S H → RD c F μ x dx → RDs c F μ xs ds → Want c W0 (rE c) [] F μ H Q (f dx ds S) → r x xs H Q
/-- the receiver is of the built-in type T -/
def isTy (T : String) (d : D) (S : Sto) : Bool := match d with
  | .str _ => T == "str"
  | .lst _ => T == "list"
  | .hnd n => match S[n]? with
    | some (.lst _) => T == "list"
    | some (.dic _ _) => T == "dict"
    | some (.dtp _ _) => T == "dict"
    | _ => false
  | _ => false
theorem isTy_ok {F H : Hp} {μ : List Addr} {S : Sto} {x : V} {d : D} {T : String} (rel : Rel c F μ S H) (r : RD c F μ x d) (e : isTy T d S = true) : tyV c.K T x H := by
  cases r with
  | str s => exact (by simpa [isTy] using e : T = "str")
  | lst h r => exact .inl ⟨by simpa [isTy] using e, _, rel.sql (SqL.of h)⟩
  | hnd h =>
    rename_i a n
    change (match S[n]? with | some (MO.lst _) => T == "list" | some (MO.dic _ _) => T == "dict" | some (MO.dtp _ _) => T == "dict" | _ => false) = true at e
    cases hs : S[n]? with
    | none => rw [hs] at e; cases e
    | some m =>
      rw [hs] at e
      have q := rel.at_ n a m h hs
      cases m with
      | lst ds => obtain ⟨vs, ho, _⟩ := q; exact .inl ⟨by simpa using e, vs, SqL.of ho⟩
      | dic ks ds => obtain ⟨kvs, ho, _⟩ := q; exact .inr (.inr (.inl ⟨by simpa using e, .inl ⟨kvs, ho⟩⟩))
      | dtp ks ds => obtain ⟨kvs, ho, _⟩ := q; exact .inr (.inr (.inl ⟨by simpa using e, .inr ⟨kvs, ho⟩⟩))
      | _ => cases e
  | _ => cases e
def eBm (T : String) (f : MV) (o : EV) (a : AV) : EV := fun env S => (o env S).bind fun x S1 => if isTy T x S1 = true then (a env S1).bind fun ds S2 => noX (f x ds S2) else .bad
def eBm0 (T : String) (f : MV) (o : EV) : EV := fun env S => (o env S).bind fun x S1 => if isTy T x S1 = true then noX (f x [] S1) else .bad
theorem ge_bm {T id : String} {name : Str} {o e : Expr} {es : List Expr} {apos cpos : Pos} {r : V → List V → Hp → VK → Prop} {f : MV} {eo : EV} {av : AV} (pa : PlainAttrs T) (slot : Slot T name id) (hty : typeOf (.builtin id) = pure (.type "method_descriptor")) (hm : MtR X id r) (hs : MtSm (cf X) r f)
    (ho : GE X W o eo) (ha : GA X W (e :: es) av) (hbase : attributeBase o name X.env (eval o X.env) = eval o X.env := by rfl)
    (hfew : ((backTo cpos (starEach (e :: es) X.env)).all (fun x => !x.1) && (backToKw cpos (keywordEach [] X.env)).all (fun x => x.1.isSome) && decide ((e :: es).length + ([] : List Keyword).length + (if ([] : List Keyword).isEmpty then 0 else 1) < 30)) = true := by rfl)
    (hline : (apos.endLine == cpos.line) = true := by rfl) (hst : starEach (e :: es) X.env = (false, eval e X.env) :: starEach es X.env := by rfl) (hplain : (backTo cpos (starEach es X.env)).any (·.1) = false := by rfl) :
    GE X W (.Call (.Attribute o name apos) (e :: es) [] cpos) (eBm T f eo av) := by
  obtain ⟨to, po, so⟩ := ho
  obtain ⟨ta, pta, sa⟩ := ha
  refine ⟨_, pe_bm pa slot hty hm po pta hbase hfew hline hst hplain, ?_⟩
  refine Sm.bind (kt := fun x σ H1 (Q : VK) => tyV X.K T x H1 ∧ ta σ H1 fun xs H2 => r x xs H2 Q) (ke := fun x env S1 => if isTy T x S1 = true then (av env S1).bind fun ds S2 => noX (f x ds S2) else .bad) so fun F1 μ1 x dx s1 p1 r1 => ?_
  intro σ env F μ S H Q s p eR rel want
  dsimp only at want
  split at want
  · rename_i hT
    refine ⟨isTy_ok rel (r1.mono s p) hT, ?_⟩
    refine Sm.bind (c := cf X) (W := W) (R := rA (cf X)) (T := rE (cf X)) (kt := fun xs σ H2 (Q : VK) => r x xs H2 Q) (ke := fun ds env S2 => noX (f dx ds S2)) (sa.weaken (F1 := F1) (μ1 := μ1) (fun _ _ h => nomatch h) List.nil_prefix) (fun F2 μ2 xs ds s2 p2 r2 => ?_) σ env F μ S H Q s p eR rel want
    intro σ' env' F' μ' S' H' Q' s' p' eR' rel' want'
    exact hs F' μ' S' H' x dx xs ds Q' rel' (r1.mono (s2.trans s') (p2.trans p')) (r2.mono s' p') want'.noX
  · exact want.elim
theorem ge_bm0 {T id : String} {name : Str} {o : Expr} {apos cpos : Pos} {r : V → List V → Hp → VK → Prop} {f : MV} {eo : EV} (pa : PlainAttrs T) (slot : Slot T name id) (hty : typeOf (.builtin id) = pure (.type "method_descriptor")) (hm : MtR X id r) (hs : MtSm (cf X) r f)
    (ho : GE X W o eo) (hbase : attributeBase o name X.env (eval o X.env) = eval o X.env := by rfl) (hline : (apos.endLine == cpos.line) = true := by rfl) :
    GE X W (.Call (.Attribute o name apos) [] [] cpos) (eBm0 T f eo) := by
  obtain ⟨to, po, so⟩ := ho
  refine ⟨_, pe_bm0 pa slot hty hm po hbase hline, ?_⟩
  refine Sm.bind (kt := fun x σ H1 (Q : VK) => tyV X.K T x H1 ∧ r x [] H1 Q) (ke := fun x env S1 => if isTy T x S1 = true then noX (f x [] S1) else .bad) so fun F1 μ1 x dx s1 p1 r1 => ?_
  intro σ env F μ S H Q s p eR rel want
  dsimp only at want
  split at want
  · rename_i hT
    exact ⟨isTy_ok rel (r1.mono s p) hT, hs F μ S H x dx [] [] Q rel (r1.mono s p) .nil want.noX⟩
  · exact want.elim
/-- on a list that may change: from its items to the answer and its new items -/
def mLst (f : List D → List D → Option (D × List D)) : MV := fun x ds S => match x with
  | .hnd n => match S[n]? with
    | some (.lst es) => match f es ds with
      | some (d, es') => .ok d (S.set n (.lst es'))
      | none => .bad
    | _ => .bad
  | _ => .bad
theorem mt_lst {r : V → List V → Hp → VK → Prop} {f : List D → List D → Option (D × List D)}
    (h : ∀ F μ H a vs es xs ds d es' (Q : VK), H a = some (.lst vs) → RDs c F μ vs es → RDs c F μ xs ds → f es ds = some (d, es') → (∀ v vs', RD c F μ v d → RDs c F μ vs' es' → Q v (upd H a (.lst vs'))) → r (.ref a) xs H Q) : MtSm c r (mLst f) := by
  intro F μ S H x dx xs ds Q rel rx rxs want
  cases dx with
  | hnd n =>
    obtain ⟨a, rfl, hn⟩ := RD.hnd_at (H := H) rx
    change Want _ _ _ _ _ _ _ _ (match S[n]? with
      | some (MO.lst es) => (match f es ds with | some (d, es') => (.ok d (S.set n (.lst es')) : Res D) | none => .bad)
      | _ => .bad) at want
    cases hs : S[n]? with
    | none => rw [hs] at want; exact want.elim
    | some m =>
      rw [hs] at want
      have q := rel.at_ n a m hn hs
      cases m with
      | lst es =>
        obtain ⟨vs, ho, r1⟩ := q
        change Want _ _ _ _ _ _ _ _ (match f es ds with | some (d, es') => (.ok d (S.set n (.lst es')) : Res D) | none => .bad) at want
        cases e : f es ds with
        | none => rw [e] at want; exact want.elim
        | some y =>
          obtain ⟨d, es'⟩ := y
          rw [e] at want
          refine h F μ H a vs es xs ds d es' Q ho r1 rxs e fun v vs' rv rvs => ?_
          obtain ⟨rl, xl⟩ := rel.write (o' := .lst vs') (m' := .lst es') hn hs (by simp) ho (by simp) ⟨vs', upd_same, rvs⟩
          exact want v _ _ _ xl rl rv
      | _ => exact want.elim
  | _ => exact want.elim
def lApp : List D → List D → Option (D × List D) | es, [y] => if es.length < 16777216 then some (.non, es ++ [y]) else none | _, _ => none
def lPop : List D → List D → Option (D × List D) | es, [] => es.getLast?.map fun y => (y, es.dropLast) | _, _ => none
def lPopAt : List D → List D → Option (D × List D) | es, [.int i] => if -9223372036854775808 ≤ i ∧ i < 9223372036854775808 then (seqIndex? i es.length).bind fun k => (es[k]?).map fun y => (y, es.eraseIdx k) else none | _, _ => none
def lClear : List D → List D → Option (D × List D) | _, [] => some (.non, []) | _, _ => none
theorem RDs.eraseIdx {F : Hp} {μ : List Addr} : ∀ {vs : List V} {ds : List D} (i : Nat), RDs c F μ vs ds → RDs c F μ (vs.eraseIdx i) (ds.eraseIdx i)
  | _, _, _, .nil => .nil
  | _, _, 0, .cons h r => r
  | _, _, i + 1, .cons h r => .cons h (RDs.eraseIdx i r)
theorem mm_append : MtSm c rAppend (mLst lApp) := mt_lst fun F μ H a vs es xs ds d es' Q ho r1 rxs e k => by
  match ds, rxs with
  | [y], .cons (v := v) hv .nil =>
    change (if _ then _ else none) = some (d, es') at e
    split at e
    · rename_i hl
      cases e
      exact ⟨a, vs, v, rfl, rfl, ho, by rw [r1.length, sizeLine_eq]; exact hl, k _ _ .non (r1.append (.cons hv .nil))⟩
    · cases e
  | [], _ => cases e
  | _ :: _ :: _, _ => cases e
theorem mm_popAt : MtSm c rPopAt (mLst lPopAt) := mt_lst fun F μ H a vs es xs ds d es' Q ho r1 rxs e k => by
  match ds, rxs with
  | [.int i], .cons (.int _) .nil =>
    change (if _ then _ else none) = some (d, es') at e
    split at e
    · rename_i hl
      obtain ⟨j, e1, e2⟩ := bind_some e
      obtain ⟨y, e3, e4⟩ := map_some e2
      cases e4
      obtain ⟨v, h1, h2⟩ := r1.get e3
      exact ⟨a, vs, i, j, v, rfl, rfl, ho, by omega, by omega, by rw [r1.length]; exact e1, h1, k _ _ h2 (r1.eraseIdx j)⟩
    · cases e
theorem mm_clear : MtSm c rClear (mLst lClear) := mt_lst fun F μ H a vs es xs ds d es' Q ho r1 rxs e k => by
  match ds, rxs with
  | [], .nil => cases e; exact ⟨a, vs, rfl, rfl, ho, k _ _ .non .nil⟩
  | _ :: _, _ => cases e
/-! ### reading a list that may change -/
def ixH : OV2 := fun x y S => match x, y with
  | .hnd n, .int i => match S[n]? with
    | some (.lst es) => optR (L2.atI es i) S
    | _ => .bad
  | _, _ => .bad
theorem gx_hnd : GIx X ixH := by
  refine ⟨_, ix_list, fun F μ S H x y dx dy Q rel rx ry want => ?_⟩
  cases rx with
  | hnd h =>
    rename_i a n
    cases ry with
    | int i =>
      change Want _ _ _ _ _ _ _ _ (match S[n]? with | some (MO.lst es) => (optR (L2.atI es i) S : Res D) | _ => .bad) at want
      cases hs : S[n]? with
      | none => rw [hs] at want; exact want.elim
      | some m =>
        rw [hs] at want
        have q := rel.at_ n a m h hs
        cases m with
        | lst es =>
          obtain ⟨vs, ho, r⟩ := q
          change Want _ _ _ _ _ _ _ _ (optR (L2.atI es i) S) at want
          cases e : L2.atI es i with
          | none => rw [e] at want; exact want.elim
          | some d =>
            rw [e] at want
            obtain ⟨v, h1, h2⟩ := r.atI e
            exact ⟨a, vs, i, v, rfl, rfl, SqL.of ho, h1, want v F μ H Ext.refl rel h2⟩
        | _ => exact want.elim
    | _ => exact want.elim
  | _ => cases dy <;> exact want.elim
/-- what a handle holds, for a look -/
def drf (S : Sto) : D → D
  | .hnd n => match S[n]? with | some (.lst es) => .lst es | _ => .hnd n
  | d => d
/-- a look at a handle: as if it were frozen (elsewhere), and what is told is flat -/
theorem Rel.look {F H : Hp} {μ : List Addr} {S : Sto} (rel : Rel c F μ S H) (d : D) : ∃ F' S', Sub F F' ∧ Rel c F' μ S' H ∧ ∀ v, RD c F μ v d → RD c F' μ v (drf S d) := by
  cases d with
  | hnd n =>
    cases hs : S[n]? with
    | none => exact ⟨F, S, Sub.refl _, rel, fun v h => by simpa [drf, hs] using h⟩
    | some m =>
      cases m with
      | lst es =>
        cases hn : μ[n]? with
        | none => exact ⟨F, S, Sub.refl _, rel, fun v h => by obtain ⟨a, _, h2⟩ := RD.hnd_at (H := H) h; rw [hn] at h2; cases h2⟩
        | some a =>
          obtain ⟨vs, ho, r⟩ := rel.at_ n a _ hn hs
          obtain ⟨rl, xl, sF⟩ := rel.stay hn hs (by simp) ho (by simp)
          refine ⟨_, _, sF, rl, fun v h => ?_⟩
          obtain ⟨a', rfl, h2⟩ := RD.hnd_at (H := H) h
          rw [hn] at h2; cases h2
          simp only [drf, hs]
          exact .lst upd_same (r.mono sF (List.prefix_refl _))
      | _ => exact ⟨F, S, Sub.refl _, rel, fun v h => by simpa [drf, hs] using h⟩
  | _ => exact ⟨F, S, Sub.refl _, rel, fun v h => h⟩
theorem flat_any {F F' : Hp} {μ μ' : List Addr} {v : V} {d : D} (r : RD c F μ v d) (h : flatD d = true) : RD c F' μ' v d := by
  cases r with
  | non => exact .non
  | bl b => exact .bl b
  | int i => exact .int i
  | str s => exact .str s
  | _ => cases h
/-- len of a list that may change -/
def lenH : List D → Sto → Res D := fun ds S => match ds with
  | [.hnd n] => match S[n]? with
    | some (.lst es) => .ok (.int es.length) S
    | _ => .bad
  | _ => .bad
theorem ar_lenH : ∃ r, CallR X (.builtin "len") r ∧ ArSm (cf X) r lenH := by
  refine ⟨_, call_len, fun F μ S H xs ds Q rel rx want => ?_⟩
  match ds, rx with
  | [.hnd n], .cons (.hnd (a := a) hn) .nil =>
    change Want _ _ _ _ _ _ _ _ (match S[n]? with | some (MO.lst es) => (.ok (.int es.length) S : Res D) | _ => .bad) at want
    cases hs : S[n]? with
    | none => rw [hs] at want; exact want.elim
    | some m =>
      rw [hs] at want
      have q := rel.at_ n a m hn hs
      cases m with
      | lst es =>
        obtain ⟨vs, ho, r⟩ := q
        exact ⟨.ref a, es.length, rfl, .inl ⟨vs, SqL.of ho, r.length.symm⟩, want _ F μ H Ext.refl rel (.int _)⟩
      | _ => exact want.elim
  | [], _ => exact want.elim
  | _ :: _ :: _, _ => simp only [lenH] at want; exact want.elim
  | [.non], _ | [.bl _], _ | [.int _], _ | [.str _], _ | [.ty _], _ | [.fn _], _ | [.tup _], _ | [.lst _], _ | [.fix _], _ | [.ktp _], _ | [.dic _ _], _ | [.dtp _ _], _ | [.obj _ _ _], _ => exact want.elim
end
end Sm
set_option Elab.async false
set_option linter.all false
set_option maxRecDepth 100000
namespace Sm
open PySem PySem.Spec L2

/-! ## dicts -/
section
variable {κ : Type} [DecidableEq κ] {c : Cfg} {F : Hp} {μ : List Addr}
def lookK : List κ → List D → κ → Option D
  | k :: ks, d :: ds, q => if k = q then some d else lookK ks ds q
  | _, _, _ => none
def hasK (ks : List κ) (q : κ) : Bool := ks.any fun k => decide (k = q)
def setK : List κ → List D → κ → D → List D
  | k :: ks, d :: ds, q, y => (if k = q then y else d) :: setK ks ds q y
  | _, _, _, _ => []
/-- keys and values behind d[q] = y -/
def putD (ks : List κ) (ds : List D) (q : κ) (y : D) : List κ × List D := if hasK ks q = true then (ks, setK ks ds q y) else (ks ++ [q], ds ++ [y])
def OptR (c : Cfg) (F : Hp) (μ : List Addr) (w : Option V) : Option D → Prop
  | some d => ∃ x, w = some x ∧ RD c F μ x d
  | none => w = none
theorem look_ok : ∀ {kvs : List (κ × V)} {ds : List D} {q : κ}, RDs c F μ (kvs.map (·.2)) ds → OptR c F μ (valV kvs q) (lookK (kvs.map (·.1)) ds q)
  | [], _, _, r => by cases r; rfl
  | (k, v) :: kvs, _, q, .cons (d := d) (ds := ds) h r => by
    by_cases e : k = q
    · simp only [List.map_cons, lookK, if_pos e]
      exact ⟨v, valV_pos e, h⟩
    · simp only [List.map_cons, lookK, if_neg e]
      have ih := look_ok (q := q) r
      rw [valV_neg (p := (k, v)) e]
      exact ih
theorem has_ok {kvs : List (κ × V)} {q : κ} : hasK (kvs.map (·.1)) q = (valV kvs q).isSome := by
  rw [← valV_any]
  simp [hasK, List.any_map, Function.comp_def]
theorem setK_ok {q : κ} {y : V} {dy : D} (ry : RD c F μ y dy) : ∀ {kvs : List (κ × V)} {ds : List D}, RDs c F μ (kvs.map (·.2)) ds → RDs c F μ ((kvs.map fun kv => if kv.1 = q then (kv.1, y) else kv).map (·.2)) (setK (kvs.map (·.1)) ds q dy)
  | [], _, r => by cases r; exact .nil
  | (k, v) :: kvs, _, .cons h r => by
    refine .cons ?_ (setK_ok ry r)
    show RD c F μ (if k = q then (k, y) else (k, v)).2 (if k = q then dy else _)
    split
    · exact ry
    · exact h
theorem putK_ok {kvs : List (κ × V)} {ds : List D} {q : κ} {y : V} {dy : D} (r : RDs c F μ (kvs.map (·.2)) ds) (ry : RD c F μ y dy) : (putK kvs q y).map (·.1) = (putD (kvs.map (·.1)) ds q dy).1 ∧ RDs c F μ ((putK kvs q y).map (·.2)) (putD (kvs.map (·.1)) ds q dy).2 := by
  have e : hasK (kvs.map (·.1)) q = kvs.any fun kv => decide (kv.1 = q) := by simp [hasK, List.any_map, Function.comp_def]
  unfold putK putD
  rw [e]
  split
  · refine ⟨?_, ?_⟩
    · rw [List.map_map]
      apply List.map_congr_left
      intro kv _
      show (if kv.1 = q then (kv.1, y) else kv).1 = kv.1
      split <;> rfl
    · exact setK_ok ry r
  · exact ⟨by simp, by simpa using r.append (.cons ry .nil)⟩
theorem putK_len {kvs : List (κ × V)} {q : κ} {y : V} : (putK kvs q y).length ≤ kvs.length + 1 := by
  unfold putK
  split <;> simp
end
/-- a key of a dict -/
def D.key : D → Option Key
  | .int i => some (.inl i)
  | .str x => some (.inr x)
  | _ => none
def Ds.keys : List D → Option (List Key)
  | [] => some []
  | d :: r => match D.key d, Ds.keys r with | some k, some ks => some (k :: ks) | _, _ => none
section
variable {X : Cx} {W : WX} {c : Cfg}
theorem key_ok {F : Hp} {μ : List Addr} {v : V} {d : D} {k : Key} (r : RD c F μ v d) (e : d.key = some k) : v = kV k := by
  cases r with
  | int i => cases e; rfl
  | str s => cases e; rfl
  | _ => cases e
theorem keys_ok {F : Hp} {μ : List Addr} : ∀ {vs : List V} {ds : List D} {ks : List Key}, RDs c F μ vs ds → Ds.keys ds = some ks → vs = ks.map kV
  | _, _, _, .nil, e => by cases e; rfl
  | _, _, _, .cons (d := d) (ds := ds) h r, e => by
    change (match D.key d, Ds.keys ds with | some k, some ks => some (k :: ks) | _, _ => none) = _ at e
    cases q1 : D.key d with
    | none => rw [q1] at e; cases e
    | some p =>
      cases q2 : Ds.keys ds with
      | none => rw [q1, q2] at e; cases e
      | some ps => rw [q1, q2] at e; cases e; rw [key_ok h q1, keys_ok r q2]; rfl
/-- a dict, by value or by its number: its keys and values -/
inductive DV where
  | k (ks : List Key) (ds : List D) | t (ks : List (List Key)) (ds : List D)
def dicOf (d : D) (S : Sto) : Option DV := match d with
  | .dic ks ds => some (.k ks ds)
  | .dtp ks ds => some (.t ks ds)
  | .hnd n => match S[n]? with
    | some (.dic ks ds) => some (.k ks ds)
    | some (.dtp ks ds) => some (.t ks ds)
    | _ => none
  | _ => none
/-- d[q], if q may be a key of d -/
def DV.get (dv : DV) (q : D) : Option (Option D) := match dv, q with
  | .k ks ds, q => (D.key q).map fun k => lookK ks ds k
  | .t ks ds, .tup qs => (Ds.keys qs).map fun k => lookK ks ds k
  | _, _ => none
theorem dic_rd {F H : Hp} {μ : List Addr} {S : Sto} {v : V} {d : D} {dv : DV} (rel : Rel c F μ S H) (r : RD c F μ v d) (e : dicOf d S = some dv) : ∃ a, v = .ref a ∧ match dv with
    | .k ks ds => ∃ kvs, Rd H a (.dK kvs) ∧ kvs.map (·.1) = ks ∧ RDs c F μ (kvs.map (·.2)) ds
    | .t ks ds => ∃ kvs, Rd H a (.dT kvs) ∧ kvs.map (·.1) = ks ∧ RDs c F μ (kvs.map (·.2)) ds := by
  cases r with
  | dic h r => cases e; exact ⟨_, rfl, _, rel.rd h, rfl, r⟩
  | dtp h r => cases e; exact ⟨_, rfl, _, rel.rd h, rfl, r⟩
  | hnd h =>
    rename_i a n
    change (match S[n]? with | some (MO.dic ks ds) => some (DV.k ks ds) | some (MO.dtp ks ds) => some (DV.t ks ds) | _ => none) = some dv at e
    cases hs : S[n]? with
    | none => rw [hs] at e; cases e
    | some m =>
      rw [hs] at e
      have q := rel.at_ n a m h hs
      cases m with
      | dic ks ds => cases e; obtain ⟨kvs, ho, hk, r⟩ := q; exact ⟨a, rfl, kvs, .inl ho, hk, r⟩
      | dtp ks ds => cases e; obtain ⟨kvs, ho, hk, r⟩ := q; exact ⟨a, rfl, kvs, .inl ho, hk, r⟩
      | _ => cases e
  | _ => cases e
theorem dget_ok {F H : Hp} {μ : List Addr} {S : Sto} {v y : V} {d q : D} {dv : DV} {o : Option D} (rel : Rel c F μ S H) (r : RD c F μ v d) (ry : RD c F μ y q) (e : dicOf d S = some dv) (e2 : dv.get q = some o) :
    ∃ a w, v = .ref a ∧ DGet H a y w ∧ OptR c F μ w o := by
  obtain ⟨a, rfl, h⟩ := dic_rd rel r e
  cases dv with
  | k ks ds =>
    obtain ⟨kvs, hr, rfl, r1⟩ := h
    obtain ⟨k, e3, rfl⟩ := map_some (show (D.key q).map _ = some o from e2)
    have hy := key_ok ry e3
    exact ⟨a, valV kvs k, rfl, .inl ⟨kvs, k, hr, hy, rfl⟩, look_ok (q := k) r1⟩
  | t ks ds =>
    obtain ⟨kvs, hr, rfl, r1⟩ := h
    cases ry with
    | tup ht rq =>
      obtain ⟨k, e3, rfl⟩ := map_some (show (Ds.keys _).map _ = some o from e2)
      have hy := keys_ok rq e3
      subst hy
      exact ⟨a, valV kvs k, rfl, .inr ⟨kvs, k, _, hr, rfl, rel.tup ht, rfl⟩, look_ok (q := k) r1⟩
    | _ => cases e2
def dGetS : OV2 := fun x q S => match dicOf x S with
  | some dv => match dv.get q with
    | some (some d) => .ok d S
    | _ => .bad
  | none => .bad
theorem ge_dget {o i : Expr} {pos : Pos} {eo ei : EV} {k : Nat} (hr : Room k X.A) (ho : GE X W o eo) (hi : GE X W i ei) (hs : NoSl i := by exact fun _ _ => rfl) : GE X W (.Subscript o i pos) (eOp dGetS eo ei) := by
  obtain ⟨to, po, so⟩ := ho
  obtain ⟨ti, pi, si⟩ := hi
  refine ⟨_, pe_dget (hu_of hr) po pi hs, ?_⟩
  refine sm_op (r := fun x y H Q => ∃ a v, x = .ref a ∧ DGet H a y (some v) ∧ Q v H) (fun F μ S H x y dx dy Q rel rx ry want => ?_) so si
  unfold dGetS at want
  cases e : dicOf dx S with
  | none => rw [e] at want; exact want.elim
  | some dv =>
    rw [e] at want
    cases e2 : dv.get dy with
    | none => simp only [e2] at want; exact want.elim
    | some w =>
      simp only [e2] at want
      obtain ⟨a, w', rfl, hg, h⟩ := dget_ok rel rx ry e e2
      cases w with
      | none => exact want.elim
      | some d =>
        obtain ⟨z, rfl, hz⟩ := h
        exact ⟨a, z, rfl, hg, want z F μ H Ext.refl rel hz⟩
def dInS (n : Bool) : OV2 := fun q x S => match dicOf x S with
  | some dv => match dv.get q with
    | some w => .ok (.bl (xor n w.isSome)) S
    | none => .bad
  | none => .bad
theorem din_go {F H : Hp} {μ : List Addr} {S : Sto} {x y : V} {dx dy : D} {n : Bool} {Q : VK} (rel : Rel c F μ S H) (ry : RD c F μ y dy) (rx : RD c F μ x dx) (want : Want c W0 (rE c) [] F μ H Q (dInS n dy dx S)) : ∃ a o, x = .ref a ∧ DGet H a y o ∧ Q (.bl (xor n o.isSome)) H := by
  unfold dInS at want
  cases e : dicOf dx S with
  | none => rw [e] at want; exact want.elim
  | some dv =>
    rw [e] at want
    cases e2 : dv.get dy with
    | none => simp only [e2] at want; exact want.elim
    | some w =>
      simp only [e2] at want
      obtain ⟨a, w', rfl, hg, h⟩ := dget_ok rel rx ry e e2
      refine ⟨a, w', rfl, hg, ?_⟩
      have es : w'.isSome = w.isSome := by
        cases w with
        | none => rw [show w' = none from h] <;> rfl
        | some d => obtain ⟨z, rfl, _⟩ := h; rfl
      rw [es]
      exact want _ F μ H Ext.refl rel (.bl _)
theorem ge_din {a b : Expr} {pos : Pos} {ea eb : EV} {k : Nat} (hr : Room k X.A) (ha : GE X W a ea) (hb : GE X W b eb) (hm : behindInMarks .In b = false := by rfl) : GE X W (.Compare a [.In] [b] pos) (eOp (dInS false) ea eb) := by
  obtain ⟨ta, pa, sa⟩ := ha
  obtain ⟨tb, pb, sb⟩ := hb
  refine ⟨_, pe_cmp (pc_din (hu_of hr) pa pb) hm, ?_⟩
  refine sm_op (r := fun y x H Q => ∃ a o, x = .ref a ∧ DGet H a y o ∧ Q (.bl o.isSome) H) (fun F μ S H x y dx dy Q rel rx ry want => ?_) sa sb
  have h := din_go rel rx ry want
  simpa using h
theorem ge_dnin {a b : Expr} {pos : Pos} {ea eb : EV} {k : Nat} (hr : Room k X.A) (ha : GE X W a ea) (hb : GE X W b eb) (hm : behindInMarks .NotIn b = false := by rfl) : GE X W (.Compare a [.NotIn] [b] pos) (eOp (dInS true) ea eb) := by
  obtain ⟨ta, pa, sa⟩ := ha
  obtain ⟨tb, pb, sb⟩ := hb
  refine ⟨_, pe_cmp (pc_dnotin (hu_of hr) pa pb) hm, ?_⟩
  refine sm_op (r := fun y x H Q => ∃ a o, x = .ref a ∧ DGet H a y o ∧ Q (.bl (!o.isSome)) H) (fun F μ S H x y dx dy Q rel rx ry want => ?_) sa sb
  have h := din_go rel rx ry want
  simpa using h
/-- what two readings of an expression are good for -/
theorem GE.or {e : Expr} {f g h : EV} (h1 : GE X W e f) (h2 : GE X W e g) (hh : ∀ env S, h env S = f env S ∨ h env S = g env S ∨ h env S = .bad) : GE X W e h := by
  obtain ⟨t1, p1, s1⟩ := h1
  obtain ⟨t2, p2, s2⟩ := h2
  refine ⟨fun σ H Q => t1 σ H Q ∨ t2 σ H Q, ⟨fun pins s σ H Q I x => x.elim (p1.run pins s σ H Q I) (p2.run pins s σ H Q I)⟩, ?_⟩
  intro σ env F μ S H Q s p eR rel want
  rcases hh env S with e | e | e
  · rw [e] at want; exact .inl (s1 σ env F μ S H Q s p eR rel want)
  · rw [e] at want; exact .inr (s2 σ env F μ S H Q s p eR rel want)
  · rw [e] at want; exact want.elim
/-- an operator by two rules: the first where it gives something -/
def altO (f g : OV2) : OV2 := fun x y S => match f x y S with | .ok d S' => .ok d S' | _ => g x y S
theorem GE.alt {e : Expr} {f g : OV2} {a b : EV} (h1 : GE X W e (eOp f a b)) (h2 : GE X W e (eOp g a b)) : GE X W e (eOp (altO f g) a b) := by
  refine h1.or h2 fun env S => ?_
  unfold eOp
  cases ha : a env S with
  | bad => exact .inl rfl
  | exc C ns ds S' => exact .inl rfl
  | ok x S1 =>
    simp only [Res.bind_ok]
    cases hb : b env S1 with
    | bad => exact .inl rfl
    | exc C ns ds S' => exact .inl rfl
    | ok y S2 =>
      simp only [Res.bind_ok, altO]
      cases f x y S2 with
      | ok d S' => exact .inl rfl
      | _ => exact .inr (.inl rfl)
/-! ### d[q] = y -/
def dPutS (x q y : D) (S : Sto) : Option Sto := match x with
  | .hnd n => match S[n]? with
    | some (.dic ks ds) => (D.key q).bind fun k => if ks.length < 16777216 then some (S.set n (.dic (putD ks ds k y).1 (putD ks ds k y).2)) else none
    | some (.dtp ks ds) => match q with
      | .tup qs => (Ds.keys qs).bind fun k => if ks.length < 16777216 then some (S.set n (.dtp (putD ks ds k y).1 (putD ks ds k y).2)) else none
      | _ => none
    | _ => none
  | _ => none
theorem dput_ok {F H : Hp} {μ : List Addr} {S S' : Sto} {x q y : V} {dx dq dy : D} (rel : Rel c F μ S H) (rx : RD c F μ x dx) (rq : RD c F μ q dq) (ry : RD c F μ y dy) (e : dPutS dx dq dy S = some S') :
    ∃ a H', x = .ref a ∧ DPut H a q y H' ∧ Rel c F μ S' H' ∧ Ext F μ H F μ H' := by
  cases dx with
  | hnd n =>
    obtain ⟨a, rfl, hn⟩ := RD.hnd_at (H := H) rx
    simp only [dPutS] at e
    cases hs : S[n]? with
    | none => rw [hs] at e; cases e
    | some m =>
      rw [hs] at e
      have z := rel.at_ n a m hn hs
      cases m with
      | dic ks ds =>
        obtain ⟨kvs, ho, rfl, r⟩ := z
        obtain ⟨k, e1, e2⟩ := bind_some (show (D.key dq).bind _ = some S' from e)
        split at e2
        · rename_i hl
          cases e2
          have hk := key_ok rq e1
          subst hk
          obtain ⟨g1, g2⟩ := putK_ok (q := k) r ry
          obtain ⟨rl, xl⟩ := rel.write (o' := .dK (putK kvs k y)) (m' := .dic (putD (kvs.map (·.1)) ds k dy).1 (putD (kvs.map (·.1)) ds k dy).2) hn hs (by simp) ho (by simp) ⟨_, upd_same, g1, g2⟩
          exact ⟨a, _, rfl, DPut.k ho (by rw [sizeLine_eq]; simpa using hl), rl, xl⟩
        · cases e2
      | dtp ks ds =>
        obtain ⟨kvs, ho, rfl, r⟩ := z
        cases rq with
        | tup ht rq =>
          obtain ⟨k, e1, e2⟩ := bind_some (show (Ds.keys _).bind _ = some S' from e)
          split at e2
          · rename_i hl
            cases e2
            have hk := keys_ok rq e1
            subst hk
            obtain ⟨g1, g2⟩ := putK_ok (q := k) r ry
            obtain ⟨rl, xl⟩ := rel.write (o' := .dT (putK kvs k y)) (m' := .dtp (putD (kvs.map (·.1)) ds k dy).1 (putD (kvs.map (·.1)) ds k dy).2) hn hs (by simp) ho (by simp) ⟨_, upd_same, g1, g2⟩
            exact ⟨a, _, rfl, DPut.t ho (rel.tup ht) (by rw [sizeLine_eq]; simpa using hl), rl, xl⟩
          · cases e2
        | _ => cases e
      | _ => cases e
  | _ => cases e
/-- list or dict: o[i] = v -/
def lPutS (x q y : D) (S : Sto) : Option Sto := match x, q with
  | .hnd n, .int i => match S[n]? with
    | some (.lst es) => (ixN es.length i).map fun j => S.set n (.lst (es.set j y))
    | _ => none
  | _, _ => none
def sPut (f : D → D → D → Sto → Option Sto) (eo ei ev : EV) : SV := fun env S => (ev env S).bind fun y S1 => (eo env S1).bind fun x S2 => (ei env S2).bind fun q S3 => match f x q y S3 with
  | some S4 => .ok (.nx env) S4
  | none => .bad
theorem WantF.bindE {α β : Type} {R : RR β α} {E : Ends} {F H : Hp} {μ : List Addr} {σ : L2.St} {r : Res α} {k : α → Sto → Res Flow} (w : WantF c W E F μ H (r.bind k)) {Q : β → Hp → Prop} (h : ∀ a S1, r = .ok a S1 → ∀ b F1 μ1 H1, Ext F μ H F1 μ1 H1 → Rel c F1 μ1 S1 H1 → R F1 μ1 b a → Q b H1) : Want c W R σ F μ H Q r := by
  cases r with
  | bad => exact w
  | exc C ns ds S' => exact w σ
  | ok a S1 => exact fun b F1 μ1 H1 x rel r => h a S1 rfl b F1 μ1 H1 x rel r
theorem gs_dput {o i v : Expr} {pos pos' : Pos} {eo ei ev : EV} {k : Nat} (hr : Room k X.A) (ho : GE X W o eo) (hi : GE X W i ei) (hv : GE X W v ev) (hs : swapsWith v (some (.Subscript o i pos')) pos.line X.env = pure false := by rfl) :
    GS X W (.Assign [.Subscript o i pos'] v pos) (sPut dPutS eo ei ev) := by
  obtain ⟨to, po, so⟩ := ho
  obtain ⟨ti, pi, si⟩ := hi
  obtain ⟨tv, pv, sv⟩ := hv
  refine ⟨_, ps_dput (hu_of hr) po pi pv hs, fun E σ env F μ S H eR rel want => ?_⟩
  refine sv.go eR rel (WantF.bindE want fun y S1 h1 vy F1 μ1 H1 x1 rel1 r1 => ?_)
  simp only [sPut, h1, Res.bind_ok] at want
  have want1 := want.ext x1
  refine so.go (eR.ext x1) rel1 (WantF.bindE want1 fun x S2 h2 vx F2 μ2 H2 x2 rel2 r2 => ?_)
  simp only [h2, Res.bind_ok] at want1
  have want2 := want1.ext x2
  refine si.go ((eR.ext x1).ext x2) rel2 (WantF.bindE want2 fun q S3 h3 vq F3 μ3 H3 x3 rel3 r3 => ?_)
  simp only [h3, Res.bind_ok] at want2
  have want3 := want2.ext x3
  cases e : dPutS x q y S3 with
  | none => simp only [e] at want3; exact want3.elim
  | some S4 =>
    simp only [e] at want3
    obtain ⟨a, H', rfl, hp, rl, xl⟩ := dput_ok rel3 (r2.mono x3.mono x3.pre) r3 ((r1.mono x2.mono x2.pre).mono x3.mono x3.pre) e
    exact ⟨a, H', rfl, hp, want3 σ _ _ _ xl rl (((eR.ext x1).ext x2).ext x3 |>.ext xl)⟩
theorem gs_lput {o i v : Expr} {pos pos' : Pos} {eo ei ev : EV} (ho : GE X W o eo) (hi : GE X W i ei) (hv : GE X W v ev) (hs : swapsWithSole [.Subscript o i pos'] v pos.line X.env = pure false := by rfl) (hw : swappedStores [.Subscript o i pos'] v X.env = pure none := by rfl)
    (h1 : (assignEach [.Subscript o i pos'] X.env).map (·.2) = [assign (.Subscript o i pos') X.env] := by rfl)
    (ha : ∀ w, assign (.Subscript o i pos') X.env w = (do
      let ov ← holding [w] (eval o X.env)
      let iv ← holding [w, ov] (eval i X.env)
      standAt pos'
      holding [w, ov, iv] (setItem ov iv w)
      release [w, ov, iv] []) := by intro _; rfl) :
    GS X W (.Assign [.Subscript o i pos'] v pos) (sPut lPutS eo ei ev) := by
  obtain ⟨to, po, so⟩ := ho
  obtain ⟨ti, pi, si⟩ := hi
  obtain ⟨tv, pv, sv⟩ := hv
  refine ⟨_, ps_asg pv (pg_sub po pi set_list ha) hs hw h1, fun E σ env F μ S H eR rel want => ?_⟩
  refine sv.go eR rel (WantF.bindE want fun y S1 h1 vy F1 μ1 H1 x1 rel1 r1 => ?_)
  simp only [sPut, h1, Res.bind_ok] at want
  have want1 := want.ext x1
  refine so.go (eR.ext x1) rel1 (WantF.bindE want1 fun x S2 h2 vx F2 μ2 H2 x2 rel2 r2 => ?_)
  simp only [h2, Res.bind_ok] at want1
  have want2 := want1.ext x2
  refine si.go ((eR.ext x1).ext x2) rel2 (WantF.bindE want2 fun q S3 h3 vq F3 μ3 H3 x3 rel3 r3 => ?_)
  simp only [h3, Res.bind_ok] at want2
  have want3 := want2.ext x3
  cases e : lPutS x q y S3 with
  | none => simp only [e] at want3; exact want3.elim
  | some S4 =>
    simp only [e] at want3
    have r2' := r2.mono x3.mono x3.pre
    have r1' := (r1.mono x2.mono x2.pre).mono x3.mono x3.pre
    cases x with
    | hnd n =>
      obtain ⟨a, rfl, hn⟩ := RD.hnd_at (H := H3) r2'
      cases r3 with
      | int i =>
        simp only [lPutS] at e
        cases hs : S3[n]? with
        | none => rw [hs] at e; cases e
        | some m =>
          rw [hs] at e
          have z := rel3.at_ n a m hn hs
          cases m with
          | lst es =>
            obtain ⟨vs, hov, r⟩ := z
            obtain ⟨j, e1, rfl⟩ := map_some (show (ixN es.length i).map _ = some S4 from e)
            obtain ⟨rl, xl⟩ := rel3.write (o' := .lst (vs.set j vy)) (m' := .lst (es.set j y)) hn hs (by simp) hov (by simp) ⟨_, upd_same, r.set j r1'⟩
            exact ⟨a, vs, i, j, rfl, rfl, hov, by rw [r.length]; exact e1, want3 σ _ _ _ xl rl (((eR.ext x1).ext x2).ext x3 |>.ext xl)⟩
          | _ => cases e
      | _ => cases e
    | _ => cases q <;> cases e
/-- {}: a dict that may change -/
def eDNewK : EV := fun _ S => .ok (.hnd S.length) (S ++ [.dic [] []])
def eDNewT : EV := fun _ S => .ok (.hnd S.length) (S ++ [.dtp [] []])
theorem ge_dnewK {pos : Pos} : GE X W (.Dict [] [] pos) eDNewK := by
  refine ⟨_, pe_dnewK, fun σ env F μ S H Q s p eR rel want q hq => ?_⟩
  obtain ⟨rl, xl, last⟩ := rel.newH (o := .dK []) (m := .dic [] []) hq ⟨[], upd_same, rfl, .nil⟩
  exact want (.ref q) _ _ _ xl rl (.hnd last)
theorem ge_dnewT {pos : Pos} : GE X W (.Dict [] [] pos) eDNewT := by
  refine ⟨_, pe_dnewT, fun σ env F μ S H Q s p eR rel want q hq => ?_⟩
  obtain ⟨rl, xl, last⟩ := rel.newH (o := .dT []) (m := .dtp [] []) hq ⟨[], upd_same, rfl, .nil⟩
  exact want (.ref q) _ _ _ xl rl (.hnd last)
end
end Sm
set_option Elab.async false
set_option linter.all false
set_option maxRecDepth 100000
namespace Sm
open PySem PySem.Spec L2

/-! ## attributes -/
def lookF : List Str → List D → Str → Option D
  | k :: ks, d :: ds, f => if f = k then some d else lookF ks ds f
  | _, _, _ => none
def putFD : List Str → List D → Str → D → List Str × List D
  | k :: ks, d :: ds, f, y => if k = f then (k :: ks, y :: ds) else (k :: (putFD ks ds f y).1, d :: (putFD ks ds f y).2)
  | _, _, f, y => ([f], [y])
/-- the class of this name, an attribute of it -/
structure ClsF (K : PySem.W.Frag) (mg : Str → Option Value) (C f : Str) : Prop where
  ex : ∃ cl, mg C = some (.ref cl) ∧ Cls K cl ∧ NoAttr K cl f
def insOf (d : D) (S : Sto) : Option (Str × List Str × List D) := match d with
  | .obj C ns ds => some (C, ns, ds)
  | .hnd n => match S[n]? with
    | some (.ins C ns ds) => some (C, ns, ds)
    | _ => none
  | _ => none
section
variable {X : Cx} {W : WX} {c : Cfg}
theorem lookF_ok {F : Hp} {μ : List Addr} : ∀ {fs : List (Str × V)} {ds : List D} {f : Str} {d : D}, RDs c F μ (fs.map (·.2)) ds → lookF (fs.map (·.1)) ds f = some d → ∃ v, fs.lookup f = some v ∧ RD c F μ v d
  | [], _, _, _, r, e => by cases r; cases e
  | (k, v) :: fs, _, f, d, .cons (d := d0) (ds := ds) h r, e => by
    change (if f = k then some d0 else lookF (fs.map (·.1)) ds f) = some d at e
    by_cases hk : f = k
    · rw [if_pos hk] at e
      cases e
      exact ⟨v, by rw [List.lookup_cons]; simp [hk], h⟩
    · rw [if_neg hk] at e
      obtain ⟨w, h1, h2⟩ := lookF_ok (f := f) r e
      have hb : (f == k) = false := by simpa using hk
      exact ⟨w, by rw [List.lookup_cons, hb]; exact h1, h2⟩
theorem putF_ok {F : Hp} {μ : List Addr} {f : Str} {y : V} {dy : D} (ry : RD c F μ y dy) : ∀ {fs : List (Str × V)} {ds : List D}, RDs c F μ (fs.map (·.2)) ds →
    (putF f y fs).map (·.1) = (putFD (fs.map (·.1)) ds f dy).1 ∧ RDs c F μ ((putF f y fs).map (·.2)) (putFD (fs.map (·.1)) ds f dy).2
  | [], _, r => by cases r; exact ⟨rfl, .cons ry .nil⟩
  | (k, v) :: fs, _, .cons (d := d0) (ds := ds) h r => by
    have ih := putF_ok (f := f) ry r
    show ((if k = f then (k, y) :: fs else (k, v) :: putF f y fs).map (·.1)) = (if k = f then (k :: fs.map (·.1), dy :: ds) else _).1 ∧ RDs c F μ ((if k = f then (k, y) :: fs else (k, v) :: putF f y fs).map (·.2)) (if k = f then (k :: fs.map (·.1), dy :: ds) else _).2
    by_cases hk : k = f
    · rw [if_pos hk, if_pos hk]
      exact ⟨rfl, .cons ry r⟩
    · rw [if_neg hk, if_neg hk]
      exact ⟨by simp [ih.1], .cons h ih.2⟩
theorem ins_rd {F H : Hp} {μ : List Addr} {S : Sto} {v : V} {d : D} {C : Str} {ns : List Str} {ds : List D} (rel : Rel c F μ S H) (r : RD c F μ v d) (e : insOf d S = some (C, ns, ds)) :
    ∃ a cl dx fs, v = .ref a ∧ c.mg C = some (.ref cl) ∧ H a = some (.ins cl dx fs) ∧ fs.map (·.1) = ns ∧ RDs c F μ (fs.map (·.2)) ds := by
  cases r with
  | obj hc h hd r => cases e; exact ⟨_, _, _, _, rfl, hc, rel.ins h, rfl, r⟩
  | hnd h =>
    rename_i a n
    simp only [insOf] at e
    cases hs : S[n]? with
    | none => rw [hs] at e; cases e
    | some m =>
      rw [hs] at e
      have q := rel.at_ n a m h hs
      cases m with
      | ins C' ns' ds' => cases e; obtain ⟨cl, dx, fs, hc, ho, _, hn, r⟩ := q; exact ⟨a, cl, dx, fs, rfl, hc, ho, hn, r⟩
      | _ => cases e
  | _ => cases e
def fldD (cs : List Str) (f : Str) : OV1 := fun d S => match insOf d S with
  | some (C, ns, ds) => if C ∈ cs then optR (lookF ns ds f) S else .bad
  | none => .bad
theorem ge_fld {e : Expr} {f : Str} {pos : Pos} {ev : EV} {cs : List Str} (hC : ∀ C ∈ cs, ClsF X.K X.mg C f) (h : GE X W e ev) (hb : attributeBase e f X.env (eval e X.env) = eval e X.env := by rfl) : GE X W (.Attribute e f pos) (eUn (fldD cs f) ev) := by
  obtain ⟨t, p, s⟩ := h
  refine ⟨_, pe_fld p hb, ?_⟩
  refine sm_un (r := fun x H1 Q => ∃ a C dx fs v, x = .ref a ∧ H1 a = some (.ins C dx fs) ∧ Cls X.K C ∧ NoAttr X.K C f ∧ fs.lookup f = some v ∧ Q v H1) (fun F μ S H x dx Q rel rx want => ?_) s
  unfold fldD at want
  cases e1 : insOf dx S with
  | none => simp only [e1] at want; exact want.elim
  | some t =>
    obtain ⟨C, ns, ds⟩ := t
    simp only [e1] at want
    split at want
    · rename_i hm
      obtain ⟨a, cl, dd, fs, rfl, hc, ho, rfl, r⟩ := ins_rd rel rx e1
      obtain ⟨cl', hc', hcl, hna⟩ := hC C hm
      have e9 : some (Value.ref cl) = some (Value.ref cl') := hc.symm.trans hc'
      cases e9
      cases e2 : lookF (fs.map (·.1)) ds f with
      | none => simp only [e2, optR] at want; exact want.elim
      | some d =>
        simp only [e2, optR] at want
        obtain ⟨v, h1, h2⟩ := lookF_ok r e2
        exact ⟨a, cl, dd, fs, v, rfl, ho, hcl, hna, h1, want v F μ H Ext.refl rel h2⟩
    · exact want.elim
/-- o.f = v -/
def fldPut (C f : Str) (x y : D) (S : Sto) : Option Sto := match x with
  | .hnd n => match S[n]? with
    | some (.ins C' ns ds) => if C' = C ∧ ns.length < 1000 then some (S.set n (.ins C' (putFD ns ds f y).1 (putFD ns ds f y).2)) else none
    | _ => none
  | _ => none
def sFldV (C f : Str) (eo ev : EV) : SV := fun env S => (ev env S).bind fun y S1 => (eo env S1).bind fun x S2 => match fldPut C f x y S2 with
  | some S3 => .ok (.nx env) S3
  | none => .bad
theorem fldPut_ok {F H : Hp} {μ : List Addr} {S S' : Sto} {x y : V} {dx dy : D} {C f : Str} (rel : Rel c F μ S H) (rx : RD c F μ x dx) (ry : RD c F μ y dy) (e : fldPut C f dx dy S = some S') :
    ∃ a cl dd fs, x = .ref a ∧ c.mg C = some (.ref cl) ∧ H a = some (.ins cl dd fs) ∧ fs.length < 1000 ∧ Rel c F μ S' (upd H a (.ins cl dd (putF f y fs))) ∧ Ext F μ H F μ (upd H a (.ins cl dd (putF f y fs))) := by
  cases dx with
  | hnd n =>
    obtain ⟨a, rfl, hn⟩ := RD.hnd_at (H := H) rx
    simp only [fldPut] at e
    cases hs : S[n]? with
    | none => rw [hs] at e; cases e
    | some m =>
      rw [hs] at e
      have q := rel.at_ n a m hn hs
      cases m with
      | ins C' ns ds =>
        obtain ⟨cl, dd, fs, hc, ho, hd, rfl, r⟩ := q
        dsimp only at e
        split at e
        · rename_i hh
          obtain ⟨rfl, hl⟩ := hh
          cases e
          obtain ⟨g1, g2⟩ := putF_ok (f := f) ry r
          have hda : dd ≠ a := ne_of hd ho (by intro z; cases z)
          obtain ⟨rl, xl⟩ := rel.write (o' := .ins cl dd (putF f y fs)) (m' := .ins C' (putFD (fs.map (·.1)) ds f dy).1 (putFD (fs.map (·.1)) ds f dy).2) hn hs (by simp) ho (by simp) ⟨cl, dd, _, hc, upd_same, by rw [upd_ne hda]; exact hd, g1, g2⟩
          exact ⟨a, cl, dd, fs, rfl, hc, ho, by simpa using hl, rl, xl⟩
        · cases e
      | _ => cases e
  | _ => cases e
theorem gs_fld {o v : Expr} {C f : Str} {pos pos' : Pos} {eo ev : EV} (hC : ClsF X.K X.mg C f) (ho : GE X W o eo) (hv : GE X W v ev) (hs : swapsWith v (some (.Attribute o f pos')) pos.line X.env = pure false := by rfl) : GS X W (.Assign [.Attribute o f pos'] v pos) (sFldV C f eo ev) := by
  obtain ⟨to, po, so⟩ := ho
  obtain ⟨tv, pv, sv⟩ := hv
  refine ⟨_, ps_fld po pv hs, fun E σ env F μ S H eR rel want => ?_⟩
  refine sv.go eR rel (WantF.bindE want fun y S1 h1 vy F1 μ1 H1 x1 rel1 r1 => ?_)
  simp only [sFldV, h1, Res.bind_ok] at want
  have want1 := want.ext x1
  refine so.go (eR.ext x1) rel1 (WantF.bindE want1 fun x S2 h2 vx F2 μ2 H2 x2 rel2 r2 => ?_)
  simp only [h2, Res.bind_ok] at want1
  have want2 := want1.ext x2
  cases e : fldPut C f x y S2 with
  | none => simp only [e] at want2; exact want2.elim
  | some S3 =>
    simp only [e] at want2
    obtain ⟨a, cl, dd, fs, rfl, hc, ho, hl, rl, xl⟩ := fldPut_ok rel2 r2 (r1.mono x2.mono x2.pre) e
    obtain ⟨cl', hc', hcl, hna⟩ := hC
    have e9 : some (Value.ref cl) = some (Value.ref cl') := hc.symm.trans hc'
    cases e9
    exact ⟨a, cl, dd, fs, rfl, ho, hcl, hna, hl, want2 σ _ _ _ xl rl (((eR.ext x1).ext x2).ext xl)⟩

/-! ## new instances -/
/-- a class whose __init__ does what ev says (self first): ar arguments besides self, by at most level k -/
structure Mo (P : Program) (w : World) (K : PySem.W.Frag) (mg : Str → Option Value) (base : Heap) (k : Nat) (C : Str) (ar : Nat) (ev : List D → Sto → Res D) : Prop where
  ex : ∃ (cl f : Addr) (fd : FuncData) (ps : List Str), FnOk P w K mg base (L2.CX P w) k f fd ps (SpF ⟨K, mg⟩ (ar + 1) ev) ∧ mg C = some (.ref cl) ∧ Mk K cl f ∧ Binds K fd ps [] ∧ ps.length = ar + 1
def mkI (C : Str) (ev : List D → Sto → Res D) (ds : List D) (S : Sto) : Res D := (ev (.hnd S.length :: ds) (S ++ [.ins C [] []])).bind fun d S1 => match d with | .non => .ok (.hnd S.length) S1 | _ => .bad
theorem mk_go {E : XK} {cl : Addr} {C : Str} {ar : Nat} {ev : List D → Sto → Res D} {F H : Hp} {μ : List Addr} {S : Sto} {vs : List V} {ds : List D} {σ : L2.St} {Q : VK} (hE : ∀ cls d σ H, W cls d σ H → E cls d H) (hc : c.mg C = some (.ref cl)) (rel : Rel c F μ S H) (r : RDs c F μ vs ds) (hl : ds.length = ar)
    (want : Want c W (rE c) σ F μ H Q (mkI C ev ds S)) {x dx : Addr} (hx : H x = none) (hdx : H dx = none) (hne : dx ≠ x) :
    SpF c (ar + 1) ev (.ref x :: vs) (upd (upd H dx (.own x)) x (.ins cl dx [])) (fun v H2 => v = .non ∧ Q (.ref x) H2) E := by
  obtain ⟨rl1, fd, nd⟩ := rel.beside (u := .own x) hdx
  have hx1 : upd H dx (.own x) x = none := by rw [upd_ne (Ne.symm hne)]; exact hx
  obtain ⟨rl2, x2, last⟩ := rl1.newH (o := .ins cl dx []) (m := .ins C [] []) hx1 ⟨cl, dx, [], hc, upd_same, by rw [upd_ne hne, upd_same], rfl, .nil⟩
  have x0 : Ext F μ H F (μ ++ [x]) (upd (upd H dx (.own x)) x (.ins cl dx [])) := by
    refine ⟨Sub.refl _, List.prefix_append _ _, fun b o hb nb => ⟨?_, fun _ => id⟩, fun b hb => ?_⟩
    · rw [upd_ne (ne_of_none hb hx), upd_ne (ne_of_none hb hdx)]; exact hb
    · rcases List.mem_append.mp hb with h | h
      · exact .inl h
      · have : b = x := by simpa using h
        exact .inr (this ▸ hx)
  refine ⟨by simp [r.length, hl], F, μ ++ [x], S ++ [.ins C [] []], .hnd S.length :: ds, .cons (.hnd last) (r.mono (Sub.refl _) (List.prefix_append _ _)), rl2, ?_⟩
  unfold mkI at want
  cases h : ev (.hnd S.length :: ds) (S ++ [.ins C [] []]) with
  | bad => rw [h] at want; exact want.elim
  | exc C' ns es S' =>
    rw [h] at want
    exact fun cl' dd F' μ' H' fs x' rel' hc' hd hn hr hf => hE _ _ _ _ (want cl' dd F' μ' H' fs (x0.trans x') rel' hc' hd hn hr hf)
  | ok d S' =>
    rw [h] at want
    simp only [Res.bind_ok] at want
    intro v F' μ' H' x' rel' r'
    cases r' with
    | non => exact ⟨rfl, want (.ref x) F' μ' H' (x0.trans x') rel' (.hnd (pre_get x'.pre last))⟩
    | _ => exact want.elim
def eMake (C : Str) (ev : List D → Sto → Res D) (n : Nat) (a : AV) : EV := fun env S => (a env S).bind fun ds S1 => if ds.length = n then mkI C ev ds S1 else .bad
theorem ge_make {k ar : Nat} {C : Str} {ev : List D → Sto → Res D} {e : Expr} {es : List Expr} {av : AV} {p pos : Pos} (M : Mo X.prog X.w X.K X.mg X.base k C ar ev) (hr : Room (k + 1) X.A) (px : PassW X W) (ha : GA X W (e :: es) av) (hg : Gl X C := by rfl)
    (hdb : (C == ("__debug__" : Str)) = false := by decide) (he : starEach (e :: es) X.env = (false, eval e X.env) :: starEach es X.env := by rfl) (hpl : (backTo pos (starEach es X.env)).any (·.1) = false := by rfl) :
    GE X W (.Call (.Name C p) (e :: es) [] pos) (eMake C ev ar av) := by
  obtain ⟨cl, f, fd, ps, F, hm, mk, hb, hl⟩ := M
  obtain ⟨E, hp, hE⟩ := px
  obtain ⟨t, pt, st⟩ := ha
  refine ⟨_, pe_make mk F hr hg hm hb .nil hp pt hdb he hpl, ?_⟩
  refine Sm.bind (kt := fun vs σ H1 (Q : VK) => ∀ x dx, H1 x = none → H1 dx = none → dx ≠ x → SpF (cf X) (ar + 1) ev (.ref x :: (vs ++ [])) (upd (upd H1 dx (.own x)) x (.ins cl dx [])) (fun v H2 => v = .non ∧ Q (.ref x) H2) E) (ke := fun ds env S => if ds.length = ar then mkI C ev ds S else .bad) st fun F1 μ1 xs ds s1 p1 r1 => ?_
  intro σ env F μ S H Q s p eR rel want x dx hx hdx hne
  dsimp only at want
  split at want
  · rename_i h
    rw [List.append_nil]
    exact mk_go hE hm rel (r1.mono s p) h want hx hdx hne
  · exact want.elim
/-- an instance that changes no more -/
def frzO (d : D) (S : Sto) : Res D := match d with
  | .hnd n => match S[n]? with
    | some (.ins C ns ds) => .ok (.obj C ns ds) (S.set n .dead)
    | _ => .bad
  | _ => .bad
def eFrzO (e : EV) : EV := fun env S => (e env S).bind frzO
theorem frzO_ok {F H : Hp} {μ : List Addr} {S S' : Sto} {v : V} {d d' : D} (rel : Rel c F μ S H) (r1 : RD c F μ v d) (e : frzO d S = .ok d' S') : ∃ F', Ext F μ H F' μ H ∧ Rel c F' μ S' H ∧ RD c F' μ v d' := by
  cases d with
  | hnd n =>
    obtain ⟨a, rfl, hn⟩ := RD.hnd_at (H := H) r1
    simp only [frzO] at e
    cases hs : S[n]? with
    | none => rw [hs] at e; cases e
    | some m =>
      rw [hs] at e
      have q := rel.at_ n a m hn hs
      cases m with
      | ins C ns ds =>
        cases e
        obtain ⟨cl, dx, fs, hc, ho, hd, rfl, r⟩ := q
        obtain ⟨rl, xl, sF⟩ := rel.stay hn hs (by simp) ho (by simp)
        have hda : dx ≠ a := ne_of hd ho (by intro z; cases z)
        have sF2 : Sub (upd F a (.ins cl dx fs)) (upd (upd F a (.ins cl dx fs)) dx (.own a)) := fun b u h => by
          by_cases hb : b = dx
          · subst hb
            rw [upd_same]
            rw [upd_ne hda] at h
            have z := rel.frz b u h
            rw [hd] at z; exact z
          · rw [upd_ne hb]; exact h
        have ndx : dx ∉ μ := fun z => by
          obtain ⟨o, h1, h2⟩ := rel.known dx z
          rw [hd] at h1
          exact h2 a (Option.some.inj h1).symm
        have ra : Rel c (upd (upd F a (.ins cl dx fs)) dx (.own a)) μ (S.set n .dead) H := by
          refine ⟨fun b u h => ?_, rl.len, rl.nd, fun k b x e1 e2 e3 => ?_, rl.known, fun k b x e1 e2 => (rl.at_ k b x e1 e2).mono sF2 (List.prefix_refl _)⟩
          · by_cases hb : b = dx
            · subst hb; rw [upd_same] at h; cases h; exact hd
            · rw [upd_ne hb] at h; exact rl.frz b u h
          · rw [upd_ne (fun z => ndx (by rw [← z]; exact List.mem_of_getElem? e1))]
            exact rl.free k b x e1 e2 e3
        refine ⟨_, ⟨sF.trans sF2, List.prefix_refl _, fun b u h nb => ⟨h, fun no q => ?_⟩, fun b hb => .inl hb⟩, ra, .obj hc ?_ upd_same (r.mono (sF.trans sF2) (List.prefix_refl _))⟩
        · have h1 : b ≠ dx := fun z => by rw [z, hd] at h; exact no a (Option.some.inj h).symm
          rw [upd_ne h1, upd_ne (fun z => nb (by rw [z]; exact List.mem_of_getElem? hn))]
          exact q
        · rw [upd_ne (Ne.symm hda)]; exact upd_same
      | _ => cases e
  | _ => cases e
end
end Sm
set_option Elab.async false
set_option linter.all false
set_option maxRecDepth 100000
namespace Sm
open PySem PySem.Spec L2

section
variable {X : Cx} {W : WX} {c : Cfg}
/-- what the proof never comes to -/
def sBad : SV := fun _ _ => .bad
theorem gs_never {st : Stmt} : GS X W st sBad := ⟨_, ps_never, fun E σ env F μ S H eR rel want => want.elim⟩
theorem gb_never {sts : List Stmt} : GB X W sts sBad := ⟨_, pss_never, fun E σ env F μ S H eR rel want => want.elim⟩
theorem ge_frzO {e : Expr} {ev : EV} (h : GE X W e ev) : GE X W e (eFrzO ev) := by
  obtain ⟨t, p, s⟩ := h
  refine ⟨t, p, ?_⟩
  intro σ env F μ S H Q s0 p0 eR rel want
  refine s.go eR rel ?_
  change Want _ _ _ _ _ _ _ _ ((ev env S).bind _) at want
  cases h : ev env S with
  | bad => rw [h] at want; exact want
  | exc C ns ds S' => rw [h] at want; exact want
  | ok d S1 =>
    rw [h] at want
    intro v F1 μ1 H1 x1 rel1 r1
    have want1 : Want _ _ _ _ _ _ _ _ (frzO d S1) := Want.ext want x1
    cases q : frzO d S1 with
    | bad => rw [q] at want1; exact want1.elim
    | exc C ns ds S' =>
      cases d with
      | hnd n =>
        simp only [frzO] at q
        split at q <;> cases q
      | _ => cases q
    | ok d' S' =>
      rw [q] at want1
      obtain ⟨F', x', rel', r'⟩ := frzO_ok rel1 r1 q
      exact want1 v F' μ1 H1 x' rel' r'
/-- what was made on the way is forgotten -/
def eCut (e : EV) : EV := fun env S => cutR S.length (e env S)
theorem ge_cut {e : Expr} {ev : EV} (h : GE X W e ev) : GE X W e (eCut ev) := by
  obtain ⟨t, p, s⟩ := h
  exact ⟨t, p, fun σ env F μ S H Q s0 p0 eR rel want => s σ env F μ S H Q s0 p0 eR rel (Want.cut rel.len want)⟩

/-! ## calls with keywords -/
structure GK (X : Cx) (W : WX) (kws : List Keyword) (av : AV) : Prop where
  ex : ∃ t, PK X kws t ∧ SmE (cf X) W (rA (cf X)) t av
theorem gk_nil : GK X W [] aNil := ⟨_, pk_nil, Sm.pure fun _ _ F μ S H _ _ _ _ => ⟨rfl, [], .nil, fun Q q => q⟩⟩
theorem gk_cons {e : Expr} {kws : List Keyword} {nm : Option Str} {kpos : Pos} {ev : EV} {av : AV} (he : GE X W e ev) (hr : GK X W kws av) : GK X W (⟨nm, e, kpos⟩ :: kws) (aCons ev av) :=
  let ⟨_, p, s⟩ := he; let ⟨_, p', s'⟩ := hr; ⟨_, pk_cons p p', sm_cons s s'⟩
/-- C(.., k = v, ..): an __init__ whose keyword-only parameters come in some order, the lacking ones by their defaults. g: from what is written (self and the positional ones; the keywords' values) to all arguments -/
structure MoK (P : Program) (w : World) (K : PySem.W.Frag) (mg : Str → Option Value) (base : Heap) (k : Nat) (C : Str) (n ar : Nat) (ks : List Str) (g : List D → List D → List D) (ev : List D → Sto → Res D) : Prop where
  ex : ∃ (cl f : Addr) (fd : FuncData) (ps : List Str) (gw : List Value → List Value → List Value) (gV : List V → List V → List V), FnOk P w K mg base (L2.CX P w) k f fd ps (SpF ⟨K, mg⟩ (ar + 1) ev) ∧ mg C = some (.ref cl) ∧ Mk K cl f ∧ KBn K fd ps (n + 1) ks gw gV ∧
    (∀ F μ vs zs ds es, RDs ⟨K, mg⟩ F μ vs ds → RDs ⟨K, mg⟩ F μ zs es → ds.length = n + 1 → es.length = ks.length → RDs ⟨K, mg⟩ F μ (gV vs zs) (g ds es)) ∧
    (∀ d ds es, ds.length = n → es.length = ks.length → ∃ rest, g (d :: ds) es = d :: rest ∧ rest.length = ar)
def mkK (C : Str) (g : List D → List D → List D) (ev : List D → Sto → Res D) (ds es : List D) (S : Sto) : Res D := (ev (g (.hnd S.length :: ds) es) (S ++ [.ins C [] []])).bind fun d S1 => match d with | .non => .ok (.hnd S.length) S1 | _ => .bad
def eMakeK (C : Str) (g : List D → List D → List D) (ev : List D → Sto → Res D) (n m : Nat) (a ak : AV) : EV := fun env S => (a env S).bind fun ds S1 => (ak env S1).bind fun es S2 => if ds.length = n ∧ es.length = m then mkK C g ev ds es S2 else .bad
theorem mkK_go {E : XK} {cl : Addr} {C : Str} {ar n : Nat} {ks : List Str} {g : List D → List D → List D} {gV : List V → List V → List V} {ev : List D → Sto → Res D} {F H : Hp} {μ : List Addr} {S : Sto} {vs zs : List V} {ds es : List D} {σ : L2.St} {Q : VK} (hE : ∀ cls d σ H, W cls d σ H → E cls d H) (hc : c.mg C = some (.ref cl)) (rel : Rel c F μ S H)
    (r : RDs c F μ vs ds) (rz : RDs c F μ zs es) (l1 : ds.length = n) (l2 : es.length = ks.length)
    (hg : ∀ F μ vs zs ds es, RDs c F μ vs ds → RDs c F μ zs es → ds.length = n + 1 → es.length = ks.length → RDs c F μ (gV vs zs) (g ds es)) (hg2 : ∀ d ds es, ds.length = n → es.length = ks.length → ∃ rest, g (d :: ds) es = d :: rest ∧ rest.length = ar)
    (want : Want c W (rE c) σ F μ H Q (mkK C g ev ds es S)) {x dx : Addr} (hx : H x = none) (hdx : H dx = none) (hne : dx ≠ x) :
    SpF c (ar + 1) ev (gV (.ref x :: vs) zs) (upd (upd H dx (.own x)) x (.ins cl dx [])) (fun v H2 => v = .non ∧ Q (.ref x) H2) E := by
  obtain ⟨rl1, fd, nd⟩ := rel.beside (u := .own x) hdx
  have hx1 : upd H dx (.own x) x = none := by rw [upd_ne (Ne.symm hne)]; exact hx
  obtain ⟨rl2, x2, last⟩ := rl1.newH (o := .ins cl dx []) (m := .ins C [] []) hx1 ⟨cl, dx, [], hc, upd_same, by rw [upd_ne hne, upd_same], rfl, .nil⟩
  have x0 : Ext F μ H F (μ ++ [x]) (upd (upd H dx (.own x)) x (.ins cl dx [])) := by
    refine ⟨Sub.refl _, List.prefix_append _ _, fun b o hb nb => ⟨?_, fun _ => id⟩, fun b hb => ?_⟩
    · rw [upd_ne (ne_of_none hb hx), upd_ne (ne_of_none hb hdx)]; exact hb
    · rcases List.mem_append.mp hb with h | h
      · exact .inl h
      · have : b = x := by simpa using h
        exact .inr (this ▸ hx)
  have rg := hg F (μ ++ [x]) (.ref x :: vs) zs (.hnd S.length :: ds) es (.cons (.hnd last) (r.mono (Sub.refl _) (List.prefix_append _ _))) (rz.mono (Sub.refl _) (List.prefix_append _ _)) (by simp [l1]) l2
  obtain ⟨rest, e1, e2⟩ := hg2 (.hnd S.length) ds es l1 l2
  refine ⟨by rw [rg.length, e1]; simp [e2], F, μ ++ [x], S ++ [.ins C [] []], g (.hnd S.length :: ds) es, rg, rl2, ?_⟩
  unfold mkK at want
  cases h : ev (g (.hnd S.length :: ds) es) (S ++ [.ins C [] []]) with
  | bad => rw [h] at want; exact want.elim
  | exc C' ns fs S' =>
    rw [h] at want
    exact fun cl' dd F' μ' H' fs x' rel' hc' hd hn hr hf => hE _ _ _ _ (want cl' dd F' μ' H' fs (x0.trans x') rel' hc' hd hn hr hf)
  | ok d S' =>
    rw [h] at want
    simp only [Res.bind_ok] at want
    intro v F' μ' H' x' rel' r'
    cases r' with
    | non => exact ⟨rfl, want (.ref x) F' μ' H' (x0.trans x') rel' (.hnd (pre_get x'.pre last))⟩
    | _ => exact want.elim
theorem ge_makeK {k n ar : Nat} {C : Str} {ks : List Str} {g : List D → List D → List D} {ev : List D → Sto → Res D} {e : Expr} {es : List Expr} {kws : List Keyword} {av ak : AV} {p pos : Pos} (M : MoK X.prog X.w X.K X.mg X.base k C n ar ks g ev) (hr : Room (k + 1) X.A) (px : PassW X W) (ha : GA X W (e :: es) av) (hk : GK X W kws ak) (hg : Gl X C := by rfl)
    (hall : (backToKw pos (keywordEach kws X.env)).all (·.1.isSome) = true := by rfl) (hks : (backToKw pos (keywordEach kws X.env)).filterMap (·.1) = ks := by rfl) (hdb : (C == ("__debug__" : Str)) = false := by decide)
    (he : starEach (e :: es) X.env = (false, eval e X.env) :: starEach es X.env := by rfl) (hpl : ((backTo pos (starEach (e :: es) X.env)).any (·.1) || (backToKw pos (keywordEach kws X.env)).any (·.1.isNone)) = false := by rfl) :
    GE X W (.Call (.Name C p) (e :: es) kws pos) (eMakeK C g ev n ks.length av ak) := by
  obtain ⟨cl, f, fd, ps, gw, gV, F, hm, mk, hb, g1, g2⟩ := M
  obtain ⟨E, hp, hE⟩ := px
  obtain ⟨t, pt, st⟩ := ha
  obtain ⟨tk, ptk, stk⟩ := hk
  refine ⟨_, pe_makeK mk F hr hg hm hb hp pt ptk hall hks hdb he hpl, ?_⟩
  refine Sm.bind (kt := fun vs σ H1 (Q : VK) => tk σ H1 fun zs H2 => vs.length = n ∧ zs.length = ks.length ∧ ∀ x dx, H2 x = none → H2 dx = none → dx ≠ x → SpF (cf X) (ar + 1) ev (gV (.ref x :: vs) zs) (upd (upd H2 dx (.own x)) x (.ins cl dx [])) (fun v H3 => v = .non ∧ Q (.ref x) H3) E)
    (ke := fun ds env S => (ak env S).bind fun es S2 => if ds.length = n ∧ es.length = ks.length then mkK C g ev ds es S2 else .bad) st fun F1 μ1 xs ds s1 p1 r1 => ?_
  refine Sm.bind (kt := fun zs σ H1 (Q : VK) => xs.length = n ∧ zs.length = ks.length ∧ ∀ x dx, H1 x = none → H1 dx = none → dx ≠ x → SpF (cf X) (ar + 1) ev (gV (.ref x :: xs) zs) (upd (upd H1 dx (.own x)) x (.ins cl dx [])) (fun v H3 => v = .non ∧ Q (.ref x) H3) E)
    (ke := fun es env S => if ds.length = n ∧ es.length = ks.length then mkK C g ev ds es S else .bad) (stk.weaken (fun _ _ h => nomatch h) List.nil_prefix) fun F2 μ2 zs ys s2 p2 r2 => ?_
  intro σ env F μ S H Q s p eR rel want
  dsimp only at want
  split at want
  · rename_i h
    have r1' := r1.mono (s2.trans s) (p2.trans p)
    have r2' := r2.mono s p
    exact ⟨by rw [r1'.length]; exact h.1, by rw [r2'.length]; exact h.2, fun x dx hx hdx hne => mkK_go hE hm rel r1' r2' h.1 h.2 g1 g2 want hx hdx hne⟩
  · exact want.elim

/-! ## methods of own classes -/
/-- a class's method that does what ev says (self first): ar arguments besides self -/
structure Me (P : Program) (w : World) (K : PySem.W.Frag) (mg : Str → Option Value) (base : Heap) (k : Nat) (C m : Str) (ar : Nat) (ev : List D → Sto → Res D) : Prop where
  ex : ∃ (cl f : Addr) (fd : FuncData) (ps : List Str), FnOk P w K mg base (L2.CX P w) k f fd ps (SpF ⟨K, mg⟩ (ar + 1) ev) ∧ mg C = some (.ref cl) ∧ Cls K cl ∧ Meth K cl m f ∧ Binds K fd ps [] ∧ ps.length = ar + 1
/-- the receiver is of class C and has no attribute m -/
def isC (C m : Str) (d : D) (S : Sto) : Bool := match insOf d S with
  | some (C', ns, ds) => decide (C' = C) && (lookF ns ds m).isNone && decide (ns.length = ds.length)
  | none => false
def eMeth (C m : Str) (ev : List D → Sto → Res D) (n : Nat) (o : EV) (a : AV) : EV := fun env S => (o env S).bind fun x S1 => if isC C m x S1 = true then (a env S1).bind fun ds S2 => if ds.length = n then ev (x :: ds) S2 else .bad else .bad
theorem lookF_none {F : Hp} {μ : List Addr} : ∀ {fs : List (Str × V)} {ds : List D} {f : Str}, RDs c F μ (fs.map (·.2)) ds → lookF (fs.map (·.1)) ds f = none → fs.lookup f = none
  | [], _, _, r, e => rfl
  | (k, v) :: fs, _, f, .cons (d := d0) (ds := ds) h r, e => by
    change (if f = k then some d0 else lookF (fs.map (·.1)) ds f) = none at e
    by_cases hk : f = k
    · rw [if_pos hk] at e; cases e
    · rw [if_neg hk] at e
      have hb : (f == k) = false := by simpa using hk
      rw [List.lookup_cons, hb]
      exact lookF_none r e
theorem isC_ok {F H : Hp} {μ : List Addr} {S : Sto} {v : V} {d : D} {C m : Str} {cl : Addr} (rel : Rel c F μ S H) (r : RD c F μ v d) (hc : c.mg C = some (.ref cl)) (e : isC C m d S = true) : ∃ a dx fs, v = .ref a ∧ H a = some (.ins cl dx fs) ∧ fs.lookup m = none := by
  unfold isC at e
  cases h : insOf d S with
  | none => rw [h] at e; cases e
  | some t =>
    obtain ⟨C', ns, ds⟩ := t
    rw [h] at e
    simp only [Bool.and_eq_true, decide_eq_true_eq, Option.isNone_iff_eq_none] at e
    obtain ⟨⟨rfl, e2⟩, _⟩ := e
    obtain ⟨a, cl', dx, fs, rfl, hc', ho, rfl, r'⟩ := ins_rd rel r h
    rw [hc] at hc'
    cases hc'
    exact ⟨a, dx, fs, rfl, ho, lookF_none r' e2⟩
def eMeth0 (C m : Str) (ev : List D → Sto → Res D) (o : EV) : EV := fun env S => (o env S).bind fun x S1 => if isC C m x S1 = true then ev [x] S1 else .bad
theorem ge_meth {k ar : Nat} {C m : Str} {ev : List D → Sto → Res D} {o e : Expr} {es : List Expr} {apos pos : Pos} {eo : EV} {av : AV} {pl : Sem Bool} (M : Me X.prog X.w X.K X.mg X.base k C m ar ev) (hr : Room k X.A) (px : PassW X W) (ho : GE X W o eo) (ha : GA X W (e :: es) av)
    (hst : starEach (e :: es) X.env = (false, eval e X.env) :: starEach es X.env := by rfl) (hpl : (backTo pos (starEach es X.env)).any (·.1) = false := by rfl)
    (ht : eval (.Call (.Attribute o m apos) (e :: es) [] pos) X.env = (do
      let ov ← eval o X.env
      standAt apos.atName
      let (g, first) ← holding [ov] (getMethod ov m pl)
      callWith pos g first (backTo pos (starEach (e :: es) X.env)) (backToKw pos (keywordEach [] X.env))) := by rfl) :
    GE X W (.Call (.Attribute o m apos) (e :: es) [] pos) (eMeth C m ev ar eo av) := by
  obtain ⟨cl, f, fd, ps, F, hm, hcl, mt, hb, hl⟩ := M
  obtain ⟨E, hp, hE⟩ := px
  obtain ⟨to, po, so⟩ := ho
  obtain ⟨ta, pa, sa⟩ := ha
  refine ⟨_, pe_meth po hcl mt F hr hb .nil hp pa hst hpl ht, ?_⟩
  refine Sm.bind (kt := fun x σ H1 (Q : VK) => ∃ a dx fs, x = .ref a ∧ H1 a = some (.ins cl dx fs) ∧ fs.lookup m = none ∧ ta σ H1 fun vs H2 => SpF (cf X) (ar + 1) ev (x :: (vs ++ [])) H2 Q E) (ke := fun x env S1 => if isC C m x S1 = true then (av env S1).bind fun ds S2 => if ds.length = ar then ev (x :: ds) S2 else .bad else .bad) so fun F1 μ1 x dx s1 p1 r1 => ?_
  intro σ env F μ S H Q s p eR rel want
  dsimp only at want
  split at want
  · rename_i hC
    obtain ⟨a, d2, fs, rfl, ho, hn⟩ := isC_ok rel (r1.mono s p) hm hC
    refine ⟨a, d2, fs, rfl, ho, hn, ?_⟩
    refine Sm.bind (c := cf X) (W := W) (R := rA (cf X)) (T := rE (cf X)) (kt := fun vs σ H2 (Q : VK) => SpF (cf X) (ar + 1) ev (.ref a :: (vs ++ [])) H2 Q E) (ke := fun ds env S2 => if ds.length = ar then ev (dx :: ds) S2 else .bad) (sa.weaken (F1 := F1) (μ1 := μ1) (fun _ _ h => nomatch h) List.nil_prefix) (fun F2 μ2 xs ds s2 p2 r2 => ?_) σ env F μ S H Q s p eR rel want
    intro σ' env' F' μ' S' H' Q' s' p' eR' rel' want'
    dsimp only at want'
    split at want'
    · rename_i h
      refine ⟨by simp [r2.length, h], F', μ', S', dx :: ds, ?_, rel', want_of_callee hE want'⟩
      rw [List.append_nil]
      exact .cons (r1.mono (s2.trans s') (p2.trans p')) (r2.mono s' p')
    · exact want'.elim
  · exact want.elim
theorem ge_meth0 {k : Nat} {C m : Str} {ev : List D → Sto → Res D} {o : Expr} {apos pos : Pos} {eo : EV} {pl : Sem Bool} (M : Me X.prog X.w X.K X.mg X.base k C m 0 ev) (hr : Room k X.A) (px : PassW X W) (ho : GE X W o eo)
    (ht : eval (.Call (.Attribute o m apos) [] [] pos) X.env = (do
      let ov ← eval o X.env
      standAt apos.atName
      let (g, first) ← holding [ov] (getMethod ov m pl)
      callWith pos g first (backTo pos (starEach [] X.env)) (backToKw pos (keywordEach [] X.env))) := by rfl) :
    GE X W (.Call (.Attribute o m apos) [] [] pos) (eMeth0 C m ev eo) := by
  obtain ⟨cl, f, fd, ps, F, hm, hcl, mt, hb, hl⟩ := M
  obtain ⟨E, hp, hE⟩ := px
  obtain ⟨to, po, so⟩ := ho
  refine ⟨_, pe_meth0 po hcl mt F hr hb .nil hp ht, ?_⟩
  refine Sm.bind (kt := fun x σ H1 (Q : VK) => ∃ a dx fs, x = .ref a ∧ H1 a = some (.ins cl dx fs) ∧ fs.lookup m = none ∧ SpF (cf X) 1 ev (x :: ([] ++ [])) H1 Q E) (ke := fun x env S1 => if isC C m x S1 = true then ev [x] S1 else .bad) so fun F1 μ1 x dx s1 p1 r1 => ?_
  intro σ env F μ S H Q s p eR rel want
  dsimp only at want
  split at want
  · rename_i hC
    obtain ⟨a, d2, fs, rfl, ho, hn⟩ := isC_ok rel (r1.mono s p) hm hC
    exact ⟨a, d2, fs, rfl, ho, hn, rfl, F, μ, S, [dx], .cons (r1.mono s p) .nil, rel, want_of_callee hE want⟩
  · exact want.elim
end
end Sm
set_option Elab.async false
set_option linter.all false
set_option maxRecDepth 100000
open PySem PySem.Spec
namespace Sm
/-! ## types among types -/
theorem isSame_type (a b : String) : isSame (.type a) (.type b) = pure ((Value.type a) == (.type b)) := by
  unfold isSame; rfl
theorem slot_type_eq : Slot "type" (cmpInfo .Eq).2.1 "object.__eq__" :=
  .of (owner := "object") (n := "__eq__") (by rw [typeLookup_type, builtinLookup_eq_fast]; kernel_rfl) (by decide +kernel) (by decide +kernel) (by decide +kernel)
    (by first | exact .inl (by decide +kernel) | exact .inr (by decide +kernel)) (by rw [isSubtype_type]; kernel_rfl)
theorem slot_type_eqr : Slot "type" (cmpInfo .Eq).2.2 "object.__eq__" := slot_type_eq
theorem objEq_types (a b : String) (hab : (Value.type a == .type b) = false) : Gives (Builtin.«object.__eq__» ⟨[.type a, .type b], []⟩) (.val (Value.notImplemented)) :=
  .of_wp fun M A E s Q h => by
    unfold Builtin.«object.__eq__»
    repeat (first | with_reducible refine wpAny_of_eq (isSame_type a b) ?_ | wp_step)
    exact ⟨_, rfl, h⟩
theorem RcAt_types {A : Around} {s : Shared} {a b : String} (ha : s.TypeIs (.type a) "type") (hb : s.TypeIs (.type b) "type")
    (hab : (Value.type a == .type b) = false) (hba : (Value.type b == .type a) = false) : SeqAt.RcAt A s (.type a) (.type b) false := fun prog w E Q h => by
  have h1 := slot_type_eq
  have h2 := slot_type_eqr
  rcases hi : cmpInfo CmpOp.Eq with ⟨sym, f, r⟩
  rw [hi] at h1 h2
  simp only [richCompare, hi, ha.oneThing_none]
  try with_reducible refine wpAny_holding ?_
  refine wpAny_bind (wpAny_cRoomFor_or (.inl rfl) ?_)
  refine wpAny_bind (wpAny_typeOf ha (wpAny_bind (wpAny_typeOf hb ?_)))
  have hne : (Value.type "type" != Value.type "type") = false := by decide
  simp only [hne, Bool.false_eq_true, if_false]
  refine wpAny_bind (m := tryCompare _ _ _) (wpAny_tryCompare_declines ha h1 (call_gives h1 ha F.cmpEntry_eq (F.cmpArgs_eq _ _) (objEq_types a b hab) ⟨rfl, ?_⟩))
  simp only [Bool.not_false, if_true]
  refine wpAny_bind (m := tryCompare _ _ _) (wpAny_tryCompare_declines hb h2 (call_gives h2 hb F.cmpEntry_eq (F.cmpArgs_eq _ _) (objEq_types b a hba) ⟨rfl, ?_⟩))
  exact wpAny_bind (wpAny_rule (wpAny_bind (wpAny_of_eq (isSame_type a b) (by rw [hab]; exact wpAny_pure h))))
theorem EqAt_types {A : Around} {s : Shared} {a b : String} (ha : s.TypeIs (.type a) "type") (hb : s.TypeIs (.type b) "type") : SeqAt.EqAt A s (.type a) (.type b) (decide (a = b)) := fun prog w E Q h => by
  unfold eqBool
  refine wpAny_holding ?_
  refine wpAny_ite_split (fun he => ?_) (fun hn => ?_)
  · rw [L2.ty_beq] at he; rw [he] at h; exact wpAny_pure (M := model prog w) (E := E) h
  · rw [L2.ty_beq] at hn
    have hn' : decide (a = b) = false := by simpa using hn
    rw [hn'] at h
    have hs : decide (b = a) = false := by
      simp only [decide_eq_false_iff_not] at hn' ⊢
      exact fun e => hn' e.symm
    exact wpAny_bind (RcAt_types ha hb (by rw [L2.ty_beq]; exact hn') (by rw [L2.ty_beq]; exact hs) prog w E _ (wpAny_truthy_bool h))
/-- the built-in types whose comparison is known here -/
def tyKn : List String := ["int", "bool", "str", "NoneType", "list", "tuple", "dict", "bytes", "float", "set"]
theorem tyKn_ok {s : Shared} {a : String} (h : tyKn.contains a = true) : s.TypeIs (.type a) "type" := by
  have h' : a = "int" ∨ a = "bool" ∨ a = "str" ∨ a = "NoneType" ∨ a = "list" ∨ a = "tuple" ∨ a = "dict" ∨ a = "bytes" ∨ a = "float" ∨ a = "set" := by
    simpa [tyKn] using h
  show typeOf (.type a) = pure (.type "type")
  rcases h' with h | h | h | h | h | h | h | h | h | h <;> subst h <;> kernel_rfl
open L2
section
variable {X : Cx} {W : WX} {c : Cfg}
def tyD : D → Bool | .ty n => tyKn.contains n | _ => false
def tyE : D → D → Bool | .ty a, .ty b => decide (a = b) | _, _ => false
def inT (n : Bool) (x y : D) : Option D := match dSq y with
  | some ds => if tyD x = true ∧ ds.all tyD = true then some (.bl (xor n (ds.any fun y => tyE y x))) else none
  | none => none
theorem inT_ok {n : Bool} {x y d : D} (e : inT n x y = some d) : ∃ ds, dSq y = some ds ∧ tyD x = true ∧ ds.all tyD = true ∧ d = .bl (xor n (ds.any fun y => tyE y x)) := by
  unfold inT at e
  cases h : dSq y with
  | none => rw [h] at e; cases e
  | some ds =>
    rw [h] at e
    change (if _ then _ else none) = some d at e
    split at e
    · rename_i hh
      exact ⟨ds, rfl, hh.1, hh.2, (Option.some.inj e).symm⟩
    · cases e
def tyV : V → Bool | .ty n => tyKn.contains n | _ => false
def tyVE : V → V → Bool | .ty a, .ty b => decide (a = b) | _, _ => false
def tyU (x : V) : Value → Bool := fun u => match x, u with | .ty a, .type b => decide (b = a) | _, _ => false
def rInT (K : PySem.W.Frag) (neg : Bool) : R2 := fun x y H Q => ∃ p xs, y = .ref p ∧ (SqL K H p xs ∨ SqT K H p xs) ∧ tyV x = true ∧ xs.all tyV = true ∧ Q (.bl (xor neg (xs.any fun y => tyVE y x))) H
theorem mem_ty {A : Around} {s : Shared} {x : V} {v : Value} (rx : RelV x v) (fx : tyV x = true) : ∀ {xs : List V} {us : List Value}, Vals xs us → xs.all tyV = true → ∀ w, w ∈ us → SeqAt.EqAt A s w v (tyU x w) := by
  intro xs us r
  induction r with
  | nil => intro _ w h; cases h
  | @cons y u ys us ry rs ih =>
    intro e w hw
    simp only [List.all_cons, Bool.and_eq_true] at e
    cases hw with
    | head =>
      cases x with
      | ty a =>
        cases y with
        | ty b =>
          cases (show v = Value.type a from rx)
          cases (show u = Value.type b from ry)
          exact EqAt_types (tyKn_ok e.1) (tyKn_ok fx)
        | _ => cases e.1
      | _ => cases fx
    | tail _ hw => exact ih e.2 w hw
theorem any_ty {x : V} : ∀ {xs : List V} {us : List Value}, Vals xs us → xs.all tyV = true → us.any (tyU x) = xs.any (fun y => tyVE y x) := by
  intro xs us r
  induction r with
  | nil => intro _; rfl
  | @cons y u ys us ry rs ih =>
    intro e
    simp only [List.all_cons, Bool.and_eq_true] at e
    rw [List.any_cons, List.any_cons, ih e.2]
    congr 1
    cases y with
    | ty b => cases (show u = Value.type b from ry); cases x <;> rfl
    | _ => cases e.1
theorem op_in_ty : OpR X (compareOp .In) (rInT X.K false) := by
  intro pins s σ H x y v u Q I rx ry h
  obtain ⟨p, xs, rfl, hq, fx, fs, q⟩ := h
  cases ry
  rcases hq with hq | hq
  · obtain ⟨its, r, pl, hz⟩ := I.list hq
    refine SeqAt.in_listAt (tyU x) pl.isList (fun w hw => mem_ty rx fx r fs w (by simpa using hw)) ⟨.bl _, H, I, rfl, ?_⟩
    rw [show its.toArray.any (tyU x) = its.any (tyU x) by simp, any_ty r fs]
    simpa using q
  · obtain ⟨its, r, pl, hz⟩ := I.tuple hq
    refine SeqAt.in_tupleAt (tyU x) pl (fun w hw => mem_ty rx fx r fs w (by simpa using hw)) ⟨.bl _, H, I, rfl, ?_⟩
    rw [show its.toArray.any (tyU x) = its.any (tyU x) by simp, any_ty r fs]
    simpa using q
theorem op_nin_ty : OpR X (compareOp .NotIn) (rInT X.K true) := by
  intro pins s σ H x y v u Q I rx ry h
  obtain ⟨p, xs, rfl, hq, fx, fs, q⟩ := h
  cases ry
  rcases hq with hq | hq
  · obtain ⟨its, r, pl, hz⟩ := I.list hq
    refine SeqAt.notIn_listAt (tyU x) pl.isList (fun w hw => mem_ty rx fx r fs w (by simpa using hw)) ⟨.bl _, H, I, rfl, ?_⟩
    rw [show its.toArray.any (tyU x) = its.any (tyU x) by simp, any_ty r fs]
    simpa using q
  · obtain ⟨its, r, pl, hz⟩ := I.tuple hq
    refine SeqAt.notIn_tupleAt (tyU x) pl (fun w hw => mem_ty rx fx r fs w (by simpa using hw)) ⟨.bl _, H, I, rfl, ?_⟩
    rw [show its.toArray.any (tyU x) = its.any (tyU x) by simp, any_ty r fs]
    simpa using q
theorem tyV_ok {F : Hp} {μ : List Addr} {x : V} {dx : D} (rx : RD c F μ x dx) (h : tyD dx = true) : tyV x = true := by cases rx <;> first | exact h | cases h
theorem tyE_ok {F : Hp} {μ : List Addr} {x y : V} {dx dy : D} (rx : RD c F μ x dx) (ry : RD c F μ y dy) (h : tyD dx = true) (h' : tyD dy = true) : tyVE x y = tyE dx dy := by
  cases rx <;> first | (cases h; done) | (cases ry <;> first | (cases h'; done) | rfl)
theorem tys_ok {F : Hp} {μ : List Addr} : ∀ {xs : List V} {ds : List D}, RDs c F μ xs ds → ds.all tyD = true → xs.all tyV = true
  | _, _, .nil, _ => rfl
  | _, _, .cons h r, e => by
    simp only [List.all_cons, Bool.and_eq_true] at e ⊢
    exact ⟨tyV_ok h e.1, tys_ok r e.2⟩
theorem inTy_ok {F : Hp} {μ : List Addr} {x : V} {dx : D} (rx : RD c F μ x dx) (h : tyD dx = true) : ∀ {xs : List V} {ds : List D}, RDs c F μ xs ds → ds.all tyD = true → (xs.any fun y => tyVE y x) = ds.any fun y => tyE y dx
  | _, _, .nil, _ => rfl
  | _, _, .cons (v := v) (vs := vs) h1 r, e => by
    simp only [List.all_cons, Bool.and_eq_true] at e
    rw [List.any_cons, List.any_cons, inTy_ok rx h r e.2, tyE_ok h1 rx e.1 h]
theorem go_inT : GOp X (compareOp .In) (q2 (inT false)) := op_flat op_in_ty fun F μ S H x y dx dy d Q rel rx ry e k => by
  obtain ⟨ds, e1, f1, f2, rfl⟩ := inT_ok e
  obtain ⟨a, vs, rfl, hq, r⟩ := ry.seq rel e1
  refine ⟨a, vs, rfl, hq, tyV_ok rx f1, tys_ok r f2, ?_⟩
  rw [inTy_ok rx f1 r f2]
  exact k (.bl _) (.bl _)
theorem go_ninT : GOp X (compareOp .NotIn) (q2 (inT true)) := op_flat op_nin_ty fun F μ S H x y dx dy d Q rel rx ry e k => by
  obtain ⟨ds, e1, f1, f2, rfl⟩ := inT_ok e
  obtain ⟨a, vs, rfl, hq, r⟩ := ry.seq rel e1
  refine ⟨a, vs, rfl, hq, tyV_ok rx f1, tys_ok r f2, ?_⟩
  rw [inTy_ok rx f1 r f2]
  exact k (.bl _) (.bl _)
/-! ## a sign in a text -/
def inC (n : Bool) : D → D → Option D
  | .str a, .str b => match a.cps.toList with
    | [z] => some (.bl (xor n (decide (z ∈ b.cps.toList))))
    | _ => none
  | _, _ => none
theorem str_one {a : Str} {z : Nat} (h : a.cps.toList = [z]) : a = ⟨#[z]⟩ := by
  cases a with
  | mk l => congr 1; exact Array.toList_inj.mp h
theorem go_inC : GOp X (compareOp .In) (q2 (inC false)) := op_flat op_in_sign fun F μ S H x y dx dy d Q rel rx ry e k => by
  cases rx with
  | str a =>
    cases ry with
    | str b =>
      change (match a.cps.toList with | [z] => some (.bl (xor false (decide (z ∈ b.cps.toList)))) | _ => none) = some d at e
      split at e
      · rename_i z hz
        cases e
        exact ⟨z, b, by rw [str_one hz], rfl, by simpa using k (.bl _) (.bl _)⟩
      · cases e
    | _ => cases e
  | _ => cases e
theorem go_ninC : GOp X (compareOp .NotIn) (q2 (inC true)) := op_flat op_notIn_sign fun F μ S H x y dx dy d Q rel rx ry e k => by
  cases rx with
  | str a =>
    cases ry with
    | str b =>
      change (match a.cps.toList with | [z] => some (.bl (xor true (decide (z ∈ b.cps.toList)))) | _ => none) = some d at e
      split at e
      · rename_i z hz
        cases e
        exact ⟨z, b, by rw [str_one hz], rfl, by simpa using k (.bl _) (.bl _)⟩
      · cases e
    | _ => cases e
  | _ => cases e
/-- in, not in, over sequences and texts -/
def dIn : D → D → Option D := alt2 (inQ false) (alt2 (inT false) (inC false))
def dNin : D → D → Option D := alt2 (inQ true) (alt2 (inT true) (inC true))
theorem go_in : GOp X (compareOp .In) (q2 dIn) := go_inQ.orL (go_inT.orL go_inC)
theorem go_nin : GOp X (compareOp .NotIn) (q2 dNin) := go_ninQ.orL (go_ninT.orL go_ninC)
/-! ## is, of truths -/
def isB : D → D → Option D
  | .bl a, .bl b => some (.bl (decide (a = b)))
  | _, _ => none
theorem go_isB : GOp X (compareOp .Is) (q2 isB) := op_flat op_is_bl fun F μ S H x y dx dy d Q rel rx ry e k => by
  cases rx with
  | bl a =>
    cases ry with
    | bl b => cases e; exact ⟨a, b, rfl, rfl, k (.bl _) (.bl _)⟩
    | _ => cases e
  | _ => cases e
def dIs : D → D → Option D := alt2 (isN1 false) (alt2 (isT false) isB)
def dNis : D → D → Option D := alt2 (isN1 true) (isT true)
theorem go_is : GOp X (compareOp .Is) (q2 dIs) := go_isN.orL (go_isT.orL go_isB)
theorem go_nis : GOp X (compareOp .IsNot) (q2 dNis) := go_notN.orL go_notT
/-! ## - x -/
def unNeg : OV1 := fun d S => match d with | .int i => .ok (.int (-i)) S | _ => .bad
theorem sm_neg : UnSm c (rU fun i => .int (-i)) unNeg := fun F μ S H x dx Q rel rx w => by
  cases rx with
  | int i => exact ⟨i, rfl, w _ F μ H Ext.refl rel (.int _)⟩
  | _ => exact w.elim
variable {a b e : Expr} {pos : Pos}
theorem ge_neg {ea : EV} (ha : GE X W a ea) : GE X W (.UnaryOp .USub a pos) (eUn unNeg ea) := by
  obtain ⟨ta, pa, sa⟩ := ha
  exact ⟨_, pe_un un_neg pa, sm_un sm_neg sa⟩
/-! ## a < b < c -/
def eChain (f g : OV2) (a b e : EV) : EV := fun env S => (a env S).bind fun x S1 => (b env S1).bind fun y S2 => (noX (f x y S2)).bind fun z S3 => match z with
  | .bl true => (e env S3).bind fun w S4 => noX (g y w S4)
  | .bl false => .ok (.bl false) S3
  | _ => .bad
theorem sm_chain {F0 : Hp} {μ0 : List Addr} {r r' : R2} {f g : OV2} {ta tb tc : TE} {a b e : EV} (hr : OpSm c r f) (hr' : OpSm c r' g) (ha : Sm c W F0 μ0 (rE c) ta a) (hb : Sm c W F0 μ0 (rE c) tb b) (hc : Sm c W F0 μ0 (rE c) tc e) :
    Sm c W F0 μ0 (rE c) (tChain r r' ta tb tc) (eChain f g a b e) := by
  refine Sm.bind (kt := fun x σ H1 Q => tb σ H1 fun y H2 => r x y H2 fun z H3 => ∃ k, z = .bl k ∧ (if k = true then tc σ H3 fun w' H4 => r' y w' H4 Q else Q (.bl false) H3))
    (ke := fun dx env S1 => (b env S1).bind fun dy S2 => (noX (f dx dy S2)).bind fun z S3 => match z with
      | .bl true => (e env S3).bind fun w S4 => noX (g dy w S4)
      | .bl false => .ok (.bl false) S3
      | _ => .bad) ha fun F1 μ1 x dx s1 p1 r1 => ?_
  refine Sm.bind (kt := fun y σ H2 Q => r x y H2 fun z H3 => ∃ k, z = .bl k ∧ (if k = true then tc σ H3 fun w' H4 => r' y w' H4 Q else Q (.bl false) H3))
    (ke := fun dy env S2 => (noX (f dx dy S2)).bind fun z S3 => match z with
      | .bl true => (e env S3).bind fun w S4 => noX (g dy w S4)
      | .bl false => .ok (.bl false) S3
      | _ => .bad) (hb.weaken s1 p1) fun F2 μ2 y dy s2 p2 r2 => ?_
  refine Sm.bind (ta := fun σ H Q => r x y H Q) (ea := fun env S2 => noX (f dx dy S2)) (R := rE c)
    (kt := fun z σ H3 Q => ∃ k, z = .bl k ∧ (if k = true then tc σ H3 fun w' H4 => r' y w' H4 Q else Q (.bl false) H3))
    (ke := fun z env S3 => match z with
      | .bl true => (e env S3).bind fun w S4 => noX (g dy w S4)
      | .bl false => .ok (.bl false) S3
      | _ => .bad) ?_ fun F3 μ3 z dz s3 p3 r3 => ?_
  · intro σ env F μ S H Q s p eR rel want
    exact hr F μ S H x y dx dy Q rel (r1.mono (s2.trans s) (p2.trans p)) (r2.mono s p) want.noX
  · cases r3 with
    | bl k =>
      cases k with
      | true =>
        have h := Sm.bind (kt := fun w' σ H4 Q => r' y w' H4 Q) (ke := fun w env S4 => noX (g dy w S4)) (T := rE c) (hc.weaken ((s1.trans s2).trans s3) ((p1.trans p2).trans p3)) fun F4 μ4 w dw s4 p4 r4 => by
          intro σ env F μ S H Q s p eR rel want
          exact hr' F μ S H y w dy dw Q rel (r2.mono (s3.trans (s4.trans s)) (p3.trans (p4.trans p))) (r4.mono s p) want.noX
        intro σ env F μ S H Q s p eR rel want
        exact ⟨true, rfl, by rw [if_pos rfl]; exact h σ env F μ S H Q s p eR rel want⟩
      | false =>
        intro σ env F μ S H Q s p eR rel want
        exact ⟨false, rfl, by rw [if_neg Bool.false_ne_true]; exact want _ F μ H Ext.refl rel (.bl _)⟩
    | _ => exact fun _ _ _ _ _ _ _ _ _ _ _ w => w.elim
theorem ge_chain {op op' : CmpOp} {f g : OV2} {ea eb ee : EV} (o : GOp X (compareOp op) f) (o' : GOp X (compareOp op') g) (ha : GE X W a ea) (hb : GE X W b eb) (he : GE X W e ee)
    (hm : lastMarks [op, op'] [b, e] = false := by with_unfolding_all rfl) : GE X W (.Compare a [op, op'] [b, e] pos) (eChain f g ea eb ee) := by
  obtain ⟨r, o, s⟩ := o
  obtain ⟨r', o', s'⟩ := o'
  obtain ⟨ta, pa, sa⟩ := ha
  obtain ⟨tb, pb, sb⟩ := hb
  obtain ⟨tc, pc, sc⟩ := he
  exact ⟨_, pe_chain o o' pa pb pc hm, sm_chain s s' sa sb sc⟩
theorem gt_chain {op op' : CmpOp} {f g : OV2} {ea eb ee : EV} (o : GOp X (compareOp op) f) (o' : GOp X (compareOp op') g) (ha : GE X W a ea) (hb : GE X W b eb) (he : GE X W e ee)
    (hm : lastMarks [op, op'] [b, e] = false := by with_unfolding_all rfl) : GT X W (.Compare a [op, op'] [b, e] pos) (tB' (eChain f g ea eb ee)) := by
  obtain ⟨r, o, s⟩ := o
  obtain ⟨r', o', s'⟩ := o'
  obtain ⟨ta, pa, sa⟩ := ha
  obtain ⟨tb, pb, sb⟩ := hb
  obtain ⟨tc, pc, sc⟩ := he
  refine ⟨_, pt_chain o o' pa pb pc hm, ?_⟩
  refine Sm.bind (kt := fun x σ H1 Q => ∃ k, x = .bl k ∧ Q k H1) (ke := fun d env S1 => match d with | .bl k => .ok k S1 | _ => .bad) (sm_chain s s' sa sb sc) fun F1 μ1 x dx s1 p1 r1 => Sm.pure fun σ env F μ S H s p _ _ => ?_
  cases r1 with
  | bl k => exact ⟨rfl, k, rfl, fun Q q => ⟨k, rfl, q⟩⟩
  | _ => trivial
/-! ## type(x) -/
def dTyp : List D → Option D
  | [.non] => some (.ty "NoneType")
  | [.bl _] => some (.ty "bool")
  | [.int _] => some (.ty "int")
  | [.str _] => some (.ty "str")
  | [.lst _] => some (.ty "list")
  | [.fix _] => some (.ty "list")
  | [.tup _] => some (.ty "tuple")
  | [.ktp _] => some (.ty "tuple")
  | _ => none
theorem cb_type : GCb X (.type "type") dTyp := by
  refine ⟨_, call_type1, fun F μ S H xs ds d Q rel rx e k => ?_⟩
  match ds, rx with
  | [.non], .cons (.non) .nil => cases e; exact ⟨_, _, rfl, .non, k _ F H Ext.refl rel (.ty _)⟩
  | [.bl b], .cons (.bl _) .nil => cases e; exact ⟨_, _, rfl, .bl b, k _ F H Ext.refl rel (.ty _)⟩
  | [.int i], .cons (.int _) .nil => cases e; exact ⟨_, _, rfl, .int i, k _ F H Ext.refl rel (.ty _)⟩
  | [.str z], .cons (.str _) .nil => cases e; exact ⟨_, _, rfl, .str z, k _ F H Ext.refl rel (.ty _)⟩
  | [.lst ds], .cons (.lst h r) .nil => cases e; exact ⟨_, _, rfl, .lst (rel.sql (SqL.of h)), k _ F H Ext.refl rel (.ty _)⟩
  | [.fix ds], .cons (.fix h r) .nil => cases e; exact ⟨_, _, rfl, .lst (rel.sql h), k _ F H Ext.refl rel (.ty _)⟩
  | [.tup ds], .cons (.tup h r) .nil => cases e; exact ⟨_, _, rfl, .tup (rel.sqt (SqT.of h)), k _ F H Ext.refl rel (.ty _)⟩
  | [.ktp ds], .cons (.ktp h r) .nil => cases e; exact ⟨_, _, rfl, .tup (rel.sqt h), k _ F H Ext.refl rel (.ty _)⟩
end
end Sm
set_option Elab.async false
set_option linter.all false
set_option maxRecDepth 100000
open PySem PySem.Spec
namespace Sm
open L2
section
variable {X : Cx} {W : WX} {c : Cfg}
/-! ## a dict locked and unlocked -/
def Same (F F' : Hp) : Prop := ∀ b, (∀ o, F b = some o → F' b = some o) ∨ ∃ u, isDict u = true ∧ Rd F b u ∧ Rd F' b u
theorem Rd.one {F : Hp} {a : Addr} {u v : HO} (hu : isDict u = true) (h1 : Rd F a u) (h2 : F a = some v) : v = u ∨ ∃ o, v = .frz o u := by
  rcases h1 with h | ⟨o, h⟩
  · rw [h] at h2; exact .inl (Option.some.inj h2).symm
  · rw [h] at h2; exact .inr ⟨o, (Option.some.inj h2).symm⟩
theorem Same.at_ {F F' : Hp} (s : Same F F') {a : Addr} {v : HO} (h : F a = some v) (hv : isDict v = false) (hf : ∀ o u, v ≠ .frz o u) : F' a = some v := by
  rcases s a with q | ⟨u, hu, h1, h2⟩
  · exact q _ h
  · rcases Rd.one hu h1 h with rfl | ⟨o, rfl⟩
    · rw [hu] at hv; cases hv
    · exact absurd rfl (hf o u)
theorem Same.rd {F F' : Hp} (s : Same F F') {a : Addr} {v : HO} (h : Rd F a v) (hf : ∀ o u, v ≠ .frz o u) : Rd F' a v := by
  rcases s a with q | ⟨u, hu, h1, h2⟩
  · rcases h with h | ⟨o, h⟩
    · exact .inl (q _ h)
    · exact .inr ⟨o, q _ h⟩
  · rcases h with h | ⟨o, h⟩
    · rcases Rd.one hu h1 h with rfl | ⟨o, rfl⟩
      · exact h2
      · exact absurd rfl (hf o u)
    · rcases Rd.one hu h1 h with e | ⟨o', e⟩
      · rw [← e] at hu; cases hu
      · have e' : v = u := by injection e
        rw [e']; exact h2
theorem Same.sqt {K : PySem.W.Frag} {F F' : Hp} (s : Same F F') {a : Addr} {xs : List V} (h : SqT K F a xs) : SqT K F' a xs := h.imp (fun h => s.rd h fun _ _ z => by cases z) id
theorem Same.sql {K : PySem.W.Frag} {F F' : Hp} (s : Same F F') {a : Addr} {xs : List V} (h : SqL K F a xs) : SqL K F' a xs := h.imp (fun h => s.rd h fun _ _ z => by cases z) id
mutual
theorem RD.same {F F' : Hp} {μ : List Addr} (s : Same F F') : ∀ {v : V} {d : D}, RD c F μ v d → RD c F' μ v d
  | _, _, .non => .non
  | _, _, .bl b => .bl b
  | _, _, .int i => .int i
  | _, _, .str i => .str i
  | _, _, .ty i => .ty i
  | _, _, .fn h => .fn h
  | _, _, .tup h r => .tup (s.at_ h rfl fun _ _ z => by cases z) (RDs.same s r)
  | _, _, .ktp h r => .ktp (s.sqt h) (RDs.same s r)
  | _, _, .lst h r => .lst (s.at_ h rfl fun _ _ z => by cases z) (RDs.same s r)
  | _, _, .fix h r => .fix (s.sql h) (RDs.same s r)
  | _, _, .dic h r => .dic (s.rd h fun _ _ z => by cases z) (RDs.same s r)
  | _, _, .dtp h r => .dtp (s.rd h fun _ _ z => by cases z) (RDs.same s r)
  | _, _, .obj hc h hd r => .obj hc (s.at_ h rfl fun _ _ z => by cases z) (s.at_ hd rfl fun _ _ z => by cases z) (RDs.same s r)
  | _, _, .hnd h => .hnd h
theorem RDs.same {F F' : Hp} {μ : List Addr} (s : Same F F') : ∀ {vs : List V} {ds : List D}, RDs c F μ vs ds → RDs c F' μ vs ds
  | _, _, .nil => .nil
  | _, _, .cons h r => .cons (RD.same s h) (RDs.same s r)
end
theorem EnvR.same {F F' : Hp} {μ : List Addr} {σ : L2.St} {env : Env} (e : EnvR c F μ σ env) (s : Same F F') : EnvR c F' μ σ env :=
  ⟨e.len, fun i d h => let ⟨v, h1, h2⟩ := e.at_ i d h; ⟨v, h1, h2.same s⟩⟩
theorem same_lock {F : Hp} {a od : _} {u : HO} (h : F a = some u) (hu : isDict u = true) : Same F (upd F a (.frz od u)) := fun b => by
  by_cases hb : b = a
  · subst hb; exact .inr ⟨u, hu, .inl h, .inr ⟨od, upd_same⟩⟩
  · exact .inl fun o e => by rw [upd_ne hb]; exact e
theorem same_open {F : Hp} {a od : _} {u : HO} (h : F a = some (.frz od u)) (hu : isDict u = true) : Same F (upd F a u) := fun b => by
  by_cases hb : b = a
  · subst hb; exact .inr ⟨u, hu, .inr ⟨od, h⟩, .inl upd_same⟩
  · exact .inl fun o e => by rw [upd_ne hb]; exact e
theorem RM.same {F F' H : Hp} {μ : List Addr} {a : Addr} {m : MO} (q : RM c F μ H a m) (s : Same F F') : RM c F' μ H a m := by
  cases m with
  | dead => trivial
  | lst ds => obtain ⟨vs, h, r⟩ := q; exact ⟨vs, h, r.same s⟩
  | dic ks ds => obtain ⟨kvs, h, hk, r⟩ := q; exact ⟨kvs, h, hk, r.same s⟩
  | dtp ks ds => obtain ⟨kvs, h, hk, r⟩ := q; exact ⟨kvs, h, hk, r.same s⟩
  | ins C ns ds => obtain ⟨cl, dx, fs, hc, h, hx, hn, r⟩ := q; exact ⟨cl, dx, fs, hc, h, hx, hn, r.same s⟩
  | tab _ _ => exact q
theorem Rel.swap {F H : Hp} {μ : List Addr} {S : Sto} {a : Addr} {o o' : HO} (rel : Rel c F μ S H) (h : F a = some o) (ho : ∀ b, o ≠ .own b) (ho' : ∀ b, o' ≠ .own b) (s : Same F (upd F a o')) (hxt : ∀ k, o ≠ .ext k := by exact fun _ z => by cases z) : Rel c (upd F a o') μ S (upd H a o') := by
  refine ⟨fun b u e => ?_, rel.len, rel.nd, fun n b m e1 e2 e3 => ?_, fun b hb => ?_, fun n b m e1 e2 => ?_⟩
  · by_cases hb : b = a
    · subst hb; rw [upd_same] at e ⊢; exact e
    · rw [upd_ne hb] at e ⊢; exact rel.frz b u e
  · have hb : b ≠ a := fun z => by rw [z, ] at e1; have := rel.free n a m e1 e2 e3; rw [h] at this; cases this
    rw [upd_ne hb]; exact rel.free n b m e1 e2 e3
  · by_cases hb' : b = a
    · exact ⟨o', by rw [hb']; exact upd_same, ho'⟩
    · rw [upd_ne hb']; exact rel.known b hb
  · have q := rel.at_ n b m e1 e2
    by_cases hm : m = .dead
    · subst hm; trivial
    · have hb : b ≠ a := fun z => by rw [z] at e1; have := rel.free n a m e1 e2 hm; rw [h] at this; cases this
      exact (q.same s).heap (upd_ne hb) (fun dx y hx => by
        rw [upd_ne (fun z => by rw [z, rel.frz a _ h] at hx; exact ho _ (Option.some.inj hx))]; exact hx) fun b k hx => by
        rw [upd_ne (fun z => by rw [z, rel.frz a _ h] at hx; exact hxt _ (Option.some.inj hx))]; exact hx
/-- what happened under the lock, told without it -/
theorem ext_open {F H F' H' : Hp} {μ μ' : List Addr} {a : Addr} {u : HO} {od} (rel : Rel c F μ S H) (h : F a = some u) (x : Ext (upd F a (.frz od u)) μ (upd H a (.frz od u)) F' μ' H') : Ext F μ H (upd F' a u) μ' (upd H' a u) := by
  refine ⟨fun b o e => ?_, x.pre, fun b o e n => ?_, fun b hb => ?_⟩
  · by_cases hb : b = a
    · subst hb; rw [upd_same, ← h]; exact e
    · rw [upd_ne hb]; exact x.mono b o (by rw [upd_ne hb]; exact e)
  · by_cases hb : b = a
    · subst hb
      have e2 := rel.frz b u h
      rw [upd_same, ← e2]
      exact ⟨e, fun _ z => by rw [h] at z; cases z⟩
    · rw [upd_ne hb, upd_ne hb]
      obtain ⟨k1, k2⟩ := x.keep b o (by rw [upd_ne hb]; exact e) n
      exact ⟨k1, fun z1 z2 => k2 z1 (by rw [upd_ne hb]; exact z2)⟩
  · rcases x.fresh b hb with h1 | h1
    · exact .inl h1
    · by_cases hb' : b = a
      · subst hb'; rw [upd_same] at h1; cases h1
      · rw [upd_ne hb'] at h1; exact .inr h1
theorem dict_mut {u : HO} (h : isDict u = true) : Mut (some u) := by cases u <;> first | trivial | cases h
theorem dict_own {u : HO} (h : isDict u = true) : ∀ b, u ≠ .own b := fun b z => by rw [z] at h; cases h
theorem lockE_at {t : TE} {r : Res D} {σ : L2.St} {F : Hp} {μ : List Addr} {S : Sto} {H : Hp} {Q : VK} {a : Addr} {u : HO} (rel : Rel c F μ S H) (h : F a = some u) (hu : isDict u = true)
    (ht : ∀ od Q', Want c W (rE c) σ (upd F a (.frz od u)) μ (upd H a (.frz od u)) Q' (noX r) → t σ (upd H a (.frz od u)) Q') (want : Want c W (rE c) σ F μ H Q (noX r)) : tLockE t σ H Q := by
  refine ⟨a, u, rel.frz a u h, dict_mut hu, fun od => ht od _ ?_⟩
  cases r with
  | bad => exact want
  | exc _ _ _ _ => exact want
  | ok d S' =>
    intro v F' μ' H' x rel' r'
    have hF : F' a = some (.frz od u) := x.mono a _ upd_same
    exact ⟨rel'.frz a _ hF, want v _ μ' _ (ext_open rel h x) (rel'.swap hF (fun _ z => by cases z) (dict_own hu) (same_open hF hu)) (r'.same (same_open hF hu))⟩
def noXF : Res Flow → Res Flow
  | .ok a S => .ok a S
  | .exc _ _ _ _ => .bad
  | .bad => .bad
theorem lock_at {t : TS} {r : Res Flow} {E : Ends} {σ : L2.St} {F : Hp} {μ : List Addr} {S : Sto} {H : Hp} {a : Addr} {u : HO} (rel : Rel c F μ S H) (h : F a = some u) (hu : isDict u = true)
    (ht : ∀ od E', WantF c W E' (upd F a (.frz od u)) μ (upd H a (.frz od u)) (noXF r) → t E' σ (upd H a (.frz od u))) (want : WantF c W E F μ H (noXF r)) : tLock t E σ H := by
  refine ⟨a, u, rel.frz a u h, dict_mut hu, fun od => ht od _ ?_⟩
  cases r with
  | bad => exact want
  | exc _ _ _ _ => exact want
  | ok d S' =>
    cases d with
    | rt d =>
      intro v F' μ' H' x rel' r'
      have hF : F' a = some (.frz od u) := x.mono a _ upd_same
      exact ⟨rel'.frz a _ hF, want v _ μ' _ (ext_open rel h x) (rel'.swap hF (fun _ z => by cases z) (dict_own hu) (same_open hF hu)) (r'.same (same_open hF hu))⟩
    | nx env' | bk env' | ct env' =>
      intro σ' F' μ' H' x rel' eR'
      have hF : F' a = some (.frz od u) := x.mono a _ upd_same
      exact ⟨rel'.frz a _ hF, want σ' _ μ' _ (ext_open rel h x) (rel'.swap hF (fun _ z => by cases z) (dict_own hu) (same_open hF hu)) (eR'.same (same_open hF hu))⟩
/-! ## names and their attributes, as they stand -/
abbrev PV := Env → Sto → Option D
def Keeps (H H' : Hp) : Prop := ∀ b cl dx fs, H b = some (.ins cl dx fs) → H' b = some (.ins cl dx fs)
theorem keeps_lock {H : Hp} {a : Addr} {u o : HO} (h : H a = some u) (hu : isDict u = true) : Keeps H (upd H a o) := fun b cl dx fs e => by
  rw [upd_ne (fun z => by rw [z, h] at e; have := Option.some.inj e; rw [this] at hu; cases hu)]; exact e
structure GP (X : Cx) (e : Expr) (p : PV) : Prop where
  ex : ∃ te, PE X e te ∧ ∀ F μ σ env S H d, EnvR (cf X) F μ σ env → Rel (cf X) F μ S H → p env S = some d → ∃ v, RD (cf X) F μ v d ∧ ∀ H' Q, Keeps H H' → Q v H' → te σ H' Q
def pV (i : Nat) : PV := fun env _ => match env[i]? with | some (some d) => some d | _ => none
def pF (cs : List Str) (f : Str) (p : PV) : PV := fun env S => (p env S).bind fun d => match insOf d S with
  | some (C, ns, ds) => if C ∈ cs then lookF ns ds f else none
  | none => none
theorem gp_var (i : Nat) {x : Str} {pos : Pos} (hN : X.N[i]? = some x := by rfl) (hv : Vis X.env.scope x := by first | exact Or.inl rfl | exact Or.inr (Or.inl rfl) | exact Or.inr (Or.inr rfl)) (hd : (x == ("__debug__" : Str)) = false := by decide)
    (hcd : (x == ("__classdict__" : Str)) = false := by decide) : GP X (.Name x pos) (pV i) := by
  refine ⟨_, pe_var hN hv hd hcd, fun F μ σ env S H d eR rel e => ?_⟩
  unfold pV at e
  split at e
  · rename_i d' h
    cases e
    obtain ⟨v, h1, h2⟩ := eR.at_ i d h
    exact ⟨v, h2, fun H' Q _ q => ⟨v, h1, q⟩⟩
  · cases e
theorem gp_fld {e : Expr} {f : Str} {pos : Pos} {p : PV} {cs : List Str} (hC : ∀ C ∈ cs, ClsF X.K X.mg C f) (h : GP X e p) (hb : attributeBase e f X.env (eval e X.env) = eval e X.env := by rfl) : GP X (.Attribute e f pos) (pF cs f p) := by
  obtain ⟨t, pt, s⟩ := h
  refine ⟨_, pe_fld pt hb, fun F μ σ env S H d eR rel e => ?_⟩
  unfold pF at e
  cases e0 : p env S with
  | none => rw [e0] at e; cases e
  | some d0 =>
    rw [e0] at e
    obtain ⟨v0, r0, k0⟩ := s F μ σ env S H d0 eR rel e0
    simp only [Option.bind_some] at e
    cases e1 : insOf d0 S with
    | none => rw [e1] at e; cases e
    | some t =>
      obtain ⟨C, ns, ds⟩ := t
      rw [e1] at e
      dsimp only at e
      split at e
      · rename_i hm
        obtain ⟨a, cl, dd, fs, rfl, hc, ho, rfl, r⟩ := ins_rd rel r0 e1
        obtain ⟨cl', hc', hcl, hna⟩ := hC C hm
        have e9 : some (Value.ref cl) = some (Value.ref cl') := hc.symm.trans hc'
        cases e9
        obtain ⟨v, h1, h2⟩ := lookF_ok r e
        exact ⟨v, h2, fun H' Q kp q => k0 H' _ kp ⟨a, cl, dd, fs, v, rfl, kp _ _ _ _ ho, hcl, hna, h1, q⟩⟩
      · cases e
def eP (p : PV) : EV := fun env S => optR (p env S) S
theorem GP.ge {e : Expr} {p : PV} (h : GP X e p) : GE X W e (eP p) := by
  obtain ⟨t, pt, s⟩ := h
  refine ⟨t, pt, fun σ env F μ S H Q s0 p0 eR rel want => ?_⟩
  unfold eP at want
  cases e : p env S with
  | none => rw [e] at want; exact want.elim
  | some d =>
    rw [e] at want
    obtain ⟨v, r, k⟩ := s F μ σ env S H d eR rel e
    exact k H Q (fun _ _ _ _ z => z) (want v F μ H Ext.refl rel r)
/-! ## walking a dict's values -/
theorem PE.or {e : Expr} {t u : TE} (h1 : PE X e t) (h2 : PE X e u) : PE X e (fun σ H Q => t σ H Q ∨ u σ H Q) :=
  ⟨fun pins s σ H Q I h => h.elim (h1.run pins s σ H Q I) (h2.run pins s σ H Q I)⟩
theorem PS.or {st : Stmt} {t u : TS} (h1 : PS X st t) (h2 : PS X st u) : PS X st (fun D σ H => t D σ H ∨ u D σ H) :=
  ⟨fun pins s σ H D I h => h.elim (h1.run pins s σ H D I) (h2.run pins s σ H D I)⟩
theorem rit_vals {F : Hp} {μ : List Addr} {a : Addr} {o} {kvs : List (Key × V)} {ds : List D} (h : F a = some (.frz o (.dK kvs))) (r : RDs c F μ (kvs.map (·.2)) ds) : rIt c F μ (Itd a o kvs) ds := by
  intro i F2 μ2 S2 H2 s2 p2 rel2
  have hq : H2 a = some (.frz o (.dK kvs)) := rel2.frz a _ (s2 _ _ h)
  have hl : kvs.length = ds.length := by rw [← r.length]; simp
  have w := walk_values (d := a) (o := o) (kvs := kvs)
  refine ⟨fun hi => ⟨w.goes i H2 (by rw [hl]; exact hi) hq, fun x H3 y => ?_⟩, fun hi => by rw [hi, ← hl]; exact w.stops H2 hq⟩
  obtain ⟨e1, k, e2⟩ := w.yields i H2 x H3 (by rw [hl]; exact hi) hq y
  subst e1
  obtain ⟨d, e3, r3⟩ := r.getV (i := i) (v := x) (by rw [List.getElem?_map, e2]; rfl)
  exact ⟨F2, d, Ext.refl, rel2, e3, r3.mono s2 p2⟩
def dVals : D → Option (List D) | .dic _ ds => some ds | _ => none
def eLcV (p : PV) (own : List Nat) (g : GV) (t : TV) (e : EV) : EV := fun env S => match (p env S).bind dVals with
  | some ds => noX (eLc own (fun _ S => .ok ds S) g t e env S)
  | none => .bad
theorem vals_at {te : TE} {F : Hp} {μ : List Addr} {σ : L2.St} {H H' : Hp} {a : Addr} {v : V} {kvs : List (Key × V)} {ds : List D} {o}
    (k : ∀ H' Q, Keeps H H' → Q v H' → te σ H' Q) (hv : v = .ref a) (kp : Keeps H H') {S : Sto} (rel : Rel c F μ S H') (h : F a = some (.frz o (.dK kvs))) (r : RDs c F μ (kvs.map (·.2)) ds) {Q' : It → Hp → Prop} (w : Want c W (rIt c) σ F μ H' Q' (.ok ds S)) : iVals te σ H' Q' := by
  refine k H' _ kp ⟨a, o, kvs, hv, rel.frz a _ h, w _ F μ H' Ext.refl rel (rit_vals h r)⟩
theorem ge_lcV {elt tg e : Expr} {ifs : List Expr} {scope : Scope} {own : List (Str × Nat)} {apos cpos pos : Pos} {p : PV} {g : GV} {tv : TV} {ev : EV} {L : List Nat} (hN : X.N.Nodup) (hp : GP X e p) (ok : blkC X.N X.env.scope scope own = true)
    (hg : ∀ (s : Shared) (H : Hp) (C : Addr) (cl : List (Str × Addr)) (fp : List Addr), GG (X.blk s H scope (compEnvC scope cl C X.env) fp) tg g L)
    (ht : ∀ (s : Shared) (H : Hp) (C : Addr) (cl : List (Str × Addr)) (fp : List Addr), GTs (X.blk s H scope (compEnvC scope cl C X.env) fp) W0 ifs tv)
    (he : ∀ (s : Shared) (H : Hp) (C : Addr) (cl : List (Str × Addr)) (fp : List Addr), GE (X.blk s H scope (compEnvC scope cl C X.env) fp) W0 elt ev)
    (hL : ∀ i ∈ L, i ∈ own.map (·.2) := by decide) (hc : X.calm = true := by rfl) (hbase : attributeBase e "values" X.env (eval e X.env) = eval e X.env := by rfl) (hline : (apos.endLine == cpos.line) = true := by rfl)
    (hs : ∀ x, foldedSetIterable (.Call (.Attribute e "values" apos) [] [] cpos) X.env x = pure x := by intro _; rfl) :
    GE X W (.ListComp elt [⟨tg, .Call (.Attribute e "values" apos) [] [] cpos, ifs, 0⟩] scope pos) (eLcV p (own.map (·.2)) g tv ev) := by
  obtain ⟨te, pt, k⟩ := hp
  have P : PE X (.ListComp elt [⟨tg, .Call (.Attribute e "values" apos) [] [] cpos, ifs, 0⟩] scope pos) (tLc (iVals te) (Gof (cf X) g L) (Xof (cf X) W0 rId tv) (Xof (cf X) W0 (rE (cf X)) ev) (own.map (·.2))) := pe_lc (pos := pos) hc hN (pi_values (tg := tg) pt hbase hline) (blkOk_by ok) (fun s H C cl fp => (hg s H C cl fp).canon) (fun s H C cl fp => (ht s H C cl fp).canon) (fun s H C cl fp => (he s H C cl fp).canon) hs
  refine ⟨_, PE.or (pe_lock P) P, fun σ env F μ S H Q s0 p0 eR rel want => ?_⟩
  unfold eLcV at want
  cases e0 : p env S with
  | none => rw [e0] at want; exact want.elim
  | some d =>
    cases d with
    | dic ks ds =>
      rw [e0] at want
      change Want _ _ _ _ _ _ _ _ (noX (eLc (own.map (·.2)) (fun _ S => .ok ds S) g tv ev env S)) at want
      obtain ⟨v, r, kk⟩ := k F μ σ env S H _ eR rel e0
      generalize hdd : D.dic ks ds = dd at r
      cases r with
      | dic h r =>
        rename_i a kvs ds'
        have e9 : ds = ds' := by injection hdd
        subst e9
        rcases h with h | ⟨o, h⟩
        · refine .inl (lockE_at rel h rfl (fun od Q' w => ?_) want)
          have sm := same_lock (od := od) h rfl
          refine lc_at (W := W) (fun Q2 w2 => ?_) hL (eR.same sm) (rel.swap h (fun _ z => by cases z) (fun _ z => by cases z) sm) w.noX
          exact vals_at (H := H) kk rfl (keeps_lock (rel.frz _ _ h) rfl) (rel.swap h (fun _ z => by cases z) (fun _ z => by cases z) sm) upd_same (r.same sm) w2
        · refine .inr (lc_at (W := W) (fun Q2 w2 => ?_) hL eR rel want.noX)
          exact vals_at (H := H) kk rfl (fun _ _ _ _ z => z) rel h r w2
      | _ => cases hdd
    | _ => rw [e0] at want; exact want.elim
def sForV (p : PV) (g : GV) (b : SV) : SV := fun env S => match (p env S).bind dVals with
  | some ds => noXF (sFor (fun _ S => .ok ds S) g b env S)
  | none => .bad
theorem noXF_want {E : Ends} {F : Hp} {μ : List Addr} {H : Hp} {r : Res Flow} (w : WantF c W E F μ H (noXF r)) : WantF c W E F μ H r := by
  cases r with
  | ok a S => exact w
  | _ => exact w.elim
theorem gs_forV {tg e : Expr} {body : List Stmt} {apos cpos pos : Pos} {p : PV} {g : GV} {b : SV} {L : List Nat} (hpo : PassesOwn (model X.prog X.w) X.A X.env X.xe) (hp : GP X e p) (hg : GG X tg g L) (hb : GB X W body b)
    (hc : X.calm = true := by rfl) (hbase : attributeBase e "values" X.env (eval e X.env) = eval e X.env := by rfl) (hline : (apos.endLine == cpos.line) = true := by rfl)
    (hs : ∀ x, foldedSetIterable (.Call (.Attribute e "values" apos) [] [] cpos) X.env x = pure x := by intro _; rfl) :
    GS X W (.For tg (.Call (.Attribute e "values" apos) [] [] cpos) body [] pos) (sForV p g b) := by
  obtain ⟨te, pt, k⟩ := hp
  obtain ⟨tt, pg, sg⟩ := hg
  obtain ⟨tb, pb, sb⟩ := hb
  have P := ps_for (pos := pos) hpo hc (pi_values (tg := tg) pt hbase hline) pg pb hs
  refine ⟨_, PS.or (ps_lock P) P, fun E σ env F μ S H eR rel want => ?_⟩
  unfold sForV at want
  cases e0 : p env S with
  | none => rw [e0] at want; exact want.elim
  | some d =>
    cases d with
    | dic ks ds =>
      rw [e0] at want
      change WantF _ _ _ _ _ _ (noXF (sFor (fun _ S => .ok ds S) g b env S)) at want
      obtain ⟨v, r, kk⟩ := k F μ σ env S H _ eR rel e0
      generalize hdd : D.dic ks ds = dd at r
      cases r with
      | dic h r =>
        rename_i a kvs ds'
        have e9 : ds = ds' := by injection hdd
        subst e9
        rcases h with h | ⟨o, h⟩
        · refine .inl (lock_at rel h rfl (fun od E' w => ?_) want)
          have sm := same_lock (od := od) h rfl
          refine for_at (W := W) (fun Q2 w2 => ?_) sg sb (eR.same sm) (rel.swap h (fun _ z => by cases z) (fun _ z => by cases z) sm) (noXF_want w)
          exact vals_at (H := H) kk rfl (keeps_lock (rel.frz _ _ h) rfl) (rel.swap h (fun _ z => by cases z) (fun _ z => by cases z) sm) upd_same (r.same sm) w2
        · refine .inr (for_at (W := W) (fun Q2 w2 => ?_) sg sb eR rel (noXF_want want))
          exact vals_at (H := H) kk rfl (fun _ _ _ _ z => z) rel h r w2
      | _ => cases hdd
    | _ => rw [e0] at want; exact want.elim
end
end Sm
set_option Elab.async false
set_option linter.all false
set_option maxRecDepth 100000
open PySem PySem.Spec
namespace Sm
open L2
section
variable {X : Cx} {W : WX} {c : Cfg}
/-! ## comprehensions with two fors -/
def lcGoK (g : GV) (t : TV) (e : EV) (env : Env) (rest : Sto → Res (List D)) : List D → Sto → Res (List D)
  | [], S => rest S
  | d :: ds, S => match g d env with
    | none => .bad
    | some env1 => (noX (t env1 S)).bind fun k S1 => if k = true then (noX (e env1 S1)).bind fun y S2 => (lcGoK g t e env rest ds S2).bind fun ys S3 => .ok (y :: ys) S3 else lcGoK g t e env rest ds S1
def lc2Go (g : GV) (t : TV) (iv1 : AV) (vs1 : List Nat) (g1 : GV) (t1 : TV) (e : EV) (env : Env) : List D → Sto → Res (List D)
  | [], S => .ok [] S
  | d :: ds, S => match g d env with
    | none => .bad
    | some env1 => (noX (t env1 S)).bind fun k S1 => if k = true then (noX (iv1 env1 S1)).bind fun ds1 S2 => lcGoK g1 t1 e (wipeE env1 vs1) (fun S3 => lc2Go g t iv1 vs1 g1 t1 e env ds S3) ds1 S2 else lc2Go g t iv1 vs1 g1 t1 e env ds S1
def eLc2 (own : List Nat) (iv : AV) (g : GV) (t : TV) (iv1 : AV) (vs1 : List Nat) (g1 : GV) (t1 : TV) (e : EV) : EV := fun env S => (iv env S).bind fun ds S1 => fin [] (lc2Go g t iv1 vs1 g1 t1 e (wipeE env own) ds S1)
/-- what becomes of the list in the end -/
abbrev KL := List D → Sto → Res D
def finK (K : KL) (acc : List D) (r : Res (List D)) : Res D := match r with
  | .ok ys S => if (acc ++ ys).length ≤ 16777216 then K (acc ++ ys) S else .bad
  | _ => .bad
def kLst : KL := fun ys S => .ok (.lst ys) S
def kHnd : KL := fun ys S => .ok (.hnd S.length) (S ++ [.lst ys])
theorem fin_lst (acc : List D) (r : Res (List D)) : fin acc r = finK kLst acc r := by cases r <;> rfl
/-- the list under way, at p -/
def Und (K : KL) (c : Cfg) (W : WX) (σ : L2.St) (Q : VK) (F1 : Hp) (μ1 : List Addr) (H1 : Hp) (p : Addr) (Fb : Hp) (μb : List Addr) (k : Sto → Res (List D)) (H : Hp) : Prop :=
  ∃ F μ S acc vacc, Sub Fb F ∧ μb <+: μ ∧ Ext F1 μ1 H1 F μ H ∧ Rel c F μ S H ∧ H p = some (.lst vacc) ∧ F p = none ∧ p ∉ μ ∧ RDs c F μ vacc acc ∧ Want c W (rE c) σ F1 μ1 H1 Q (finK K acc (k S))
theorem fin_bind {K : KL} {α : Type} {acc : List D} {r : Res α} {k : α → Sto → Res (List D)} {W : WX} {R : RR V D} {σ : L2.St} {F H : Hp} {μ : List Addr} {Q : V → Hp → Prop} (w : Want c W R σ F μ H Q (finK K acc ((noX r).bind k))) : ∃ y S, r = .ok y S ∧ Want c W R σ F μ H Q (finK K acc (k y S)) := by
  cases r with
  | ok y S => exact ⟨y, S, rfl, w⟩
  | bad => exact w.elim
  | exc _ _ _ _ => exact w.elim
/-- one more in the list under way -/
theorem und_put {K : KL} {σ : L2.St} {Q : VK} {F1 : Hp} {μ1 : List Addr} {H1 : Hp} {p : Addr} {Fb : Hp} {μb : List Addr} {F5 : Hp} {μ5 : List Addr} {S5 : Sto} {H5 : Hp} {acc : List D} {vacc : List V} {v5 : V} {y5 : D} {k : Sto → Res (List D)} (hp : H1 p = none)
    (sb : Sub Fb F5) (pb : μb <+: μ5) (x : Ext F1 μ1 H1 F5 μ5 H5) (rel : Rel c F5 μ5 S5 H5) (hD : H5 p = some (.lst vacc)) (fD : F5 p = none) (nD : p ∉ μ5) (ra : RDs c F5 μ5 vacc acc) (r5 : RD c F5 μ5 v5 y5)
    (w : Want c W (rE c) σ F1 μ1 H1 Q (finK K acc ((k S5).bind fun ys S3 => .ok (y5 :: ys) S3))) : ∃ acc, H5 p = some (.lst acc) ∧ acc.length < sizeLine ∧ Und K c W σ Q F1 μ1 H1 p Fb μb k (upd H5 p (.lst (acc ++ [v5]))) := by
  cases hr : k S5 with
  | bad => rw [hr] at w; exact w.elim
  | exc C ns es S' => rw [hr] at w; exact w.elim
  | ok zs S6 =>
    rw [hr] at w
    change Want c W (rE c) σ F1 μ1 H1 Q (if (acc ++ (y5 :: zs)).length ≤ 16777216 then K (acc ++ (y5 :: zs)) S6 else .bad) at w
    split at w
    · rename_i hl
      have hl2 : vacc.length < 16777216 := by
        rw [ra.length]
        simp at hl
        omega
      refine ⟨vacc, hD, by rw [sizeLine_eq]; exact hl2, F5, μ5, S5, acc ++ [y5], vacc ++ [v5], sb, pb, ?_, rel.aside hD (fun a z => by cases z) fD nD, upd_same, fD, nD, ra.append (.cons r5 .nil), ?_⟩
      · refine ⟨x.mono, x.pre, fun b o hb hn => ?_, x.fresh⟩
        rw [upd_ne (ne_of_none hb hp)]
        exact x.keep b o hb hn
      · rw [hr]
        show Want c W (rE c) σ F1 μ1 H1 Q (if ((acc ++ [y5]) ++ zs).length ≤ 16777216 then K ((acc ++ [y5]) ++ zs) S6 else .bad)
        rw [List.append_assoc, if_pos (by simpa using hl)]
        exact w
    · exact w.elim
/-- a step aside of the list -/
theorem ext_at {F μ H F' μ' H' : _} {p : Addr} {vacc : List V} (x : Ext F μ H F' μ' H') (hD : H p = some (.lst vacc)) (fD : F p = none) (nD : p ∉ μ) : H' p = some (.lst vacc) ∧ F' p = none ∧ p ∉ μ' := by
  obtain ⟨h1, h2⟩ := x.keep p _ hD nD
  exact ⟨h1, h2 (fun a z => by cases z) fD, fun z => (x.fresh p z).elim nD fun z => by rw [hD] at z; cases z⟩
/-- the inner turns -/
theorem in_at {K : KL} {σ : L2.St} {Q : VK} {F1 : Hp} {μ1 : List Addr} {H1 : Hp} {p : Addr} {g1 : GV} {L1 vs1 : List Nat} {t1 : TV} {e : EV} {J : It} {ds1 : List D} {env4 : Env} {σ2 : L2.St} {Fb : Hp} {μb : List Addr} {rest : Sto → Res (List D)} (hp : H1 p = none) (hL : ∀ i ∈ L1, i ∈ vs1)
    {F4 : Hp} {μ4 : List Addr} {S4 : Sto} {H4 : Hp} {acc : List D} {vacc : List V} (sb : Sub Fb F4) (pb : μb <+: μ4) (x : Ext F1 μ1 H1 F4 μ4 H4) (rel : Rel c F4 μ4 S4 H4) (hD : H4 p = some (.lst vacc)) (fD : F4 p = none) (nD : p ∉ μ4) (ra : RDs c F4 μ4 vacc acc)
    (rJ : rIt c F4 μ4 J ds1) (eR : EnvR c F4 μ4 σ2 env4) (w : Want c W (rE c) σ F1 μ1 H1 Q (finK K acc (lcGoK g1 t1 e (wipeE env4 vs1) rest ds1 S4))) :
    ∃ W1 : Nat → Nat → Hp → Prop, (∃ m, W1 0 m H4) ∧ ∀ j k H, W1 j k H →
      (J.stop j H ∧ Und K c W σ Q F1 μ1 H1 p Fb μb rest H) ∨ (J.go j H ∧ ∃ Nx1 : Hp → Prop, (∀ H', Nx1 H' → ∃ k', k' < k ∧ W1 (j + 1) k' H') ∧ ∀ x H', J.yld j H x H' → Gof c g1 L1 x (wipe σ2 vs1) H' fun σ3 H5 => wipe σ3 vs1 = wipe σ2 vs1 ∧ Xof c W0 rId t1 σ3 H5 fun b H6 =>
        if b = true then Xof c W0 (rE c) e σ3 H6 fun y H7 => ∃ acc, H7 p = some (.lst acc) ∧ acc.length < sizeLine ∧ Nx1 (upd H7 p (.lst (acc ++ [y]))) else Nx1 H6) := by
  refine ⟨fun j k H => k = ds1.length - j ∧ j ≤ ds1.length ∧ ∃ F μ S acc vacc, Sub F4 F ∧ μ4 <+: μ ∧ Ext F1 μ1 H1 F μ H ∧ Rel c F μ S H ∧ H p = some (.lst vacc) ∧ F p = none ∧ p ∉ μ ∧ RDs c F μ vacc acc ∧ Want c W (rE c) σ F1 μ1 H1 Q (finK K acc (lcGoK g1 t1 e (wipeE env4 vs1) rest (ds1.drop j) S)),
    ⟨ds1.length, rfl, Nat.zero_le _, F4, μ4, S4, acc, vacc, Sub.refl _, List.prefix_refl _, x, rel, hD, fD, nD, ra, w⟩, ?_⟩
  rintro j k H2 ⟨rfl, hj, F2, μ2, S2, acc, vacc, s2, p2, x2, rel2, hD2, fD2, nD2, ra2, w2⟩
  have st := rJ j F2 μ2 S2 H2 s2 p2 rel2
  by_cases hlt : j < ds1.length
  · refine .inr ⟨(st.1 hlt).1, Und K c W σ Q F1 μ1 H1 p F4 μ4 (fun S => lcGoK g1 t1 e (wipeE env4 vs1) rest (ds1.drop (j + 1)) S), fun H' q => ⟨ds1.length - (j + 1), by omega, rfl, hlt, q⟩, fun z H3 y => ?_⟩
    obtain ⟨F3, d, x3, rel3, ed, rd⟩ := (st.1 hlt).2 z H3 y
    have ed2 : ds1.drop j = d :: ds1.drop (j + 1) := by
      rw [List.drop_eq_getElem_cons hlt]
      rw [List.getElem?_eq_getElem hlt] at ed
      rw [Option.some.inj ed]
    rw [ed2] at w2
    obtain ⟨hD3, fD3, nD3⟩ := ext_at x3 hD2 fD2 nD2
    change Want c W (rE c) σ F1 μ1 H1 Q (finK K acc (match g1 d (wipeE env4 vs1) with | none => .bad | some env1 => _)) at w2
    have eR3 : EnvR c F3 μ2 (wipe σ2 vs1) (wipeE env4 vs1) := (eR.mono (s2.trans x3.mono) (p2.trans x3.pre)).wipe vs1
    cases q : g1 d (wipeE env4 vs1) with
    | none => rw [q] at w2; exact w2.elim
    | some env3 =>
      rw [q] at w2
      refine ⟨d, wipeE env4 vs1, env3, F3, μ2, S2, rd, eR3, rel3, q, fun σ3 eR4 bar => ⟨(bar vs1 hL).trans (wipe_sub fun i hi => hi), ?_⟩⟩
      obtain ⟨k', S5, ht, w3⟩ := fin_bind w2
      refine ⟨env3, F3, μ2, S2, eR4, rel3, ?_⟩
      rw [ht]
      rintro k2 F5 μ5 H5 x5 rel5 rfl
      obtain ⟨hD5, fD5, nD5⟩ := ext_at x5 hD3 fD3 nD3
      have x15 := (x2.trans x3).trans x5
      have ra5 : RDs c F5 μ5 vacc acc := (ra2.mono x3.mono x3.pre).mono x5.mono x5.pre
      cases k2 with
      | false =>
        rw [if_neg Bool.false_ne_true] at w3 ⊢
        exact ⟨F5, μ5, S5, acc, vacc, (s2.trans x3.mono).trans x5.mono, (p2.trans x3.pre).trans x5.pre, x15, rel5, hD5, fD5, nD5, ra5, w3⟩
      | true =>
        rw [if_pos rfl] at w3 ⊢
        refine ⟨env3, F5, μ5, S5, eR4.ext x5, rel5, ?_⟩
        obtain ⟨y6, S6, he, w4⟩ := fin_bind w3
        rw [he]
        intro v6 F6 μ6 H6 x6 rel6 r6
        obtain ⟨hD6, fD6, nD6⟩ := ext_at x6 hD5 fD5 nD5
        exact und_put hp (((s2.trans x3.mono).trans x5.mono).trans x6.mono) (((p2.trans x3.pre).trans x5.pre).trans x6.pre) (x15.trans x6) rel6 hD6 fD6 nD6 (ra5.mono x6.mono x6.pre) r6 w4
  · have e0 : j = ds1.length := by omega
    refine .inl ⟨st.2 e0, ?_⟩
    rw [e0, List.drop_length] at w2
    exact ⟨F2, μ2, S2, acc, vacc, sb.trans s2, pb.trans p2, x2, rel2, hD2, fD2, nD2, ra2, w2⟩
theorem lc2_at {own L vs1 L1 : List Nat} {wi : TI} {iv iv1 : AV} {g g1 : GV} {t t1 : TV} {e : EV} {σ : L2.St} {env : Env} {F : Hp} {μ : List Addr} {S : Sto} {H : Hp} {Q : V → Hp → Prop} (hi : ∀ Q', Want c W (rIt c) σ F μ H Q' (iv env S) → wi σ H Q') (hL : ∀ i ∈ L, i ∈ own) (hL1 : ∀ i ∈ L1, i ∈ vs1)
    (eR : EnvR c F μ σ env) (rel : Rel c F μ S H) (want : Want c W (rE c) σ F μ H Q (eLc2 own iv g t iv1 vs1 g1 t1 e env S)) :
    tLc2 wi (Gof c g L) (Xof c W0 rId t) (Xof c W0 (rIt c) iv1) (Gof c g1 L1) (Xof c W0 rId t1) (Xof c W0 (rE c) e) own vs1 σ H Q := by
  refine hi _ ?_
  change Want _ _ _ _ _ _ _ _ ((iv env S).bind _) at want
  cases h : iv env S with
  | bad => rw [h] at want; exact want.elim
  | exc C ns ds S' => rw [h] at want; exact want
  | ok ds S1 =>
    rw [h] at want
    intro J F1 μ1 H1 x1 rel1 r1
    rw [Res.bind_ok, fin_lst] at want
    change Want c W (rE c) σ F μ H Q (finK kLst [] (lc2Go g t iv1 vs1 g1 t1 e (wipeE env own) ds S1)) at want
    have want1 := want.ext x1
    have eR1 := eR.ext x1
    intro p hp
    refine ⟨fun i m H => m = ds.length - i ∧ i ≤ ds.length ∧ Und kLst c W σ Q F1 μ1 H1 p F1 μ1 (fun S => lc2Go g t iv1 vs1 g1 t1 e (wipeE env own) (ds.drop i) S) H,
      ⟨ds.length, rfl, Nat.zero_le _, ?_⟩, ?_⟩
    · obtain ⟨rl, fp, nm⟩ := rel1.beside (u := .lst []) hp
      exact ⟨F1, μ1, S1, [], [], Sub.refl _, List.prefix_refl _, ⟨Sub.refl _, List.prefix_refl _, fun b o hb _ => ⟨Sub.new hp b o hb, fun _ => id⟩, fun b hb => .inl hb⟩, rl, upd_same, fp, nm, .nil, want1⟩
    · rintro i m H2 ⟨rfl, hi, F2, μ2, S2, acc, vacc, s2, p2, x2, rel2, hD2, fD2, nD2, ra2, w2⟩
      have st := r1 i F2 μ2 S2 H2 s2 p2 rel2
      by_cases hlt : i < ds.length
      · refine .inr ⟨(st.1 hlt).1, Und kLst c W σ Q F1 μ1 H1 p F1 μ1 (fun S => lc2Go g t iv1 vs1 g1 t1 e (wipeE env own) (ds.drop (i + 1)) S), fun H' q => ⟨ds.length - (i + 1), by omega, rfl, hlt, q⟩, fun z H3 y => ?_⟩
        obtain ⟨F3, d, x3, rel3, ed, rd⟩ := (st.1 hlt).2 z H3 y
        have ed2 : ds.drop i = d :: ds.drop (i + 1) := by
          rw [List.drop_eq_getElem_cons hlt]
          rw [List.getElem?_eq_getElem hlt] at ed
          rw [Option.some.inj ed]
        dsimp only at w2
        rw [ed2] at w2
        obtain ⟨hD3, fD3, nD3⟩ := ext_at x3 hD2 fD2 nD2
        change Want c W (rE c) σ F1 μ1 H1 Q (finK kLst acc (match g d (wipeE env own) with | none => .bad | some env1 => _)) at w2
        have eR3 : EnvR c F3 μ2 (wipe σ own) (wipeE env own) := ((eR1.mono s2 p2).ext x3).wipe own
        cases q : g d (wipeE env own) with
        | none => rw [q] at w2; exact w2.elim
        | some env3 =>
          rw [q] at w2
          refine ⟨d, wipeE env own, env3, F3, μ2, S2, rd, eR3, rel3, q, fun σ3 eR4 bar => ⟨(bar own hL).trans (wipe_sub fun i hi => hi), ?_⟩⟩
          obtain ⟨k', S5, ht, w3⟩ := fin_bind w2
          refine ⟨env3, F3, μ2, S2, eR4, rel3, ?_⟩
          rw [ht]
          rintro k2 F5 μ5 H5 x5 rel5 rfl
          obtain ⟨hD5, fD5, nD5⟩ := ext_at x5 hD3 fD3 nD3
          have x15 := (x2.trans x3).trans x5
          have ra5 : RDs c F5 μ5 vacc acc := (ra2.mono x3.mono x3.pre).mono x5.mono x5.pre
          have sb5 := (s2.trans x3.mono).trans x5.mono
          have pb5 := (p2.trans x3.pre).trans x5.pre
          cases k2 with
          | false =>
            rw [if_neg Bool.false_ne_true] at w3 ⊢
            exact ⟨F5, μ5, S5, acc, vacc, sb5, pb5, x15, rel5, hD5, fD5, nD5, ra5, w3⟩
          | true =>
            rw [if_pos rfl] at w3 ⊢
            refine ⟨env3, F5, μ5, S5, eR4.ext x5, rel5, ?_⟩
            obtain ⟨ds1, S6, hi1, w4⟩ := fin_bind w3
            rw [hi1]
            intro J1 F6 μ6 H6 x6 rel6 r6
            obtain ⟨hD6, fD6, nD6⟩ := ext_at x6 hD5 fD5 nD5
            exact in_at hp hL1 (sb5.trans x6.mono) (pb5.trans x6.pre) (x15.trans x6) rel6 hD6 fD6 nD6 (ra5.mono x6.mono x6.pre) r6 ((eR4.ext x5).ext x6) w4
      · have e0 : i = ds.length := by omega
        refine .inl ⟨st.2 e0, ?_⟩
        dsimp only at w2
        rw [e0, List.drop_length] at w2
        change Want c W (rE c) σ F1 μ1 H1 Q (if (acc ++ []).length ≤ 16777216 then .ok (.lst (acc ++ [])) S2 else .bad) at w2
        rw [List.append_nil] at w2
        split at w2
        · obtain ⟨rl, sF⟩ := rel2.freeze hD2 (fun a z => by cases z) fD2 nD2
          refine w2 (.ref p) _ μ2 H2 ⟨x2.mono.trans sF, x2.pre, fun b o hb hn => ?_, x2.fresh⟩ rl (.lst upd_same (ra2.mono sF (List.prefix_refl _)))
          obtain ⟨k1, k2⟩ := x2.keep b o hb hn
          exact ⟨k1, fun y z => by rw [upd_ne (ne_of_none hb hp)]; exact k2 y z⟩
        · exact w2.elim
theorem ge_lc2 {elt tg iter tg1 iter1 : Expr} {ifs ifs1 : List Expr} {scope : Scope} {own : List (Str × Nat)} {pos : Pos} {iv iv1 : AV} {g g1 : GV} {tv tv1 : TV} {ev : EV} {L L1 : List Nat} (vs1 : List Nat) (hN : X.N.Nodup) (hi : GI X W tg iter iv) (ok : blkC X.N X.env.scope scope own = true)
    (hg : ∀ (s : Shared) (H : Hp) (C : Addr) (cl : List (Str × Addr)) (fp : List Addr), GG (X.blk s H scope (compEnvC scope cl C X.env) fp) tg g L)
    (ht : ∀ (s : Shared) (H : Hp) (C : Addr) (cl : List (Str × Addr)) (fp : List Addr), GTs (X.blk s H scope (compEnvC scope cl C X.env) fp) W0 ifs tv)
    (hi1 : ∀ (s : Shared) (H : Hp) (C : Addr) (cl : List (Str × Addr)) (fp : List Addr), GI (X.blk s H scope (compEnvC scope cl C X.env) fp) W0 tg1 iter1 iv1)
    (hg1 : ∀ (s : Shared) (H : Hp) (C : Addr) (cl : List (Str × Addr)) (fp : List Addr), GG (X.blk s H scope (compEnvC scope cl C X.env) fp) tg1 g1 L1)
    (ht1 : ∀ (s : Shared) (H : Hp) (C : Addr) (cl : List (Str × Addr)) (fp : List Addr), GTs (X.blk s H scope (compEnvC scope cl C X.env) fp) W0 ifs1 tv1)
    (he : ∀ (s : Shared) (H : Hp) (C : Addr) (cl : List (Str × Addr)) (fp : List Addr), GE (X.blk s H scope (compEnvC scope cl C X.env) fp) W0 elt ev)
    (hL : ∀ i ∈ L, i ∈ own.map (·.2) := by decide) (hL1 : ∀ i ∈ L1, i ∈ vs1 := by decide) (hv : ∀ i ∈ vs1, i ∈ own.map (·.2) := by decide) (hc : X.calm = true := by rfl) (hs : ∀ x, foldedSetIterable iter X.env x = pure x := by intro _; rfl) (hs1 : ∀ env x, foldedSetIterable iter1 env x = pure x := by intro _ _; rfl) :
    GE X W (.ListComp elt [⟨tg, iter, ifs, 0⟩, ⟨tg1, iter1, ifs1, 0⟩] scope pos) (eLc2 (own.map (·.2)) iv g tv iv1 vs1 g1 tv1 ev) := by
  obtain ⟨wi, p, s⟩ := hi
  exact ⟨_, pe_lc2 hc hN p (blkOk_by ok) hv (fun s H C cl fp => (hg s H C cl fp).canon) (fun s H C cl fp => (ht s H C cl fp).canon) (fun s H C cl fp => (hi1 s H C cl fp).canon) (fun s H C cl fp => (hg1 s H C cl fp).canon) (fun s H C cl fp => (ht1 s H C cl fp).canon) (fun s H C cl fp => (he s H C cl fp).canon) hs hs1,
    fun σ env F μ S H Q s0 p0 eR rel want => lc2_at (fun Q' w => s.go eR rel w) hL hL1 eR rel want⟩
def eLc2V (p : PV) (own : List Nat) (g : GV) (t : TV) (iv1 : AV) (vs1 : List Nat) (g1 : GV) (t1 : TV) (e : EV) : EV := fun env S => match (p env S).bind dVals with
  | some ds => noX (eLc2 own (fun _ S => .ok ds S) g t iv1 vs1 g1 t1 e env S)
  | none => .bad
theorem ge_lc2V {elt tg e tg1 iter1 : Expr} {ifs ifs1 : List Expr} {scope : Scope} {own : List (Str × Nat)} {apos cpos pos : Pos} {p : PV} {iv1 : AV} {g g1 : GV} {tv tv1 : TV} {ev : EV} {L L1 : List Nat} (vs1 : List Nat) (hN : X.N.Nodup) (hp : GP X e p) (ok : blkC X.N X.env.scope scope own = true)
    (hg : ∀ (s : Shared) (H : Hp) (C : Addr) (cl : List (Str × Addr)) (fp : List Addr), GG (X.blk s H scope (compEnvC scope cl C X.env) fp) tg g L)
    (ht : ∀ (s : Shared) (H : Hp) (C : Addr) (cl : List (Str × Addr)) (fp : List Addr), GTs (X.blk s H scope (compEnvC scope cl C X.env) fp) W0 ifs tv)
    (hi1 : ∀ (s : Shared) (H : Hp) (C : Addr) (cl : List (Str × Addr)) (fp : List Addr), GI (X.blk s H scope (compEnvC scope cl C X.env) fp) W0 tg1 iter1 iv1)
    (hg1 : ∀ (s : Shared) (H : Hp) (C : Addr) (cl : List (Str × Addr)) (fp : List Addr), GG (X.blk s H scope (compEnvC scope cl C X.env) fp) tg1 g1 L1)
    (ht1 : ∀ (s : Shared) (H : Hp) (C : Addr) (cl : List (Str × Addr)) (fp : List Addr), GTs (X.blk s H scope (compEnvC scope cl C X.env) fp) W0 ifs1 tv1)
    (he : ∀ (s : Shared) (H : Hp) (C : Addr) (cl : List (Str × Addr)) (fp : List Addr), GE (X.blk s H scope (compEnvC scope cl C X.env) fp) W0 elt ev)
    (hL : ∀ i ∈ L, i ∈ own.map (·.2) := by decide) (hL1 : ∀ i ∈ L1, i ∈ vs1 := by decide) (hv : ∀ i ∈ vs1, i ∈ own.map (·.2) := by decide) (hc : X.calm = true := by rfl) (hbase : attributeBase e "values" X.env (eval e X.env) = eval e X.env := by rfl) (hline : (apos.endLine == cpos.line) = true := by rfl)
    (hs : ∀ x, foldedSetIterable (.Call (.Attribute e "values" apos) [] [] cpos) X.env x = pure x := by intro _; rfl) (hs1 : ∀ env x, foldedSetIterable iter1 env x = pure x := by intro _ _; rfl) :
    GE X W (.ListComp elt [⟨tg, .Call (.Attribute e "values" apos) [] [] cpos, ifs, 0⟩, ⟨tg1, iter1, ifs1, 0⟩] scope pos) (eLc2V p (own.map (·.2)) g tv iv1 vs1 g1 tv1 ev) := by
  obtain ⟨te, pt, k⟩ := hp
  have P : PE X (.ListComp elt [⟨tg, .Call (.Attribute e "values" apos) [] [] cpos, ifs, 0⟩, ⟨tg1, iter1, ifs1, 0⟩] scope pos) (tLc2 (iVals te) (Gof (cf X) g L) (Xof (cf X) W0 rId tv) (Xof (cf X) W0 (rIt (cf X)) iv1) (Gof (cf X) g1 L1) (Xof (cf X) W0 rId tv1) (Xof (cf X) W0 (rE (cf X)) ev) (own.map (·.2)) vs1) :=
    pe_lc2 hc hN (pi_values (tg := tg) pt hbase hline) (blkOk_by ok) hv (fun s H C cl fp => (hg s H C cl fp).canon) (fun s H C cl fp => (ht s H C cl fp).canon) (fun s H C cl fp => (hi1 s H C cl fp).canon) (fun s H C cl fp => (hg1 s H C cl fp).canon) (fun s H C cl fp => (ht1 s H C cl fp).canon) (fun s H C cl fp => (he s H C cl fp).canon) hs hs1
  refine ⟨_, PE.or (pe_lock P) P, fun σ env F μ S H Q s0 p0 eR rel want => ?_⟩
  unfold eLc2V at want
  cases e0 : p env S with
  | none => rw [e0] at want; exact want.elim
  | some d =>
    cases d with
    | dic ks ds =>
      rw [e0] at want
      change Want _ _ _ _ _ _ _ _ (noX (eLc2 (own.map (·.2)) (fun _ S => .ok ds S) g tv iv1 vs1 g1 tv1 ev env S)) at want
      obtain ⟨v, r, kk⟩ := k F μ σ env S H _ eR rel e0
      generalize hdd : D.dic ks ds = dd at r
      cases r with
      | dic h r =>
        rename_i a kvs ds'
        have e9 : ds = ds' := by injection hdd
        subst e9
        rcases h with h | ⟨o, h⟩
        · refine .inl (lockE_at rel h rfl (fun od Q' w => ?_) want)
          have sm := same_lock (od := od) h rfl
          refine lc2_at (W := W) (fun Q2 w2 => ?_) hL hL1 (eR.same sm) (rel.swap h (fun _ z => by cases z) (fun _ z => by cases z) sm) w.noX
          exact vals_at (H := H) kk rfl (keeps_lock (rel.frz _ _ h) rfl) (rel.swap h (fun _ z => by cases z) (fun _ z => by cases z) sm) upd_same (r.same sm) w2
        · refine .inr (lc2_at (W := W) (fun Q2 w2 => ?_) hL hL1 eR rel want.noX)
          exact vals_at (H := H) kk rfl (fun _ _ _ _ z => z) rel h r w2
      | _ => cases hdd
    | _ => rw [e0] at want; exact want.elim
/-! ## a comprehension whose list may change -/
/-- what stands aside becomes a thing of ours that may change -/
theorem Rel.adopt {F H : Hp} {μ : List Addr} {S : Sto} {p : Addr} {o : HO} {m : MO} (rel : Rel c F μ S H) (hp : H p = some o) (ho : ∀ a, o ≠ .own a) (hf : F p = none) (hm : p ∉ μ) (new : RM c F (μ ++ [p]) H p m) :
    Rel c F (μ ++ [p]) (S ++ [m]) H ∧ (μ ++ [p])[S.length]? = some p := by
  have hl := rel.len
  have last : (μ ++ [p])[S.length]? = some p := by rw [← hl]; simp
  refine ⟨⟨rel.frz, by simp [hl], ?_, fun n a x e1 e2 e3 => ?_, fun a ha => ?_, fun n a x e1 e2 => ?_⟩, last⟩
  · rw [List.nodup_append]
    exact ⟨rel.nd, by simp, fun a ha b hb => by
      have : b = p := by simpa using hb
      rintro rfl
      exact hm (this ▸ ha)⟩
  · by_cases hn : n < μ.length
    · rw [List.getElem?_append_left hn] at e1
      rw [List.getElem?_append_left (by omega)] at e2
      exact rel.free n a x e1 e2 e3
    · have h1 := (List.getElem?_eq_some_iff.mp e1).1
      simp at h1
      have : n = S.length := by omega
      subst this
      rw [last] at e1; cases e1
      exact hf
  · rcases List.mem_append.mp ha with h | h
    · exact rel.known a h
    · have : a = p := by simpa using h
      rw [this]; exact ⟨o, hp, ho⟩
  · by_cases hn : n < μ.length
    · rw [List.getElem?_append_left hn] at e1
      rw [List.getElem?_append_left (by omega)] at e2
      exact (rel.at_ n a x e1 e2).mono (Sub.refl _) (List.prefix_append _ _)
    · have h1 := (List.getElem?_eq_some_iff.mp e1).1
      simp at h1
      have : n = S.length := by omega
      subst this
      rw [last] at e1; cases e1
      have e3 : (S ++ [m])[S.length]? = some m := by simp
      rw [e3] at e2; cases e2
      exact new
def eLcH (own : List Nat) (iv : AV) (g : GV) (t : TV) (e : EV) : EV := fun env S => (iv env S).bind fun ds S1 => finK kHnd [] (lcGoK g t e (wipeE env own) (fun S => .ok [] S) ds S1)
theorem lcH_at {own L : List Nat} {wi : TI} {iv : AV} {g : GV} {t : TV} {e : EV} {σ : L2.St} {env : Env} {F : Hp} {μ : List Addr} {S : Sto} {H : Hp} {Q : V → Hp → Prop} (hi : ∀ Q', Want c W (rIt c) σ F μ H Q' (iv env S) → wi σ H Q') (hL : ∀ i ∈ L, i ∈ own)
    (eR : EnvR c F μ σ env) (rel : Rel c F μ S H) (want : Want c W (rE c) σ F μ H Q (eLcH own iv g t e env S)) : tLc wi (Gof c g L) (Xof c W0 rId t) (Xof c W0 (rE c) e) own σ H Q := by
  refine hi _ ?_
  change Want _ _ _ _ _ _ _ _ ((iv env S).bind _) at want
  cases h : iv env S with
  | bad => rw [h] at want; exact want.elim
  | exc C ns ds S' => rw [h] at want; exact want
  | ok ds S1 =>
    rw [h] at want
    intro J F1 μ1 H1 x1 rel1 r1
    change Want c W (rE c) σ F μ H Q (finK kHnd [] (lcGoK g t e (wipeE env own) (fun S => .ok [] S) ds S1)) at want
    have want1 := want.ext x1
    intro p hp
    obtain ⟨rl, fp, nm⟩ := rel1.beside (u := .lst []) hp
    have x0 : Ext F1 μ1 H1 F1 μ1 (upd H1 p (.lst [])) := ⟨Sub.refl _, List.prefix_refl _, fun b o hb _ => ⟨Sub.new hp b o hb, fun _ => id⟩, fun b hb => .inl hb⟩
    obtain ⟨W1, w0, w1⟩ := in_at (Q := Q) (W := W) (L1 := L) (p := p) hp hL (Sub.refl F1) (List.prefix_refl μ1) x0 rl upd_same fp nm (vacc := []) (acc := []) .nil r1 (eR.ext x1) want1
    refine ⟨W1, w0, fun i m H2 hw => ?_⟩
    rcases w1 i m H2 hw with ⟨st, F2, μ2, S2, acc, vacc, s2, p2, x2, rel2, hD2, fD2, nD2, ra2, w2⟩ | h2
    · refine .inl ⟨st, ?_⟩
      change Want c W (rE c) σ F1 μ1 H1 Q (if (acc ++ []).length ≤ 16777216 then kHnd (acc ++ []) S2 else .bad) at w2
      rw [List.append_nil] at w2
      split at w2
      · obtain ⟨ra, last⟩ := rel2.adopt (m := .lst acc) hD2 (fun a z => by cases z) fD2 nD2 ⟨vacc, hD2, ra2.mono (Sub.refl _) (List.prefix_append _ _)⟩
        refine w2 (.ref p) _ _ H2 ⟨x2.mono, x2.pre.trans (List.prefix_append _ _), fun b o hb hn => x2.keep b o hb hn, fun b hb => ?_⟩ ra (.hnd last)
        rcases List.mem_append.mp hb with h | h
        · exact x2.fresh b h
        · have : b = p := by simpa using h
          exact .inr (this ▸ hp)
      · exact w2.elim
    · exact .inr h2
theorem ge_lcH {elt tg iter : Expr} {ifs : List Expr} {scope : Scope} {own : List (Str × Nat)} {pos : Pos} {iv : AV} {g : GV} {tv : TV} {ev : EV} {L : List Nat} (hN : X.N.Nodup) (hi : GI X W tg iter iv) (ok : blkC X.N X.env.scope scope own = true)
    (hg : ∀ (s : Shared) (H : Hp) (C : Addr) (cl : List (Str × Addr)) (fp : List Addr), GG (X.blk s H scope (compEnvC scope cl C X.env) fp) tg g L)
    (ht : ∀ (s : Shared) (H : Hp) (C : Addr) (cl : List (Str × Addr)) (fp : List Addr), GTs (X.blk s H scope (compEnvC scope cl C X.env) fp) W0 ifs tv)
    (he : ∀ (s : Shared) (H : Hp) (C : Addr) (cl : List (Str × Addr)) (fp : List Addr), GE (X.blk s H scope (compEnvC scope cl C X.env) fp) W0 elt ev)
    (hL : ∀ i ∈ L, i ∈ own.map (·.2) := by decide) (hc : X.calm = true := by rfl) (hs : ∀ x, foldedSetIterable iter X.env x = pure x := by intro _; rfl) :
    GE X W (.ListComp elt [⟨tg, iter, ifs, 0⟩] scope pos) (eLcH (own.map (·.2)) iv g tv ev) := by
  obtain ⟨wi, p, s⟩ := hi
  exact ⟨_, pe_lc hc hN p (blkOk_by ok) (fun s H C cl fp => (hg s H C cl fp).canon) (fun s H C cl fp => (ht s H C cl fp).canon) (fun s H C cl fp => (he s H C cl fp).canon) hs, fun σ env F μ S H Q s0 p0 eR rel want => lcH_at (fun Q' w => s.go eR rel w) hL eR rel want⟩
theorem gs_setLcH (i : Nat) {y : Str} {py : Pos} {elt tg iter : Expr} {ifs : List Expr} {scope : Scope} {own : List (Str × Nat)} {pos spos : Pos} {iv : AV} {g : GV} {tv : TV} {ev : EV} {L : List Nat} (hN : X.N.Nodup) (hsw : swapsWith (.ListComp elt [⟨tg, iter, ifs, 0⟩] scope pos) (some (.Name y py)) spos.line X.env = pure true)
    (hi : GI X W tg iter iv) (ok : blkC X.N X.env.scope scope own = true)
    (hg : ∀ (s : Shared) (H : Hp) (C : Addr) (cl : List (Str × Addr)) (fp : List Addr), GG (X.blk s H scope (compEnvC scope cl C X.env) fp) tg g L)
    (ht : ∀ (s : Shared) (H : Hp) (C : Addr) (cl : List (Str × Addr)) (fp : List Addr), GTs (X.blk s H scope (compEnvC scope cl C X.env) fp) W0 ifs tv)
    (he : ∀ (s : Shared) (H : Hp) (C : Addr) (cl : List (Str × Addr)) (fp : List Addr), GE (X.blk s H scope (compEnvC scope cl C X.env) fp) W0 elt ev)
    (hy : X.N[i]? = some y := by rfl) (hyl : X.env.scope.names.lookup y = some .local := by rfl)
    (hL : ∀ i ∈ L, i ∈ own.map (·.2) := by decide) (hc : X.calm = true := by rfl) (hs : ∀ x, foldedSetIterable iter X.env x = pure x := by intro _; rfl) :
    GS X W (.Assign [.Name y py] (.ListComp elt [⟨tg, iter, ifs, 0⟩] scope pos) spos) (sSet i (eLcH (own.map (·.2)) iv g tv ev)) := by
  obtain ⟨wi, p, s⟩ := hi
  exact ⟨_, ps_setLc hc hN hy hyl hsw p (blkOk_by ok) (fun s H C cl fp => (hg s H C cl fp).canon) (fun s H C cl fp => (ht s H C cl fp).canon) (fun s H C cl fp => (he s H C cl fp).canon) hs, sm_set (fun σ env F μ S H Q s0 p0 eR rel want => lcH_at (fun Q' w => s.go eR rel w) hL eR rel want)⟩
end
end Sm
set_option Elab.async false
set_option linter.all false
set_option maxRecDepth 100000
open PySem PySem.Spec
namespace Sm
open L2
section
variable {X : Cx} {W : WX} {c : Cfg}
/-! ## a text walked -/
def dSigns : D → Option (List D) | .str z => some (z.cps.toList.map fun n => .str ⟨#[n]⟩) | _ => none
theorem gi_str {tg e : Expr} {ev : EV} (h : GE X W e ev) : GI X W tg e (aIt dSigns ev) := by
  obtain ⟨t, p, s⟩ := h
  refine ⟨_, pi_str p, Sm.bind (kt := fun x σ H1 (Q : It → Hp → Prop) => ∃ z, x = .str z ∧ Q (Its z) H1) (ke := fun d env S1 => optR (dSigns d) S1) s fun F1 μ1 x dx s1 p1 r1 => ?_⟩
  cases r1 with
  | str z =>
    refine Sm.pure fun σ env F μ S H sF pF _ rel => ?_
    refine ⟨rfl, Its z, ?_, fun Q q => ⟨z, rfl, q⟩⟩
    intro i F2 μ2 S2 H2 s2 p2 rel2
    have w := walk_str (z := z)
    have hl : (z.cps.toList.map fun n => D.str ⟨#[n]⟩).length = z.cps.size := by simp
    refine ⟨fun hi => ⟨w.goes i H2 (by rw [← hl]; exact hi) trivial, fun x H3 y => ?_⟩, fun hi => by rw [hi, hl]; exact w.stops H2 trivial⟩
    obtain ⟨e1, n, e2, e3⟩ := w.yields i H2 x H3 (by rw [← hl]; exact hi) trivial y
    subst e1 e3
    exact ⟨F2, .str ⟨#[n]⟩, Ext.refl, rel2, by simp [e2], .str _⟩
  | _ => exact Sm.pure fun σ env F μ S H _ _ _ _ => trivial
/-! ## enumerate -/
def enumD : Nat → List D → List D
  | _, [] => []
  | i, d :: ds => .tup [.int (i : Nat), d] :: enumD (i + 1) ds
theorem enumD_len : ∀ {ds : List D} {i : Nat}, (enumD i ds).length = ds.length
  | [], _ => rfl
  | d :: ds, i => by simp [enumD, enumD_len (ds := ds)]
theorem enumD_get : ∀ {ds : List D} {i j : Nat} {d : D}, ds[j]? = some d → (enumD i ds)[j]? = some (.tup [.int ((i + j : Nat) : Int), d])
  | [], _, _, _, e => by simp at e
  | d0 :: ds, i, 0, d, e => by simp at e; subst e; rfl
  | d0 :: ds, i, j + 1, d, e => by
    have h := enumD_get (ds := ds) (i := i + 1) (j := j) (by simpa using e)
    show (enumD (i + 1) ds)[j]? = _
    rw [h]
    congr 4
    push_cast; omega
def aEnum (a : AV) : AV := fun env S => (a env S).bind fun xs S1 => match xs with
  | [d] => optR ((dLst d).map (enumD 0)) S1
  | _ => .bad
theorem gi_enum {e : Expr} {av : AV} {p pos tpos : Pos} {elts : List Expr} {kk : Nat} (hm : X.mg "enumerate" = none) (h : GA X W [e] av) (hg : Gl X "enumerate" := by rfl) (hs : starEach [e] X.env = [(false, eval e X.env)] := by rfl) :
    GI X W (.Tuple elts kk tpos) (.Call (.Name "enumerate" p) [e] [] pos) (aEnum av) := by
  obtain ⟨t, pt, s⟩ := h
  refine ⟨_, pi_enum hg hm pt hs, Sm.bind (kt := fun vs σ H1 (Q : It → Hp → Prop) => ∃ a xs, vs = [.ref a] ∧ SqL X.K H1 a xs ∧ Q (Ite X.K a) H1) (ke := fun xs env S1 => match xs with
    | [d] => optR ((dLst d).map (enumD 0)) S1
    | _ => .bad) s fun F1 μ1 vs xs s1 p1 r1 => ?_⟩
  cases r1 with
  | nil => exact Sm.pure fun σ env F μ S H _ _ _ _ => trivial
  | cons r0 rr =>
    rename_i v0 d0 vs ds0
    cases rr with
    | cons _ _ => exact Sm.pure fun σ env F μ S H _ _ _ _ => trivial
    | nil =>
      cases hd : dLst d0 with
      | none => exact Sm.pure fun σ env F μ S H _ _ _ _ => by simp only [hd, Option.map_none, optR]
      | some ds =>
        obtain ⟨ad, vs, rfl, h, r⟩ := RD.sql r0 hd
        refine Sm.pure fun σ env F μ S H sF pF _ rel => ?_
        simp only [hd, Option.map_some, optR]
        refine ⟨trivial, Ite X.K ad, ?_, fun Q q => ⟨ad, _, rfl, rel.sql (sF.sql h), q⟩⟩
        intro i F2 μ2 S2 H2 s2 p2 rel2
        have hq : SqL X.K H2 ad vs := rel2.sql (s2.sql (sF.sql h))
        have w := walk_enum (K := X.K) (a := ad) (xs := vs)
        rw [enumD_len]
        refine ⟨fun hi => ⟨w.goes i H2 (by rw [r.length]; exact hi) hq, fun x H3 y => ?_⟩, fun hi => by rw [hi, ← r.length]; exact w.stops H2 hq⟩
        obtain ⟨T, x1, y1, e1, e2, e3, e4, e5⟩ := w.yields i H2 x H3 (by rw [r.length]; exact hi) hq y
        obtain ⟨d, e6, r3⟩ := r.getV e5
        cases e4
        subst e1 e3
        obtain ⟨rl, xl, sF2⟩ := rel2.frozen (o := .tup [.int (i : Nat), y1]) e2
        refine ⟨_, _, xl, rl, enumD_get e6, .tup upd_same ?_⟩
        rw [Nat.zero_add]
        exact .cons (.int _) (.cons (r3.mono ((sF.trans s2).trans sF2) (pF.trans p2)) .nil)
/-! ## ''.join -/
def Ds.strs : List D → Option (List Str)
  | [] => some []
  | .str x :: r => (Ds.strs r).map (x :: ·)
  | _ :: _ => none
theorem strs_ok : ∀ {ds : List D} {xs : List Str}, Ds.strs ds = some xs → ds = xs.map D.str
  | [], _, e => by cases e; rfl
  | .str x :: r, _, e => by
    change (Ds.strs r).map (x :: ·) = _ at e
    obtain ⟨ys, e1, e2⟩ := map_some e
    subst e2
    rw [strs_ok e1]; rfl
  | .non :: _, _, e => by cases e
  | .bl _ :: _, _, e => by cases e
  | .int _ :: _, _, e => by cases e
  | .ty _ :: _, _, e => by cases e
  | .fn _ :: _, _, e => by cases e
  | .tup _ :: _, _, e => by cases e
  | .lst _ :: _, _, e => by cases e
  | .fix _ :: _, _, e => by cases e
  | .ktp _ :: _, _, e => by cases e
  | .dic _ _ :: _, _, e => by cases e
  | .dtp _ _ :: _, _, e => by cases e
  | .obj _ _ _ :: _, _, e => by cases e
  | .hnd _ :: _, _, e => by cases e
def dJoin (a : Str) (d : D) : Option D := (dSq d).bind fun ds => (Ds.strs ds).bind fun ys => if (ys.map (·.length)).sum + ys.length * a.length ≤ 16777216 then some (.str (Txt.join a ys)) else none
def eJoin (eo ev : EV) : EV := fun env S => (eo env S).bind fun a S1 => match a with
  | .str z => (ev env S1).bind fun d S2 => optR (dJoin z d) S2
  | _ => .bad
theorem ge_join {o e : Expr} {apos pos : Pos} {eo ev : EV} (ho : GE X W o eo) (he : GE X W e ev) (hs : starEach [e] X.env = [(false, eval e X.env)] := by rfl) (hbase : attributeBase o "join" X.env (eval o X.env) = eval o X.env := by rfl) (hline : (apos.endLine == pos.line) = true := by rfl) :
    GE X W (.Call (.Attribute o "join" apos) [e] [] pos) (eJoin eo ev) := by
  obtain ⟨to, po, so⟩ := ho
  obtain ⟨te, pe, se⟩ := he
  refine ⟨_, pe_join po pe hs hbase hline, ?_⟩
  refine Sm.bind (kt := fun x σ H1 (Q : VK) => (∃ a, x = .str a) ∧ te σ H1 fun y H2 => ∃ a p, ∃ ys : List Str, x = .str a ∧ [y] = [.ref p] ∧ (SqL X.K H2 p (ys.map V.str) ∨ SqT X.K H2 p (ys.map V.str)) ∧ (ys.map (·.length)).sum + ys.length * a.length ≤ 16777216 ∧ Q (.str (Txt.join a ys)) H2)
    (ke := fun a env S1 => match a with
      | .str z => (ev env S1).bind fun d S2 => optR (dJoin z d) S2
      | _ => .bad) so fun F1 μ1 x dx s1 p1 r1 => ?_
  cases r1 with
  | str z =>
    have h := Sm.bind (T := rE (cf X)) (kt := fun y σ H2 (Q : VK) => ∃ a p, ∃ ys : List Str, V.str z = .str a ∧ [y] = [.ref p] ∧ (SqL X.K H2 p (ys.map V.str) ∨ SqT X.K H2 p (ys.map V.str)) ∧ (ys.map (·.length)).sum + ys.length * a.length ≤ 16777216 ∧ Q (.str (Txt.join a ys)) H2)
      (ke := fun d env S2 => optR (dJoin z d) S2) (se.weaken s1 p1) fun F2 μ2 y dy s2 p2 r2 => by
        intro σ env F μ S H Q s p eR rel want
        unfold dJoin at want
        cases e1 : dSq dy with
        | none => rw [e1] at want; exact want.elim
        | some ds =>
          cases e2 : Ds.strs ds with
          | none => rw [e1, Option.bind_some, e2] at want; exact want.elim
          | some ys =>
            rw [e1, Option.bind_some, e2, Option.bind_some] at want
            split at want
            · rename_i hl
              obtain ⟨a, vs, rfl, hq, r⟩ := (r2.mono s p).seq rel e1
              rw [strs_ok e2] at r
              rw [r.strs] at hq
              exact ⟨z, a, ys, rfl, rfl, hq, hl, want _ F μ H Ext.refl rel (.str _)⟩
            · exact want.elim
    intro σ env F μ S H Q s p eR rel want
    exact ⟨⟨z, rfl⟩, h σ env F μ S H Q s p eR rel want⟩
  | _ => exact fun _ _ _ _ _ _ _ _ _ _ _ w => w.elim
/-! ## list(d), len(set(..)) -/
def kD : Key → D | .inl i => .int i | .inr z => .str z
theorem kD_ok {F : Hp} {μ : List Addr} {k : Key} : RD c F μ (kV k) (kD k) := by
  cases k with
  | inl i => exact .int i
  | inr z => exact .str z
theorem kDs_ok {F : Hp} {μ : List Addr} : ∀ {ks : List Key}, RDs c F μ (ks.map kV) (ks.map kD)
  | [] => .nil
  | k :: ks => .cons kD_ok kDs_ok
def aListD : List D → Sto → Res D
  | [x], S => match dicOf x S with
    | some (.k ks _) => .ok (.lst (ks.map kD)) S
    | _ => .bad
  | _, _ => .bad
theorem ar_listD (hc : X.calm = true) : ∃ r, CallR X (.type "list") r ∧ ArSm (cf X) r aListD := by
  refine ⟨_, call_listD hc, fun F μ S H xs ds Q rel rx want => ?_⟩
  match ds, rx with
  | [x], .cons (v := v) rx .nil =>
    change Want _ _ _ _ _ _ _ _ (match dicOf x S with | some (.k ks _) => _ | _ => _) at want
    cases e : dicOf x S with
    | none => rw [e] at want; exact want.elim
    | some dv =>
      rw [e] at want
      cases dv with
      | t _ _ => exact want.elim
      | k ks ds =>
        obtain ⟨a, rfl, kvs, hd, rfl, r⟩ := dic_rd rel rx e
        refine ⟨a, kvs, rfl, hd, fun p hp => ?_⟩
        obtain ⟨rl, xl, sF⟩ := rel.frozen (o := .lst (kvs.map fun kv => kV kv.1)) hp
        refine want _ _ μ _ xl rl (.lst upd_same ?_)
        have h := kDs_ok (c := cf X) (F := upd F p (.lst (kvs.map fun kv => kV kv.1))) (μ := μ) (ks := kvs.map (·.1))
        rw [List.map_map] at h
        exact h
  | [], _ => exact want.elim
  | _ :: _ :: _, _ => exact want.elim
theorem ge_listD {x : Str} {e : Expr} {p pos : Pos} {av : AV} (hc : X.calm = true) (hm : X.mg x = none) (ha : GA X W [e] av) (hv : bootBuiltins x = some (.type "list") := by decide +kernel) (hg : Gl X x := by rfl) (hn : x ≠ "__name__" := by decide) (hdb : (x == ("__debug__" : Str)) = false := by decide)
    (he : starEach [e] X.env = (false, eval e X.env) :: starEach [] X.env := by rfl) (hpl : (backTo pos (starEach [] X.env)).any (·.1) = false := by rfl) : GE X W (.Call (.Name x p) [e] [] pos) (eAr aListD av) := by
  obtain ⟨r, o, s⟩ := ar_listD hc
  obtain ⟨t, pt, st⟩ := ha
  exact ⟨_, pe_callTy o hg hm hv pt hn hdb he hpl, sm_ar s st⟩
def tLenSetG (K : PySem.W.Frag) (ta : TE) : TE := fun σ H Q => ta σ H fun x H1 => ∃ (l : Addr) (ns : List Int), x = .ref l ∧ SqL K H1 l (ns.map V.int) ∧ ns.length ≤ 4000 ∧ Q (.int (PyProof.Rows.firstMet (fun i => ns.getD i 0) ns.length).length) H1
theorem pe_lenSetG {a : Expr} {ta : TE} {p p2 q pos : Pos} (hg : Gl X "len") (hm : X.mg "len" = none) (hg2 : Gl X "set") (hm2 : X.mg "set" = none) (ha : PE X a ta) (hc : X.calm = true := by rfl)
    (na : starEach [a] X.env = (false, eval a X.env) :: starEach [] X.env := by rfl) : PE X (.Call (.Name "len" p) [.Call (.Name "set" p2) [a] [] q] [] pos) (tLenSetG X.K ta) := by
  refine ⟨fun pins s σ H Q I h => ?_⟩
  refine PyProof.Rows.Call_ (ld_blt I hg hm PySem.boot_len ?_)
  refine PyProof.Rows.callWith_builtin1 (PyProof.Rows.args_cons ?_ rfl) rfl rfl
  refine PyProof.Rows.Call_ (ld_blt I hg2 hm2 PyProof.Rows.boot_set ?_)
  refine PyProof.Rows.callWith_type1 (PyProof.Rows.args_cons (thn (ha.run pins s σ H _ I h) fun v s1 ⟨x, H1, I1, r1, q1⟩ => PyProof.Rows.args_nil ?_) na) na rfl
  obtain ⟨l, ns, rfl, hq, h1, q1⟩ := q1
  cases r1
  obtain ⟨its, r, pl, hz⟩ := I1.list hq
  have hl : its.toArray.size = ns.length := by rw [List.size_toArray, ← r.length, List.length_map]
  refine call_set_list (I1.ok.hd hc) pl.isList (ns := ns) (by simpa using r.ints) (by rw [hl]; unfold scanBound; omega) fun h' tk hS hk => ?_
  rw [hl] at hS
  refine PyProof.Rows.args_nil ?_
  have hle := PyProof.Rows.firstMet_length_le (fun i => ns.getD i 0) ns.length
  obtain ⟨o, es, ep, t, ho, hex, hd, _, _, _, hf, hn⟩ := hS
  have I2 : Inv X pins σ H1 { s1 with heap := h', toks := tk } := I1.kept fun b o e => hk b o (Heap.lt_size e) e
  exact call_len_set ho hex hd hf (by rw [hn]; omega) ⟨.int _, H1, I2.tok _, ⟨_, by rw [hn]⟩, q1⟩
def Ds.ints : List D → Option (List Int)
  | [] => some []
  | .int x :: r => (Ds.ints r).map (x :: ·)
  | _ :: _ => none
theorem ints_ok : ∀ {ds : List D} {xs : List Int}, Ds.ints ds = some xs → ds = xs.map D.int
  | [], _, e => by cases e; rfl
  | .int x :: r, _, e => by
    change (Ds.ints r).map (x :: ·) = _ at e
    obtain ⟨ys, e1, e2⟩ := map_some e
    subst e2
    rw [ints_ok e1]; rfl
  | .non :: _, _, e => by cases e
  | .bl _ :: _, _, e => by cases e
  | .str _ :: _, _, e => by cases e
  | .ty _ :: _, _, e => by cases e
  | .fn _ :: _, _, e => by cases e
  | .tup _ :: _, _, e => by cases e
  | .lst _ :: _, _, e => by cases e
  | .fix _ :: _, _, e => by cases e
  | .ktp _ :: _, _, e => by cases e
  | .dic _ _ :: _, _, e => by cases e
  | .dtp _ _ :: _, _, e => by cases e
  | .obj _ _ _ :: _, _, e => by cases e
  | .hnd _ :: _, _, e => by cases e
/-- a list's items, by value or by its number -/
def lstOf (d : D) (S : Sto) : Option (List D) := match d with
  | .hnd n => match S[n]? with
    | some (.lst ds) => some ds
    | _ => none
  | d => dLst d
theorem lst_rd {F H : Hp} {μ : List Addr} {S : Sto} {v : V} {d : D} {ds : List D} (rel : Rel c F μ S H) (r : RD c F μ v d) (e : lstOf d S = some ds) : ∃ a vs, v = .ref a ∧ SqL c.K H a vs ∧ RDs c F μ vs ds := by
  cases d with
  | hnd n =>
    obtain ⟨a, rfl, hn⟩ := RD.hnd_at (H := H) r
    simp only [lstOf] at e
    cases hs : S[n]? with
    | none => rw [hs] at e; cases e
    | some m =>
      rw [hs] at e
      have q := rel.at_ n a m hn hs
      cases m with
      | lst es => cases e; obtain ⟨vs, ho, r1⟩ := q; exact ⟨a, vs, rfl, SqL.of ho, r1⟩
      | _ => cases e
  | lst es => obtain ⟨a, vs, rfl, h, r⟩ := RD.sql r (ds := ds) e; exact ⟨a, vs, rfl, rel.sql h, r⟩
  | fix es => obtain ⟨a, vs, rfl, h, r⟩ := RD.sql r (ds := ds) e; exact ⟨a, vs, rfl, rel.sql h, r⟩
  | _ => cases e
def lenSetD (d : D) (S : Sto) : Res D := match (lstOf d S).bind Ds.ints with
  | some ns => if ns.length ≤ 4000 then .ok (.int (PyProof.Rows.firstMet (fun i => ns.getD i 0) ns.length).length) S else .bad
  | none => .bad
theorem ge_lenSet {a : Expr} {ea : EV} {p p2 q pos : Pos} (hm : X.mg "len" = none) (hm2 : X.mg "set" = none) (ha : GE X W a ea) (hg : Gl X "len" := by rfl) (hg2 : Gl X "set" := by rfl) (hc : X.calm = true := by rfl)
    (na : starEach [a] X.env = (false, eval a X.env) :: starEach [] X.env := by rfl) : GE X W (.Call (.Name "len" p) [.Call (.Name "set" p2) [a] [] q] [] pos) (eUn lenSetD ea) := by
  obtain ⟨t, pt, s⟩ := ha
  refine ⟨_, pe_lenSetG hg hm hg2 hm2 pt hc na, ?_⟩
  refine sm_un (r := fun x H1 Q => ∃ (l : Addr) (ns : List Int), x = .ref l ∧ SqL X.K H1 l (ns.map V.int) ∧ ns.length ≤ 4000 ∧ Q (.int (PyProof.Rows.firstMet (fun i => ns.getD i 0) ns.length).length) H1) (fun F μ S H x dx Q rel rx want => ?_) s
  unfold lenSetD at want
  cases e : lstOf dx S with
  | none => rw [e] at want; exact want.elim
  | some ds =>
    cases e2 : Ds.ints ds with
    | none => rw [e, Option.bind_some, e2] at want; exact want.elim
    | some ns =>
      rw [e, Option.bind_some, e2] at want
      dsimp only at want
      split at want
      · rename_i hl
        obtain ⟨a, vs, rfl, h, r⟩ := lst_rd rel rx e
        rw [ints_ok e2] at r
        rw [r.ints] at h
        exact ⟨a, ns, rfl, h, hl, want _ F μ H Ext.refl rel (.int _)⟩
      · exact want.elim
end
end Sm
set_option Elab.async false
set_option linter.all false
set_option maxRecDepth 100000
open PySem PySem.Spec
namespace Sm
open L2
section
variable {X : Cx} {W : WX} {c : Cfg}
/-! ## d.setdefault(k, v) -/
def setdS (x q y : D) (S : Sto) : Res D := match x with
  | .hnd n => match S[n]? with
    | some (.dic ks ds) => match D.key q with
      | some k => if ks.length < 16777216 then match lookK ks ds k with
        | some d => .ok d S
        | none => .ok y (S.set n (.dic (putD ks ds k y).1 (putD ks ds k y).2))
        else .bad
      | none => .bad
    | _ => .bad
  | _ => .bad
def isHd (x : D) (S : Sto) : Bool := match x with
  | .hnd n => match S[n]? with
    | some (.dic _ _) => true
    | _ => false
  | _ => false
def eSetd (eo eq ev : EV) : EV := fun env S => (eo env S).bind fun x S1 => if isHd x S1 = true then (eq env S1).bind fun q S2 => (ev env S2).bind fun y S3 => noX (setdS x q y S3) else .bad
theorem ge_setd {o e f : Expr} {apos cpos : Pos} {eo eq ev : EV} (ho : GE X W o eo) (he : GE X W e eq) (hf : GE X W f ev) (m : M2 X o "setdefault" apos e f cpos := by exact ⟨rfl, rfl, rfl, rfl⟩) : GE X W (.Call (.Attribute o "setdefault" apos) [e, f] [] cpos) (eSetd eo eq ev) := by
  obtain ⟨to, po, so⟩ := ho
  obtain ⟨te, pe, se⟩ := he
  obtain ⟨tf, pf, sf⟩ := hf
  refine ⟨_, pe_dsetd po pe pf m, ?_⟩
  refine Sm.bind (kt := fun x σ H1 (Q : VK) => ∃ a, x = .ref a ∧ IsD H1 a ∧ te σ H1 fun y H2 => tf σ H2 fun z H3 => ∃ (kvs : List (Key × V)) (k : Key), H3 a = some (.dK kvs) ∧ y = kV k ∧ kvs.length < sizeLine ∧ (∀ v, valV kvs k = some v → Q v H3) ∧ (valV kvs k = none → Q z (upd H3 a (.dK (putK kvs k z)))))
    (ke := fun x env S1 => if isHd x S1 = true then (eq env S1).bind fun q S2 => (ev env S2).bind fun y S3 => noX (setdS x q y S3) else .bad) so fun F1 μ1 x dx s1 p1 r1 => ?_
  cases r1 with
  | hnd hn =>
    rename_i a n
    have h := Sm.bind (T := rE (cf X)) (kt := fun y σ H2 (Q : VK) => tf σ H2 fun z H3 => ∃ (kvs : List (Key × V)) (k : Key), H3 a = some (.dK kvs) ∧ y = kV k ∧ kvs.length < sizeLine ∧ (∀ v, valV kvs k = some v → Q v H3) ∧ (valV kvs k = none → Q z (upd H3 a (.dK (putK kvs k z)))))
      (ke := fun q env S2 => (ev env S2).bind fun y S3 => noX (setdS (.hnd n) q y S3)) (se.weaken s1 p1) fun F2 μ2 y dy s2 p2 r2 => by
        refine Sm.bind (T := rE (cf X)) (kt := fun z σ H3 (Q : VK) => ∃ (kvs : List (Key × V)) (k : Key), H3 a = some (.dK kvs) ∧ y = kV k ∧ kvs.length < sizeLine ∧ (∀ v, valV kvs k = some v → Q v H3) ∧ (valV kvs k = none → Q z (upd H3 a (.dK (putK kvs k z)))))
          (ke := fun y env S3 => noX (setdS (.hnd n) dy y S3)) (sf.weaken (s1.trans s2) (p1.trans p2)) fun F3 μ3 z dz s3 p3 r3 => ?_
        intro σ env F μ S H Q s p eR rel want
        have want := want.noX (W' := W0) (σ' := [])
        have hn' := pre_get ((p2.trans p3).trans p) hn
        simp only [setdS] at want
        cases hs : S[n]? with
        | none => rw [hs] at want; exact want.elim
        | some m =>
          rw [hs] at want
          have q := rel.at_ n a m hn' hs
          cases m with
          | dic ks ds =>
            obtain ⟨kvs, ho, rfl, r⟩ := q
            dsimp only at want
            cases ek : D.key dy with
            | none => rw [ek] at want; exact want.elim
            | some k =>
              rw [ek] at want
              dsimp only at want
              split at want
              · rename_i hl
                have hy := key_ok (r2.mono (s3.trans s) (p3.trans p)) ek
                have hv := look_ok (q := k) r
                refine ⟨kvs, k, ho, hy, by rw [sizeLine_eq]; simpa using hl, fun v e => ?_, fun e => ?_⟩
                · cases e2 : lookK (kvs.map (·.1)) ds k with
                  | none => rw [e2] at hv; rw [show valV kvs k = none from hv] at e; cases e
                  | some d =>
                    rw [e2] at hv want
                    obtain ⟨v', e3, rv⟩ := hv
                    rw [e] at e3
                    cases e3
                    exact want v F μ H Ext.refl rel rv
                · cases e2 : lookK (kvs.map (·.1)) ds k with
                  | some d => rw [e2] at hv; obtain ⟨v', e3, rv⟩ := hv; rw [e] at e3; cases e3
                  | none =>
                    rw [e2] at want
                    have r3' := r3.mono s p
                    obtain ⟨g1, g2⟩ := putK_ok (q := k) r r3'
                    obtain ⟨rl, xl⟩ := rel.write (o' := .dK (putK kvs k z)) (m' := .dic (putD (kvs.map (·.1)) ds k dz).1 (putD (kvs.map (·.1)) ds k dz).2) hn' hs (by simp) ho (by simp) ⟨_, upd_same, g1, g2⟩
                    exact want z F μ _ xl rl r3'
              · exact want.elim
          | _ => exact want.elim
    intro σ env F μ S H Q s p eR rel want
    dsimp only at want
    split at want
    · rename_i hd
      refine ⟨a, rfl, ?_, h σ env F μ S H Q s p eR rel want⟩
      simp only [isHd] at hd
      cases hs : S[n]? with
      | none => rw [hs] at hd; cases hd
      | some m =>
        rw [hs] at hd
        have q := rel.at_ n a m (pre_get p hn) hs
        cases m with
        | dic ks ds => obtain ⟨kvs, ho, _, _⟩ := q; exact .inl ⟨kvs, .inl ho⟩
        | _ => cases hd
    · exact want.elim
  | _ =>
    intro σ env F μ S H Q s p eR rel want
    exact want.elim
/-! ## {k: v for ..} -/
def dcGo (g : GV) (t : TV) (ek ev : EV) (env : Env) : List D → List Key → List D → Sto → Res (List Key × List D)
  | [], ks, ds, S => .ok (ks, ds) S
  | d :: r, ks, ds, S => match g d env with
    | none => .bad
    | some env1 => (noX (t env1 S)).bind fun b S1 => if b = true then (noX (ek env1 S1)).bind fun q S2 => (noX (ev env1 S2)).bind fun y S3 => match D.key q with
      | some k => if ks.length < 16777216 then dcGo g t ek ev env r (putD ks ds k y).1 (putD ks ds k y).2 S3 else .bad
      | none => .bad
      else dcGo g t ek ev env r ks ds S1
def kDicH (r : Res (List Key × List D)) : Res D := match r with
  | .ok kd S => .ok (.hnd S.length) (S ++ [.dic kd.1 kd.2])
  | _ => .bad
def eDcH (own : List Nat) (iv : AV) (g : GV) (t : TV) (ek ev : EV) : EV := fun env S => (iv env S).bind fun ds S1 => kDicH (dcGo g t ek ev (wipeE env own) ds [] [] S1)
theorem dich_bind {α : Type} {r : Res α} {k : α → Sto → Res (List Key × List D)} {W : WX} {R : RR V D} {σ : L2.St} {F H : Hp} {μ : List Addr} {Q : V → Hp → Prop} (w : Want c W R σ F μ H Q (kDicH ((noX r).bind k))) : ∃ y S, r = .ok y S ∧ Want c W R σ F μ H Q (kDicH (k y S)) := by
  cases r with
  | ok y S => exact ⟨y, S, rfl, w⟩
  | bad => exact w.elim
  | exc _ _ _ _ => exact w.elim
theorem extD_at {F μ H F' μ' H' : _} {p : Addr} {kvs : List (Key × V)} (x : Ext F μ H F' μ' H') (hD : H p = some (.dK kvs)) (fD : F p = none) (nD : p ∉ μ) : H' p = some (.dK kvs) ∧ F' p = none ∧ p ∉ μ' := by
  obtain ⟨h1, h2⟩ := x.keep p _ hD nD
  exact ⟨h1, h2 (fun a z => by cases z) fD, fun z => (x.fresh p z).elim nD fun z => by rw [hD] at z; cases z⟩
theorem dcH_at {own L : List Nat} {wi : TI} {iv : AV} {g : GV} {t : TV} {ek ev : EV} {σ : L2.St} {env : Env} {F : Hp} {μ : List Addr} {S : Sto} {H : Hp} {Q : V → Hp → Prop} (hi : ∀ Q', Want c W (rIt c) σ F μ H Q' (iv env S) → wi σ H Q') (hL : ∀ i ∈ L, i ∈ own)
    (eR : EnvR c F μ σ env) (rel : Rel c F μ S H) (want : Want c W (rE c) σ F μ H Q (eDcH own iv g t ek ev env S)) : tDc wi (Gof c g L) (Xof c W0 rId t) (Xof c W0 (rE c) ek) (Xof c W0 (rE c) ev) own σ H Q := by
  refine hi _ ?_
  change Want _ _ _ _ _ _ _ _ ((iv env S).bind _) at want
  cases h : iv env S with
  | bad => rw [h] at want; exact want.elim
  | exc C ns ds S' => rw [h] at want; exact want
  | ok ds S1 =>
    rw [h] at want
    intro J F1 μ1 H1 x1 rel1 r1
    change Want c W (rE c) σ F μ H Q (kDicH (dcGo g t ek ev (wipeE env own) ds [] [] S1)) at want
    have want1 := want.ext x1
    have eR1 := eR.ext x1
    intro p hp
    obtain ⟨rl, fp, nm⟩ := rel1.beside (u := .dK []) hp
    refine ⟨fun i m H => m = ds.length - i ∧ i ≤ ds.length ∧ ∃ F μ S kvs es, Ext F1 μ1 H1 F μ H ∧ Rel c F μ S H ∧ H p = some (.dK kvs) ∧ F p = none ∧ p ∉ μ ∧ RDs c F μ (kvs.map (·.2)) es ∧ Want c W (rE c) σ F1 μ1 H1 Q (kDicH (dcGo g t ek ev (wipeE env own) (ds.drop i) (kvs.map (·.1)) es S)),
      ⟨ds.length, rfl, Nat.zero_le _, F1, μ1, S1, [], [], ⟨Sub.refl _, List.prefix_refl _, fun b o hb _ => ⟨Sub.new hp b o hb, fun _ => id⟩, fun b hb => .inl hb⟩, rl, upd_same, fp, nm, .nil, want1⟩, ?_⟩
    rintro i m H2 ⟨rfl, hi, F2, μ2, S2, kvs, es, x2, rel2, hD2, fD2, nD2, ra2, w2⟩
    have st := r1 i F2 μ2 S2 H2 x2.mono x2.pre rel2
    by_cases hlt : i < ds.length
    · refine .inr ⟨(st.1 hlt).1, fun H => ∃ F μ S kvs es, Ext F1 μ1 H1 F μ H ∧ Rel c F μ S H ∧ H p = some (.dK kvs) ∧ F p = none ∧ p ∉ μ ∧ RDs c F μ (kvs.map (·.2)) es ∧ Want c W (rE c) σ F1 μ1 H1 Q (kDicH (dcGo g t ek ev (wipeE env own) (ds.drop (i + 1)) (kvs.map (·.1)) es S)),
        fun H' q => ⟨ds.length - (i + 1), by omega, rfl, hlt, q⟩, fun z H3 y => ?_⟩
      obtain ⟨F3, d, x3, rel3, ed, rd⟩ := (st.1 hlt).2 z H3 y
      have ed2 : ds.drop i = d :: ds.drop (i + 1) := by
        rw [List.drop_eq_getElem_cons hlt]
        rw [List.getElem?_eq_getElem hlt] at ed
        rw [Option.some.inj ed]
      rw [ed2] at w2
      obtain ⟨hD3, fD3, nD3⟩ := extD_at x3 hD2 fD2 nD2
      change Want c W (rE c) σ F1 μ1 H1 Q (kDicH (match g d (wipeE env own) with | none => .bad | some env1 => _)) at w2
      have eR3 : EnvR c F3 μ2 (wipe σ own) (wipeE env own) := ((eR1.ext x2).ext x3).wipe own
      cases q : g d (wipeE env own) with
      | none => rw [q] at w2; exact w2.elim
      | some env3 =>
        rw [q] at w2
        refine ⟨d, wipeE env own, env3, F3, μ2, S2, rd, eR3, rel3, q, fun σ3 eR4 bar => ⟨(bar own hL).trans (wipe_sub fun i hi => hi), ?_⟩⟩
        obtain ⟨k', S5, ht, w3⟩ := dich_bind w2
        refine ⟨env3, F3, μ2, S2, eR4, rel3, ?_⟩
        rw [ht]
        rintro k2 F5 μ5 H5 x5 rel5 rfl
        obtain ⟨hD5, fD5, nD5⟩ := extD_at x5 hD3 fD3 nD3
        have x15 := (x2.trans x3).trans x5
        have ra5 := (ra2.mono x3.mono x3.pre).mono x5.mono x5.pre
        cases k2 with
        | false =>
          rw [if_neg Bool.false_ne_true] at w3 ⊢
          exact ⟨F5, μ5, S5, kvs, es, x15, rel5, hD5, fD5, nD5, ra5, w3⟩
        | true =>
          rw [if_pos rfl] at w3 ⊢
          refine ⟨env3, F5, μ5, S5, eR4.ext x5, rel5, ?_⟩
          obtain ⟨q6, S6, he, w4⟩ := dich_bind w3
          rw [he]
          intro v6 F6 μ6 H6 x6 rel6 r6
          obtain ⟨hD6, fD6, nD6⟩ := extD_at x6 hD5 fD5 nD5
          refine ⟨env3, F6, μ6, S6, (eR4.ext x5).ext x6, rel6, ?_⟩
          obtain ⟨y7, S7, he7, w5⟩ := dich_bind w4
          rw [he7]
          intro v7 F7 μ7 H7 x7 rel7 r7
          obtain ⟨hD7, fD7, nD7⟩ := extD_at x7 hD6 fD6 nD6
          cases ekk : D.key q6 with
          | none => rw [ekk] at w5; exact w5.elim
          | some k =>
            rw [ekk] at w5
            change Want c W (rE c) σ F1 μ1 H1 Q (kDicH (if _ then _ else _)) at w5
            split at w5
            · rename_i hl
              have hy := key_ok r6 ekk
              have ra7 := (ra5.mono x6.mono x6.pre).mono x7.mono x7.pre
              obtain ⟨g1, g2⟩ := putK_ok (q := k) ra7 r7
              refine ⟨kvs, k, hy, hD7, by rw [sizeLine_eq]; simpa using hl, F7, μ7, S7, putK kvs k v7, _, ?_, rel7.aside hD7 (fun a z => by cases z) fD7 nD7, upd_same, fD7, nD7, g2, ?_⟩
              · have x17 := (x15.trans x6).trans x7
                refine ⟨x17.mono, x17.pre, fun b o hb hn => ?_, x17.fresh⟩
                rw [upd_ne (ne_of_none hb hp)]
                exact x17.keep b o hb hn
              · rw [g1]; exact w5
            · exact w5.elim
    · have e0 : i = ds.length := by omega
      refine .inl ⟨st.2 e0, ?_⟩
      rw [e0, List.drop_length] at w2
      change Want c W (rE c) σ F1 μ1 H1 Q (.ok (.hnd S2.length) (S2 ++ [.dic (kvs.map (·.1)) es])) at w2
      obtain ⟨ra, last⟩ := rel2.adopt (m := .dic (kvs.map (·.1)) es) hD2 (fun a z => by cases z) fD2 nD2 ⟨kvs, hD2, rfl, ra2.mono (Sub.refl _) (List.prefix_append _ _)⟩
      refine w2 (.ref p) _ _ H2 ⟨x2.mono, x2.pre.trans (List.prefix_append _ _), fun b o hb hn => x2.keep b o hb hn, fun b hb => ?_⟩ ra (.hnd last)
      rcases List.mem_append.mp hb with h | h
      · exact x2.fresh b h
      · have : b = p := by simpa using h
        exact .inr (this ▸ hp)
theorem ge_dcH {kx vx tg iter : Expr} {ifs : List Expr} {scope : Scope} {own : List (Str × Nat)} {pos : Pos} {iv : AV} {g : GV} {tv : TV} {ek ev : EV} {L : List Nat} (hN : X.N.Nodup) (hi : GI X W tg iter iv) (ok : blkC X.N X.env.scope scope own = true)
    (hg : ∀ (s : Shared) (H : Hp) (C : Addr) (cl : List (Str × Addr)) (fp : List Addr), GG (X.blk s H scope (compEnvC scope cl C X.env) fp) tg g L)
    (ht : ∀ (s : Shared) (H : Hp) (C : Addr) (cl : List (Str × Addr)) (fp : List Addr), GTs (X.blk s H scope (compEnvC scope cl C X.env) fp) W0 ifs tv)
    (hk : ∀ (s : Shared) (H : Hp) (C : Addr) (cl : List (Str × Addr)) (fp : List Addr), GE (X.blk s H scope (compEnvC scope cl C X.env) fp) W0 kx ek)
    (he : ∀ (s : Shared) (H : Hp) (C : Addr) (cl : List (Str × Addr)) (fp : List Addr), GE (X.blk s H scope (compEnvC scope cl C X.env) fp) W0 vx ev)
    (hL : ∀ i ∈ L, i ∈ own.map (·.2) := by decide) (hc : X.calm = true := by rfl) (hs : ∀ x, foldedSetIterable iter X.env x = pure x := by intro _; rfl) :
    GE X W (.DictComp kx vx [⟨tg, iter, ifs, 0⟩] scope pos) (eDcH (own.map (·.2)) iv g tv ek ev) := by
  obtain ⟨wi, p, s⟩ := hi
  exact ⟨_, pe_dc hc hN p (blkOk_by ok) (fun s H C cl fp => (hg s H C cl fp).canon) (fun s H C cl fp => (ht s H C cl fp).canon) (fun s H C cl fp => (hk s H C cl fp).canon) (fun s H C cl fp => (he s H C cl fp).canon) hs, fun σ env F μ S H Q s0 p0 eR rel want => dcH_at (fun Q' w => s.go eR rel w) hL eR rel want⟩
/-! ## {k: v, ..} -/
def rPs (c : Cfg) : RR (List (V × V)) (List (D × D)) := fun F μ ps qs => RDs c F μ (ps.map (·.1)) (qs.map (·.1)) ∧ RDs c F μ (ps.map (·.2)) (qs.map (·.2))
instance {c : Cfg} : Mono (rPs c) := ⟨fun s p h => ⟨h.1.mono s p, h.2.mono s p⟩⟩
abbrev DPV := Env → Sto → Res (List (D × D))
structure GPs (X : Cx) (W : WX) (pos : Pos) (keys : List (Option Expr)) (values : List Expr) (pv : DPV) : Prop where
  ex : ∃ trs, PPs X pos keys values trs ∧ SmE (cf X) W (rPs (cf X)) (tPairs trs) pv
def pNil : DPV := fun _ S => .ok [] S
def pCons (ek ev : EV) (r : DPV) : DPV := fun env S => (ek env S).bind fun q S1 => (ev env S1).bind fun y S2 => (r env S2).bind fun ps S3 => .ok ((q, y) :: ps) S3
theorem gps_nil {pos : Pos} : GPs X W pos [] [] pNil := ⟨[], pps_nil, fun σ env F μ S H Q s p eR rel want => want [] F μ H Ext.refl rel ⟨.nil, .nil⟩⟩
theorem gps_cons {pos : Pos} {k v : Expr} {ks : List (Option Expr)} {vs : List Expr} {ek ev : EV} {pv : DPV} (hk : GE X W k ek) (hv : GE X W v ev) (hr : GPs X W pos ks vs pv) : GPs X W pos (some k :: ks) (v :: vs) (pCons ek ev pv) := by
  obtain ⟨tk, pk, sk⟩ := hk
  obtain ⟨tv, pvv, sv⟩ := hv
  obtain ⟨trs, pr, sr⟩ := hr
  refine ⟨_, pps_cons pk pvv pr, ?_⟩
  refine Sm.bind (T := rPs (cf X)) (kt := fun x σ H1 (Q : List (V × V) → Hp → Prop) => tv σ H1 fun y H2 => tPairs trs σ H2 fun ps H3 => Q ((x, y) :: ps) H3)
    (ke := fun q env S1 => (ev env S1).bind fun y S2 => (pv env S2).bind fun ps S3 => .ok ((q, y) :: ps) S3) sk fun F1 μ1 x q s1 p1 r1 => ?_
  refine Sm.bind (T := rPs (cf X)) (kt := fun y σ H2 (Q : List (V × V) → Hp → Prop) => tPairs trs σ H2 fun ps H3 => Q ((x, y) :: ps) H3)
    (ke := fun y env S2 => (pv env S2).bind fun ps S3 => .ok ((q, y) :: ps) S3) (sv.weaken s1 p1) fun F2 μ2 y dy s2 p2 r2 => ?_
  refine Sm.bind (T := rPs (cf X)) (kt := fun ps σ H3 (Q : List (V × V) → Hp → Prop) => Q ((x, y) :: ps) H3)
    (ke := fun ps env S3 => .ok ((q, dy) :: ps) S3) (sr.weaken (s1.trans s2) (p1.trans p2)) fun F3 μ3 ps dps s3 p3 r3 => ?_
  exact Sm.pure fun _ _ F μ S H s p _ _ => ⟨rfl, (x, y) :: ps, ⟨.cons ((r1.mono (s2.trans s3) (p2.trans p3)).mono s p) (r3.1.mono s p), .cons ((r2.mono s3 p3).mono s p) (r3.2.mono s p)⟩, fun Q q => q⟩
def mergeD : List Key → List D → List Key → List D → List Key × List D
  | ks, ds, k :: ks', d :: ds' => mergeD (putD ks ds k d).1 (putD ks ds k d).2 ks' ds'
  | ks, ds, _, _ => (ks, ds)
theorem merge_ok {F : Hp} {μ : List Addr} : ∀ {more kvs : List (Key × V)} {ds es : List D}, RDs c F μ (kvs.map (·.2)) ds → RDs c F μ (more.map (·.2)) es → (mergeK kvs more).map (·.1) = (mergeD (kvs.map (·.1)) ds (more.map (·.1)) es).1 ∧ RDs c F μ ((mergeK kvs more).map (·.2)) (mergeD (kvs.map (·.1)) ds (more.map (·.1)) es).2
  | [], kvs, ds, _, r, .nil => ⟨rfl, r⟩
  | (k, v) :: more, kvs, ds, _, r, .cons (ds := es) h rr => by
    obtain ⟨g1, g2⟩ := putK_ok (q := k) r h
    have ih := merge_ok (more := more) (kvs := putK kvs k v) g2 rr
    rw [g1] at ih
    exact ih
def eDispH (pv : DPV) : EV := fun env S => (pv env S).bind fun ps S1 => match Ds.keys (ps.map (·.1)) with
  | some ks => if ks.length ≤ 15 then .ok (.hnd S1.length) (S1 ++ [.dic (mergeD [] [] ks (ps.map (·.2))).1 (mergeD [] [] ks (ps.map (·.2))).2]) else .bad
  | none => .bad
theorem ge_dispH {pos : Pos} {keys : List (Option Expr)} {values : List Expr} {pv : DPV} (h : GPs X W pos keys values pv) (hall : keys.all (·.isSome) = true := by rfl) (hl : keys.length = values.length := by rfl) (h0 : keys ≠ [] := by exact fun h => nomatch h)
    (h15 : keys.length ≤ 15 := by decide) : GE X W (.Dict keys values pos) (eDispH pv) := by
  obtain ⟨trs, pr, sr⟩ := h
  refine ⟨_, pe_disp pr hall hl h0 h15, fun σ env F μ S H Q s0 p0 eR rel want p hp => ?_⟩
  obtain ⟨rl, fp, nm⟩ := rel.beside (u := .dK []) hp
  have x0 : Ext F μ H F μ (upd H p (.dK [])) := ⟨Sub.refl _, List.prefix_refl _, fun b o hb _ => ⟨Sub.new hp b o hb, fun _ => id⟩, fun b hb => .inl hb⟩
  refine sr σ env F μ S (upd H p (.dK [])) _ s0 p0 eR rl ?_
  have want0 := want.ext x0
  change Want _ _ _ _ _ _ _ _ ((pv env S).bind _) at want want0
  cases h : pv env S with
  | bad => rw [h] at want; exact want.elim
  | exc C ns ds S' => rw [h] at want0; exact want0
  | ok ps S1 =>
    rw [h] at want
    intro vps F1 μ1 H1 x1 rel1 r1
    obtain ⟨h1, fp1, nm1⟩ := extD_at x1 upd_same fp nm
    refine ⟨h1, ?_⟩
    rw [Res.bind_ok] at want
    cases ek : Ds.keys (ps.map (·.1)) with
    | none => rw [ek] at want; exact want.elim
    | some ks =>
      rw [ek] at want
      dsimp only at want
      split at want
      · rename_i hl
        have hk := keys_ok r1.1 ek
        have hz : ∃ kvs : List (Key × V), vps = kvs.map (fun kv => (kV kv.1, kv.2)) ∧ kvs.map (·.1) = ks ∧ kvs.map (·.2) = vps.map (·.2) := by
          clear want want0 r1 ek h1 x1 rel1 hl h
          induction vps generalizing ks with
          | nil =>
            cases ks with
            | nil => exact ⟨[], rfl, rfl, rfl⟩
            | cons _ _ => cases hk
          | cons q qs ih =>
            cases ks with
            | nil => cases hk
            | cons k ks =>
              simp only [List.map_cons, List.cons.injEq] at hk
              obtain ⟨kvs, e1, e2, e3⟩ := ih _ hk.2
              refine ⟨(k, q.2) :: kvs, ?_, by simp [e2], by simp [e3]⟩
              rw [List.map_cons, ← e1, ← hk.1]
        obtain ⟨kvs, e1, e2, e3⟩ := hz
        refine ⟨kvs, e1, by rw [← e2] at hl; simpa using hl, ?_⟩
        have hr : RDs (cf X) F1 μ1 (kvs.map (·.2)) (ps.map (·.2)) := by rw [e3]; exact r1.2
        obtain ⟨g1, g2⟩ := merge_ok (c := cf X) (F := F1) (μ := μ1) (kvs := []) (ds := []) .nil hr
        rw [e2] at g1 g2
        simp only [List.map_nil] at g1 g2
        have x2 := x0.trans x1
        have ra := rel1.aside (u := .dK (mergeK [] kvs)) h1 (fun a z => by cases z) fp1 nm1
        obtain ⟨rb, last⟩ := ra.adopt (m := .dic (mergeD [] [] ks (ps.map (·.2))).1 (mergeD [] [] ks (ps.map (·.2))).2) upd_same (fun a z => by cases z) fp1 nm1 ⟨_, upd_same, g1, g2.mono (Sub.refl _) (List.prefix_append _ _)⟩
        refine want (.ref p) F1 (μ1 ++ [p]) _ ⟨x2.mono, x2.pre.trans (List.prefix_append _ _), fun b o hb hn => ?_, fun b hb => ?_⟩ rb (.hnd last)
        · rw [upd_ne (ne_of_none hb hp)]; exact x2.keep b o hb hn
        · rcases List.mem_append.mp hb with h | h
          · exact x2.fresh b h
          · have : b = p := by simpa using h
            exact .inr (this ▸ hp)
      · exact want.elim
end
end Sm
set_option Elab.async false
set_option linter.all false
set_option maxRecDepth 100000
open PySem PySem.Spec
namespace Sm
open L2
section
variable {X : Cx} {W : WX} {c : Cfg}
/-! ## an attribute's thing changes no more -/
def setFD : List Str → List D → Str → D → List D
  | k :: ks, d :: ds, f, y => if f = k then y :: ds else d :: setFD ks ds f y
  | _, _, _, _ => []
theorem setF_ok {F : Hp} {μ : List Addr} {f : Str} {v : V} {y : D} (ry : RD c F μ v y) : ∀ {fs : List (Str × V)} {ds : List D}, RDs c F μ (fs.map (·.2)) ds → fs.lookup f = some v → RDs c F μ (fs.map (·.2)) (setFD (fs.map (·.1)) ds f y)
  | [], _, r, e => by cases e
  | (k, w) :: fs, _, .cons (d := d0) (ds := ds) h r, e => by
    show RDs c F μ (w :: fs.map (·.2)) (if f = k then y :: ds else d0 :: setFD (fs.map (·.1)) ds f y)
    by_cases hk : f = k
    · rw [if_pos hk]
      subst hk
      rw [List.lookup_cons_self] at e
      cases e
      exact .cons ry r
    · rw [if_neg hk]
      have hb : (f == k) = false := by simpa using hk
      rw [List.lookup_cons, hb] at e
      exact .cons h (setF_ok ry r e)
/-- a thing told otherwise -/
theorem Rel.retell {F H : Hp} {μ : List Addr} {S : Sto} {n : Nat} {a : Addr} {m m' : MO} (rel : Rel c F μ S H) (hn : μ[n]? = some a) (hs : S[n]? = some m) (hm : m ≠ .dead) (new : RM c F μ H a m') : Rel c F μ (S.set n m') H := by
  have fa := rel.free n a m hn hs hm
  have hlt : n < S.length := (List.getElem?_eq_some_iff.mp hs).1
  refine ⟨rel.frz, by simp [rel.len], rel.nd, fun k b x e1 e2 e3 => ?_, rel.known, fun k b x e1 e2 => ?_⟩
  · by_cases hk : n = k
    · subst hk; rw [hn] at e1; cases e1; exact fa
    · rw [List.getElem?_set_ne hk] at e2; exact rel.free k b x e1 e2 e3
  · by_cases hk : n = k
    · subst hk
      rw [hn] at e1; cases e1
      rw [List.getElem?_set_self hlt] at e2
      cases e2
      exact new
    · rw [List.getElem?_set_ne hk] at e2; exact rel.at_ k b x e1 e2
def frzFld (f : Str) (d : D) (S : Sto) : Option Sto := match d with
  | .hnd n => match S[n]? with
    | some (.ins C ns ds) => match lookF ns ds f with
      | some (.hnd m) => match frzM m S with
        | .ok d' S1 => if m = n then none else some (S1.set n (.ins C ns (setFD ns ds f d')))
        | _ => none
      | _ => none
    | _ => none
  | _ => none
theorem frzM_keeps {m n : Nat} {S S1 : Sto} {d : D} (e : frzM m S = .ok d S1) (hne : m ≠ n) : S1[n]? = S[n]? := by
  unfold frzM at e
  split at e <;> first | (cases e; exact List.getElem?_set_ne hne) | cases e
theorem frzFld_ok {F H : Hp} {μ : List Addr} {S S' : Sto} {v : V} {d : D} {f : Str} (rel : Rel c F μ S H) (r : RD c F μ v d) (e : frzFld f d S = some S') : ∃ F', Ext F μ H F' μ H ∧ Rel c F' μ S' H := by
  cases d with
  | hnd n =>
    obtain ⟨a, rfl, hn⟩ := RD.hnd_at (H := H) r
    simp only [frzFld] at e
    cases hs : S[n]? with
    | none => rw [hs] at e; cases e
    | some m0 =>
      rw [hs] at e
      have q := rel.at_ n a m0 hn hs
      cases m0 with
      | ins C ns ds =>
        obtain ⟨cl, dx, fs, hc, ho, hd, rfl, rf⟩ := q
        dsimp only at e
        cases hl : lookF (fs.map (·.1)) ds f with
        | none => rw [hl] at e; cases e
        | some y =>
          rw [hl] at e
          obtain ⟨w, e1, rw'⟩ := lookF_ok rf hl
          cases y with
          | hnd m =>
            dsimp only at e
            cases hz : frzM m S with
            | bad => rw [hz] at e; cases e
            | exc _ _ _ _ => rw [hz] at e; cases e
            | ok d' S1 =>
              rw [hz] at e
              dsimp only at e
              split at e
              · cases e
              · rename_i hne
                cases e
                obtain ⟨F', x', rel', r'⟩ := frz_ok (d := .hnd m) rel rw' hz
                refine ⟨F', x', rel'.retell hn ((frzM_keeps hz hne).trans hs) (by simp) ⟨cl, dx, fs, hc, ho, hd, rfl, setF_ok r' (rf.mono x'.mono x'.pre) e1⟩⟩
          | _ => cases e
      | _ => cases e
  | _ => cases e
def sFrzF (i : Nat) (f : Str) : SV := fun env S => match env[i]? with
  | some (some d) => match frzFld f d S with
    | some S' => .ok (.nx env) S'
    | none => .bad
  | _ => .bad
theorem sm_frzF {i : Nat} {f : Str} : SmS c W tNext (sFrzF i f) := by
  intro E σ env F μ S H eR rel want
  unfold sFrzF at want
  cases h : env[i]? with
  | none => rw [h] at want; exact want.elim
  | some o =>
    rw [h] at want
    cases o with
    | none => exact want.elim
    | some d =>
      obtain ⟨v, hv, r1⟩ := eR.at_ i d h
      dsimp only at want
      cases q : frzFld f d S with
      | none => rw [q] at want; exact want.elim
      | some S' =>
        rw [q] at want
        obtain ⟨F', x', rel'⟩ := frzFld_ok rel r1 q
        exact want σ _ _ _ x' rel' (eR.ext x')
theorem gb_frzF {sts : List Stmt} {b : SV} (i : Nat) (f : Str) (h : GB X W sts b) : GB X W sts (sSeq (sFrzF i f) b) := by
  obtain ⟨t, p, s⟩ := h
  refine ⟨t, p, fun E σ env F μ S H eR rel want => ?_⟩
  exact sm_seq (t := tNext) (u := t) sm_frzF s E σ env F μ S H eR rel want
/-! ## list(range(..)), list * int -/
def rgD (a b : Int) : List D := upto a (b - a).toNat
end
end Sm
set_option Elab.async false
set_option linter.all false
set_option maxRecDepth 100000
/-! ## sorted of lists and tuples -/
namespace PyProof.Rows
open PySem PySem.Spec
section
variable {prog : Program} {w : World} {A : Around} {E : Value → Shared → Prop} {s : Shared}
def freshL (h : Heap) (xs : List Value) : Heap := Heap.update (h.push (seqObj "list" #[] 0)) h.objs.size (Obj.mapSeq (fun z => z ++ xs.toArray))
/-- a tuple's items, as the builtins collect them -/
theorem tupCollect {a : Addr} {xs : List Value} {K : List Value → Shared → Prop} (T : IsTup s.heap a xs.toArray) (small : xs.length ≤ sizeLine) (k : K xs { s with heap := freshL s.heap xs }) :
    wpAny (model prog w) A (collect (.ref a)) K E s := by
  obtain ⟨ob, at1, cl, ep, dat⟩ := id T
  have at2 : (s.heap.push (seqObj "list" #[] 0)).get? a = some ob := by exact Heap.get?_push_of_some _ at1
  have at3 : (s.heap.push (seqObj "list" #[] 0)).get? s.heap.objs.size = some (seqObj "list" #[] 0) := by exact Heap.get?_push_size _ rfl
  have lim : (#[] ++ xs.toArray).size ≤ sizeLine + 1 := by rw [Array.size_append, List.size_toArray]; exact Nat.le_succ_of_le (by simpa using small)
  have back : ((#[] : Array Value) ++ xs.toArray).toList = xs := by simp
  have tail : wpAny (model prog w) A (do
      let o ← load s.heap.objs.size
      match o.data with
      | .seq ys _ => pure ys.toList
      | _ => unsupported "internal:collect") K E { s with heap := freshL s.heap xs } := by
    refine wpAny_bind (wpAny_load (get?_update_seq at3 _) ?_)
    show wpAny (model prog w) A (pure ((#[] : Array Value) ++ xs.toArray).toList) K E { s with heap := freshL s.heap xs }
    rw [back]
    exact wpAny_pure k
  have step : ∀ (B : Around) (E' : Value → Shared → Prop) (R : PySem.Fin → Shared → Prop), R (.done (.ret (.ref s.heap.objs.size))) { s with heap := freshL s.heap xs } →
      wpAny (model prog w) B (Builtin.List.listExtendWith (.ref s.heap.objs.size) (.ref a) (.ref s.heap.objs.size)) R E' { s with heap := s.heap.push (seqObj "list" #[] 0) } := by
    intro B E' R r
    unfold Builtin.List.listExtendWith
    refine wpAny_bind (wpAny_typeOf (T := "tuple") ⟨ob, at2, cl⟩ ?_)
    have isT : (Value.type "tuple" == Value.type "tuple") = true := rfl
    rw [if_pos (by simp [isT])]
    refine wpAny_bind (listItems_at at2 dat (wpAny_bind (listItems_at (n := 0) (xs := #[]) at3 rfl ?_)))
    rw [if_neg (show ¬ _ = true by simp)]
    exact wpAny_bind (listUpdate_at (n := 0) (xs := #[]) at3 rfl (wpAny_pure r) (Nat.zero_le _) lim)
  unfold collect
  refine wpAny_bind (wpAny_runValue (codeAny_builtin entry_proto_collect' ?_))
  change wpAny _ _ (newList [] >>= fun y => again (.builtin "list.__iadd__" ⟨[y, .ref a], []⟩)) _ _ s
  refine wpAny_bind (wpAny_newList (wpAny_pure ⟨Code.quiet_builtin _ (by decide +kernel), codeAny_builtin entry_list_iadd' ?_⟩))
  exact step _ _ _ tail
end
end PyProof.Rows
namespace PySem.W
open PySem PySem.Calls PyProof.Rows
section
variable {prog : Program} {w : World} {A : Around} {E : Value → Shared → Prop} {s : Shared}
abbrev SeqV (h : Heap) (a : Addr) (xs : List Value) : Prop := h.IsList a xs.toArray ∨ IsTup h a xs.toArray
/-- sorted(xs, ..), xs a list or a tuple, by what list.sort does to the new list -/
theorem sortedVia {a : Addr} {xs : List Value} {kws : List (Str × Value)} {K : Value → Shared → Prop} (T : SeqV s.heap a xs) (small : xs.length ≤ sizeLine) (o1 : argsOk "sorted" ⟨[.ref a], kws⟩) (o2 : ∀ b, argsOk "list.sort" ⟨[.ref b], kws⟩)
    (doing : ∀ E2 : Value → Shared → Prop, wpAny (model prog w) A.in1.in1 (Builtin.«list.sort» ⟨[.ref (s.heap.objs.size + 1)], kws⟩) (fun z s2 => z = .done (.ret .none) ∧ K (.ref (s.heap.objs.size + 1)) s2) E2 { s with heap := copyHeap s.heap xs }) :
    wpAny (model prog w) A (call (.builtin "sorted") [.ref a] kws) K E s := by
  have size1 : (freshL s.heap xs).objs.size = s.heap.objs.size + 1 := (Heap.size_update _ _ _).trans (size_push' _ _)
  refine call_function_entry_kw kind_sorted plain_sorted entry_sorted o1 ?_
  unfold Builtin.«sorted»
  refine wpAny_bind (m := checkCount "sorted" 1 1 _) (wpAny_pure (wpAny_bind ?_))
  have next : wpAny (model prog w) A.in1 (do
      let l ← newList xs
      let _ ← holding [l] (call (.builtin "list.sort") [l] kws)
      ret l) (fun fin s' => ∃ v, fin = .done (.ret v) ∧ K v s') E { s with heap := freshL s.heap xs } := by
    refine wpAny_bind (wpAny_newList ?_ small)
    rw [size1]
    have there : (copyHeap s.heap xs).get? (s.heap.objs.size + 1) = some (seqObj "list" xs.toArray 0) := copyHeap_at s.heap xs
    refine wpAny_bind (wpAny_holding (wpAny_call_entry_kw F.slot_list_sort ⟨_, there, rfl⟩ F.entry_list_sort ?_ (o2 _)))
    refine wpAny_mono (doing _) (fun z s2 q => ?_) (fun _ _ z => z)
    exact ⟨_, q.1, wpAny_pure ⟨_, rfl, q.2⟩⟩
  rcases T with T | T
  · exact collect_list T next small
  · exact tupCollect T small next
end
end PySem.W
namespace PySem.W
open PySem PySem.Calls PyProof.Rows
section
variable {prog : Program} {w : World} {A : Around} {E : Value → Shared → Prop} {s : Shared} {β : Type}
/-- .. with a key: the calls of the key keep all that stands -/
theorem sortedKeyVia {a : Addr} {xs : List Value} {bs : List β} {T : Value → β → Prop} {g : Value} {kws : List (Str × Value)} {K : Value → Shared → Prop} (κ : β → PyData) (Z : SeqV s.heap a xs) (each : EachIs T xs bs)
    (alikes : AllAlike (bs.map κ)) (able : Sortable (bs.map κ)) (small : bs.length ≤ sizeLine) (room : ∀ b ∈ bs, A.units + 2 + (κ b).depth < cLine) (o1 : argsOk "sorted" ⟨[.ref a], kws⟩) (o2 : ∀ b, argsOk "list.sort" ⟨[.ref b], kws⟩)
    (tree : ∀ b, Builtin.«list.sort» ⟨[.ref b], kws⟩ = ksk_tree b g false)
    (ask : ∀ v b, T v b → b ∈ bs → ∀ (h : Heap) (tk : Nat), (∀ q o, s.heap.get? q = some o → h.get? q = some o) → wpAny (model prog w) A.in1.in1 (call g [v]) (KeyPure (κ b) { s with heap := h, toks := tk }) (fun _ _ => False) { s with heap := h, toks := tk })
    (k : ∀ out ep h' tk, (∀ q o, s.heap.get? q = some o → h'.get? q = some o) → h'.get? (s.heap.objs.size + 1) = some (seqObj "list" (List.toArray out) ep) → EachIs T out (bs.mergeSort (dataLe false κ)) → K (.ref (s.heap.objs.size + 1)) { s with heap := h', toks := tk }) :
    wpAny (model prog w) A (call (.builtin "sorted") [.ref a] kws) K E s := by
  have len := each.length
  have lens : (bs.map κ).length = xs.length := by rw [List.length_map, len]
  have small' : xs.length ≤ sizeLine := len ▸ small
  have stay : ∀ {h' : Heap}, KeepsBut (s.heap.objs.size + 1) (copyHeap s.heap xs) h' → ∀ q o, s.heap.get? q = some o → h'.get? q = some o := fun {h'} kb q o e =>
    kb q o (Nat.ne_of_lt (Nat.lt_trans (Heap.lt_size e) (Nat.lt_succ_self _))) (copyHeap_old e)
  refine sortedVia Z small' o1 o2 fun E2 => ?_
  rw [tree]
  have turns := keyH_turns (prog := prog) (w := w) (A := A.in1.in1) (s := { s with heap := copyHeap s.heap xs }) (f := g) (k := κ) (a := s.heap.objs.size + 1) (h₁ := copyHeap s.heap xs) each fun v b tv hb h tk kb => ask v b tv hb h tk (stay kb)
  refine keyH_tree (s := { s with heap := copyHeap s.heap xs }) (copyHeap_at s.heap xs) lens small' alikes able (bound_map room) turns fun h' tk out ep kb at_ ok => ?_
  exact ⟨rfl, k out ep h' tk (stay kb) at_ (keyedOut_each κ ok each)⟩
end
end PySem.W
set_option Elab.async false
set_option linter.all false
set_option maxRecDepth 100000
open PySem PySem.Spec
namespace Sm
open L2 PySem.W
/-! ## a lambda of one parameter -/
def Keep (h h' : Heap) : Prop := ∀ b o, h.get? b = some o → h'.get? b = some o
theorem Keep.refl (h : Heap) : Keep h h := fun _ _ e => e
theorem Keep.trans {a b c : Heap} (x : Keep a b) (y : Keep b c) : Keep a c := fun q o e => y q o (x q o e)
/-- it is called: its body in a frame of its own -/
theorem lam_turn {prog : Program} {w : World} {A : Around} {qual : Str} {params : Arguments} {body : Expr} {scope : Scope} {cl : List (Str × Addr)} {pm ctv : Value} {c' f : Addr} {x : Str} {v : Value} {s : Shared} {Q : Value → Shared → Prop}
    (room : A.depth < recursionLimit) (ho : s.heap.get? f = some (kla_obj "<lambda>" qual params body scope cl pm c' ctv)) (cr : s.heap.CodeRec (.ref c') qual) (lim : s.heap.NoLimit)
    (bind : bindArgs (kla_fn "<lambda>" qual params body scope cl pm (.ref c') ctv) ⟨[v], []⟩ = pure [(x, v)]) (loc : scope.names.lookup x = some .local)
    (hk : scope.kind = .function) (hco : scope.isCoroutine = false) (hgen : scope.isGenerator = false) (hcell : ∀ y ∈ scope.names, y.2 ≠ .cell)
    (go : ∀ L' h₁, Keep s.heap h₁ → h₁.Ns L' (fun y => [(x, v)].reverse.lookup y) → wpAny (model prog w) (A.deeper (envX qual scope L' f (.ref c') cl)) (eval body (envX qual scope L' f (.ref c') cl)) Q (fun _ _ => False) { s with heap := h₁, toks := s.toks + 1 }) :
    wpAny (model prog w) A (call (.ref f) [v]) Q (fun _ _ => False) s := by
  refine wpAny_call (kla_callFunE room ho rfl hco hgen rfl cr ?_)
  rw [bind]
  refine wpAny_pure (wpAny_newFunctionEnv hcell (fun y hy => ?_) (fun h₁ hns hsb => ⟨lim.fresh _ hsb, ?_⟩) hk)
  · rw [show y = (x, v) by simpa using hy]; exact loc
  · have kept : Keep s.heap h₁ := fun b o e => hsb.extBut b o (Nat.ne_of_lt (Heap.lt_size e)) (Heap.get?_push_of_some _ e)
    refine kla_codeExpr (env := envX qual scope s.heap.objs.size f (.ref c') cl) ?_
    exact wpAny_mono (go _ h₁ kept hns) (fun v s' hl => hl) fun _ _ y => y.elim
/-- e gives the key k in the frame env, wherever h is kept -/
def EvP (prog : Program) (w : World) (A : Around) (env : PySem.Env) (h : Heap) (e : Expr) (k : PyData) : Prop :=
  ∀ (s : Shared) (Q : Value → Shared → Prop), Keep h s.heap → (∀ v h' tk, Keep s.heap h' → Reads h' v k [] → Q v { s with heap := h', toks := tk }) → wpAny (model prog w) A (eval e env) Q (fun _ _ => False) s
section
variable {prog : Program} {w : World} {A : Around} {env : PySem.Env} {h : Heap} {x : Str} {v : Value} {m : Str → Option Value} {pos p1 p2 : Pos}
theorem ev_item {t : Addr} {items : Array Value} {i : Int} {kd} {j : Nat} {y : Value} {k : PyData} (hk : env.scope.kind = .function) (hl : env.kindOf x = some .local) (hn : h.Ns env.locals m) (hv : m x = some (.ref t)) (hd : (x == ("__debug__" : Str)) = false)
    (ht : PyProof.Rows.IsTup h t items) (hlo : -(2 ^ 63) ≤ i) (hhi : i < 2 ^ 63) (hj : seqIndex? i items.size = some j) (hy : items[j]? = some y) (r : Reads h y k []) :
    EvP prog w A env h (.Subscript (.Name x p1) (.Constant (.int i) kd p2) pos) k := by
  intro s Q kp q
  refine PyProof.Rows.Subscript_ (wpAny_Name (wpAny_loadName_local hk hl (hn.keeps kp) hv ?_) hd)
  refine wpAny_Constant_int ?_
  exact PyProof.Rows.item_tuple (ht.keeps kp) hlo hhi hj hy (q y s.heap _ (Keep.refl _) (PyProof.Rows.Reads.keeps kp r))
theorem ev_neg {e : Expr} {n : Int} (he : EvP prog w A env h e (.int n)) : EvP prog w A env h (.UnaryOp .USub e pos) (.int (-n)) := by
  intro s Q kp q
  refine PyProof.Rows.UnaryOp_ (he s _ kp fun v h' tk k1 r => ?_)
  cases r with
  | int n t => exact PyProof.Rows.neg_int (q _ h' _ k1 (.int _ _))
theorem ev_sub {e : Expr} {c n : Int} {kd} (he : EvP prog w A env h e (.int n)) : EvP prog w A env h (.BinOp (.Constant (.int c) kd p1) .Sub e pos) (.int (c - n)) := by
  intro s Q kp q
  refine wpAny_BinOp (wpAny_Constant_int ?_)
  refine he { s with toks := s.toks + 1 } _ kp fun v h' tk k1 r => ?_
  cases r with
  | int n t => exact PyProof.Rows.sub_int (q _ h' _ k1 (.int _ _))
/-- several, one behind the other -/
def EvPs (prog : Program) (w : World) (A : Around) (env : PySem.Env) (h : Heap) (es : List Expr) (ks : List PyData) : Prop :=
  ∀ (pos : Pos) (s : Shared) (Q : List Value → Shared → Prop), Keep h s.heap → (∀ vs h' tk, Keep s.heap h' → ReadsAll h' vs ks [] → Q vs { s with heap := h', toks := tk }) → wpAny (model prog w) A (spliced (backTo pos (starEach es env))) Q (fun _ _ => False) s
theorem evs_nil : EvPs prog w A env h [] [] := fun pos s Q kp q => Calls.spliced_nil (q [] s.heap s.toks (Keep.refl _) .nil)
theorem evs_cons {e : Expr} {es : List Expr} {k : PyData} {ks : List PyData} (he : EvP prog w A env h e k) (hr : EvPs prog w A env h es ks) (hs : starEach (e :: es) env = (false, eval e env) :: starEach es env) : EvPs prog w A env h (e :: es) (k :: ks) := by
  intro pos s Q kp q
  refine PyProof.Rows.args_cons (he s _ kp fun v h1 tk k1 r1 => ?_) hs
  refine hr pos _ _ (kp.trans k1) fun vs h2 tk2 k2 r2 => ?_
  exact q (v :: vs) h2 tk2 (k1.trans k2) (.cons (PyProof.Rows.Reads.keeps k2 r1) r2)
theorem ev_tup {es : List Expr} {kd} {ks : List PyData} (hes : EvPs prog w A env h es ks) (hz : ks.length ≤ 16777216) : EvP prog w A env h (.Tuple es kd pos) (.tuple ks) := by
  intro s Q kp q
  refine PyProof.Rows.Tuple_ (hes _ s _ kp fun vs h1 tk k1 r1 => ?_)
  have hl : vs.length = ks.length := PySem.SeqAt.ReadsAll.length _ _ _ r1
  refine wpAny_newTuple ?_ (by rw [hl, sizeLine_eq]; exact hz)
  have k2 : Keep h1 (h1.push { cls := .type "tuple", data := .seq vs.toArray }) := fun b o e => Heap.get?_push_of_some _ e
  refine q _ _ _ (k1.trans k2) (.tuple (Heap.get?_push_size _ rfl) rfl rfl ?_)
  simpa using PyProof.Rows.ReadsAll.keeps k2 r1
end
/-! ## keys, from an item by value -/
structure KeyD (X : Cx) (x : Str) (e : Expr) (kf : D → Option PyData) : Prop where
  run : ∀ {F : Hp} {μ : List Addr} {S : Sto} {H : Hp} {pins : List (Addr × Obj)} {s : Shared} {σ : L2.St} {y : V} {d : D} {v : Value} {kd : PyData} {env : PySem.Env} {h : Heap} {m : Str → Option Value} {A : Around}, Inv X pins σ H s → Rel (cf X) F μ S H → RD (cf X) F μ y d → RelV y v → kf d = some kd →
    Keep s.heap h → env.scope.kind = .function → env.kindOf x = some .local → h.Ns env.locals m → m x = some v → EvP X.prog X.w A env h e kd
structure KeyDs (X : Cx) (x : Str) (es : List Expr) (kf : D → Option (List PyData)) : Prop where
  run : ∀ {F : Hp} {μ : List Addr} {S : Sto} {H : Hp} {pins : List (Addr × Obj)} {s : Shared} {σ : L2.St} {y : V} {d : D} {v : Value} {kd : List PyData} {env : PySem.Env} {h : Heap} {m : Str → Option Value} {A : Around}, Inv X pins σ H s → Rel (cf X) F μ S H → RD (cf X) F μ y d → RelV y v → kf d = some kd →
    Keep s.heap h → env.scope.kind = .function → env.kindOf x = some .local → h.Ns env.locals m → m x = some v → EvPs X.prog X.w A env h es kd
def D.atom : D → Option PyData
  | .non => some .none
  | .bl b => some (.bool b)
  | .int i => some (.int i)
  | .str z => some (.str z)
  | _ => none
def kItem (i : Int) (d : D) : Option PyData := (dTup d).bind fun ds => if -9223372036854775808 ≤ i ∧ i < 9223372036854775808 then (seqIndex? i ds.length).bind fun j => (ds[j]?).bind D.atom else none
def kNeg (kf : D → Option PyData) (d : D) : Option PyData := match kf d with | some (.int n) => some (.int (-n)) | _ => none
def kSub (c : Int) (kf : D → Option PyData) (d : D) : Option PyData := match kf d with | some (.int n) => some (.int (c - n)) | _ => none
def kNil (_ : D) : Option (List PyData) := some []
def kCons (kf : D → Option PyData) (ks : D → Option (List PyData)) (d : D) : Option (List PyData) := (kf d).bind fun k => (ks d).map (k :: ·)
def kTup (ks : D → Option (List PyData)) (d : D) : Option PyData := (ks d).bind fun l => if l.length ≤ 16777216 then some (.tuple l) else none
theorem Vals.get {xs : List V} {us : List Value} (r : Vals xs us) : ∀ {j : Nat} {y : V}, xs[j]? = some y → ∃ u, us[j]? = some u ∧ RelV y u := by
  induction r with
  | nil => intro j y e; simp at e
  | cons h t ih =>
    intro j y e
    cases j with
    | zero => simp at e; subst e; exact ⟨_, rfl, h⟩
    | succ j => obtain ⟨u, e1, e2⟩ := ih (j := j) (by simpa using e); exact ⟨u, by simpa using e1, e2⟩
theorem atom_reads {c : Cfg} {F : Hp} {μ : List Addr} {y : V} {d : D} {u : Value} {k : PyData} {h : Heap} (r : RD c F μ y d) (rv : RelV y u) (e : d.atom = some k) : Reads h u k [] := by
  cases r with
  | non => cases e; cases (show u = Value.none from rv); exact .none
  | bl b => cases e; cases (show u = Value.bool b from rv); exact .bool b
  | int i => cases e; obtain ⟨t, rfl⟩ := rv; exact .int i t
  | str z => cases e; obtain ⟨t, rfl⟩ := rv; exact .str z t
  | _ => cases e
section
variable {X : Cx} {W : WX} {c : Cfg} {x : Str} {pos p1 p2 : Pos}
theorem kd_item {i : Int} {kd} (hd : (x == ("__debug__" : Str)) = false := by decide) : KeyD X x (.Subscript (.Name x p1) (.Constant (.int i) kd p2) pos) (kItem i) := by
  refine ⟨fun I rel r rv e kp hk hl hn hv => ?_⟩
  obtain ⟨ds, e1, e2⟩ := bind_some (show (dTup _).bind _ = _ from e)
  split at e2
  · rename_i hb
    obtain ⟨j, e3, e4⟩ := bind_some e2
    obtain ⟨d1, e5, e6⟩ := bind_some e4
    obtain ⟨a, vs, rfl, hq, rs⟩ := RD.sqt r e1
    obtain ⟨its, vr, tp, hz⟩ := I.tuple (rel.sqt hq)
    obtain ⟨y1, e7, r1⟩ := rs.get e5
    obtain ⟨u, e8, r2⟩ := Vals.get vr e7
    cases rv
    refine ev_item hk hl hn hv hd (tp.keeps kp) (by omega) (by omega) ?_ (by simpa using e8) (atom_reads r1 r2 e6)
    rw [List.size_toArray, ← vr.length, rs.length]; exact e3
  · cases e2
theorem kd_neg {e : Expr} {kf : D → Option PyData} (hh : KeyD X x e kf) : KeyD X x (.UnaryOp .USub e pos) (kNeg kf) := by
  refine ⟨@fun F μ S H pins s σ y d v kd env h m A I rel r rv e kp hk hl hn hv => ?_⟩
  unfold kNeg at e
  cases q : kf d with
  | none => rw [q] at e; cases e
  | some k =>
    rw [q] at e
    cases k with
    | int n => cases e; exact ev_neg (hh.run I rel r rv q kp hk hl hn hv)
    | _ => cases e
theorem kd_sub {cc : Int} {kd} {e : Expr} {kf : D → Option PyData} (hh : KeyD X x e kf) : KeyD X x (.BinOp (.Constant (.int cc) kd p1) .Sub e pos) (kSub cc kf) := by
  refine ⟨@fun F μ S H pins s σ y d v kd env h m A I rel r rv e kp hk hl hn hv => ?_⟩
  unfold kSub at e
  cases q : kf d with
  | none => rw [q] at e; cases e
  | some k =>
    rw [q] at e
    cases k with
    | int n => cases e; exact ev_sub (hh.run I rel r rv q kp hk hl hn hv)
    | _ => cases e
theorem kds_nil : KeyDs X x [] kNil := ⟨fun I rel r rv e kp hk hl hn hv => by cases e; exact evs_nil⟩
theorem kds_cons {e : Expr} {es : List Expr} {kf : D → Option PyData} {ks : D → Option (List PyData)} (h : KeyD X x e kf) (hr : KeyDs X x es ks) (hs : ∀ env, starEach (e :: es) env = (false, eval e env) :: starEach es env := by intro _; rfl) : KeyDs X x (e :: es) (kCons kf ks) := by
  refine ⟨fun I rel r rv e kp hk hl hn hv => ?_⟩
  obtain ⟨k, e1, e2⟩ := bind_some (show (kf _).bind _ = _ from e)
  obtain ⟨l, e3, e4⟩ := map_some e2
  subst e4
  exact evs_cons (h.run I rel r rv e1 kp hk hl hn hv) (hr.run I rel r rv e3 kp hk hl hn hv) (hs _)
theorem kd_tup {es : List Expr} {kd} {ks : D → Option (List PyData)} (h : KeyDs X x es ks) : KeyD X x (.Tuple es kd pos) (kTup ks) := by
  refine ⟨fun I rel r rv e kp hk hl hn hv => ?_⟩
  obtain ⟨l, e1, e2⟩ := bind_some (show (ks _).bind _ = _ from e)
  split at e2
  · rename_i hz
    cases e2
    exact ev_tup (h.run I rel r rv e1 kp hk hl hn hv) hz
  · cases e2
end
end Sm
set_option Elab.async false
set_option linter.all false
set_option maxRecDepth 100000
open PySem PySem.Spec
namespace Sm
open L2 PySem.W LamX
section
variable {X : Cx} {W : WX} {c : Cfg}
/-- what changes but a table -/
def ButP (P : Addr) (H H' : Hp) : Prop := ∀ b o, b ≠ P → H b = some o → H' b = some o
/-- a lambda without free names and defaults is made -/
theorem lam_new {pins : List (Addr × Obj)} {s : Shared} {σ : L2.St} {H : Hp} {c P : Addr} {params : Arguments} {body : Expr} {scope : Scope} {pos : Pos} {E : Value → Shared → Prop} {Q : Value → Shared → Prop} (I : Inv X pins σ H s) (TB : TabB X.base X.mg c P) (hcode : X.env.code = .ref c)
    (hT : TabS H P (X.env.qual ++ "<lambda>")) (hdef : defaultsOf params X.env = ([], [])) (hfree : ∀ y ∈ scope.names, y.2 ≠ .free)
    (k : ∀ (f c' : Addr) (pm ctv : Value) (H1 : Hp) (s1 : Shared), Inv X pins σ H1 s1 → ButP P H H1 → TabS H1 P (X.env.qual ++ "<lambda>") → s1.heap.CodeRec (.ref c') (X.env.qual ++ "<lambda>") →
      s1.heap.get? f = some (kla_obj "<lambda>" (X.env.qual ++ "<lambda>") params body scope (cloFrom X.env.cells scope.names []) pm c' ctv) → Q (.ref f) s1) :
    wpAny (model X.prog X.w) X.A (eval (.Lambda params body scope pos) X.env) Q E s := by
  obtain ⟨ps, hP, tr, am⟩ := hT
  have free : ∀ y ∈ scope.names, y.2 = .free → ∃ c, X.env.cells.lookup y.1 = some c := fun y hy e => absurd e (hfree y hy)
  have blt := TB.bm.keeps I.bk
  have tab : s.heap.get? P = some { cls := .none, data := .fields ps } := I.hok P _ hP
  have glob := I.mod.glob.keeps I.bk
  have code := TB.code.keeps I.bk
  refine kla_eval hdef ?_
  cases hc : codeAmong pos ps.toList with
  | some cv =>
    obtain ⟨c', rfl, co⟩ := am pos cv hc
    refine kla_makeFunctionHit (ps := ps) (P := P) (c := c) (mg := X.mg) (closure_ok free) I.ok.glob glob hcode code tab tr hc blt fun ctv h' tk hx hsz => ?_
    have keep : Keep s.heap (h'.push (kla_obj "<lambda>" (X.env.qual ++ "<lambda>") params body scope (cloFrom X.env.cells scope.names []) ((X.mg "__name__").getD .none) c' ctv)) := fun b o e => Heap.get?_push_of_some _ (hx b o e)
    obtain ⟨⟨oc, vs, t, g1, g2, g3⟩, _⟩ := I.hok c' _ co
    exact k h'.objs.size c' _ ctv H _ (I.kept (t' := tk) keep) (fun b o _ e => e) ⟨ps, hP, tr, am⟩ ⟨c', oc, vs, t, rfl, keep _ _ g1, g2, g3⟩ (Heap.get?_push_size _ rfl)
  | none =>
    refine kla_makeFunction (ps := ps) (P := P) (c := c) (mg := X.mg) (closure_ok free) I.ok.glob glob hcode code tab tr hc TB.gP blt fun c' ctv h' tk hx hge hlt rec tab' => ?_
    obtain ⟨c2, oc, vs, t, e2, g1, g2, g3⟩ := id rec
    cases e2
    have new : H c' = none := I.hok.fresh hge
    have up : ∀ b o, h'.get? b = some o → (h'.push (kla_obj "<lambda>" (X.env.qual ++ "<lambda>") params body scope (cloFrom X.env.cells scope.names []) ((X.mg "__name__").getD .none) c' ctv)).get? b = some o := fun b o e => Heap.get?_push_of_some _ e
    have J := inv_table (more := #[rawInt pos.line, rawInt pos.col, .ref c']) (t' := tk) I hP (fun b o hb e => up _ _ (hx b o hb e)) (up _ _ tab') hge ⟨oc, vs, t, up _ _ g1, g2, g3⟩
    have but : ButP P H (upd (upd H P (.tbl (ps ++ #[rawInt pos.line, rawInt pos.col, .ref c']))) c' (CodeO c' (X.env.qual ++ "<lambda>"))) := fun b o hb e => by
      rw [upd_ne (ne_of_none e new), upd_ne hb]; exact e
    refine k h'.objs.size c' _ ctv _ _ J but ?_ ⟨c', oc, vs, t, rfl, up _ _ g1, g2, g3⟩ (Heap.get?_push_size _ rfl)
    have lst : (ps ++ #[rawInt pos.line, rawInt pos.col, .ref c']).toList = ps.toList ++ [rawInt pos.line, rawInt pos.col, .ref c'] := by simp
    refine ⟨_, by rw [upd_ne (ne_of_none hP new), upd_same], by rw [lst]; exact PySem.TriplesOk_snoc _ _ _ _ tr, fun p' cv e => ?_⟩
    rw [lst] at e
    rcases among_app _ tr e with z | z
    · obtain ⟨c0, e1, e3⟩ := am p' cv z
      refine ⟨c0, e1, but _ _ (fun z => ?_) e3⟩
      rw [z, hP] at e3
      exact codeO_ne _ (Option.some.inj e3).symm
    · exact ⟨c', z, upd_same⟩
/-- all of ours stands as it stood -/
theorem Rel.butP {F H H' : Hp} {μ : List Addr} {S : Sto} {j : Nat} {P : Addr} {dp : Str × Option Str} {q : Str} (rel : Rel c F μ S H) (hj : S[j]? = some (.tab dp q)) (hPe : tabP c dp = P) (hμ : μ[j]? = some P) (b : ButP P H H') (hT : TabS H' P q) : Rel c F μ S H' ∧ Ext F μ H F μ H' := by
  have fP : F P = none := rel.free j P _ hμ hj (by simp)
  have mP : P ∈ μ := List.mem_of_getElem? hμ
  refine ⟨⟨fun a o e => b a o (fun z => by rw [z, fP] at e; cases e) (rel.frz a o e), rel.len, rel.nd, rel.free, fun a ha => ?_, fun n a m e1 e2 => ?_⟩, ⟨Sub.refl _, List.prefix_refl _, fun a o e n => ⟨b a o (fun z => n (z ▸ mP)) e, fun _ => id⟩, fun a h => .inl h⟩⟩
  · obtain ⟨o, h1, h2⟩ := rel.known a ha
    by_cases hP : a = P
    · obtain ⟨ps, h3, _⟩ := hT
      exact ⟨_, by rw [hP]; exact h3, fun z y => by cases y⟩
    · exact ⟨o, b a o hP h1, h2⟩
  · have q0 := rel.at_ n a m e1 e2
    by_cases hn : n = j
    · subst hn
      rw [hμ] at e1; cases e1
      rw [hj] at e2; cases e2
      exact ⟨hPe.symm, hPe ▸ hT⟩
    · have hP : a ≠ P := fun z => hn (nodup_at rel.nd (z ▸ e1) hμ)
      obtain ⟨o, h1, h2⟩ := rel.known a (List.mem_of_getElem? e1)
      have hown : ∀ y : Addr, ∀ o', H y = some o' → (∀ ps, o' ≠ .tbl ps) → H' y = some o' := fun y o' e no => b y o' (fun z => by
        have t := rel.at_ j P _ hμ hj
        obtain ⟨_, ps, h3, _⟩ := t
        rw [hPe] at h3
        rw [z, h3] at e
        exact no ps (Option.some.inj e).symm) e
      exact q0.heap ((b a o hP h1).trans h1.symm) (fun dx y e => hown dx _ e fun ps z => by cases z) fun y k e => hown y _ e fun ps z => by cases z
end
end Sm
set_option Elab.async false
set_option linter.all false
set_option maxRecDepth 100000
open PySem PySem.Spec
namespace Sm
open L2 PySem.W LamX
section
variable {X : Cx} {W : WX} {c : Cfg}
/-! ## sorted(xs, key = lambda x: ..) -/
def withKeys (kf : D → Option PyData) : List D → Option (List (D × PyData))
  | [] => some []
  | d :: ds => (kf d).bind fun k => (withKeys kf ds).map ((d, k) :: ·)
def ableB (ks : List PyData) : Bool := (ks.all fun k => match k with | .tuple (_ :: _) => true | _ => false) || (ks.all fun k => match k with | .none => false | .tuple _ => false | _ => true)
def alikesB (ks : List PyData) : Bool := ks.all fun a => ks.all fun b => alike a b
def sortD (ps : List (D × PyData)) : Option (List D) := if ps.length ≤ 16777216 ∧ alikesB (ps.map Prod.snd) = true ∧ ableB (ps.map Prod.snd) = true ∧ (ps.all fun p => decide (p.2.depth ≤ 100)) = true then some ((ps.mergeSort (dataLe false Prod.snd)).map Prod.fst) else none
def sortK (kf : D → Option PyData) (ds : List D) : Option (List D) := (withKeys kf ds).bind sortD
theorem able_ok {ks : List PyData} (h : ableB ks = true) : Sortable ks := by
  unfold ableB at h
  rw [Bool.or_eq_true] at h
  rcases h with h | h
  · refine .inl fun d hd => ?_
    have := List.all_eq_true.mp h d hd
    split at this
    · exact ⟨_, _, rfl⟩
    · cases this
  · refine .inr fun d hd => ?_
    have := List.all_eq_true.mp h d hd
    split at this
    · cases this
    · cases this
    · rename_i h1 h2; exact ⟨h1, h2⟩
theorem alikes_ok {ks : List PyData} (h : alikesB ks = true) : AllAlike ks := fun d hd d' hd' => List.all_eq_true.mp (List.all_eq_true.mp h d hd) d' hd'
/-- what a value stands for, in a sort -/
def Std (c : Cfg) (F : Hp) (μ : List Addr) (v : Value) (p : D × PyData) : Prop := ∃ y, RelV y v ∧ RD c F μ y p.1
theorem sv_each {kf : D → Option PyData} {F : Hp} {μ : List Addr} : ∀ {vs : List V} {ds : List D} {us : List Value} {ps : List (D × PyData)}, RDs c F μ vs ds → Vals vs us → withKeys kf ds = some ps → EachIs (Std c F μ) us ps ∧ ∀ p ∈ ps, kf p.1 = some p.2
  | _, _, _, _, .nil, .nil, e => by cases e; exact ⟨.nil, fun p h => by cases h⟩
  | _, _, _, _, .cons h r, .cons h' r', e => by
    obtain ⟨k, e1, e2⟩ := bind_some (show (kf _).bind _ = _ from e)
    obtain ⟨ps, e3, e4⟩ := map_some e2
    subst e4
    obtain ⟨g1, g2⟩ := sv_each r r' e3
    refine ⟨.cons ⟨_, h', h⟩ g1, fun p hp => ?_⟩
    rcases List.mem_cons.mp hp with rfl | hp
    · exact e1
    · exact g2 p hp
theorem sv_back {F : Hp} {μ : List Addr} : ∀ {us : List Value} {ps : List (D × PyData)}, EachIs (Std c F μ) us ps → ∃ vs, Vals vs us ∧ RDs c F μ vs (ps.map Prod.fst)
  | _, _, .nil => ⟨[], .nil, .nil⟩
  | _, _, .cons ⟨y, h1, h2⟩ t => by
    obtain ⟨vs, g1, g2⟩ := sv_back t
    exact ⟨y :: vs, .cons h1 g1, .cons h2 g2⟩
def seqOf (d : D) (S : Sto) : Option (List D) := match dSq d with
  | some ds => some ds
  | none => lstOf d S
theorem seq_rd {F H : Hp} {μ : List Addr} {S : Sto} {v : V} {d : D} {ds : List D} (rel : Rel c F μ S H) (r : RD c F μ v d) (e : seqOf d S = some ds) : ∃ a vs, v = .ref a ∧ (SqL c.K H a vs ∨ SqT c.K H a vs) ∧ RDs c F μ vs ds := by
  unfold seqOf at e
  cases q : dSq d with
  | some es => rw [q] at e; cases e; exact r.seq rel q
  | none => rw [q] at e; obtain ⟨a, vs, h1, h2, h3⟩ := lst_rd rel r e; exact ⟨a, vs, h1, .inl h2, h3⟩
def tSortK (X : Cx) (kf : D → Option PyData) (j : Nat) (dp : Str × Option Str) (q : Str) (ta : TA) : TE := fun σ H Q => ta σ H fun xs H1 => ∃ F μ S a vs ds ds', xs = [.ref a] ∧ (SqL X.K H1 a vs ∨ SqT X.K H1 a vs) ∧ RDs (cf X) F μ vs ds ∧ Rel (cf X) F μ S H1 ∧ S[j]? = some (.tab dp q) ∧ sortK kf ds = some ds' ∧
  ∀ v F' H', Ext F μ H1 F' μ H' → Rel (cf X) F' μ S H' → RD (cf X) F' μ v (.lst ds') → Q v H'
theorem pe_sortK {j k : Nat} {dp : Str × Option Str} {q x : Str} {kf : D → Option PyData} {a body : Expr} {params : Arguments} {scope : Scope} {p lpos kpos pos : Pos} {ta : TA} (hr : Room k X.A) (hm : X.mg "sorted" = none) (TB : TabB X.base X.mg (He.cT X.K dp).1 (He.cT X.K dp).2) (hcode : X.env.code = .ref (He.cT X.K dp).1) (hq : X.env.qual ++ "<lambda>" = q)
    (ha : PA X [a] ta) (hk : KeyD X x body kf) (hb : ∀ (pm cv ctv : Value) (cl : List (Str × Addr)) (v : Value), bindArgs (kla_fn "<lambda>" q params body scope cl pm cv ctv) ⟨[v], []⟩ = pure [(x, v)])
    (hdef : defaultsOf params X.env = ([], [])) (hfree : ∀ y ∈ scope.names, y.2 ≠ .free) (hcell : ∀ y ∈ scope.names, y.2 ≠ .cell) (hloc : scope.names.lookup x = some .local) (hkind : scope.kind = .function) (hco : scope.isCoroutine = false) (hgen : scope.isGenerator = false) (hg : Gl X "sorted" := by rfl)
    (he : starEach [a] X.env = (false, eval a X.env) :: starEach [] X.env := by rfl) :
    PE X (.Call (.Name "sorted" p) [a] [⟨some "key", .Lambda params body scope lpos, kpos⟩] pos) (tSortK X kf j dp q ta) := by
  refine ⟨fun pins s σ H Q I h => ?_⟩
  refine wpAny_Call_Name_kw (ld_blt I hg hm PyProof.Rows.boot_sorted ?_)
  refine PyProof.Rows.callWith_kw (thn (ha.run pos pins s σ H _ I h) fun us s1 ⟨xs, H1, I1, r1, F, μ, S, l, vs, ds, ds', e1, hq1, rds, rel, hS, hs, fin⟩ => ?_) (by rw [he]; rfl) (by rw [he]; rfl) rfl rfl
  subst e1
  obtain rfl := Vals.ref1 r1
  have hj : ∃ a, μ[j]? = some a := by
    have hlt := (List.getElem?_eq_some_iff.mp hS).1
    exact ⟨_, List.getElem?_eq_getElem (by rw [rel.len]; exact hlt)⟩
  obtain ⟨P, hμ⟩ := hj
  have hP : (He.cT X.K dp).2 = P := (rel.at_ j P _ hμ hS).1.symm
  rw [hP] at TB
  have tab : TabS H1 P (X.env.qual ++ "<lambda>") := by
    have t := (rel.at_ j P _ hμ hS).2
    rw [show tabP (cf X) dp = P from hP] at t
    rw [hq]; exact t
  show wpAny _ _ (evalAll [do let v ← eval (.Lambda params body scope lpos) X.env; standAt pos; pure v]) _ _ s1
  refine wpAny_evalAll_cons (wpAny_bind (lam_new I1 TB hcode tab hdef hfree fun f c' pm ctv H2 s2 I2 but T2 cr hf => wpAny_bind (wpAny_standAt (wpAny_pure (wpAny_evalAll_nil ?_)))))
  rw [hq] at T2 cr hf
  obtain ⟨rel2, x2⟩ := rel.butP hS hP hμ but T2
  show wpAny _ _ (call (.builtin "sorted") [.ref l] [(Str.ofString "key", .ref f)]) _ _ s2
  have hq2 : SqL X.K H2 l vs ∨ SqT X.K H2 l vs := by
    obtain ⟨ps, tb, _⟩ := tab
    have nP : ∀ o, H1 l = some o → (∀ z, o ≠ .tbl z) → H2 l = some o := fun o e no => but l o (fun z => by rw [z, tb] at e; exact no ps (Option.some.inj e).symm) e
    have rd : ∀ u, (∀ z, u ≠ .tbl z) → Rd H1 l u → Rd H2 l u := fun u no h => h.imp (fun h => nP _ h no) fun ⟨o, h⟩ => ⟨o, nP _ h fun z y => by cases y⟩
    exact hq1.imp (fun h => h.imp (rd _ fun z y => by cases y) id) fun h => h.imp (rd _ fun z y => by cases y) id
  have hz : ∃ us, Vals vs us ∧ SeqV s2.heap l us := by
    rcases hq2 with h | h
    · obtain ⟨its, r, pl, _⟩ := I2.list h; exact ⟨its, r, .inl pl.isList⟩
    · obtain ⟨its, r, tp, _⟩ := I2.tuple h; exact ⟨its, r, .inr tp⟩
  obtain ⟨us, vr, sv⟩ := hz
  obtain ⟨ps, e2, e3⟩ := bind_some (show (withKeys kf ds).bind _ = _ from hs)
  obtain ⟨each, kfs⟩ := sv_each rds vr e2
  unfold sortD at e3
  split at e3
  · rename_i cond
    obtain ⟨c1, c2, c3, c4⟩ := cond
    have e4 := Option.some.inj e3
    refine sortedKeyVia (g := .ref f) Prod.snd sv each (alikes_ok c2) (able_ok c3) (by rw [sizeLine_eq]; exact c1) (fun b hb => ?_) (PyProof.Rows.ksk_s1 _ _) (fun _ => PyProof.Rows.ksk_l1 _ _) (fun b => PyProof.Rows.ksk_t1 f b) (fun v b tv hin h tk kp => ?_) fun out ep h' tk kp at_ ok => ?_
    · have d := List.all_eq_true.mp c4 b hb
      have u := hr.un
      simp only [decide_eq_true_eq] at d
      omega
    · obtain ⟨y, rv, rd⟩ := tv
      refine lam_turn (s := { s2 with heap := h, toks := tk }) (A := X.A.in1.in1) hr.depth (kp _ _ hf) (cr.keeps kp) (I2.nolimit.keeps kp) (hb _ _ _ _ v) hloc hkind hco hgen hcell fun L' h₁ kp1 ns => ?_
      have ev := hk.run (A := (X.A.in1.in1).deeper (envX q scope L' f (.ref c') (cloFrom X.env.cells scope.names []))) (env := envX q scope L' f (.ref c') (cloFrom X.env.cells scope.names [])) I2 rel2 rd rv (kfs b hin) (Keep.trans kp kp1) hkind hloc ns (by simp)
      exact ev _ _ (Keep.refl _) fun v2 h2 tk2 kp2 r => ⟨h2, tk2, rfl, Keep.trans kp1 kp2, r⟩
    · obtain ⟨ws, g1, g2⟩ := sv_back ok
      rw [e4] at g2
      have len : ws.length ≤ 16777216 := by
        rw [g2.length, ← e4, List.length_map, List.length_mergeSort]; exact c1
      have free : H2 (s2.heap.objs.size + 1) = none := I2.hok.fresh (Nat.le_succ _)
      have I3 := I2.laid (a := s2.heap.objs.size + 1) (o := .lst ws) (t' := tk) kp (Nat.le_succ _) ⟨by rw [sizeLine_eq]; exact len, out, ep, g1, at_⟩
      obtain ⟨rl, xl, sF⟩ := rel2.frozen (o := .lst ws) free
      exact ⟨.ref _, _, I3, rfl, fin _ _ _ (x2.trans xl) rl (.lst upd_same (g2.mono sF (List.prefix_refl _)))⟩
  · cases e3
def eSortK (kf : D → Option PyData) (j : Nat) (dp : Str × Option Str) (q : Str) (ea : AV) : EV := fun env S => (ea env S).bind fun xs S1 => match xs with
  | [d] => match S1[j]? with
    | some (.tab P' q') => if P' = dp ∧ q' = q then optR (((seqOf d S1).bind (sortK kf)).map D.lst) S1 else .bad
    | _ => .bad
  | _ => .bad
theorem ge_sortK {j k : Nat} {dp : Str × Option Str} {q x : Str} {kf : D → Option PyData} {a body : Expr} {params : Arguments} {scope : Scope} {p lpos kpos pos : Pos} {av : AV} (hr : Room k X.A) (hm : X.mg "sorted" = none) (TB : TabB X.base X.mg (He.cT X.K dp).1 (He.cT X.K dp).2) (hcode : X.env.code = .ref (He.cT X.K dp).1) (hq : X.env.qual ++ "<lambda>" = q)
    (ha : GA X W [a] av) (hk : KeyD X x body kf) (hb : ∀ (pm cv ctv : Value) (cl : List (Str × Addr)) (v : Value), bindArgs (kla_fn "<lambda>" q params body scope cl pm cv ctv) ⟨[v], []⟩ = pure [(x, v)])
    (hdef : defaultsOf params X.env = ([], []) := by rfl) (hfree : ∀ y ∈ scope.names, y.2 ≠ .free := by decide) (hcell : ∀ y ∈ scope.names, y.2 ≠ .cell := by decide) (hloc : scope.names.lookup x = some .local := by rfl) (hkind : scope.kind = .function := by rfl) (hco : scope.isCoroutine = false := by rfl) (hgen : scope.isGenerator = false := by rfl) (hg : Gl X "sorted" := by rfl)
    (he : starEach [a] X.env = (false, eval a X.env) :: starEach [] X.env := by rfl) :
    GE X W (.Call (.Name "sorted" p) [a] [⟨some "key", .Lambda params body scope lpos, kpos⟩] pos) (eSortK kf j dp q av) := by
  obtain ⟨t, pt, st⟩ := ha
  refine ⟨_, pe_sortK (j := j) hr hm TB hcode hq pt hk hb hdef hfree hcell hloc hkind hco hgen hg he, ?_⟩
  refine Sm.bind (kt := fun (xs : List V) σ H1 (Q : VK) => ∃ F μ S a vs ds ds', xs = [.ref a] ∧ (SqL X.K H1 a vs ∨ SqT X.K H1 a vs) ∧ RDs (cf X) F μ vs ds ∧ Rel (cf X) F μ S H1 ∧ S[j]? = some (.tab dp q) ∧ sortK kf ds = some ds' ∧ ∀ v F' H', Ext F μ H1 F' μ H' → Rel (cf X) F' μ S H' → RD (cf X) F' μ v (.lst ds') → Q v H')
    (ke := fun xs env S1 => match xs with
      | [d] => match S1[j]? with
        | some (.tab P' q') => if P' = dp ∧ q' = q then optR (((seqOf d S1).bind (sortK kf)).map D.lst) S1 else .bad
        | _ => .bad
      | _ => .bad) st fun F1 μ1 xs ds s1 p1 r1 => ?_
  intro σ env F μ S H Q s p eR rel want
  match ds, r1 with
  | [], _ => exact want.elim
  | _ :: _ :: _, _ => exact want.elim
  | [d], .cons (v := v) rv .nil =>
    dsimp only at want
    cases hS : S[j]? with
    | none => rw [hS] at want; exact want.elim
    | some m =>
      rw [hS] at want
      cases m with
      | tab P' q' =>
        dsimp only at want
        split at want
        · rename_i hpq
          obtain ⟨rfl, rfl⟩ := hpq
          cases e1 : seqOf d S with
          | none => rw [e1] at want; exact want.elim
          | some ds =>
            cases e2 : sortK kf ds with
            | none => rw [e1, Option.bind_some, e2] at want; exact want.elim
            | some ds' =>
              rw [e1, Option.bind_some, e2] at want
              obtain ⟨a, vs, rfl, hq, rs⟩ := seq_rd rel (rv.mono s p) e1
              exact ⟨F, μ, S, a, vs, ds, ds', rfl, hq, rs, rel, hS, e2, fun v F' H' x' rel' r' => want v F' μ H' x' rel' r'⟩
        · exact want.elim
      | _ => exact want.elim
end
end Sm
set_option Elab.async false
set_option linter.all false
set_option maxRecDepth 100000
open PySem PySem.Spec
namespace Sm
open L2 PySem.W
section
variable {X : Cx} {W : WX} {c : Cfg}
/-! ## sorted(xs): items that are data -/
theorem std_reads {F : Hp} {μ : List Addr} {S : Sto} {H : Hp} {pins : List (Addr × Obj)} {s : Shared} {σ : L2.St} {h : Heap} (I : Inv X pins σ H s) (rel : Rel (cf X) F μ S H) (kp : Keep s.heap h) : ∀ {us : List Value} {ps : List (D × PyData)}, EachIs (Std (cf X) F μ) us ps → (∀ p ∈ ps, D.py p.1 = some p.2) →
    EachIs (fun v p => ∃ as, Reads h v p as) us (ps.map Prod.snd)
  | _, _, .nil, _ => .nil
  | _, _, .cons (b := b) ⟨y, h1, h2⟩ t, e => by
    obtain ⟨as, r⟩ := Dp.reads I _ _ _ (h2.dp rel (e _ (List.mem_cons_self ..))) h1
    exact .cons ⟨as, PyProof.Rows.Reads.keeps kp r⟩ (std_reads I rel kp t fun p hp => e p (List.mem_cons_of_mem _ hp))
theorem each_map2 {α β γ : Type} {T : α → γ → Prop} (f : β → γ) : ∀ {as : List α} {bs : List β}, EachIs T as (bs.map f) → EachIs (fun a b => T a (f b)) as bs
  | _, [], .nil => .nil
  | _, _ :: _, .cons h t => .cons h (each_map2 f t)
def rSortP (X : Cx) : List V → Hp → VK → Prop := fun xs H Q => ∃ F μ S a vs ds ds', xs = [.ref a] ∧ (SqL X.K H a vs ∨ SqT X.K H a vs) ∧ RDs (cf X) F μ vs ds ∧ Rel (cf X) F μ S H ∧ sortK D.py ds = some ds' ∧
  ∀ v F' H', Ext F μ H F' μ H' → Rel (cf X) F' μ S H' → RD (cf X) F' μ v (.lst ds') → Q v H'
theorem call_sortP {k : Nat} (hr : Room k X.A) : CallR X (.builtin "sorted") (rSortP X) := by
  intro pins s σ H xs us Q I r q
  obtain ⟨F, μ, S, l, vs, ds, ds', rfl, hq, rds, rel, hs, fin⟩ := q
  obtain rfl := Vals.ref1 r
  have hz : ∃ us, Vals vs us ∧ SeqV s.heap l us := by
    rcases hq with h | h
    · obtain ⟨its, r, pl, _⟩ := I.list h; exact ⟨its, r, .inl pl.isList⟩
    · obtain ⟨its, r, tp, _⟩ := I.tuple h; exact ⟨its, r, .inr tp⟩
  obtain ⟨us, vr, sv⟩ := hz
  obtain ⟨ps, e2, e3⟩ := bind_some (show (withKeys D.py ds).bind _ = _ from hs)
  obtain ⟨each, kfs⟩ := sv_each rds vr e2
  unfold sortD at e3
  split at e3
  · rename_i cond
    obtain ⟨c1, c2, c3, c4⟩ := cond
    have e4 := Option.some.inj e3
    have small : us.length ≤ sizeLine := by rw [each.length, sizeLine_eq]; exact c1
    have kp : Keep s.heap (sortingHeap (copyHeap s.heap us) (s.heap.objs.size + 1) us) := fun _ _ => sorting_copy_old
    have er := std_reads I rel kp each kfs
    have er2 : EachIs (fun v (p : D × PyData) => ∃ as, Reads (sortingHeap (copyHeap s.heap us) (s.heap.objs.size + 1) us) v p.2 as) us ps := each_map2 Prod.snd er
    have able := SortsAt.data (prog := X.prog) (w := X.w) (A := X.A.in1.in1) (s := { s with heap := sortingHeap (copyHeap s.heap us) (s.heap.objs.size + 1) us }) er (alikes_ok c2) (able_ok c3) (by
      intro d hd
      obtain ⟨p, hp, rfl⟩ := List.mem_map.mp hd
      have d := List.all_eq_true.mp c4 p hp
      have u := hr.un
      simp only [decide_eq_true_eq] at d
      show X.A.units + 1 + 1 + p.2.depth < cLine
      omega)
    have out := sortVals_data (enc := Prod.snd) false each er2 (alikes_ok c2)
    obtain ⟨ws, g1, g2⟩ := sv_back out
    rw [e4] at g2
    have len : ws.length ≤ 16777216 := by
      rw [g2.length, ← e4, List.length_map, List.length_mergeSort]; exact c1
    refine sortedVia sv small (PyProof.Rows.args_sorted1 _) (fun _ => PyProof.Rows.args_list_sort _) fun E2 => list_sort_vals (s := { s with heap := copyHeap s.heap us }) (copyHeap_at s.heap us) able small ⟨rfl, ?_⟩
    obtain ⟨ep, at_⟩ := PyProof.Rows.sortedAll_at s.heap us (sortVals (dataKind (sortingHeap (copyHeap s.heap us) (s.heap.objs.size + 1) us) (ps.map Prod.snd)) false us us).toArray
    have free : H (s.heap.objs.size + 1) = none := I.hok.fresh (Nat.le_succ _)
    have I3 := I.laid (a := s.heap.objs.size + 1) (o := .lst ws) (t' := s.toks) (fun _ _ => PyProof.Rows.sortedAll_old) (Nat.le_succ _) ⟨by rw [sizeLine_eq]; exact len, _, ep, g1, at_⟩
    obtain ⟨rl, xl, sF⟩ := rel.frozen (o := .lst ws) free
    exact ⟨.ref _, _, I3, rfl, fin _ _ _ xl rl (.lst upd_same (g2.mono sF (List.prefix_refl _)))⟩
  · cases e3
def aSortP : List D → Sto → Res D
  | [d], S => optR (((seqOf d S).bind (sortK D.py)).map D.lst) S
  | _, _ => .bad
theorem ge_sorted {k : Nat} {a : Expr} {p pos : Pos} {av : AV} (hr : Room k X.A) (hm : X.mg "sorted" = none) (ha : GA X W [a] av) (hg : Gl X "sorted" := by rfl)
    (he : starEach [a] X.env = (false, eval a X.env) :: starEach [] X.env := by rfl) (hpl : (backTo pos (starEach [] X.env)).any (·.1) = false := by rfl) : GE X W (.Call (.Name "sorted" p) [a] [] pos) (eAr aSortP av) := by
  obtain ⟨t, pt, st⟩ := ha
  refine ⟨_, pe_callB (call_sortP hr) hg hm PyProof.Rows.boot_sorted pt (by decide) (by decide) he hpl, sm_ar (fun F μ S H xs ds Q rel rx want => ?_) st⟩
  match ds, rx with
  | [], _ => exact want.elim
  | _ :: _ :: _, _ => exact want.elim
  | [d], .cons (v := v) rv .nil =>
    change Want _ _ _ _ _ _ _ _ (optR (((seqOf d S).bind (sortK D.py)).map D.lst) S) at want
    cases e1 : seqOf d S with
    | none => rw [e1] at want; exact want.elim
    | some ds =>
      cases e2 : sortK D.py ds with
      | none => rw [e1, Option.bind_some, e2] at want; exact want.elim
      | some ds' =>
        rw [e1, Option.bind_some, e2] at want
        obtain ⟨a, vs, rfl, hq, rs⟩ := seq_rd rel rv e1
        exact ⟨F, μ, S, a, vs, ds, ds', rfl, hq, rs, rel, e2, fun v F' H' x' rel' r' => want v F' μ H' x' rel' r'⟩
end
end Sm
set_option Elab.async false
set_option linter.all false
set_option maxRecDepth 100000
open PySem PySem.Spec
namespace Sm
open L2 PySem.W
/-! ## what the generated texts use -/
def fuel : Nat := 1000000000000000
theorem one {C : Str} {K : PySem.W.Frag} {mg : Str → Option Value} {f : Str} (h : ClsF K mg C f) : ∀ c ∈ [C], ClsF K mg c f := fun c hc => by rw [List.mem_singleton.mp hc]; exact h
theorem two {C C' : Str} {K : PySem.W.Frag} {mg : Str → Option Value} {f : Str} (h : ClsF K mg C f) (h' : ClsF K mg C' f) : ∀ c ∈ [C, C'], ClsF K mg c f := fun c hc => by
  rcases List.mem_cons.mp hc with e | hc
  · rw [e]; exact h
  · rw [List.mem_singleton.mp hc]; exact h'
section
variable {X : Cx} {W : WX} {o e : Expr} {apos cpos : Pos} {eo : EV} {av : AV}
theorem ge_append (ho : GE X W o eo) (ha : GA X W [e] av) (hbase : attributeBase o "append" X.env (eval o X.env) = eval o X.env := by rfl)
    (hfew : ((backTo cpos (starEach [e] X.env)).all (fun x => !x.1) && (backToKw cpos (keywordEach [] X.env)).all (fun x => x.1.isSome) && decide (([e] : List Expr).length + ([] : List Keyword).length + (if ([] : List Keyword).isEmpty then 0 else 1) < 30)) = true := by rfl)
    (hline : (apos.endLine == cpos.line) = true := by rfl) (hst : starEach [e] X.env = (false, eval e X.env) :: starEach [] X.env := by rfl) (hplain : (backTo cpos (starEach [] X.env)).any (·.1) = false := by rfl) :
    GE X W (.Call (.Attribute o "append" apos) [e] [] cpos) (eBm "list" (mLst lApp) eo av) := ge_bm PySem.F.plainAttrs_list PySem.F.slot_list_append PySem.F.type_list_append mt_append mm_append ho ha hbase hfew hline hst hplain
theorem ge_popAt (ho : GE X W o eo) (ha : GA X W [e] av) (hbase : attributeBase o "pop" X.env (eval o X.env) = eval o X.env := by rfl)
    (hfew : ((backTo cpos (starEach [e] X.env)).all (fun x => !x.1) && (backToKw cpos (keywordEach [] X.env)).all (fun x => x.1.isSome) && decide (([e] : List Expr).length + ([] : List Keyword).length + (if ([] : List Keyword).isEmpty then 0 else 1) < 30)) = true := by rfl)
    (hline : (apos.endLine == cpos.line) = true := by rfl) (hst : starEach [e] X.env = (false, eval e X.env) :: starEach [] X.env := by rfl) (hplain : (backTo cpos (starEach [] X.env)).any (·.1) = false := by rfl) :
    GE X W (.Call (.Attribute o "pop" apos) [e] [] cpos) (eBm "list" (mLst lPopAt) eo av) := ge_bm PySem.F.plainAttrs_list PySem.F.slot_list_pop PySem.F.type_list_pop mt_popAt mm_popAt ho ha hbase hfew hline hst hplain
end
/-- fn_sm for a def whose code object's table is known -/
theorem fn_smC {P : Program} {w : World} {K : PySem.W.Frag} {mg : Str → Option Value} {base : Heap} {x qual : Str} {params : Arguments} {body : List Stmt} {scope : Scope} {dvs : List V} {kws : List (Str × V)} {fd : FuncData} {N ps : List Str} {k : Nat} {b : SV} {dp : He.Defn}
    (F : FunD K x qual params body scope dvs kws (He.fAd K dp) fd) (Sc : FnScope N ps scope)
    (hb : ∀ (A : Around) (outer : List PySem.Env) (s : Shared) (H : Hp) (E : XK), Room k (A.deeper (PyProof.Rows.envOfC qual scope s.heap.objs.size (He.fAd K dp) (.ref (He.codeOf K dp)))) →
      ∃ t, PSs (cxOf (L2.CX P w) P w K mg base N qual scope (He.fAd K dp) (.ref (He.codeOf K dp)) A outer s H E) body t ∧ SmS ⟨K, mg⟩ (WE E) t b) :
    FnOk P w K mg base (L2.CX P w) (k + 1) (He.fAd K dp) fd ps (SpF ⟨K, mg⟩ ps.length (fnK N.length b)) := by
  obtain ⟨oc, od, dV, kV, doc, pm, an, cdv, ct, osl, rfl, lk, cin, _, _⟩ := F.ex
  obtain ⟨cc, hc⟩ := He.codeIn_ref cin
  have hcd : cdv = .ref (He.codeOf K dp) := by rw [He.codeOf_eq lk hc]; exact hc
  subst hcd
  refine fn_of lk cin Sc (fun vs H Q E h => h.1) fun A outer s H vs Q E hr h => ?_
  obtain ⟨hl, F0, μ, S, ds, r, rel, want⟩ := h
  obtain ⟨t, ht, hs⟩ := hb A outer s H E hr
  refine ⟨t, ht, hs _ _ (ds.map some ++ List.replicate (N.length - ds.length) none) F0 μ S H (start_env r) rel ?_⟩
  change Want _ _ _ _ _ _ _ Q ((b (ds.map some ++ List.replicate (N.length - ds.length) none) S).bind _) at want
  cases q : b (ds.map some ++ List.replicate (N.length - ds.length) none) S with
  | bad => rw [q] at want; exact want
  | exc C ns es S' => rw [q] at want; exact fun σ' => want
  | ok fl S' =>
    rw [q] at want
    cases fl with
    | nx env => exact fun σ' F' μ' H' x' rel' eR' => want .non F' μ' H' x' rel' .non
    | bk env => exact want.elim
    | ct env => exact want.elim
    | rt d => exact want
/-- all keywords are given, none but they have defaults -/
theorem kbn_all {K : PySem.W.Frag} {x qual : Str} {params : Arguments} {body : List Stmt} {scope : Scope} {kws : List (Str × V)} {f : Addr} {fd : FuncData} {ps : List Str} (F : FunD K x qual params body scope [] kws f fd) (n : Nat) (ks : List Str) (hk : kws ≠ [])
    (h : ∀ (D : Addr) (doc pm : Value) (an : Option Addr) (cdv ct : Value) (us ws : List Value), us.length = n → ws.length = ks.length → bindArgs (PySem.W.fnOf x qual params body scope .none (.ref D) doc pm an cdv ct) ⟨us, ks.zip ws⟩ = pure (ps.zip (us ++ ws))) :
    KBn K fd ps n ks (fun us ws => us ++ ws) (fun vs zs => vs ++ zs) := by
  obtain ⟨oc, od, dV, kV, doc, pm, an, cdv, ct, osl, rfl, lk, hcd, hD, hK⟩ := F.ex
  rcases hD with ⟨_, rfl⟩ | ⟨e, _⟩
  · rcases hK with e | ⟨D, rfl, hq⟩
    · exact absurd e hk
    · exact ⟨fun s us ws X l1 l2 => .of_eq (h D doc pm an cdv ct us ws l1 l2), fun r1 r2 => r1.append r2⟩
  · exact absurd rfl e
section
variable {X : Cx} {W : WX} {a b : Expr} {pos : Pos} {ea eb : EV} {k : Nat}
theorem gt_din (hr : Room k X.A) (ha : GE X W a ea) (hb : GE X W b eb) (hm : behindInMarks .In b = false := by rfl) : GT X W (.Compare a [.In] [b] pos) (tB' (eOp (dInS false) ea eb)) := by
  obtain ⟨ta, pa, sa⟩ := ha
  obtain ⟨tb, pb, sb⟩ := hb
  refine ⟨_, pt_cmp (pc_din (hu_of hr) pa pb) hm, ?_⟩
  refine Sm.bind (kt := fun x σ H1 Q => ∃ k, x = .bl k ∧ Q k H1) (ke := fun d env S1 => match d with | .bl k => .ok k S1 | _ => .bad) (sm_op (r := fun y x H Q => ∃ a o, x = .ref a ∧ DGet H a y o ∧ Q (.bl o.isSome) H) (fun F μ S H x y dx dy Q rel rx ry want => ?_) sa sb) fun F1 μ1 x dx s1 p1 r1 => Sm.pure fun σ env F μ S H s p _ _ => ?_
  · have h := din_go rel rx ry want
    simpa using h
  · cases r1 with
    | bl k => exact ⟨rfl, k, rfl, fun Q q => ⟨k, rfl, q⟩⟩
    | _ => trivial
theorem gt_dnin (hr : Room k X.A) (ha : GE X W a ea) (hb : GE X W b eb) (hm : behindInMarks .NotIn b = false := by rfl) : GT X W (.Compare a [.NotIn] [b] pos) (tB' (eOp (dInS true) ea eb)) := by
  obtain ⟨ta, pa, sa⟩ := ha
  obtain ⟨tb, pb, sb⟩ := hb
  refine ⟨_, pt_cmp (pc_dnotin (hu_of hr) pa pb) hm, ?_⟩
  refine Sm.bind (kt := fun x σ H1 Q => ∃ k, x = .bl k ∧ Q k H1) (ke := fun d env S1 => match d with | .bl k => .ok k S1 | _ => .bad) (sm_op (r := fun y x H Q => ∃ a o, x = .ref a ∧ DGet H a y o ∧ Q (.bl (!o.isSome)) H) (fun F μ S H x y dx dy Q rel rx ry want => ?_) sa sb) fun F1 μ1 x dx s1 p1 r1 => Sm.pure fun σ env F μ S H s p _ _ => ?_
  · have h := din_go rel rx ry want
    simpa using h
  · cases r1 with
    | bl k => exact ⟨rfl, k, rfl, fun Q q => ⟨k, rfl, q⟩⟩
    | _ => trivial
end
/-! ## isinstance(x, T), T the thing's very type -/
def D.plainTy : D → Option String
  | .non => some "NoneType"
  | .bl _ => some "bool"
  | .int _ => some "int"
  | .str _ => some "str"
  | _ => none
def dIsi : List D → Option D
  | [d, .ty n] => match d.plainTy with
    | some m => if m = n then some (.bl true) else none
    | none => none
  | _ => none
theorem cb_isi {X : Cx} : GCb X (.builtin "isinstance") dIsi := by
  refine ⟨_, call_isi, fun F μ S H xs ds d Q rel rx e k => ?_⟩
  match ds, rx with
  | [d0, .ty n], .cons r0 (.cons (.ty _) .nil) =>
    change (match d0.plainTy with | some m => if m = n then some (D.bl true) else none | none => none) = some d at e
    cases q : d0.plainTy with
    | none => rw [q] at e; cases e
    | some m =>
      rw [q] at e
      dsimp only at e
      split at e
      · rename_i hm
        cases e
        subst hm
        have kit : PySem.W.kitOne X.K (.type m) (.type m) = some true := if_pos (beq_self_eq_true _)
        refine ⟨_, _, .type m, .type m, true, rfl, .ty m, .base ?_, kit, k _ F H Ext.refl rel (.bl _)⟩
        cases r0 with
        | non => cases q; exact .non
        | bl b => cases q; exact .bl b
        | int i => cases q; exact .int i
        | str z => cases q; exact .str z
        | _ => cases q
      · cases e
/-! ## C(), all parameters by their defaults -/
structure Mo0 (P : Program) (w : World) (K : PySem.W.Frag) (mg : Str → Option Value) (base : Heap) (k : Nat) (C : Str) (ar : Nat) (dd : List D) (ev : List D → Sto → Res D) : Prop where
  ex : ∃ (cl f : Addr) (fd : FuncData) (ps : List Str) (ds : List Value) (dvs : List V), FnOk P w K mg base (L2.CX P w) k f fd ps (SpF ⟨K, mg⟩ (ar + 1) ev) ∧ mg C = some (.ref cl) ∧ Mk K cl f ∧ Binds K fd ps ds ∧ Vals dvs ds ∧ (∀ F μ, RDs ⟨K, mg⟩ F μ dvs dd) ∧ dd.length = ar
theorem ge_make0 {X : Cx} {W : WX} {k ar : Nat} {C : Str} {dd : List D} {ev : List D → Sto → Res D} {p pos : Pos} (M : Mo0 X.prog X.w X.K X.mg X.base k C ar dd ev) (hr : Room (k + 1) X.A) (px : PassW X W) (hg : Gl X C := by rfl) (hdb : (C == ("__debug__" : Str)) = false := by decide) :
    GE X W (.Call (.Name C p) [] [] pos) (fun _ S => mkI C ev dd S) := by
  obtain ⟨cl, f, fd, ps, ds, dvs, F, hm, mk, hb, hv, hd, hl⟩ := M
  obtain ⟨E, hp, hE⟩ := px
  refine ⟨_, pe_make0 mk F hr hg hm hb hv hp hdb, ?_⟩
  intro σ env F μ S H Q s p eR rel want x dx hx hdx hne
  exact mk_go hE hm rel (hd F μ) hl want hx hdx hne
/-- the default () -/
def EmptyT (K : PySem.W.Frag) (v : V) : Prop := ∃ (a : Addr) (o : Obj) (n : Nat), v = .ref a ∧ K.lookup a = some o ∧ o.cls = .type "tuple" ∧ o.data = .seq #[] n
theorem ktp_nil {c : Cfg} {F : Hp} {μ : List Addr} {v : V} (h : EmptyT c.K v) : RD c F μ v (.ktp []) := by
  obtain ⟨a, o, n, rfl, h1, h2, h3⟩ := h
  exact .ktp (.inr ⟨o, #[], n, h1, h2, h3, Nat.zero_le _, .nil⟩) .nil
def emptyB (K : PySem.W.Frag) (a : Addr) : Bool := match K.lookup a with
  | some ⟨.type t, _, .seq its _, _⟩ => decide (t = "tuple") && its.isEmpty
  | _ => false
theorem emptyB_ok {K : PySem.W.Frag} {a : Addr} (h : emptyB K a = true) : EmptyT K (.ref a) := by
  unfold emptyB at h
  split at h
  · rename_i t d its n sl e
    simp only [Bool.and_eq_true, decide_eq_true_eq] at h
    obtain ⟨rfl, h2⟩ := h
    have : its = #[] := by simpa using h2
    subst this
    exact ⟨a, _, n, rfl, e, rfl, rfl⟩
  · cases h
/-- the heap of the start -/
theorem start_rel {dp : He.Defn} {q : Str} {K : PySem.W.Frag} {mg : Str → Option Value} {H : Hp} {a : Addr} {ns : List Int} (hT : H (He.cT K dp).2 = some (.tbl #[])) (hS : SqL K H a (ns.map V.int)) :
    ∃ F, Rel ⟨K, mg⟩ F [(He.cT K dp).2] [.tab dp q] H ∧ RD ⟨K, mg⟩ F [(He.cT K dp).2] (.ref a) (.fix (ns.map D.int)) := by
  have hn : ∀ u, Rd H a (.lst u) → a ≠ (He.cT K dp).2 := fun u h z => by
    rw [z] at h
    rcases h with h | ⟨o, h⟩ <;> (rw [hT] at h; cases h)
  refine ⟨fun b => if b = (He.cT K dp).2 then none else H b, ⟨fun b o e => ?_, rfl, by simp, fun n b m e1 e2 e3 => ?_, fun b hb => ?_, fun n b m e1 e2 => ?_⟩, .fix ?_ (RDs.of_ints ns)⟩
  · split at e
    · cases e
    · exact e
  · cases n with
    | zero => simp at e1; exact if_pos e1.symm
    | succ n => simp at e1
  · rw [List.mem_singleton.mp hb]; exact ⟨_, hT, fun _ z => by cases z⟩
  · cases n with
    | zero =>
      simp at e1
      have : m = .tab dp q := by simpa using e2.symm
      subst this
      exact ⟨e1.symm, LamX.TabS.nil hT⟩
    | succ n => simp at e1
  · rcases hS with h | h
    · refine .inl ?_
      have := hn _ h
      rcases h with h | ⟨o, h⟩
      · exact .inl ((if_neg this).trans h)
      · exact .inr ⟨o, (if_neg this).trans h⟩
    · exact .inr h
/-! ## xs.index(y), xs.clear() -/
def idxD (y : D) : List D → Option Nat
  | [] => none
  | z :: zs => if eqD z y = true then some 0 else (idxD y zs).map (· + 1)
def mIdx : MV := fun x ds S => match dLst x, ds with
  | some es, [y] => if flatD y = true ∧ es.all flatD = true then (match idxD y es with
    | some j => .ok (.int (j : Nat)) S
    | none => .bad) else .bad
  | _, _ => .bad
theorem idx_ok {c : Cfg} {F : Hp} {μ : List Addr} {v : V} {y : D} (ry : RD c F μ v y) (fy : flatD y = true) : ∀ {vs : List V} {es : List D} {j : Nat}, RDs c F μ vs es → es.all flatD = true → idxD y es = some j →
    ∃ z, vs[j]? = some z ∧ eqV z v = true ∧ ∀ (m : Nat) (z' : V), m < j → vs[m]? = some z' → eqV z' v = false
  | _, _, j, .nil, _, e => by cases e
  | _, _, j, .cons (v := v0) (d := d0) (ds := es) h r, f, e => by
    simp only [List.all_cons, Bool.and_eq_true] at f
    have h0 := eqD_ok h ry f.1 fy
    change (if eqD d0 y = true then some 0 else (idxD y es).map (· + 1)) = some j at e
    by_cases q : eqD d0 y = true
    · rw [if_pos q] at e
      cases e
      exact ⟨v0, rfl, h0.trans q, fun m z' hm => absurd hm (Nat.not_lt_zero _)⟩
    · rw [if_neg q] at e
      obtain ⟨k, e1, e2⟩ := map_some e
      subst e2
      obtain ⟨z, g1, g2, g3⟩ := idx_ok ry fy r f.2 e1
      refine ⟨z, by simpa using g1, g2, fun m z' hm hz => ?_⟩
      cases m with
      | zero =>
        simp at hz
        subst hz
        rw [h0]
        exact (Bool.not_eq_true _).mp q
      | succ m => exact g3 m z' (by omega) (by simpa using hz)
theorem mm_index {c : Cfg} : MtSm c (rIndex c.K) mIdx := by
  intro F μ S H x dx xs ds Q rel rx rxs want
  unfold mIdx at want
  cases e : dLst dx with
  | none => rw [e] at want; exact want.elim
  | some es =>
    rw [e] at want
    match ds, rxs with
    | [y], .cons (v := v) ry .nil =>
      dsimp only at want
      split at want
      · rename_i hf
        obtain ⟨a, vs, rfl, hq, r⟩ := RD.sql rx e
        cases q : idxD y es with
        | none => rw [q] at want; exact want.elim
        | some j =>
          rw [q] at want
          obtain ⟨z, g1, g2, g3⟩ := idx_ok ry hf.1 r hf.2 q
          exact ⟨a, vs, v, j, z, rfl, rfl, rel.sql hq, flat_ok ry hf.1, flats_ok r hf.2, g1, g2, g3, want _ F μ H Ext.refl rel (.int _)⟩
      · exact want.elim
    | [], _ => exact want.elim
    | _ :: _ :: _, _ => exact want.elim
section
variable {X : Cx} {W : WX} {o e : Expr} {apos cpos : Pos} {eo : EV} {av : AV}
theorem ge_index (ho : GE X W o eo) (ha : GA X W [e] av) (hbase : attributeBase o "index" X.env (eval o X.env) = eval o X.env := by rfl)
    (hfew : ((backTo cpos (starEach [e] X.env)).all (fun x => !x.1) && (backToKw cpos (keywordEach [] X.env)).all (fun x => x.1.isSome) && decide (([e] : List Expr).length + ([] : List Keyword).length + (if ([] : List Keyword).isEmpty then 0 else 1) < 30)) = true := by rfl)
    (hline : (apos.endLine == cpos.line) = true := by rfl) (hst : starEach [e] X.env = (false, eval e X.env) :: starEach [] X.env := by rfl) (hplain : (backTo cpos (starEach [] X.env)).any (·.1) = false := by rfl) :
    GE X W (.Call (.Attribute o "index" apos) [e] [] cpos) (eBm "list" mIdx eo av) := ge_bm PySem.F.plainAttrs_list PySem.F.slot_list_index PySem.F.type_list_index mt_index mm_index ho ha hbase hfew hline hst hplain
theorem ge_clear (ho : GE X W o eo) (hbase : attributeBase o "clear" X.env (eval o X.env) = eval o X.env := by rfl) (hline : (apos.endLine == cpos.line) = true := by rfl) :
    GE X W (.Call (.Attribute o "clear" apos) [] [] cpos) (eBm0 "list" (mLst lClear) eo) := ge_bm0 PySem.F.plainAttrs_list PySem.F.slot_list_clear PySem.F.type_list_clear mt_clear mm_clear ho hbase hline
end
end Sm
set_option Elab.async false
set_option linter.all false
set_option maxRecDepth 100000
open PySem PySem.Spec
namespace Sm
open L2
/-! ## reasoning about comprehensions and loops -/
theorem lcGo_inv {g : GV} {t : TV} {e : EV} {env : Env} (I : Nat → Sto → Prop) (P : Nat → D → D → Prop) : ∀ (ds : List D) (n : Nat) (S : Sto), I n S →
    (∀ k d S, ds[k]? = some d → I (n + k) S → ∃ env1 y S', g d env = some env1 ∧ t env1 S = .ok true S ∧ e env1 S = .ok y S' ∧ I (n + k + 1) S' ∧ P (n + k) d y) →
    ∃ ys S', lcGo g t e env ds S = .ok ys S' ∧ ys.length = ds.length ∧ I (n + ds.length) S' ∧ ∀ k d y, ds[k]? = some d → ys[k]? = some y → P (n + k) d y
  | [], n, S, h, _ => ⟨[], S, rfl, rfl, h, fun k d y h => by simp at h⟩
  | d :: ds, n, S, h, step => by
    obtain ⟨env1, y, S1, h1, h2, h3, h4, h5⟩ := step 0 d S rfl h
    obtain ⟨ys, S2, e1, e2, e3, e4⟩ := lcGo_inv I P ds (n + 1) S1 h4 fun k d' S' hk hi => by
      have := step (k + 1) d' S' (by simpa using hk) (by rw [show n + (k + 1) = n + 1 + k by omega]; exact hi)
      rw [show n + (k + 1) = n + 1 + k by omega] at this
      exact this
    refine ⟨y :: ys, S2, ?_, by simp [e2], by rw [List.length_cons, show n + (ds.length + 1) = n + 1 + ds.length by omega]; exact e3, fun k d' y' hk hy => ?_⟩
    · simp only [lcGo, h1, h2, h3, noX, Res.bind_ok, if_true, e1]
    · cases k with
      | zero => simp at hk hy; subst hk hy; exact h5
      | succ k =>
        have := e4 k d' y' (by simpa using hk) (by simpa using hy)
        rw [show n + (k + 1) = n + 1 + k by omega]; exact this
/-- a for whose body neither leaves nor returns -/
theorem forGo_inv {g : GV} {b : SV} (I : Nat → Env → Sto → Prop) : ∀ (ds : List D) (n : Nat) (env : Env) (S : Sto), I n env S →
    (∀ k d env S, ds[k]? = some d → I (n + k) env S → ∃ env1 env2 S', g d env = some env1 ∧ b env1 S = .ok (.nx env2) S' ∧ I (n + k + 1) env2 S') →
    ∃ env' S', forGo g b ds env S = .ok (.nx env') S' ∧ I (n + ds.length) env' S'
  | [], n, env, S, h, _ => ⟨env, S, rfl, h⟩
  | d :: ds, n, env, S, h, step => by
    obtain ⟨env1, env2, S1, h1, h2, h3⟩ := step 0 d env S rfl h
    obtain ⟨env', S', e1, e2⟩ := forGo_inv I ds (n + 1) env2 S1 h3 fun k d' env S hk hi => by
      have := step (k + 1) d' env S (by simpa using hk) (by rw [show n + (k + 1) = n + 1 + k by omega]; exact hi)
      rw [show n + (k + 1) = n + 1 + k by omega] at this
      exact this
    refine ⟨env', S', ?_, by rw [List.length_cons, show n + (ds.length + 1) = n + 1 + ds.length by omega]; exact e2⟩
    simp only [forGo, h1, h2, Res.bind_ok]
    exact e1
/-- statements one behind the other -/
theorem seq_nx {a b : SV} {env env1 : Env} {S S1 : Sto} (h : a env S = .ok (.nx env1) S1) : sSeq a b env S = b env1 S1 := by
  unfold sSeq; rw [h]; rfl
theorem seq_rt {a b : SV} {env : Env} {d : D} {S S1 : Sto} (h : a env S = .ok (.rt d) S1) : sSeq a b env S = .ok (.rt d) S1 := by
  unfold sSeq; rw [h]; rfl
theorem cut_same {d : D} {S S' : Sto} (h : S'.length = S.length) : cutR S.length (.ok d S') = .ok d S' := by
  simp [cutR, h]
theorem fnT_rt {n : Nat} {b : SV} {ds : List D} {S S' : Sto} {d : D} (h : b (ds.map some ++ List.replicate (n - ds.length) none) S = .ok (.rt d) S') (hl : S'.length = S.length) : fnT n b ds S = .ok d S' := by
  unfold fnT fnK
  rw [h]
  exact cut_same hl
theorem if_rt {t : TV} {x y : SV} {env : Env} {S S1 S2 : Sto} {k : Bool} {r : Sm.Flow} (ht : t env S = .ok k S1) (hk : k = true) (h : x env S1 = .ok r S2) : sIf t x y env S = .ok r S2 := by
  unfold sIf; rw [ht]; show (if k = true then _ else _) = _; rw [if_pos hk]; exact h
theorem if_nx {t : TV} {x y : SV} {env : Env} {S S1 S2 : Sto} {k : Bool} {r : Sm.Flow} (ht : t env S = .ok k S1) (hk : k = false) (h : y env S1 = .ok r S2) : sIf t x y env S = .ok r S2 := by
  unfold sIf; rw [ht]; show (if k = true then _ else _) = _; rw [if_neg (by rw [hk]; exact Bool.false_ne_true)]; exact h
end Sm
set_option Elab.async false
set_option linter.all false
set_option maxRecDepth 100000
namespace Sm
open PySem PySem.Spec L2
/-! ## math.lcm; a def whose keyword-only parameters all lack -/
def dLcm : List D → Option D
  | [.int a, .int b] => if a.natAbs < BIG ∧ b.natAbs < BIG then some (.int ((a.natAbs.lcm b.natAbs : Nat) : Int)) else none
  | _ => none
theorem lcm_le (m n : Nat) : m.lcm n ≤ m * n := Nat.div_le_self _ _
theorem big_log {n : Nat} (h : n < BIG) : n.log2 ≤ 4095 := PySem.W.mg_log (k := 4095) h
theorem cb_lcm {X : Cx} : GCb X (.builtin "math.lcm") dLcm := by
  have cr : CallR X (.builtin "math.lcm") (fun vs H Q => ∃ a b : Int, vs = [.int a, .int b] ∧ (a.natAbs < BIG ∧ b.natAbs < BIG) ∧ Q (.int ((a.natAbs.lcm b.natAbs : Nat) : Int)) H) := by
    intro pins s σ H vs us Q I r h
    obtain ⟨a, b, rfl, ⟨ha, hb⟩, q⟩ := h
    obtain ⟨t, u, rfl⟩ := Vals.int2 r
    have one : Nat.lcm 1 a.natAbs = a.natAbs := by simp [Nat.lcm]
    have h1 : (max 1 a.natAbs).log2 ≤ 4095 := big_log (by have := big_two; omega)
    have h2 : (max a.natAbs b.natAbs).log2 ≤ 4095 := big_log (by omega)
    have g := PySem.W.mg_run_lcm a t b u (by omega) (by omega) (by
      rw [one]
      have l : a.natAbs.lcm b.natAbs ≤ BIG * BIG := Nat.le_trans (lcm_le _ _) (Nat.mul_le_mul (Nat.le_of_lt ha) (Nat.le_of_lt hb))
      have l2 : ((a.natAbs.lcm b.natAbs : Nat) : Int).natAbs.log2 ≤ 8192 := PySem.W.mg_log (k := 8192) (by
        have : BIG * BIG < 2 ^ 8193 := by decide +kernel
        simp only [Int.natAbs_natCast]
        omega)
      have e : bitsLine = 134217728 := by decide
      omega)
    rw [one] at g
    exact PySem.call_function_meets PySem.W.MGF.kind_lcm PySem.W.MGF.plain_lcm PySem.W.MGF.entry_lcm (PySem.W.MGF.args_lcm _ _) g.meets ⟨.int _, H, I.tok _, ⟨_, rfl⟩, q⟩
  refine ⟨_, cr, fun F μ S H xs ds d Q rel rx e k => ?_⟩
  match ds, rx with
  | [.int i, .int j], .cons (.int _) (.cons (.int _) .nil) =>
    change (if i.natAbs < BIG ∧ j.natAbs < BIG then some (D.int ((i.natAbs.lcm j.natAbs : Nat) : Int)) else none) = some d at e
    split at e
    · rename_i h
      cases e
      exact ⟨i, j, rfl, h, k _ F H Ext.refl rel (.int _)⟩
    · cases e
section
variable {X : Cx} {W : WX}
theorem ge_callBf {id : String} {x : Str} {e : Expr} {es : List Expr} {p pos : Pos} {g : List D → Option D} {av : AV} (hc : GCb X (.builtin id) g) (hm : X.mg x = some (.builtin id)) (ha : GA X W (e :: es) av) (hg : Gl X x := by rfl) (hdb : (x == ("__debug__" : Str)) = false := by decide)
    (he : starEach (e :: es) X.env = (false, eval e X.env) :: starEach es X.env := by rfl) (hpl : (backTo pos (starEach es X.env)).any (·.1) = false := by rfl) : GE X W (.Call (.Name x p) (e :: es) [] pos) (eAr (qA g) av) := by
  obtain ⟨r, o, s⟩ := hc.ar
  obtain ⟨t, pt, st⟩ := ha
  exact ⟨_, pe_callBfun o hg hm pt hdb he hpl, sm_ar s st⟩
end
/-- a def of the module, some parameters by defaults -/
structure FoD (P : Program) (w : World) (K : PySem.W.Frag) (mg : Str → Option Value) (base : Heap) (k : Nat) (x : Str) (ar : Nat) (dd : List D) (ev : List D → Sto → Res D) : Prop where
  ex : ∃ (f : Addr) (fd : FuncData) (ps : List Str) (ds : List Value) (dvs : List V), FnOk P w K mg base (L2.CX P w) k f fd ps (SpF ⟨K, mg⟩ (ar + dd.length) ev) ∧ mg x = some (.ref f) ∧ PySem.W.keepIn K (.ref f) = true ∧ Binds K fd ps ds ∧ Vals dvs ds ∧ (∀ F μ, RDs ⟨K, mg⟩ F μ dvs dd)
def nons : Nat → List D := fun n => List.replicate n .non
theorem rds_nons {c : Cfg} {F : Hp} {μ : List Addr} : ∀ n : Nat, RDs c F μ (List.replicate n .non) (nons n)
  | 0 => .nil
  | n + 1 => .cons .non (rds_nons n)
def eCallD (ev : List D → Sto → Res D) (n : Nat) (dd : List D) (a : AV) : EV := fun env S => (a env S).bind fun ds S1 => if ds.length = n then ev (ds ++ dd) S1 else .bad
section
variable {X : Cx} {W : WX}
theorem ge_callD {k ar : Nat} {x : Str} {dd : List D} {ev : List D → Sto → Res D} {e : Expr} {es : List Expr} {av : AV} {p pos : Pos} (F : FoD X.prog X.w X.K X.mg X.base k x ar dd ev) (hr : Room k X.A) (px : PassW X W) (ha : GA X W (e :: es) av) (hg : Gl X x := by rfl)
    (hdb : (x == ("__debug__" : Str)) = false := by decide) (he : starEach (e :: es) X.env = (false, eval e X.env) :: starEach es X.env := by rfl) (hpl : (backTo pos (starEach es X.env)).any (·.1) = false := by rfl) :
    GE X W (.Call (.Name x p) (e :: es) [] pos) (eCallD ev ar dd av) := by
  obtain ⟨f, fd, ps, dz, dvs, F, hm, hk, hb, hv, hd⟩ := F
  obtain ⟨E, hp, hE⟩ := px
  obtain ⟨t, pt, st⟩ := ha
  refine ⟨_, pe_call F hr hg hm hk hb hv hp pt hdb he hpl, ?_⟩
  refine Sm.bind (kt := fun vs σ H1 Q => SpF (cf X) (ar + dd.length) ev (vs ++ dvs) H1 Q E) (ke := fun ds env S1 => if ds.length = ar then ev (ds ++ dd) S1 else .bad) st fun F1 μ1 xs ds s1 p1 r1 => ?_
  intro σ env F μ S H Q s p eR rel want
  split at want
  · rename_i h
    exact ⟨by rw [List.length_append, r1.length, (hd F μ).length, h], F, μ, S, ds ++ dd, (r1.mono s p).append (hd F μ), rel, want_of_callee hE want⟩
  · exact want.elim
end
def eqG (K : PySem.W.Frag) (x : Str) (id : String) : Bool := He.eqO (PySem.W.nsIn K mainGlobals x) (some (some (.builtin id)))
theorem eqG_ok {K : PySem.W.Frag} {h : Heap} {mg : Str → Option Value} (X : K.In h) (G : h.Ns mainGlobals mg) {x : Str} {id : String} (c : eqG K x id = true) : mg x = some (.builtin id) := PySem.W.mg_of X G (He.eqO_ok c)
end Sm
set_option Elab.async false
set_option linter.all false
set_option maxRecDepth 100000
set_option maxHeartbeats 4000000
/-! ## enumerate over a tuple -/
namespace Sm
open PySem PySem.Spec PyProof.Rows L2

abbrev pushIt (h : Heap) (a : Addr) : Heap := h.push { cls := .type "tuple_iterator", data := .fields #[.ref a, .int 0 0] }
abbrev pushEn (h : Heap) (a : Addr) : Heap := (pushIt h a).push { cls := .type "enumerate", data := .fields #[.none, .bool false, .ref h.objs.size, rawInt 0, .none, .none] }
theorem enumT_new (a : Addr) (its : Array Value) (n : Nat) (dc : Option Addr) (ss : Array (Option Value)) :
    Meets (Builtin.«enumerate.__new__» ⟨[.type "enumerate", .ref a], []⟩) (fun _ R s => s.heap.get? a = some { cls := .type "tuple", dict := dc, data := .seq its n, slots := ss } ∧ R (.ok (.ret (.ref (pushIt s.heap a).objs.size))) { s with heap := pushEn s.heap a }) :=
  .of_wp fun prog w A R s z => by
    obtain ⟨h0, g0, d0, t0, o0⟩ := s
    obtain ⟨ha, z⟩ := z
    have hsub := sub_enumerate
    have hT : Heap.IsTuple (Shared.heap ⟨h0, g0, d0, t0, o0⟩) a its := ⟨_, ha, rfl, n, rfl⟩
    wp_walk using _root_.PySem.AutoSeq1.wpAny_loadPart' ha
    refine wpAny_stack_any fun _ => wpAny_pure ?_
    split
    · rename_i k _ _ _ _ _
      cases (k == Value.type "enumerate") <;>
        · wp_walk using _root_.PySem.AutoSeq1.wpAny_loadPart' ha, wpAny_pyIter_tuple hT
          exact ⟨_, rfl, z⟩
    · wp_walk using _root_.PySem.AutoSeq1.wpAny_loadPart' ha, wpAny_pyIter_tuple hT
      exact ⟨_, rfl, z⟩
section
variable {prog : Program} {w : World} {A : Around} {E : Value → Shared → Prop} {s : Shared}
theorem call_enumT {a : Addr} {its : Array Value} {Q : Value → Shared → Prop} (ha : s.heap.IsTuple a its)
    (z : ∀ h', IsEnum h' (s.heap.objs.size + 1) s.heap.objs.size 0 .none → h'.IsTupleIter s.heap.objs.size a 0 → (∀ b o, s.heap.get? b = some o → h'.get? b = some o) → Q (.ref (s.heap.objs.size + 1)) { s with heap := h' }) :
    wpAny (model prog w) A (call (.type "enumerate") [.ref a]) Q E s := by
  obtain ⟨⟨c, dct, dt, sl⟩, hl, hc, n, hd⟩ := ha
  cases (show c = .type "tuple" from hc)
  cases (show dt = .seq its n from hd)
  refine callType_new F.called_enumerate (by decide) (F.typeCall_enumerate_1 _) (F.newCall_enumerate_1 _) (fun obj => F.args_object_init_2 obj _) F.entry_enumerate_new (enumT_new a its n dct sl) ⟨hl, ?_⟩
  have e1 : (pushIt s.heap a).objs.size = s.heap.objs.size + 1 := Heap.size_push ..
  have e2 : IsEnum (pushEn s.heap a) (s.heap.objs.size + 1) s.heap.objs.size 0 .none := by
    rw [← e1]; exact Heap.get?_push_size _ rfl
  show _ ∧ _
  rw [e1]
  exact ⟨⟨_, e2, rfl⟩, z _ e2 ⟨_, Heap.get?_push_of_some _ (Heap.get?_push_size _ rfl), rfl, rfl⟩ fun b o q => Heap.get?_push_of_some _ (Heap.get?_push_of_some _ q)⟩
end
/-- the tuple at a, each item in a new pair -/
def ItT (K : PySem.W.Frag) (a : Addr) : It where
  go i H := ∃ (xs : List V) (x : V), SqT K H a xs ∧ xs[i]? = some x
  yld i H v H' := ∃ T x, v = .ref T ∧ H T = none ∧ H' = upd H T (.tup [.int (i : Nat), x]) ∧ ∀ xs, SqT K H a xs → xs[i]? = some x
  stop i H := ∃ xs : List V, SqT K H a xs ∧ xs.length = i
theorem turnT {P : Program} {w : World} {K : PySem.W.Frag} {elts : List Expr} {kk : Nat} {tpos : Pos} (a e it : Addr) :
    Turn P w K (.Tuple elts kk tpos) (ItT K a) [e, it] e (fun i h => (∃ old, IsEnum h e it ((i : Nat) : Int) old) ∧ h.IsTupleIter it a i ∧ e ≠ it ∧ e ≠ a ∧ a ≠ it) where
  mem := by simp
  obj i h st b hb := by
    obtain ⟨⟨old, he⟩, ⟨o, ho, hc, hd⟩, _⟩ := st
    simp only [List.mem_cons, List.not_mem_nil, or_false] at hb
    rcases hb with rfl | rfl
    · exact ⟨_, he, fun v q => nomatch q⟩
    · exact ⟨o, ho, fun v q => by rw [hd] at q; cases q⟩
  keep i h h' st k := by
    obtain ⟨⟨old, he⟩, hi, hne⟩ := st
    exact ⟨⟨old, k e (by simp) _ he⟩, hi.at fun o q => k it (by simp) o q, hne⟩
  item := by
    intro X hP hw hK hc i pins s σ H E I hf st hg
    subst hP hw hK
    obtain ⟨⟨old, he⟩, hit, hne, hea, hai⟩ := st
    obtain ⟨xs, x, hq, hx⟩ := hg
    obtain ⟨its, rv, p, hz⟩ := I.tuple hq
    have hel := Heap.lt_size he
    have hil : it < s.heap.objs.size := by obtain ⟨_, q, _⟩ := hit; exact Heap.lt_size q
    have hlen : i < its.toArray.size := by
      have := (List.getElem?_eq_some_iff.mp hx).1
      have := rv.length
      simp; omega
    have hef : e ∉ [it, a] := by simp [hne, hea]
    refine wpAny_pyNext_enum_itemD (PySem.Draws.tuple (A := X.A.in1) (I.ok.hd hc) it a hai its.toArray) he ⟨hit, p⟩ hlen hne hef fun u h' tk hu ho hit' hT hsz hk => ?_
    have ru : RelV x u := by
      obtain ⟨u', hu', ru'⟩ := rv.get hx
      have : its[i]? = some u := by simpa using hu
      rw [hu'] at this
      cases this
      exact ru'
    refine ⟨_, rfl, wpAny_letOwnedTupleGo_enum (s := { s with heap := h', toks := tk + 1 }) ho fun h'' he' sb => ?_⟩
    have hT2 : h''.get? s.heap.objs.size = some { cls := .type "tuple", data := .seq #[.int i tk, u] } := (sb.2 _ (Nat.ne_of_gt hel)).trans hT
    have new : ObjOk X.prog X.w (upd H s.heap.objs.size (.tup [.int (i : Nat), x])) h'' s.heap.objs.size (.tup [.int (i : Nat), x]) := ⟨(by decide : 2 ≤ sizeLine), [.int i tk, u], .cons ⟨_, rfl⟩ (.cons ru .nil), ⟨_, hT2, rfl, _, rfl⟩⟩
    have I1 : Inv X pins σ (upd H s.heap.objs.size (.tup [.int (i : Nat), x])) { s with heap := h'', toks := tk + 1 } :=
      I.turnedNew (ch := [e, it]) (fun b ob hb q => (sb.2 b (fun z => hb (by simp [z]))).trans (hk b ob (fun z => hb (by simp [z])) (fun z => hb (by simp [z])) q)) hf (Nat.le_refl _) new
    refine ⟨.ref s.heap.objs.size, _, I1, rfl, ⟨_, x, rfl, I.hok.fresh (Nat.le_refl _), rfl, fun ys hy => by rw [I.tuple_inj hy hq]; exact hx⟩, ⟨⟨u, ?_⟩, hit'.1.at fun o q => (sb.2 it (Ne.symm hne)).trans q, hne, hea, hai⟩, fun b hb => ?_⟩
    · rw [show ((i + 1 : Nat) : Int) = (i : Int) + 1 by omega]; exact he'
    · have hb' : b < s.heap.objs.size := by
        simp only [List.mem_cons, List.not_mem_nil, or_false] at hb
        rcases hb with rfl | rfl
        · exact hel
        · exact hil
      rw [upd_ne (Nat.ne_of_lt hb')]
      exact (hf b hb).1
  done := by
    intro X hP hw hK hc i pins s σ H E I hf st hg
    subst hP hw hK
    obtain ⟨⟨old, he⟩, hit, hne, hea, hai⟩ := st
    obtain ⟨xs, hq, hx⟩ := hg
    obtain ⟨its, rv, p, hz⟩ := I.tuple hq
    obtain ⟨f0, f1, f2, f3, f4, f5⟩ := hf it (by simp)
    have hl := rv.length
    have D := PySem.Draws.tuple (prog := X.prog) (w := X.w) (A := X.A.in1) (I.ok.hd hc) it a hai its.toArray
    refine wpAny_pyNext_enum_endD D he ⟨?_, p⟩ fun h' eb => ⟨rfl, I.turned (t' := s.toks) (fun b o hb q => eb b o hb q) f0 f1 f3 f4 f5⟩
    rw [show its.toArray.size = i by simp; omega]
    exact hit
  self A i s Q E st h := by
    obtain ⟨⟨_, he⟩, _⟩ := st
    exact wpAny_pyIter_enum he h
def iEnumT (K : PySem.W.Frag) (ta : TA) : TI := fun σ H R => ta σ H fun vs H1 => ∃ a xs, vs = [.ref a] ∧ SqT K H1 a xs ∧ R (ItT K a) H1
theorem pi_enumT {X : Cx} {e : Expr} {ta : TA} {p pos tpos : Pos} {elts : List Expr} {kk : Nat} (hg : Gl X "enumerate") (hm : X.mg "enumerate" = none) (ha : PA X [e] ta) (hs : starEach [e] X.env = [(false, eval e X.env)] := by rfl) :
    PI X (.Tuple elts kk tpos) (.Call (.Name "enumerate" p) [e] [] pos) (iEnumT X.K ta) := by
  constructor
  intro pins s σ H R I h
  refine Call_ (ld_blt I hg hm boot_enumerate (PyProof.Rows.callWith_type1 (thn (ha.run pos pins s σ H _ I h) fun us s1 ⟨vs, H1, I1, r1, q1⟩ => ?_) hs rfl))
  obtain ⟨a, xs, rfl, hq, q⟩ := q1
  cases r1 with
  | cons r rr =>
    cases rr
    cases r
    obtain ⟨its, rv, p', hz⟩ := I1.tuple hq
    refine call_enumT p' fun h' he hit hk => wpAny_pyIter_enum he ?_
    have I2 : Inv X pins σ H1 { s1 with heap := h' } := I1.kept (t' := s1.toks) hk
    have la : a < s1.heap.objs.size := by obtain ⟨o, ho, _⟩ := p'; exact Heap.lt_size ho
    refine ⟨s1.heap.objs.size + 1, [s1.heap.objs.size + 1, s1.heap.objs.size], _, _, H1, rfl, I2, turnT a (s1.heap.objs.size + 1) s1.heap.objs.size, ⟨⟨.none, he⟩, hit, Nat.succ_ne_self _, Ne.symm (Nat.ne_of_lt (Nat.lt_succ_of_lt la)), Nat.ne_of_lt la⟩, fun b hb => ?_, q⟩
    have hle : s1.heap.objs.size ≤ b := by
      simp only [List.mem_cons, List.not_mem_nil, or_false] at hb
      rcases hb with rfl | rfl
      · exact Nat.le_add_right _ _
      · exact Nat.le_refl _
    exact I1.fpOk hle (I1.hok.fresh hle)
theorem walkT {K : PySem.W.Frag} {a : Addr} {xs : List V} : Walk (ItT K a) xs.length (fun H => SqT K H a xs) (YPair (fun i => some (.int (i : Nat))) (fun i => xs[i]?)) := by
  refine ⟨fun i _ hi q => ⟨xs, xs[i], q, by simp [hi]⟩, fun _ q => ⟨xs, q, rfl⟩, fun i H v H' _ q y => ?_⟩
  obtain ⟨T, x, h1, h2, h3, h4⟩ := y
  exact ⟨T, .int (i : Nat), x, h1, h2, h3, rfl, h4 xs q⟩
def aEnumT (a : AV) : AV := fun env S => (a env S).bind fun xs S1 => match xs with
  | [d] => optR ((dTup d).map (enumD 0)) S1
  | _ => .bad
section
variable {X : Cx} {W : WX} {e : Expr} {av : AV} {p pos tpos : Pos} {elts : List Expr} {kk : Nat}
theorem gi_enumT (hm : X.mg "enumerate" = none) (h : GA X W [e] av) (hg : Gl X "enumerate" := by rfl) (hs : starEach [e] X.env = [(false, eval e X.env)] := by rfl) :
    GI X W (.Tuple elts kk tpos) (.Call (.Name "enumerate" p) [e] [] pos) (aEnumT av) := by
  obtain ⟨t, pt, s⟩ := h
  refine ⟨_, pi_enumT hg hm pt hs, Sm.bind (kt := fun vs σ H1 (Q : It → Hp → Prop) => ∃ a xs, vs = [.ref a] ∧ SqT X.K H1 a xs ∧ Q (ItT X.K a) H1) (ke := fun xs env S1 => match xs with
    | [d] => optR ((dTup d).map (enumD 0)) S1
    | _ => .bad) s fun F1 μ1 vs xs s1 p1 r1 => ?_⟩
  match xs, r1 with
  | [], _ => exact Sm.pure fun σ env F μ S H _ _ _ _ => trivial
  | _ :: _ :: _, _ => exact Sm.pure fun σ env F μ S H _ _ _ _ => trivial
  | [d0], .cons r0 .nil =>
    cases hd : dTup d0 with
    | none => exact Sm.pure fun σ env F μ S H _ _ _ _ => by simp only [hd, Option.map_none, optR]
    | some ds =>
      obtain ⟨ad, vs, rfl, h, r⟩ := RD.sqt r0 hd
      refine Sm.pure fun σ env F μ S H sF pF _ rel => ?_
      simp only [hd, Option.map_some, optR]
      refine ⟨trivial, ItT X.K ad, fun i F2 μ2 S2 H2 s2 p2 rel2 => ?_, fun Q q => ⟨ad, _, rfl, rel.sqt (sF.sqt h), q⟩⟩
      have hq : SqT X.K H2 ad vs := rel2.sqt (s2.sqt (sF.sqt h))
      have w := walkT (K := X.K) (a := ad) (xs := vs)
      rw [enumD_len]
      refine ⟨fun hi => ⟨w.goes i H2 (by rw [r.length]; exact hi) hq, fun x H3 y => ?_⟩, fun hi => by rw [hi, ← r.length]; exact w.stops H2 hq⟩
      obtain ⟨T, x1, y1, e1, e2, e3, e4, e5⟩ := w.yields i H2 x H3 (by rw [r.length]; exact hi) hq y
      obtain ⟨d, e6, r3⟩ := r.getV e5
      cases e4
      subst e1 e3
      obtain ⟨rl, xl, sF2⟩ := rel2.frozen (o := .tup [.int (i : Nat), y1]) e2
      refine ⟨_, _, xl, rl, enumD_get e6, .tup upd_same ?_⟩
      rw [Nat.zero_add]
      exact .cons (.int _) (.cons (r3.mono (sF.trans (s2.trans sF2)) (pF.trans p2)) .nil)
/-- enumerate(e), e a list or a tuple -/
def aEnumA (a : AV) : AV := fun env S => (a env S).bind fun xs S1 => match xs with
  | [d] => optR ((dSq d).map (enumD 0)) S1
  | _ => .bad
theorem gi_enumA (hm : X.mg "enumerate" = none) (h : GA X W [e] av) (hg : Gl X "enumerate" := by rfl) (hs : starEach [e] X.env = [(false, eval e X.env)] := by rfl) :
    GI X W (.Tuple elts kk tpos) (.Call (.Name "enumerate" p) [e] [] pos) (aEnumA av) := by
  obtain ⟨t1, p1, s1⟩ := gi_enum (p := p) (pos := pos) (tpos := tpos) (elts := elts) (kk := kk) hm h hg hs
  obtain ⟨t2, p2, s2⟩ := gi_enumT (p := p) (pos := pos) (tpos := tpos) (elts := elts) (kk := kk) hm h hg hs
  refine ⟨_, PI.or p1 p2, ?_⟩
  intro σ env F μ S H Q s p eR rel want
  cases h : av env S with
  | bad =>
    change Want _ _ _ _ _ _ _ _ ((av env S).bind _) at want
    rw [h] at want; exact want.elim
  | exc C ns ds S' =>
    refine .inl (s1 σ env F μ S H Q s p eR rel ?_)
    change Want _ _ _ _ _ _ _ _ ((av env S).bind _) at want
    rw [h] at want
    change Want _ _ _ _ _ _ _ _ ((av env S).bind _)
    rw [h]; exact want
  | ok xs S' =>
    change Want _ _ _ _ _ _ _ _ ((av env S).bind _) at want
    rw [h] at want
    have no : ∀ {r : Res (List D)}, r = .bad → Want (cf X) W (rIt (cf X)) σ F μ H Q r → False := fun e w => by rw [e] at w; exact w
    match xs, h, want with
    | [.lst ds], h, want =>
      refine .inl (s1 σ env F μ S H Q s p eR rel ?_)
      change Want _ _ _ _ _ _ _ _ ((av env S).bind _)
      rw [h]; exact want
    | [.fix ds], h, want =>
      refine .inl (s1 σ env F μ S H Q s p eR rel ?_)
      change Want _ _ _ _ _ _ _ _ ((av env S).bind _)
      rw [h]; exact want
    | [.tup ds], h, want =>
      refine .inr (s2 σ env F μ S H Q s p eR rel ?_)
      change Want _ _ _ _ _ _ _ _ ((av env S).bind _)
      rw [h]; exact want
    | [.ktp ds], h, want =>
      refine .inr (s2 σ env F μ S H Q s p eR rel ?_)
      change Want _ _ _ _ _ _ _ _ ((av env S).bind _)
      rw [h]; exact want
    | [], _, want => exact (no rfl want).elim
    | _ :: _ :: _, _, want => exact (no rfl want).elim
    | [.non], _, want | [.bl _], _, want | [.int _], _, want | [.str _], _, want | [.ty _], _, want | [.fn _], _, want | [.dic _ _], _, want | [.dtp _ _], _, want | [.obj _ _ _], _, want | [.hnd _], _, want => exact (no rfl want).elim
theorem ge_callH {X : Cx} {W : WX} {id : String} {x : Str} {e : Expr} {es : List Expr} {p pos : Pos} {f : List D → Sto → Res D} {av : AV} (hc : ∃ r, CallR X (.builtin id) r ∧ ArSm (cf X) r f) (hm : X.mg x = none) (ha : GA X W (e :: es) av) (hv : bootBuiltins x = some (.builtin id) := by decide +kernel) (hg : Gl X x := by rfl) (hn : x ≠ "__name__" := by decide) (hdb : (x == ("__debug__" : Str)) = false := by decide)
    (he : starEach (e :: es) X.env = (false, eval e X.env) :: starEach es X.env := by rfl) (hpl : (backTo pos (starEach es X.env)).any (·.1) = false := by rfl) : GE X W (.Call (.Name x p) (e :: es) [] pos) (eAr f av) := by
  obtain ⟨r, o, s⟩ := hc
  obtain ⟨t, pt, st⟩ := ha
  exact ⟨_, pe_callB o hg hm hv pt hn hdb he hpl, sm_ar s st⟩
end
end Sm
set_option Elab.async false
set_option linter.all false
set_option maxRecDepth 100000
namespace Sm
open PySem PySem.Spec L2
/-! ## isinstance of a built-in type, of one or of two -/
def D.tyS : D → Option String
  | .non => some "NoneType"
  | .bl _ => some "bool"
  | .int _ => some "int"
  | .str _ => some "str"
  | .tup _ | .ktp _ => some "tuple"
  | .lst _ | .fix _ => some "list"
  | _ => none
def tysA : List String := ["NoneType", "bool", "int", "str", "tuple", "list"]
def tysB : List String := ["bool", "int", "str", "tuple", "list", "dict"]
def isTab (a b : String) : Bool := a == b || (a == "bool" && b == "int")
theorem isTab_ok : ∀ a ∈ tysA, ∀ b ∈ tysB, kitB a b = some (isTab a b) := by decide +kernel
theorem tyS_in {d : D} {a : String} (h : d.tyS = some a) : a ∈ tysA := by
  cases d <;> simp [D.tyS] at h <;> subst h <;> decide
theorem tyS_ok {c : Cfg} {F H : Hp} {μ : List Addr} {S : Sto} {v : V} {d : D} {a : String} (rel : Rel c F μ S H) (r : RD c F μ v d) (h : d.tyS = some a) : TyX c.K H v (.type a) := by
  have tp : ∀ {ds : List D}, dTup d = some ds → a = "tuple" → TyX c.K H v (.type a) := fun {ds} e ea => by
    subst ea
    obtain ⟨ad, vs, rfl, hq, _⟩ := RD.sqt r e
    rcases rel.sqt hq with (h1 | ⟨o, h1⟩) | ⟨o, its, n, h1, h2, _⟩
    · exact .base (.tup h1)
    · exact .fTuple h1
    · exact .kTuple h1 h2
  have tl : ∀ {ds : List D}, dLst d = some ds → a = "list" → TyX c.K H v (.type a) := fun {ds} e ea => by
    subst ea
    obtain ⟨ad, vs, rfl, hq, _⟩ := RD.sql r e
    rcases rel.sql hq with (h1 | ⟨o, h1⟩) | ⟨o, its, n, h1, h2, _⟩
    · exact .base (.lst h1)
    · exact .base (.frz h1)
    · exact .kList h1 h2
  cases d with
  | non => cases h; cases r; exact .base .non
  | bl b => cases h; cases r; exact .base (.bl b)
  | int i => cases h; cases r; exact .base (.int i)
  | str s => cases h; cases r; exact .base (.str s)
  | tup ds => cases h; exact tp (ds := ds) rfl rfl
  | ktp ds => cases h; exact tp (ds := ds) rfl rfl
  | lst ds => cases h; exact tl (ds := ds) rfl rfl
  | fix ds => cases h; exact tl (ds := ds) rfl rfl
  | _ => cases h
def dIsi1 : List D → Option D
  | [d, .ty n] => match d.tyS with
    | some a => if n ∈ tysB then some (.bl (isTab a n)) else none
    | none => none
  | _ => none
def dIsi2 : List D → Option D
  | [d, .tup [.ty n, .ty k]] => match d.tyS with
    | some a => if n ∈ tysB ∧ k ∈ tysB then some (.bl (isTab a n || isTab a k)) else none
    | none => none
  | _ => none
theorem cb_isi1 {X : Cx} : GCb X (.builtin "isinstance") dIsi1 := by
  refine ⟨_, call_isi, fun F μ S H xs ds d Q rel rx e k => ?_⟩
  match ds, rx with
  | [d0, .ty n], .cons r0 (.cons (.ty _) .nil) =>
    change (match d0.tyS with | some a => if n ∈ tysB then some (D.bl (isTab a n)) else none | none => none) = some d at e
    cases q : d0.tyS with
    | none => rw [q] at e; cases e
    | some a =>
      rw [q] at e
      dsimp only at e
      split at e
      · rename_i hn
        cases e
        exact ⟨_, _, .type a, .type n, isTab a n, rfl, .ty n, tyS_ok rel r0 q, kit_ty (isTab_ok a (tyS_in q) n hn), k _ F H Ext.refl rel (.bl _)⟩
      · cases e
theorem cb_isi2 {X : Cx} : GCb X (.builtin "isinstance") dIsi2 := by
  refine ⟨_, call_isiT, fun F μ S H xs ds d Q rel rx e k => ?_⟩
  match ds, rx with
  | [d0, .tup [.ty n, .ty m]], .cons r0 (.cons (.tup (a := tp) h (.cons (.ty _) (.cons (.ty _) .nil))) .nil) =>
    change (match d0.tyS with | some a => if n ∈ tysB ∧ m ∈ tysB then some (D.bl (isTab a n || isTab a m)) else none | none => none) = some d at e
    cases q : d0.tyS with
    | none => rw [q] at e; cases e
    | some a =>
      rw [q] at e
      dsimp only at e
      split at e
      · rename_i hn
        cases e
        have k1 : PySem.W.kitOne X.K (.type a) (.type n) = some (isTab a n) := kit_ty (isTab_ok a (tyS_in q) n hn.1)
        have k2 : PySem.W.kitOne X.K (.type a) (.type m) = some (isTab a m) := kit_ty (isTab_ok a (tyS_in q) m hn.2)
        have k3 : PySem.W.kitAny X.K (.type a) [.type n, .type m] = some (isTab a n || isTab a m) := by
          refine kitAny_cons k1 (fun z => kitAny_cons k2 (fun z2 => ?_) fun z2 => by rw [z2]; simp) fun z => by rw [z]; rfl
          rw [z, z2]; exact kitAny_nil
        exact ⟨_, tp, [.ty n, .ty m], .type a, [.type n, .type m], _, rfl, rel.frz _ _ h, .cons (.ty n) (.cons (.ty m) .nil), tyS_ok rel r0 q, k3, k _ F H Ext.refl rel (.bl _)⟩
      · cases e
def dIsiA : List D → Option D := fun ds => match dIsi1 ds with | some d => some d | none => dIsi2 ds
theorem cb_isiA {X : Cx} : GCb X (.builtin "isinstance") dIsiA := cb_isi1.alt cb_isi2
end Sm
set_option Elab.async false
set_option linter.all false
set_option maxRecDepth 100000
namespace Sm
open PySem PySem.Spec L2
/-! ## dict(list of pairs), a dict that stays -/
def pairsD : List D → Option (List Key × List D)
  | [] => some ([], [])
  | .tup [k, v] :: r => match D.key k, pairsD r with
    | some q, some (ks, es) => some (q :: ks, v :: es)
    | _, _ => none
  | _ :: _ => none
theorem pairs_rd {c : Cfg} {F H : Hp} {μ : List Addr} {S : Sto} (rel : Rel c F μ S H) : ∀ {vs : List V} {ds : List D} {ks : List Key} {es : List D}, RDs c F μ vs ds → pairsD ds = some (ks, es) →
    ∃ (ps : List Addr) (kvs : List (Key × V)), vs = ps.map V.ref ∧ kvs.map (·.1) = ks ∧ Paired (fun p kv => SqT c.K H p [kV kv.1, kv.2]) ps kvs ∧ RDs c F μ (kvs.map (·.2)) es
  | _, [], ks, es, .nil, e => by
    cases e
    exact ⟨[], [], rfl, rfl, .nil, .nil⟩
  | _, .tup [k, v] :: r, ks, es, .cons (v := v0) h0 rr, e => by
    cases h0 with
    | @tup b us _ h rs =>
    match us, rs with
    | [u1, u2], .cons r1 (.cons r2 .nil) =>
    change (match D.key k, pairsD r with | some q, some (ks, es) => some (q :: ks, v :: es) | _, _ => none) = some (ks, es) at e
    cases hk : D.key k with
    | none => rw [hk] at e; cases e
    | some q =>
      cases hp : pairsD r with
      | none => rw [hk, hp] at e; cases e
      | some z =>
        obtain ⟨ks0, es0⟩ := z
        rw [hk, hp] at e
        cases e
        obtain ⟨ps, kvs, e1, e2, e3, e4⟩ := pairs_rd rel rr hp
        have ek := key_ok r1 hk
        subst ek
        refine ⟨b :: ps, (q, u2) :: kvs, by rw [e1]; rfl, by rw [← e2]; rfl, .cons ?_ e3, .cons r2 e4⟩
        exact rel.sqt (SqT.of h)
def aDictP : List D → Sto → Res D
  | [x], S => match dLst x with
    | some ds => match pairsD ds with
      | some (ks, es) => .ok (.dic (mergeD [] [] ks es).1 (mergeD [] [] ks es).2) S
      | none => .bad
    | none => .bad
  | _, _ => .bad
section
variable {X : Cx} {W : WX}
theorem ar_dictP (hc : X.calm = true) : ∃ r, CallR X (.type "dict") r ∧ ArSm (cf X) r aDictP := by
  refine ⟨_, call_dictP hc, fun F μ S H xs ds Q rel rx want => ?_⟩
  match ds, rx with
  | [x], .cons (v := v) rx .nil =>
    change Want _ _ _ _ _ _ _ _ (match dLst x with | some ds => (match pairsD ds with | some (ks, es) => Res.ok (D.dic (mergeD [] [] ks es).1 (mergeD [] [] ks es).2) S | none => .bad) | none => .bad) at want
    cases e : dLst x with
    | none => rw [e] at want; exact want.elim
    | some ds =>
      rw [e] at want
      dsimp only at want
      cases e2 : pairsD ds with
      | none => rw [e2] at want; exact want.elim
      | some z =>
        obtain ⟨ks, es⟩ := z
        rw [e2] at want
        obtain ⟨a, vs, rfl, hq, r⟩ := RD.sql rx e
        obtain ⟨ps, kvs, rfl, rfl, hp, rk⟩ := pairs_rd rel r e2
        refine ⟨a, ps, kvs, rfl, rel.sql hq, hp, fun p hn => ?_⟩
        obtain ⟨rl, xl, sF⟩ := rel.frozen (o := .dK (mergeK [] kvs)) hn
        obtain ⟨g1, g2⟩ := merge_ok (c := cf X) (F := F) (μ := μ) (kvs := []) (ds := []) .nil rk
        refine want _ _ μ _ xl rl ?_
        have hd := RD.dic (c := cf X) (F := upd F p (.dK (mergeK [] kvs))) (μ := μ) (a := p) (.inl upd_same) (g2.mono sF (List.prefix_refl _))
        rw [g1] at hd
        exact hd
  | [], _ => exact want.elim
  | _ :: _ :: _, _ => exact want.elim
theorem ge_dictP {x : Str} {e : Expr} {p pos : Pos} {av : AV} (hc : X.calm = true) (hm : X.mg x = none) (ha : GA X W [e] av) (hv : bootBuiltins x = some (.type "dict") := by decide +kernel) (hg : Gl X x := by rfl) (hn : x ≠ "__name__" := by decide) (hdb : (x == ("__debug__" : Str)) = false := by decide)
    (he : starEach [e] X.env = (false, eval e X.env) :: starEach [] X.env := by rfl) (hpl : (backTo pos (starEach [] X.env)).any (·.1) = false := by rfl) : GE X W (.Call (.Name x p) [e] [] pos) (eAr aDictP av) := by
  obtain ⟨r, o, s⟩ := ar_dictP hc
  obtain ⟨t, pt, st⟩ := ha
  exact ⟨_, pe_callTy o hg hm hv pt hn hdb he hpl, sm_ar s st⟩
end
end Sm
set_option Elab.async false
set_option linter.all false
set_option maxRecDepth 100000
namespace Sm
open PySem PySem.Spec L2
section
variable {X : Cx} {W : WX} {pos : Pos}
/-- a, b, c = x, y, z with plain names -/
def sPar3 (i j l : Nat) (a : AV) : SV := fun env S => (a env S).bind fun ds S1 => match ds with | [x, y, z] => .ok (.nx (((env.set i (some x)).set j (some y)).set l (some z))) S1 | _ => .bad
theorem gs_par3 (i j l : Nat) {x y z : Str} {ea eb ec : Expr} {av : AV} {px py pz pt : Pos} {kt k2 pt2} (hN : X.N.Nodup) (ha : GA X W [ea, eb, ec] av) (hc : X.calm = true := by rfl) (hi : X.N[i]? = some x := by rfl) (hj : X.N[j]? = some y := by rfl) (hl : X.N[l]? = some z := by rfl)
    (hij : i ≠ j := by decide) (hil : i ≠ l := by decide) (hjl : j ≠ l := by decide)
    (lx : X.env.scope.names.lookup x = some .local := by rfl) (ly : X.env.scope.names.lookup y = some .local := by rfl) (lz : X.env.scope.names.lookup z = some .local := by rfl)
    (hw : swappedStores [.Tuple [.Name x px, .Name y py, .Name z pz] kt pt] (.Tuple [ea, eb, ec] k2 pt2) X.env = pure (some [x, y, z]) := by rfl)
    (hs : swapsWithSole [.Tuple [.Name x px, .Name y py, .Name z pz] kt pt] (.Tuple [ea, eb, ec] k2 pt2) pos.line X.env = pure false := by rfl) :
    GS X W (.Assign [.Tuple [.Name x px, .Name y py, .Name z pz] kt pt] (.Tuple [ea, eb, ec] k2 pt2) pos) (sPar3 i j l av) := by
  obtain ⟨t, p, s⟩ := ha
  refine ⟨_, ps_par3 hc hN hi hj hl hij hil hjl lx ly lz p hw hs, fun E σ env F μ S H eR rel want => s.go eR rel ?_⟩
  change WantF _ W E F μ H ((av env S).bind _) at want
  cases h : av env S with
  | bad => rw [h] at want; exact want
  | exc C ns ds S' => rw [h] at want; exact want σ
  | ok ds S' =>
    rw [h] at want
    intro vs F' μ' H' x' rel' r'
    match ds, vs, r', want with
    | _, _, .cons h1 (.cons h2 (.cons h3 .nil)), want => exact ⟨_, _, _, rfl, want _ F' μ' H' x' rel' ((((eR.ext x').set i h1).set j h2).set l h3)⟩
    | _, _, .nil, want => exact want.elim
    | _, _, .cons _ .nil, want => exact want.elim
    | _, _, .cons _ (.cons _ .nil), want => exact want.elim
    | _, _, .cons _ (.cons _ (.cons _ (.cons _ _))), want => exact want.elim
/-! ## repr of a number, of None -/
theorem call_reprA : CallR X (.builtin "repr") (fun xs H Q => (∃ i, xs = [.int i] ∧ i.natAbs.log2 < 1920 ∧ Q (.str (toString i)) H) ∨ (xs = [.non] ∧ Q (.str "None") H)) := by
  intro pins s σ H xs us Q I r h
  rcases h with h | ⟨rfl, q⟩
  · exact SkE.call_repr_int pins s σ H xs us Q I r h
  · obtain ⟨u, rfl, ru⟩ := vals1 r
    cases u with
    | none => exact PySem.P.repr_of_none ⟨.str _, H, I.tok _, ⟨_, rfl⟩, q⟩
    | _ => cases ru
def dRepr : List D → Option D | [.int i] => if i.natAbs.log2 < 1920 then some (.str (toString i)) else none | [.non] => some (.str "None") | _ => none
theorem cb_repr : GCb X (.builtin "repr") dRepr := by
  refine ⟨_, call_reprA, fun F μ S H xs ds d Q rel rx e k => ?_⟩
  match ds, rx with
  | [.int i], .cons (.int _) .nil =>
    change (if i.natAbs.log2 < 1920 then some (D.str (toString i)) else none) = some d at e
    split at e
    · rename_i hz
      cases e
      exact .inl ⟨i, rfl, hz, k _ F H Ext.refl rel (.str _)⟩
    · cases e
  | [.non], .cons .non .nil =>
    cases e
    exact .inr ⟨rfl, k _ F H Ext.refl rel (.str _)⟩
end
end Sm
set_option Elab.async false
set_option linter.all false
set_option maxRecDepth 100000
namespace Sm
open PySem PySem.Spec L2
/-! ## a def whose keyword-only parameters are all given -/
structure FoK (P : Program) (w : World) (K : PySem.W.Frag) (mg : Str → Option Value) (base : Heap) (k : Nat) (x : Str) (n : Nat) (ks : List Str) (ev : List D → Sto → Res D) : Prop where
  ex : ∃ (f : Addr) (fd : FuncData) (ps : List Str) (gw : List Value → List Value → List Value) (gV : List V → List V → List V), FnOk P w K mg base (L2.CX P w) k f fd ps (SpF ⟨K, mg⟩ (n + ks.length) ev) ∧ mg x = some (.ref f) ∧ PySem.W.keepIn K (.ref f) = true ∧ KBn K fd ps n ks gw gV ∧
    (∀ F μ vs zs ds es, RDs ⟨K, mg⟩ F μ vs ds → RDs ⟨K, mg⟩ F μ zs es → RDs ⟨K, mg⟩ F μ (gV vs zs) (ds ++ es))
def eCallK (ev : List D → Sto → Res D) (n m : Nat) (a ak : AV) : EV := fun env S => (a env S).bind fun ds S1 => (ak env S1).bind fun es S2 => if ds.length = n ∧ es.length = m then ev (ds ++ es) S2 else .bad
section
variable {X : Cx} {W : WX}
theorem ge_callK {k n : Nat} {x : Str} {ks : List Str} {ev : List D → Sto → Res D} {e : Expr} {es : List Expr} {kws : List Keyword} {av ak : AV} {p pos : Pos} (M : FoK X.prog X.w X.K X.mg X.base k x n ks ev) (hr : Room k X.A) (px : PassW X W) (ha : GA X W (e :: es) av) (hk : GK X W kws ak) (hg : Gl X x := by rfl)
    (hall : (backToKw pos (keywordEach kws X.env)).all (·.1.isSome) = true := by rfl) (hks : (backToKw pos (keywordEach kws X.env)).filterMap (·.1) = ks := by rfl) (hdb : (x == ("__debug__" : Str)) = false := by decide)
    (he : starEach (e :: es) X.env = (false, eval e X.env) :: starEach es X.env := by rfl) (hpl : ((backTo pos (starEach (e :: es) X.env)).any (·.1) || (backToKw pos (keywordEach kws X.env)).any (·.1.isNone)) = false := by rfl) :
    GE X W (.Call (.Name x p) (e :: es) kws pos) (eCallK ev n ks.length av ak) := by
  obtain ⟨f, fd, ps, gw, gV, F, hm, hkp, hb, g1⟩ := M
  obtain ⟨E, hp, hE⟩ := px
  obtain ⟨t, pt, st⟩ := ha
  obtain ⟨tk, ptk, stk⟩ := hk
  refine ⟨_, pe_callN F hr hg hm hkp hb hp pt ptk hall hks hdb he hpl, ?_⟩
  refine Sm.bind (kt := fun vs σ H1 (Q : VK) => tk σ H1 fun zs H2 => vs.length = n ∧ zs.length = ks.length ∧ SpF (cf X) (n + ks.length) ev (gV vs zs) H2 Q E)
    (ke := fun ds env S => (ak env S).bind fun es S2 => if ds.length = n ∧ es.length = ks.length then ev (ds ++ es) S2 else .bad) st fun F1 μ1 xs ds s1 p1 r1 => ?_
  refine Sm.bind (kt := fun zs σ H1 (Q : VK) => xs.length = n ∧ zs.length = ks.length ∧ SpF (cf X) (n + ks.length) ev (gV xs zs) H1 Q E)
    (ke := fun es env S => if ds.length = n ∧ es.length = ks.length then ev (ds ++ es) S else .bad) (stk.weaken (fun _ _ h => nomatch h) List.nil_prefix) fun F2 μ2 zs ys s2 p2 r2 => ?_
  intro σ env F μ S H Q s p eR rel want
  dsimp only at want
  split at want
  · rename_i h
    have r1' := r1.mono (s2.trans s) (p2.trans p)
    have r2' := r2.mono s p
    have r3 := g1 F μ xs zs ds ys r1' r2'
    exact ⟨by rw [r1'.length]; exact h.1, by rw [r2'.length]; exact h.2, by rw [r3.length, List.length_append, h.1, h.2], F, μ, S, ds ++ ys, r3, rel, want_of_callee hE want⟩
  · exact want.elim
/-! ## int(x) of a number, of a truth -/
def dInt : List D → Option D | [.int i] => some (.int i) | [.bl k] => some (.int (if k then 1 else 0)) | _ => none
theorem cb_int : GCb X (.type "int") dInt := by
  refine ⟨_, call_int1, fun F μ S H xs ds d Q rel rx e k => ?_⟩
  match ds, rx with
  | [.int i], .cons (.int _) .nil => cases e; exact .inl ⟨i, rfl, k _ F H Ext.refl rel (.int _)⟩
  | [.bl i], .cons (.bl _) .nil => cases e; exact .inr ⟨i, rfl, k _ F H Ext.refl rel (.int _)⟩
/-! ## max(numbers, default=d) -/
theorem alike_ints (ns : List Int) : PySem.W.AlikeAll (ns.map PyData.int) :=
  ⟨fun x hx y hy => by
    obtain ⟨i, _, rfl⟩ := List.mem_map.mp hx
    obtain ⟨j, _, rfl⟩ := List.mem_map.mp hy
    rfl, fun x hx => by
    obtain ⟨i, _, rfl⟩ := List.mem_map.mp hx
    exact fun z => by cases z⟩
theorem call_maxDf {k : Nat} (hc : X.calm = true) (hr : Room k X.A) : CallRK X (.builtin "max") ["default"] (fun xs zs H Q => ∃ (a : Addr) (ns : List Int) (d : V), xs = [.ref a] ∧ zs = [d] ∧ SqL X.K H a (ns.map V.int) ∧ (ns = [] → Q d H) ∧ (∀ n r, ns = n :: r → Q (.int (r.foldl max n)) H)) := by
  intro pins s σ H xs zs us ws Q I rx rz h
  obtain ⟨a, ns, d, rfl, rfl, hs, z0, z1⟩ := h
  obtain ⟨its, rv, hl, _⟩ := I.list hs
  rw [Vals.ref1 rx]
  obtain ⟨w, rfl, rw'⟩ := vals1 rz
  have hu : X.A.units + 64 < cLine := Nat.lt_of_le_of_lt (Nat.le_refl _) hr.units
  refine PySem.W.max_list_default (I.ok.hd hc) hl.isList (PySem.W.readsAll_of_ints rv.ints) (alike_ints ns) (by rw [PyProof.Rows.depthAll_ints]; omega) (fun e h' tk hk => ⟨d, H, I.kept hk, rw', z0 (by simpa using e)⟩) fun y ys i v h' tk bs e hv r hk => ?_
  cases ns with
  | nil => cases e
  | cons n q =>
    obtain ⟨rfl, rfl⟩ := List.cons.inj e
    rw [PySem.W.maxD_ints] at r
    cases r
    exact ⟨.int _, H, I.kept hk, ⟨_, rfl⟩, z1 n q rfl⟩
def dMaxDf : List D → List D → Option D
  | [x], [d] => (oneL D.ints [x]).map fun ns => match ns with | [] => d | n :: r => .int (r.foldl max n)
  | _, _ => none
def eMaxDf (a ak : AV) : EV := fun env S => (a env S).bind fun ds S1 => (ak env S1).bind fun es S2 => optR (dMaxDf ds es) S2
theorem ge_maxDf {k : Nat} {x : Str} {e : Expr} {es : List Expr} {kws : List Keyword} {av ak : AV} {p pos : Pos} (hr : Room k X.A) (hm : X.mg x = none) (ha : GA X W (e :: es) av) (hk : GK X W kws ak) (hc : X.calm = true := by rfl) (hv : bootBuiltins x = some (.builtin "max") := by decide +kernel) (hg : Gl X x := by rfl)
    (hn : x ≠ "__name__" := by decide) (hdb : (x == ("__debug__" : Str)) = false := by decide) (he : backTo pos (starEach (e :: es) X.env) = (false, eval e X.env) :: backTo pos (starEach es X.env) := by rfl) (hpl : (backTo pos (starEach (e :: es) X.env)).any (·.1) = false := by rfl)
    (hall : (backToKw pos (keywordEach kws X.env)).all (·.1.isSome) = true := by rfl) (hnone : (backToKw pos (keywordEach kws X.env)).any (·.1.isNone) = false := by rfl) (hks : (backToKw pos (keywordEach kws X.env)).filterMap (·.1) = [("default" : Str)] := by rfl) :
    GE X W (.Call (.Name x p) (e :: es) kws pos) (eMaxDf av ak) := by
  obtain ⟨t, pt, st⟩ := ha
  obtain ⟨tk, ptk, stk⟩ := hk
  refine ⟨_, pe_callBK (call_maxDf hc hr) hg hm hv pt ptk hn hdb he hpl hall hnone hks, ?_⟩
  refine Sm.bind (kt := fun vs σ H1 (Q : VK) => tk σ H1 fun zs H2 => ∃ (a : Addr) (ns : List Int) (d : V), vs = [.ref a] ∧ zs = [d] ∧ SqL X.K H2 a (ns.map V.int) ∧ (ns = [] → Q d H2) ∧ (∀ n r, ns = n :: r → Q (.int (r.foldl max n)) H2))
    (ke := fun ds env S => (ak env S).bind fun es S2 => optR (dMaxDf ds es) S2) st fun F1 μ1 xs ds s1 p1 r1 => ?_
  refine Sm.bind (kt := fun zs σ H2 (Q : VK) => ∃ (a : Addr) (ns : List Int) (d : V), xs = [.ref a] ∧ zs = [d] ∧ SqL X.K H2 a (ns.map V.int) ∧ (ns = [] → Q d H2) ∧ (∀ n r, ns = n :: r → Q (.int (r.foldl max n)) H2))
    (ke := fun es env S => optR (dMaxDf ds es) S) (stk.weaken (fun _ _ h => nomatch h) List.nil_prefix) fun F2 μ2 zs ys s2 p2 r2 => ?_
  intro σ env F μ S H Q s p eR rel want
  have r1' := r1.mono (s2.trans s) (p2.trans p)
  have r2' := r2.mono s p
  match ds, ys, xs, zs, r1', r2', want with
  | [x], [d], [vx], [vd], rx, .cons rd .nil, want =>
    change Want _ W _ σ F μ H Q (optR (dMaxDf [x] [d]) S) at want
    cases em : dMaxDf [x] [d] with
    | none => rw [em] at want; exact want.elim
    | some m =>
      rw [em] at want
      obtain ⟨ns, e0, rfl⟩ := map_some em
      obtain ⟨ad, vs, es, e9, hq, r, e1⟩ := oneL_ok rx e0
      cases e9
      have e2 := ints_eq e1
      subst e2
      have e3 := r.ints
      subst e3
      refine ⟨ad, ns, vd, rfl, rfl, rel.sql hq, fun z => ?_, fun n q z => ?_⟩
      · subst z
        exact want vd F μ H Ext.refl rel rd
      · subst z
        exact want (.int _) F μ H Ext.refl rel (.int _)
  | [], _, _, _, _, _, want => exact want.elim
  | _ :: _ :: _, _, _, _, _, _, want => exact want.elim
  | [_], [], _, _, _, _, want => exact want.elim
  | [_], _ :: _ :: _, _, _, _, _, want => exact want.elim
end
/-- a law whose program has no table of codes -/
theorem start_rel0 {K : PySem.W.Frag} {mg : Str → Option Value} {H : Hp} {a : Addr} {ns : List Int} (hS : SqL K H a (ns.map V.int)) :
    ∃ F, Rel ⟨K, mg⟩ F [] [] H ∧ RD ⟨K, mg⟩ F [] (.ref a) (.fix (ns.map D.int)) :=
  ⟨H, ⟨fun b o e => e, rfl, .nil, fun n b m e1 e2 e3 => by simp at e1, fun b hb => by simp at hb, fun n b m e1 e2 => by simp at e1⟩, .fix hS (RDs.of_ints ns)⟩
end Sm
set_option Elab.async false
set_option linter.all false
set_option maxRecDepth 100000
namespace Sm
open PySem PySem.Spec L2
section
variable {X : Cx} {W : WX} {pos : Pos}
/-! ## slices of texts -/
def slS : SlV := fun d lo hi => match d with | .str z => if z.length ≤ 16777216 then some (.str (cutS z lo hi)) else none | _ => none
theorem gsl_str : GSl X slS := by
  refine ⟨_, sl_str, fun F μ S H x dx lo hi d Q rel rx e k => ?_⟩
  cases rx with
  | str z =>
    change (if z.length ≤ 16777216 then some (D.str (cutS z lo hi)) else none) = some d at e
    split at e
    · rename_i hz
      cases e
      exact ⟨z, rfl, le_line hz, k _ F H Ext.refl rel (.str _)⟩
    · cases e
  | _ => cases e
/-! ## list(x), a list that changes -/
def aListH : List D → Sto → Res D := fun ds S => match ds with
  | [x] => match dSq x with | some es => .ok (.hnd S.length) (S ++ [.lst es]) | none => .bad
  | _ => .bad
theorem ar_listH : ∃ r, CallR X (.type "list") r ∧ ArSm (cf X) r aListH := by
  refine ⟨_, call_list_of, fun F μ S H xs ds Q rel rx want => ?_⟩
  match ds, rx with
  | [x], .cons rx .nil =>
    change Want _ _ _ _ _ _ _ _ (match dSq x with | some es => (.ok (.hnd S.length) (S ++ [.lst es]) : Res D) | none => .bad) at want
    cases e : dSq x with
    | none => rw [e] at want; exact want.elim
    | some es =>
      rw [e] at want
      obtain ⟨a, vs, rfl, hq, r⟩ := rx.seq rel e
      refine ⟨a, vs, rfl, hq, fun l hl => ?_⟩
      obtain ⟨rl, xl, last⟩ := rel.newH (o := .lst vs) (m := .lst es) hl ⟨vs, upd_same, r.mono (Sub.refl _) (List.prefix_append _ _)⟩
      exact want (.ref l) _ _ _ xl rl (.hnd last)
  | [], _ => exact want.elim
  | _ :: _ :: _, _ => exact want.elim
theorem ge_listH {x : Str} {e : Expr} {p : Pos} {av : AV} (hm : X.mg x = none) (ha : GA X W [e] av) (hv : bootBuiltins x = some (.type "list") := by decide +kernel) (hg : Gl X x := by rfl) (hn : x ≠ "__name__" := by decide) (hdb : (x == ("__debug__" : Str)) = false := by decide)
    (he : starEach [e] X.env = (false, eval e X.env) :: starEach [] X.env := by rfl) (hpl : (backTo pos (starEach [] X.env)).any (·.1) = false := by rfl) : GE X W (.Call (.Name x p) [e] [] pos) (eAr aListH av) := by
  obtain ⟨r, o, s⟩ := ar_listH (X := X)
  obtain ⟨t, pt, st⟩ := ha
  exact ⟨_, pe_callTy o hg hm hv pt hn hdb he hpl, sm_ar s st⟩
/-! ## a list that changes, beside another one -/
def eqH (n : Bool) : OV2 := fun p q S => match p with
  | .hnd i => match S[i]? with
    | some (.lst ds) => optR (eqP n (.lst ds) q) S
    | _ => .bad
  | _ => .bad
theorem go_neH {k : Nat} (hr : Room k X.A) : GOp X (compareOp .NotEq) (eqH true) := by
  refine ⟨_, op_neD hr.units, fun F μ S H x y dx dy Q rel rx ry want => ?_⟩
  cases rx with
  | hnd hn =>
    rename_i a i
    change Want _ _ _ _ _ _ _ _ (match S[i]? with | some (.lst ds) => optR (eqP true (.lst ds) dy) S | _ => .bad) at want
    cases e : S[i]? with
    | none => rw [e] at want; exact want.elim
    | some m =>
      rw [e] at want
      cases m with
      | lst ds =>
        dsimp only at want
        cases e2 : eqP true (.lst ds) dy with
        | none => rw [e2] at want; exact want.elim
        | some d =>
          rw [e2] at want
          obtain ⟨vs, ho, r⟩ := rel.at_ i a _ hn e
          obtain ⟨rl, xl, sF⟩ := rel.stay hn e (fun z => by cases z) ho (fun b z => by cases z)
          obtain ⟨p, q, e3, e4, s1, s2, rfl⟩ := eqP_ok e2
          have rx' : RD (cf X) (upd F a (.lst vs)) μ (.ref a) (.lst ds) := .lst upd_same (r.mono sF (List.prefix_refl _))
          refine ⟨p, q, rx'.dp rl e3, ry.dp rel e4, s1, s2, ?_⟩
          simpa using want (.bl _) F μ H Ext.refl rel (.bl _)
      | _ => exact want.elim
  | _ => exact want.elim
/-! ## x or y, of numbers and None -/
def eOrT (a b : EV) : EV := fun env S => (a env S).bind fun d S1 => match d with
  | .non => b env S1
  | .int i => if i = 0 then b env S1 else .ok (.int i) S1
  | _ => .bad
theorem ge_orT {a b : Expr} {rest : List Expr} {ea eb : EV} (ha : GE X W a ea) (hb : GE X W (.BoolOp .Or (b :: rest) pos) eb) : GE X W (.BoolOp .Or (a :: b :: rest) pos) (eOrT ea eb) := by
  obtain ⟨_, p, s⟩ := ha
  obtain ⟨tb, p', s'⟩ := hb
  refine ⟨_, pe_orT p p', Sm.bind (kt := fun x σ H1 Q => ∃ k, TruV X.K x H1 k ∧ if k = true then Q x H1 else tb σ H1 Q)
    (ke := fun d env S1 => match d with | .non => eb env S1 | .int i => if i = 0 then eb env S1 else .ok (.int i) S1 | _ => .bad) s fun F1 μ1 x dx s1 p1 r1 => ?_⟩
  cases r1 with
  | non => exact fun σ env F μ S H Q s0 p0 eR rel w => ⟨false, by simp [TruV], s'.weaken s1 p1 σ env F μ S H Q s0 p0 eR rel w⟩
  | int i =>
    intro σ env F μ S H Q s0 p0 eR rel w
    change Want _ _ _ _ _ _ _ _ (if i = 0 then eb env S else .ok (.int i) S) at w
    by_cases h : i = 0
    · rw [if_pos h] at w
      exact ⟨false, by subst h; simp [TruV], s'.weaken s1 p1 σ env F μ S H Q s0 p0 eR rel w⟩
    · rw [if_neg h] at w
      exact ⟨true, by simp [TruV, h], w (.int i) F μ H Ext.refl rel (.int _)⟩
  | _ => exact sm_bad
end
end Sm
set_option Elab.async false
set_option linter.all false
set_option maxRecDepth 100000
set_option maxHeartbeats 4000000
/-! own exceptions over KeyError, IndexError, .. : the bases' facts -/
namespace Sm.Xb
open PySem PySem.F PySem.HandSPX
abbrev keyTail : List Value := [.type "KeyError", .type "LookupError", .type "Exception", .type "BaseException", .type "object"]
theorem passKey (self : Value) : refuseLoop self "__setattr__" keyTail = pure () := by kernel_rfl
/-- a base of ours: who makes its things, its row of classes -/
structure Base (newId : String) (bm : List Value) : Prop where
  ex : ∃ B initId bmB, ExcBaseFacts B newId initId bmB ∧ bm.contains (.type B) = true
  noA : bm.contains (.type "AttributeError") = false
  noN : bm.contains (.type "NameError") = false
  pass : ∀ self : Value, refuseLoop self "__setattr__" bm = pure ()
  ob : bm.contains (.type "object") = true
theorem bKey : Base "LookupError.__new__" keyTail := ⟨⟨_, _, _, excBase_LookupError, by decide +kernel⟩, by decide +kernel, by decide +kernel, passKey, by decide +kernel⟩
theorem bVal : Base "ValueError.__new__" [.type "ValueError", .type "Exception", .type "BaseException", .type "object"] := ⟨⟨_, _, _, excBase_ValueError, by decide +kernel⟩, by decide +kernel, by decide +kernel, store_ValueError.passes, by decide +kernel⟩
theorem bIdx : Base "IndexError.__new__" [.type "IndexError", .type "LookupError", .type "Exception", .type "BaseException", .type "object"] := ⟨⟨_, _, _, excBase_IndexError, by decide +kernel⟩, by decide +kernel, by decide +kernel, store_IndexError.passes, by decide +kernel⟩
theorem bLook : Base "LookupError.__new__" [.type "LookupError", .type "Exception", .type "BaseException", .type "object"] := ⟨⟨_, _, _, excBase_LookupError, by decide +kernel⟩, by decide +kernel, by decide +kernel, store_LookupError.passes, by decide +kernel⟩
theorem bAri : Base "ArithmeticError.__new__" [.type "ArithmeticError", .type "Exception", .type "BaseException", .type "object"] := ⟨⟨_, _, _, excBase_ArithmeticError, by decide +kernel⟩, by decide +kernel, by decide +kernel, store_ArithmeticError.passes, by decide +kernel⟩
theorem bRun : Base "RuntimeError.__new__" [.type "RuntimeError", .type "Exception", .type "BaseException", .type "object"] := ⟨⟨_, _, _, excBase_RuntimeError, by decide +kernel⟩, by decide +kernel, by decide +kernel, store_RuntimeError.passes, by decide +kernel⟩
/-- the bases that the program's refusals have -/
def basesB : List (String × List Value) := [("LookupError.__new__", keyTail), ("ValueError.__new__", [.type "ValueError", .type "Exception", .type "BaseException", .type "object"]),
  ("IndexError.__new__", [.type "IndexError", .type "LookupError", .type "Exception", .type "BaseException", .type "object"]), ("LookupError.__new__", [.type "LookupError", .type "Exception", .type "BaseException", .type "object"]),
  ("ArithmeticError.__new__", [.type "ArithmeticError", .type "Exception", .type "BaseException", .type "object"]), ("RuntimeError.__new__", [.type "RuntimeError", .type "Exception", .type "BaseException", .type "object"])]
theorem base_of : ∀ {p : String × List Value}, p ∈ basesB → Base p.1 p.2 := by
  intro p hp
  simp only [basesB, List.mem_cons, List.not_mem_nil, or_false] at hp
  rcases hp with rfl | rfl | rfl | rfl | rfl | rfl
  · exact bKey
  · exact bVal
  · exact bIdx
  · exact bLook
  · exact bAri
  · exact bRun
section
variable {P : Program} {w : World} {Ar : Around} {Er : Value → Shared → Prop} {Rs : Result → Shared → Prop} {h0 : Heap} {gs : Array GenState} {dr : Drawn} {tn : Nat} {ws : OsState}
variable {nm q : Str} {C N : Addr} {bs bm bmB : List Value} {hy : Bool} {sn : List Str} {sub : List Value} {ab : Bool} {col : Option Bool} {dd : Option Addr} {k0 k1 k2 k3 k5 : Option Value} {B newId initId : String}
/-- the check ahead of C's making -/
theorem made_check {M : Model} (FB : ExcBaseFacts B newId initId bmB) (cB : bm.contains (.type B) = true) {rest : List Value} {Q : Unit → Shared → Prop} (eC : h0.get? C = some (excClassObj nm q C N bs bm hy sn sub ab col dd k0 k1 k2 k3 k5 newId)) (then_ : Q () ⟨h0, gs, dr, tn, ws⟩) :
    wpAny M Ar (checkBuiltinCall newId ⟨.ref C :: rest, []⟩) Q Er ⟨h0, gs, dr, tn, ws⟩ := by
  have c1 : (Value.ref C :: bm).contains (.type B) = true := by rw [List.contains_cons, cB, Bool.or_true]
  have st := FB.noStar
  simp only [checkBuiltinCall, FB.newKind, FB.newSplit, FB.newRow]
  repeat (first | refine wpAny_loadPart_at eC ?_ | (refine wpAny_isSubtype_exc eC ?_; rw [c1]) | refine wpAny_staticBase_exc eC ?_ | refine wpAny_madeBy_exc eC ?_ | simp only [bne_self_eq_false, Bool.false_eq_true, if_false] | wp_step)
  exact then_
/-- the empty thing -/
theorem made_new (FB : ExcBaseFacts B newId initId bmB) (cB : bm.contains (.type B) = true) (nA : bm.contains (.type "AttributeError") = false) (nN : bm.contains (.type "NameError") = false) {rest : List Value} (eC : h0.get? C = some (excClassObj nm q C N bs bm hy sn sub ab col dd k0 k1 k2 k3 k5 newId))
    (then_ : Rs (.ok (.ret (.ref (h0.objs.size + 1)))) ⟨(h0.push { cls := .type "tuple", data := .seq rest.toArray }).push { cls := .ref C, data := .fields #[.ref h0.objs.size, .none, .none, .none, .bool false, .none] }, gs, dr, tn, ws⟩) (few : rest.length ≤ sizeLine) :
    codeAny (model P w) Ar (.builtin newId ⟨.ref C :: rest, []⟩) Rs ⟨h0, gs, dr, tn, ws⟩ := by
  have en := FB.ends
  have c1 : (Value.ref C :: bm).contains (.type B) = true := by rw [List.contains_cons, cB, Bool.or_true]
  have c2 : (Value.ref C :: bm).contains (.type "AttributeError") = false := by rw [List.contains_cons, nA]; rfl
  have c3 : (Value.ref C :: bm).contains (.type "NameError") = false := by rw [List.contains_cons, nN]; rfl
  refine codeAny_builtinAt FB.entry ?_
  unfold Builtin.«BaseException.__new__»
  refine wpAt_bind ?_
  change wpAt _ _ _ (stack >>= _) _ _ _
  refine wpAt_bind (wpAt_stack fun p below => wpAt_of_wpAny ?_)
  wp_walk
  refine wpAt_of_wpAny ?_
  rw [FB.owner]
  repeat (first | with_reducible refine wpAny_madeHere_exc FB.canon eC ?_ | with_reducible refine wpAny_loadPart_at eC ?_ | (with_reducible refine wpAny_isSubtype_exc eC ?_; first | rw [c1] | rw [c2] | rw [c3]) | wp_step)
  change Rs _ _
  rw [Heap.size_push]
  exact then_
/-- it is made, then its own __init__ runs -/
theorem made_type (bas : Base newId bm) {rest : List Value} {fI : Addr} {Q : Fin → Shared → Prop} (eC : h0.get? C = some (excClassObj nm q C N bs bm hy sn sub ab col dd k0 k1 k2 k3 k5 newId))
    (li : W.Looks (model P w) h0 (typeLookup (.ref C) "__init__") (some (.ref fI))) (lb : ∀ self, W.Looks (model P w) h0 (bindSpecial (.ref fI) self) (.ref fI, [self])) (few : rest.length ≤ sizeLine)
    (then_ : codeAny (model P w) Ar (.call (.ref fI) ⟨.ref (h0.objs.size + 1) :: rest, []⟩) (fun r s' => match r with | .ok (.ret v) => v = .none ∧ Q (.done (.ret (.ref (h0.objs.size + 1)))) s' | .ok _ => False | .error e => Er e s')
      ⟨(h0.push (W.kdv_tup rest)).push (excO C h0.objs.size), gs, dr, tn, ws⟩) : wpAny (model P w) Ar (Builtin.«type.__call__» ⟨.ref C :: rest, []⟩) Q Er ⟨h0, gs, dr, tn, ws⟩ := by
  obtain ⟨⟨B, initId, bmB, FB, cB⟩, nA, nN, _, _⟩ := bas
  repeat (first | with_reducible refine wpAny_loadPart_at eC ?_ | with_reducible refine wpAny_madeBy_exc eC ?_ | wp_step)
  refine codeAny_call_builtin_code (Code.quiet_builtin _ FB.quiet) (made_check FB cB eC ?_)
  refine made_new FB cB nA nN eC ?_ few
  change wpAny _ _ _ _ _ _
  have k : ∀ b o, h0.get? b = some o → ((h0.push (W.kdv_tup rest)).push (excO C h0.objs.size)).get? b = some o := fun b o e => Heap.get?_push_of_some _ (Heap.get?_push_of_some _ e)
  have eC1 := k _ _ eC
  have got : ((h0.push (W.kdv_tup rest)).push (excO C h0.objs.size)).get? (h0.objs.size + 1) = some (excO C h0.objs.size) := by heap_get
  have cc : (Value.ref C :: bm).contains (.ref C) = true := by simp
  have i1 := li.keeps k
  have b1 := (lb (.ref (h0.objs.size + 1))).keeps k
  unfold isInstance
  repeat (first | with_reducible refine wpAny_loadPart_at got ?_ | (with_reducible refine wpAny_isSubtype_exc eC1 ?_; rw [cc]) | wp_step)
  change wpAny _ _ (typeLookup (.ref C) _) _ _ _
  refine i1.at ?_
  refine wpAny_holding (wpAny_bind (b1.at ?_))
  refine wpAny_bind (wpAny_call (codeAny_mono then_ fun r s' z => ?_))
  rcases r with e | (v | _ | _ | _) <;> first | exact z | exact z.elim | skip
  obtain ⟨rfl, z⟩ := z
  first
    | exact wpAny_pure (wpAny_pure z)
    | (wp_walk; exact z)
theorem made_call (bas : Base newId bm) {rest : List Value} {fI : Addr} (eC : h0.get? C = some (excClassObj nm q C N bs bm hy sn sub ab col dd k0 k1 k2 k3 k5 newId))
    (li : W.Looks (model P w) h0 (typeLookup (.ref C) "__init__") (some (.ref fI))) (lb : ∀ self, W.Looks (model P w) h0 (bindSpecial (.ref fI) self) (.ref fI, [self])) (few : rest.length ≤ sizeLine)
    (then_ : codeAny (model P w) (Ar.under (.builtin "type.__call__" ⟨.ref C :: rest, []⟩)) (.call (.ref fI) ⟨.ref (h0.objs.size + 1) :: rest, []⟩) (W.InitBack (h0.objs.size + 1) Rs) ⟨(h0.push (W.kdv_tup rest)).push (excO C h0.objs.size), gs, dr, tn, ws⟩) :
    codeAny (model P w) Ar (.call (.ref C) ⟨rest, []⟩) Rs ⟨h0, gs, dr, tn, ws⟩ := by
  have l1 := tc_lookup
  have l2 := tc_bind (.ref C)
  have lt : (⟨h0, gs, dr, tn, ws⟩ : Shared).TypeIs (.ref C) "type" := ⟨_, eC, rfl⟩
  refine codeAny_of_tree ?_
  change wpAny _ _ (callAny (.ref C) _) _ _ _
  repeat (any_goals (first | assumption | with_reducible refine wpAny_loadPart_at eC ?_ | wp_step))
  refine ⟨rfl, ?_⟩
  refine codeAny_call_builtin_at (Code.quiet_builtin _ (by decide +kernel)) entry_typeCall (wpAny_check_type_call_sub eC (made_type bas eC li lb few ?_))
  refine codeAny_mono then_ fun r s' z => ?_
  rcases r with e | (v | _ | _ | _) <;> exact z
end
end Sm.Xb
set_option Elab.async false
set_option linter.all false
set_option maxRecDepth 100000
set_option maxHeartbeats 4000000
/-! own exceptions over any of our bases: their fields, their making -/
namespace Sm.Xb
open PySem PySem.W PySem.Calls PyProof.Rows PySem.HandSPX PySem.Builtin PySem.Builtin.ObjectAttr
section
variable {P : Program} {w : World} {Ar : Around} {Rs : Result → Shared → Prop} {h0 : Heap} {gs : Array GenState} {dr : Drawn} {tn : Nat} {ws : OsState}
/-- x.name = v by object's own way, on an exception without a dict -/
theorem first_field {K : W.Frag} {nm : Str} {tk : Tok} {v : Value} {x C : Addr} {flds : Array Value} {cd : ClassData} (kin : K.In h0) (ex : h0.get? x = some { cls := .ref C, data := .fields flds }) (ec : W.clsIn K C = some cd)
    (ps : ∀ self : Value, refuseLoop self "__setattr__" cd.mro = pure ()) (ne : cd.mro.isEmpty = false) (ob : cd.mro.contains (.type "object") = true) (dy : cd.hasDict = true) (no : W.findIn K (.ref C) nm = some none)
    (then_ : ∀ h' tk' dx, (∀ b o, b ≠ x → h0.get? b = some o → h'.get? b = some o) → h0.objs.size ≤ dx → dx ≠ x → h'.get? x = some { cls := .ref C, dict := some dx, data := .fields flds } →
      h'.Ns1 dx (fun y => if y = nm then some v else none) → Rs (.ok (.ret .none)) ⟨h', gs, dr, tk', ws⟩) :
    codeAny (model P w) Ar (.call (.builtin "object.__setattr__") ⟨[.ref x, .str nm tk, v], []⟩) Rs ⟨h0, gs, dr, tn, ws⟩ := by
  have inst : W.InstAt h0 x { cls := .ref C, data := .fields flds } C none := ⟨ex, rfl, rfl, trivial⟩
  have st := PySem.F.store_object
  have xs : x ≠ h0.objs.size := Nat.ne_of_lt (Heap.lt_size ex)
  have lsub : W.Looks (model P w) h0 (isInstance (.ref x) (.type "object")) true := inst.type.andThen (W.looks_mroIn kin (by unfold W.mroIn; rw [ec, Option.bind_some, if_neg (by rw [ne]; decide), ob]))
  refine codeAny_call_builtin st.slot.plain st.entry (@W.check_slot (model P w) _ _ ⟨h0, gs, dr, tn, ws⟩ "object.__setattr__" "object" "__setattr__" (.ref x) [.str nm tk, v] [] _ st.kind st.split lsub (st.args (.ref x) (.str nm tk) v) ?_)
  have lmro : W.Looks (model P w) h0 (mroOf (.ref C)) cd.mro := (W.looks_clsIn kin ec).andThen .now
  have ltk : W.Looks (model P w) h0 (storeTaker? none) none := .now
  have lcls : W.Looks (model P w) h0 (classData C) cd := W.looks_clsIn kin ec
  rw [W.osa_eq, refuse_eq]
  refine wpAny_bind (wpAny_bind (inst.type.at (wpAny_bind (lmro.at ?_))))
  rw [ps]
  refine wpAny_pure (wpAny_bind (inst.type.at (wpAny_bind ((W.looks_findIn kin no).at (wpAny_bind (ltk.at ?_))))))
  change wpAny _ _ (storeInOwnDict (.ref x) (.ref C) (.str nm tk) nm v false) _ _ _
  obtain ⟨z0, z1, z2, z3, z4, hd, z6, z7, z8, z9, z10⟩ := cd
  dsimp only at dy
  subst dy
  unfold storeInOwnDict ownDictForStores
  repeat (first | with_reducible refine store_in_new ?_ ?_ | with_reducible refine wpAny_loadPart_at ex ?_ | with_reducible refine lcls.at ?_ | wp_step)
  · exact ⟨_, #[], _, (Heap.get?_update_ne _ _ _ _ xs.symm).trans (Heap.get?_push_at rfl rfl), rfl, fun e he => absurd he (by simp), fun _ => rfl⟩
  · intro h' tk' ns' same
    have ex' : (h0.push { cls := .type "dict", data := .dict #[] }).get? x = some { cls := .ref C, data := .fields flds } := Heap.get?_push_of_some _ ex
    refine then_ h' tk' h0.objs.size (fun b o hb ho => ?_) (Nat.le_refl _) xs.symm ?_ ns'
    · exact (same.2 b (Nat.ne_of_lt (Heap.lt_size ho))).trans ((Heap.get?_update_ne _ _ _ _ hb).trans (Heap.get?_push_of_some _ ho))
    · exact (same.2 x xs).trans (Heap.get?_update_self _ ex' rfl)
end
end Sm.Xb
namespace Sm
open PySem PySem.Spec PyProof.Rows L2
/-- what the written part says of an own exception's class -/
structure OexG (K : PySem.W.Frag) (C : Addr) : Prop where
  cls : ∃ nm q N bs bm newId sn sub ab col dd k0 k1 k2 k3 k5, K.lookup C = some (excClassObj nm q C N bs bm true sn sub ab col dd k0 k1 k2 k3 k5 newId) ∧ Xb.Base newId bm
  sa : PySem.W.findIn K (.ref C) "__setattr__" = some (some (.builtin "object.__setattr__"))
  exC : PySem.W.subIn K (.ref C) (.type "BaseException") = some true
  tyC : PySem.W.typeIn K (.ref C) = some (.type "type")
  kC : PySem.W.keepIn K (.ref C) = true
section
variable {X : Cx} {pins : List (Addr × Obj)} {σ : L2.St} {H : Hp} {s : Shared} {a C : Addr} {f : Str} {y : V} {u : Value} {Q : Unit → Shared → Prop} {Er : Value → Shared → Prop} {Ar : Around}
/-- self.f = y, the first field -/
theorem gst_new (T : OexG X.K C) (inv : Inv X pins σ H s) (ea : H a = some (exo a C none)) (no : PySem.W.findIn X.K (.ref C) f = some none) (ry : RelV y u)
    (k : ∀ dx s', H dx = none → dx ≠ a → Inv X pins σ (upd (upd H dx (exd dx [(f, y)])) a (exo a C (some dx))) s' → Q () s') : wpAny (model X.prog X.w) Ar (setAttr (.ref a) f u) Q Er s := by
  obtain ⟨nm, q, N, bs, bm, nid, sn, sub, ab, col, dd, k0, k1, k2, k3, k5, eC, bas⟩ := T.cls
  have ecl : PySem.W.clsIn X.K C = some { name := nm, bases := bs, mro := .ref C :: bm, ns := N, qualname := q, hasDict := true, slotNames := sn, subclasses := sub, abstract := ab, collection := col, hasDel := false } := by unfold PySem.W.clsIn; rw [eC] <;> rfl
  obtain ⟨t1, ho⟩ := exo_at inv.hok ea
  obtain ⟨h0, gs, dr, tn, ws⟩ := s
  refine PySem.W.set_plain inv.kIn (ox := { cls := .ref C, dict := none, data := .fields #[.ref t1, .none, .none, .none, .bool false, .none] }) (od := none) ⟨ho, rfl, rfl, trivial⟩ T.sa ?_
  refine Xb.first_field inv.kIn ho ecl (fun self => by rw [refuseLoop_ref]; exact bas.pass self) rfl (by rw [List.contains_cons, bas.ob, Bool.or_true]) rfl no (fun h' tk' dx kp dn dne hx hn => ?_)
  have hnd : H dx = none := inv.hok.fresh dn
  have nd : ∀ {b : Addr} {o : Obj}, h0.get? b = some o → b ≠ dx := fun {b o} q => Nat.ne_of_lt (Nat.lt_of_lt_of_le (Heap.lt_size q) dn)
  have na : ∀ {b : Addr}, H b = none → b ≠ a := fun {b} n z => by rw [z, ea] at n; cases n
  have lost : Un X.fs [] H (upd (upd H dx (exd dx [(f, y)])) a (exo a C (some dx))) h0 h' := {
    keep := fun b o q n _ _ => kp b o (na n) q, slot := fun b o q n _ _ => ⟨o.slots, kp b o (na n) q⟩
    free := fun b o q n _ => by rw [upd_ne (na n), upd_ne (nd q)]; exact n
    there := fun b o q _ => by
      by_cases hb : b = a
      · exact ⟨_, by rw [hb]; exact hx⟩
      · exact ⟨o, kp b o hb q⟩
    tups := fun b xs q => by rw [upd_ne (at_ne ea q exo_tup), upd_ne (ne_of_none q hnd)]; exact q
    frzs := fun b o v q => by rw [upd_ne (at_ne ea q exo_frz), upd_ne (ne_of_none q hnd)]; exact q
    tbls := fun b ps q => ⟨#[], by rw [upd_ne (at_ne ea q exo_tbl), upd_ne (ne_of_none q hnd), q]; simp⟩ }
  refine k dx _ hnd dne (inv.un (t' := tk') lost fun b o q => ?_)
  by_cases hb : b = a
  · subst hb; rw [upd_same] at q; cases q; exact exo_ok hx
  · rw [upd_ne hb] at q
    by_cases hd : b = dx
    · subst hd; rw [upd_same] at q; cases q
      exact exd_ok hn (relO_put (fs := []) ry fun g => True.intro)
    · rw [upd_ne hd] at q
      exact (inv.hok b o q).stay (fun c v hc z => kp c v (hc.elim (fun e => by rw [e]; exact hb) fun e => at_ne ea e exo_own) z)
        (fun c hc => by rw [upd_ne (at_ne ea hc exo_own), upd_ne (ne_of_none hc hnd)]; exact hc) (fun c xs hc => by rw [upd_ne (at_ne ea hc exo_tup), upd_ne (ne_of_none hc hnd)]; exact hc)
/-- .. as a statement's reading -/
def tGst (K : PySem.W.Frag) (f : Str) (to te : TE) : TS := fun D σ H => te σ H fun y H1 => to σ H1 fun x H2 => ∃ a C : Addr, x = .ref a ∧ OexG K C ∧ PySem.W.findIn K (.ref C) f = some none ∧
  H2 a = some (exo a C none) ∧ ∀ dx, H2 dx = none → dx ≠ a → D.nx σ (upd (upd H2 dx (exd dx [(f, y)])) a (exo a C (some dx)))
theorem ps_gst {o e : Expr} {to te : TE} {pos p' : Pos} (ho : PE X o to) (he : PE X e te) (hs : swapsWith e (some (.Attribute o f p')) pos.line X.env = pure false := by rfl) : PS X (.Assign [.Attribute o f p'] e pos) (tGst X.K f to te) := by
  refine ⟨fun pins s σ H D inv h => ?_⟩
  refine plainObj_wpAny_Assign_Attribute (thn (he.run pins s σ H _ inv h) fun v s1 ⟨y, H1, I1, r1, q1⟩ => thn (ho.run pins s1 σ H1 _ I1 q1) fun u s2 ⟨x, H2, I2, r2, a, C, ex, T, no, ea, q⟩ => ?_) hs
  subst ex
  obtain rfl : u = Value.ref a := r2
  exact gst_new T I2 ea no r1 fun dx s' n ne J => ⟨σ, _, J, q dx n ne⟩
/-- C(e, ..): an own __init__ that keeps sp -/
theorem pmk_g {CX : CXT} {x : Str} {fI : Addr} {k : Nat} {fd : FuncData} {ps : List Str} {sp : Sp} {e : Expr} {es : List Expr} {ta : TA} {p pos : Pos} (T : OexG X.K C) (iC : PySem.W.findIn X.K (.ref C) "__init__" = some (some (.ref fI))) (tI : PySem.W.typeIn X.K (.ref fI) = some (.type "function"))
    (F1 : FnOk X.prog X.w X.K X.mg X.base CX k fI fd ps sp) (hr : Room (k + 1) X.A) (hb : Binds X.K fd ps []) (hx : Passes CX X (fun _ _ _ => False)) (hg : Gl X x) (hm : X.mg x = some (.ref C)) (ha : PA X (e :: es) ta)
    (hdb : (x == ("__debug__" : Str)) = false := by decide) (he : starEach (e :: es) X.env = (false, eval e X.env) :: starEach es X.env := by rfl) (hpl : (backTo pos (starEach es X.env)).any (·.1) = false := by rfl) :
    PMk X (.Call (.Name x p) (e :: es) [] pos) (tMkO C sp [] ta) := by
  intro pins s σ H Q inv h
  obtain ⟨nm, q, N, bs, bm, nid, sn, sub, ab, col, dd, k0, k1, k2, k3, k5, eC, bas⟩ := T.cls
  refine wpAny_Call_Name_kw (ld_glob inv hg hm ?_ hdb)
  refine PySem.W.callWith_K (h₀ := X.base) inv.ok.mod.kin T.kC (thn (ha.run pos pins s σ H _ inv h) fun us s1 ⟨vs, H1, I1, r1, hz, q1⟩ => ⟨I1.kIn, ?_⟩) he hpl
  change wpAny _ _ (call (.ref C) us) _ _ _
  obtain ⟨h0, gs, dr, tk, ws⟩ := s1
  have sz : h0.objs.size ≤ h0.objs.size + 1 := Nat.le_succ _
  have hn : H1 (h0.objs.size + 1) = none := I1.hok.fresh sz
  have hq := q1 (h0.objs.size + 1) hn
  have kk : ∀ b o, h0.get? b = some o → ((h0.push (PySem.W.kdv_tup us)).push (PySem.HandSPX.excO C h0.objs.size)).get? b = some o := fun b o e => Heap.get?_push_of_some _ (Heap.get?_push_of_some _ e)
  have hget : ((h0.push (PySem.W.kdv_tup us)).push (PySem.HandSPX.excO C h0.objs.size)).get? (h0.objs.size + 1) = some (PySem.HandSPX.excO C h0.objs.size) := by heap_get
  have I2 : Inv X pins σ (upd H1 (h0.objs.size + 1) (exo (h0.objs.size + 1) C none)) ⟨(h0.push (PySem.W.kdv_tup us)).push (PySem.HandSPX.excO C h0.objs.size), gs, dr, tk, ws⟩ :=
    I1.laid (t' := tk) (a := h0.objs.size + 1) (o := exo (h0.objs.size + 1) C none) (h' := (h0.push (PySem.W.kdv_tup us)).push (PySem.HandSPX.excO C h0.objs.size)) kk sz (exo_ok hget)
  have r2 : Vals (V.ref (h0.objs.size + 1) :: vs) (Value.ref (h0.objs.size + 1) :: us) := .cons rfl r1
  rw [List.append_nil] at hq
  have hl : (Value.ref (h0.objs.size + 1) :: us).length = ps.length := r2.length.symm.trans (F1.len _ _ _ _ hq)
  have hus : us.length ≤ sizeLine := by rw [← Paired.length r1, sizeLine_eq]; omega
  have b2 := hb _ (Value.ref (h0.objs.size + 1) :: us) I2.kIn (by rw [List.append_nil]; exact hl)
  rw [List.append_nil] at b2
  refine wpAny_call (Xb.made_call bas (I1.kIn _ _ eC) (PySem.W.looks_findIn I1.kIn iC) (fun self => PySem.W.bind_fn I1.kIn self tI) hus
    (codeAny_mono (F1.run _ X.stack _ _ ⟨Value.ref (h0.objs.size + 1) :: us, []⟩ (Value.ref (h0.objs.size + 1) :: us) _ _ (fun _ _ _ => False) (hr.make C us []) (I2.env0.make C us []) b2 r2 hq) fun r s' hq' => ?_))
  cases r with
  | error er => exact hx pins σ _ _ er s' I2 hq'
  | ok fl =>
    cases fl with
    | ret u =>
      obtain ⟨v, H2, os2, bare2, un2, hok2, rv, ev, d, fs, ea, ed, hd1, q2⟩ := hq'
      subst ev
      obtain ⟨h2, g2, d2, t2, os'⟩ := s'
      exact ⟨rv, mk_end (raises_own T.exC T.tyC) I1 sz kk un2 hok2 os2 bare2 ea ed hd1 q2⟩
    | next => exact hq'.elim
    | brk => exact hq'.elim
    | cont => exact hq'.elim
end
end Sm
set_option Elab.async false
set_option linter.all false
set_option maxRecDepth 100000
set_option maxHeartbeats 1000000
/-! raise C(e) of an own class; try: one statement, except C as e: suite, .. -/
namespace Sm
open PySem PySem.Spec PyProof.Rows L2
/-! ## raise -/
/-- C.__init__(self, x): self.f = x -/
def spX (C : Addr) (f : Str) : Sp := fun vs H Q _ => ∃ (a : Addr) (x : V), vs = [.ref a, x] ∧ H a = some (exo a C none) ∧ ∀ dx, H dx = none → dx ≠ a → Q .non (upd (upd H dx (exd dx [(f, x)])) a (exo a C (some dx)))
structure MoX (P : Program) (w : World) (K : PySem.W.Frag) (mg : Str → Option Value) (base : Heap) (C f : Str) : Prop where
  ex : ∃ (cl fI : Addr) (fd : FuncData) (ps : List Str), mg C = some (.ref cl) ∧ OexG K cl ∧ PySem.W.findIn K (.ref cl) "__init__" = some (some (.ref fI)) ∧ PySem.W.typeIn K (.ref fI) = some (.type "function") ∧
    FnOk P w K mg base (L2.CX P w) 1 fI fd ps (spX cl f) ∧ Binds K fd ps []
def sRaise (C f : Str) (e : AV) : SV := fun env S => (e env S).bind fun ds S1 => match ds with | [d] => .exc C [f] [d] S1 | _ => .bad
theorem gs_raise {X : Cx} {W : WX} {C f : Str} {e : Expr} {av : AV} {p pos pos' : Pos} (M : MoX X.prog X.w X.K X.mg X.base C f) (hr : Room 2 X.A) (tk : Takes X W) (ha : GA X W [e] av) (hc : X.calm = true := by rfl) (hg : Gl X C := by rfl) (hdb : (C == ("__debug__" : Str)) = false := by decide)
    (he : starEach [e] X.env = (false, eval e X.env) :: starEach [] X.env := by rfl) (hpl : (backTo pos (starEach [] X.env)).any (·.1) = false := by rfl) : GS X W (.Raise (some (.Call (.Name C p) [e] [] pos)) none pos') (sRaise C f av) := by
  obtain ⟨cl, fI, fd, ps, hm, T, iC, tI, F, hb⟩ := M
  obtain ⟨t, pt, st⟩ := ha
  refine ⟨_, ps_raise hc tk (pmk_g T iC tI F hr hb passL hg hm pt hdb he hpl), ?_⟩
  intro E σ env F μ S H eR rel want
  change t σ H _
  refine st.go eR rel ?_
  change WantF _ W E F μ H ((av env S).bind _) at want
  cases h : av env S with
  | bad => rw [h] at want; exact want
  | exc C1 ns ds S' => rw [h] at want; exact want σ
  | ok ds S1 =>
    rw [h] at want
    intro vs F1 μ1 H1 x1 rel1 r1
    match ds, r1 with
    | [d], .cons (v := v) r .nil =>
      have w := want σ
      refine ⟨by simp, fun a na => ⟨a, v, by simp, upd_same, fun dx ndx nea => ⟨rfl, dx, [(f, v)], upd_same, ?_, ?_, ?_⟩⟩⟩
      · rw [upd_ne nea, upd_same]
      · rwa [upd_ne nea] at ndx
      · have n1 : H1 dx = none := by rwa [upd_ne nea] at ndx
        obtain ⟨rel2, f2, m2⟩ := rel1.beside (u := .xd [(f, v)]) n1
        have e : upd (del (upd (upd (upd H1 a (exo a cl none)) dx (exd dx [(f, v)])) a (exo a cl (some dx))) a) dx (.xd [(f, v)]) = upd H1 dx (.xd [(f, v)]) := by
          funext b
          by_cases hb : b = dx
          · rw [hb, upd_same, upd_same]
          · rw [upd_ne hb, upd_ne hb]
            by_cases ha : b = a
            · rw [ha, del_same, na]
            · rw [del_ne ha, upd_ne ha, upd_ne hb, upd_ne ha]
        rw [e]
        exact w cl dx F1 μ1 _ [(f, v)] (x1.trans ⟨Sub.refl _, List.prefix_refl _, fun b o q n => ⟨Sub.new n1 b o q, fun _ q => q⟩, fun b hb => .inl hb⟩) rel2 hm upd_same rfl (.cons r .nil) ⟨f2, m2⟩
    | [], _ => exact want.elim
    | _ :: _ :: _, _ => exact want.elim

/-! ## several clauses, each with its name -/
/-- what comes behind a suite: its name is gone -/
def goneD (i : Nat) (D : Ends) : Ends := { nx := fun σ H => D.nx (σ.set i none) H, rt := D.rt, bk := fun σ H => D.bk (σ.set i none) H, ct := fun σ H => D.ct (σ.set i none) H }
abbrev Cl := Value × Nat × (Addr → Value → Option Addr → TS)
def wRow (K : PySem.W.Frag) (out : WX) (D : Ends) : List Cl → WX
  | [] => out
  | (c, i, ts) :: r => fun cls d σ H => ∃ b, PySem.W.exmOne K cls c = some b ∧ (b = true → ∀ a, H a = none → ts a cls d (goneD i D) (σ.set i (some (.ref a))) H) ∧ (b = false → wRow K out D r cls d σ H)
inductive RowOk (X : Cx) : List ExceptHandler → List Cl → Prop
  | nil : RowOk X [] []
  | cons {x n : Str} {c : Value} {i : Nat} {ts : Addr → Value → Option Addr → TS} {st : Stmt} {suite : List Stmt} {np ps : Pos} {hds : List ExceptHandler} {l : List Cl} (hi : X.N[i]? = some n) (hl : X.env.kindOf n = some .local) (hc : Names X x c)
      (su : ∀ (a : Addr) (oe : Obj) (cls : Value) (d : Option Addr) (pn : List (Addr × Obj)), Zc cls d oe → (∃ vs, oe.data = .fields vs) → PSs (X.suite a ((a, oe) :: pn)) (st :: suite) (ts a cls d)) (r : RowOk X hds l) :
      RowOk X (.ExceptHandler (some (.Name x np)) (some n) (st :: suite) ps :: hds) ((c, i, ts) :: l)
section
variable {X : Cx} {body : List Stmt} {h₀ : ExceptHandler} {hds : List ExceptHandler} {l : List Cl} {pos : Pos} {tb : WX → TS} {out : WX}
theorem ps_try_row (hs : X.stack = X.env :: X.outer) (hf : X.env.frame = some X.env.locals) (hN : X.N.Nodup) (tk : Takes X out)
    (body_ : ∀ (W : WX) (pn : List (Addr × Obj)) (xe : Value → Shared → Prop), Takes (X.tr pn xe) W → PassesOwn (model X.prog X.w) X.A X.env xe → PSs (X.tr pn xe) body (tb W))
    (rows : RowOk X (h₀ :: hds) l) : PS X (.Try body (h₀ :: hds) [] [] pos) (fun D σ H => tb (wRow X.K out D l) D σ H) := by
  refine ⟨fun pins s σ H D inv h => ?_⟩
  have okX := inv.ok
  have fr : X.A.frames = some (X.env :: X.outer) := by rw [okX.frames, hs]
  refine wpAny_Try_except ?_
  refine wpAny_mono ((body_ (wRow X.K out D l) (X.pn ++ pins) (fun e s₁ => wpAny (model X.prog X.w) X.A (noteFrame e X.env) (fun _ s₂ => wpAny (model X.prog X.w) X.A (setFlight e none) (fun _ s₃ => wpAny (model X.prog X.w) X.A (handleBy e X.env (h₀ :: hds)) (SP X pins D) X.xe s₃) X.xe s₂) X.xe s₁) (fun u s' hit => ?_) PassesOwn.looking).run [] s σ H D (inv.toTry _) h) (fun f s1 q => ?_) (fun e s1 he => he)
  · obtain ⟨a, B, sI, pins', τ, H2, cls, d, rfl, J', keepB, up, sky, na, os, bare, w⟩ := hit
    have J : Inv X pins τ H2 sI := J'.ofTry okX
    have sky' : Sky B (X.env :: X.outer) a (Zc cls d) X.env.locals s'.heap := by rw [← hs]; exact sky
    change wpAny (model X.prog X.w) X.A (noteFrame (.ref a) X.env) _ _ _
    refine Sky.land Zc.steady fr hf sky' fun h3 fly up3 => ?_
    have J3 : Inv X pins τ H2 { s' with heap := h3 } := J.landed keepB fly.1 (up.trans up3) os bare
    obtain ⟨oe3, vs3, he3, hz3, hd3⟩ := fly.there
    have off : ∀ {h : Heap} {o : Obj} {vs : Array Value}, h.FunFrames B (X.env :: X.outer) → h.get? a = some o → o.data = .fields vs → a ∉ frs (X.env :: X.outer) := fun {h o vs} ff e dd hm => by
      obtain ⟨_, o', e', no⟩ := ff.mem hm
      rw [e] at e'; cases e'; exact no _ dd
    have off3 := off fly.2.2.1 he3 hd3
    have nL : a ≠ X.env.locals := fun z => off3 (List.mem_filterMap.mpr ⟨X.env, List.mem_cons_self, by rw [hf, z]⟩)
    have nF : a ∉ X.fs := fun hm => by
      obtain ⟨e, he, q⟩ := List.mem_filterMap.mp hm
      exact off3 (List.mem_filterMap.mpr ⟨e, List.mem_cons_of_mem _ he, q⟩)
    have S3 := J3.suite he3 hd3 na nL nF
    have go : ∀ {hs2 : List ExceptHandler} {l2 : List Cl}, RowOk X hs2 l2 → wRow X.K out D l2 cls d τ H2 → wpAny (model X.prog X.w) X.A (handleBy (.ref a) X.env hs2) (SP X pins D) X.xe { s' with heap := h3 } := by
      intro hs2 l2 rk
      induction rk with
      | nil =>
        intro w
        refine wpAny_handleBy_nil ?_
        obtain ⟨y1, y2, y3, oe, vs, T, oT, ts2, he, hz, hd, h1, hrest⟩ := id fly
        unfold PySem.passOn
        refine wpAny_bind (wpAny_field he hd h1 ?_)
        rw [if_neg (show ¬ ((Value.ref T == Value.none) = true) from by simp)]
        have last : wpAny (model X.prog X.w) X.A (setFlight (.ref a) X.env.frame) (fun _ s4 => wpAny (model X.prog X.w) X.A (throw (.ref a) : Sem PySem.Flow) (SP X pins D) X.xe s4) X.xe { s' with heap := h3 } := by
          rw [hf]
          refine HandSPX.setFlight_upZ fly fun h4 hh4 up4 => wpAny_throw (tk _ _ ?_)
          exact ⟨a, B, sI, pins, τ, H2, cls, d, rfl, J, keepB, (up.trans up3).trans up4, .inr (.inr (by rw [hs]; exact hh4)), na, os, bare, w⟩
        first
          | exact wpAny_bind (wpAny_pure (wpAny_bind last))
          | exact wpAny_bind last
      | @cons x n c i ts st suite np ps hds2 l2 hi hl hc su r ih =>
        intro w
        obtain ⟨b, hb1, yes, no⟩ := w
        refine wpAny_handleBy_cons (codeAny_handlers_test ?_) (by intro q; cases q)
        have lt : PySem.W.Looks (model X.prog X.w) h3 (typeOf (.ref a)) cls := fun A Q E s k q => wpAny_typeOf_ref (k _ _ he3) (by rw [hz3.1]; exact q)
        have lm := PySem.W.exm_one (M := model X.prog X.w) (J3.kIn) lt hb1
        have named : ∀ {Q : Value → Shared → Prop} {E : Value → Shared → Prop}, Q c { s' with heap := h3 } → wpAny (model X.prog X.w) (X.A.mark (some (.ref a))) (eval (.Name x np) X.env) Q E { s' with heap := h3 } := fun {Q E} q => by
          obtain ⟨g1, g2, hm | ⟨hm, hv, hnn⟩⟩ := hc
          · exact ld_glob (X := X.suite a ((a, oe3) :: (X.pn ++ pins))) S3 g1 hm q g2
          · exact ld_blt (X := X.suite a ((a, oe3) :: (X.pn ++ pins))) S3 g1 hm hv q hnn g2
        refine named (lm.here ?_)
        cases b with
        | true =>
          refine codeAny_handlers_suite_as ?_
          refine HandSPX.lands_againZ fly fun h4 fly4 up4 => ?_
          have J4 : Inv X pins τ H2 { s' with heap := h4 } := J.landed keepB fly4.1 ((up.trans up3).trans up4) os bare
          obtain ⟨oe4, vs4, he4, hz4, hd4⟩ := fly4.there
          have S4 := J4.suite he4 hd4 na nL nF
          refine store_ok (X := X.suite a ((a, oe4) :: (X.pn ++ pins))) (v := .ref a) S4 hN hi (.inl hl) rfl (fun s5 S5 => ?_) (.inr hl)
          refine wpAny_mono ((su a oe4 cls d (X.pn ++ pins) hz4 ⟨_, hd4⟩).run [] s5 _ H2 _ S5 (yes rfl a na)) (fun f s6 q => ?_) (fun _ _ z => z.elim)
          have gone : ∀ {σ6 : L2.St} {H6 : Hp} {Q : Shared → Prop}, Inv (X.suite a ((a, oe4) :: (X.pn ++ pins))) [] σ6 H6 s6 → (∀ s7, Inv X pins (σ6.set i none) H6 s7 → Q s7) →
              wpAny (model X.prog X.w) X.A (do bindName X.env n .none; unbindBehindTheSuite X.env n ps) (fun _ s7 => Q s7) X.xe s6 := fun {σ6 H6 Q} S6 k => gone_ok (S6.unsuite okX) hN hi hl k
          cases f with
          | next =>
            obtain ⟨σ6, H6, S6, q6⟩ := q
            exact gone S6 fun s7 J7 => ⟨_, _, J7, q6⟩
          | brk =>
            obtain ⟨σ6, H6, S6, q6⟩ := q
            exact gone S6 fun s7 J7 => ⟨_, _, J7, q6⟩
          | cont =>
            obtain ⟨σ6, H6, S6, q6⟩ := q
            exact gone S6 fun s7 J7 => ⟨_, _, J7, q6⟩
          | ret u =>
            obtain ⟨v6, σ6, H6, S6, r6, q6⟩ := q
            exact gone S6 fun s7 J7 => ⟨_, _, _, J7, r6, q6⟩
        | false =>
          change wpAny _ X.A (handleBy (.ref a) X.env hds2) _ _ _
          exact ih (no rfl)
    exact go rows w
  · cases f with
    | next =>
      obtain ⟨τ, H2, J', q⟩ := q
      exact wpAny_execs_nil ⟨τ, H2, J'.ofTry okX, q⟩
    | brk =>
      obtain ⟨τ, H2, J', q⟩ := q
      exact ⟨τ, H2, J'.ofTry okX, q⟩
    | cont =>
      obtain ⟨τ, H2, J', q⟩ := q
      exact ⟨τ, H2, J'.ofTry okX, q⟩
    | ret u =>
      obtain ⟨v, τ, H2, J', r, q⟩ := q
      exact ⟨v, τ, H2, J'.ofTry okX, r, q⟩
end
end Sm
set_option Elab.async false
set_option linter.all false
set_option maxRecDepth 100000
set_option maxHeartbeats 1000000
namespace Sm
open PySem PySem.Spec PyProof.Rows L2
/-! ## one statement, whose exception finds the slots as they were -/
def WantF1 (c : Cfg) (W : WX) (E : Ends) (σ : L2.St) (F : Hp) (μ : List Addr) (H : Hp) : Res Flow → Prop
  | .exc C ns ds S' => WantX c W σ F μ H C ns ds S'
  | .ok fl S' => WantF c W E F μ H (.ok fl S')
  | .bad => False
def SmS1 (c : Cfg) (W : WX) (ts : TS) (sv : SV) : Prop := ∀ E σ env F μ S H, EnvR c F μ σ env → Rel c F μ S H → WantF1 c W E σ F μ H (sv env S) → ts E σ H
structure GS1 (X : Cx) (W : WX) (st : Stmt) (sv : SV) : Prop where
  ex : ∃ t, PS X st t ∧ SmS1 (cf X) W t sv
section
variable {X : Cx} {W : WX} {c : Cfg} {e : Expr} {ev : EV} {pos : Pos}
theorem sm1_drop {te : TE} {ev : EV} (he : SmE c W (rE c) te ev) : SmS1 c W (tDrop te) (sDrop ev) := by
  intro E σ env F μ S H eR rel want
  refine he.go eR rel ?_
  change WantF1 c W E σ F μ H ((ev env S).bind _) at want
  cases h : ev env S with
  | bad => rw [h] at want; exact want
  | exc C ns ds S' => rw [h] at want; exact want
  | ok d S' => rw [h] at want; exact fun v F' μ' H' x' rel' r' => want σ F' μ' H' x' rel' (eR.ext x')
theorem sm1_ret {te : TE} {ev : EV} (he : SmE c W (rE c) te ev) : SmS1 c W (tRet te) (sRet ev) := by
  intro E σ env F μ S H eR rel want
  refine he.go eR rel ?_
  change WantF1 c W E σ F μ H ((ev env S).bind _) at want
  cases h : ev env S with
  | bad => rw [h] at want; exact want
  | exc C ns ds S' => rw [h] at want; exact want
  | ok d S' => rw [h] at want; exact fun v F' μ' H' x' rel' r' => want v F' μ' H' x' rel' r'
theorem sm1_set {i : Nat} {te : TE} {ev : EV} (he : SmE c W (rE c) te ev) : SmS1 c W (tAsg te (gName i)) (sSet i ev) := by
  intro E σ env F μ S H eR rel want
  refine he.go eR rel ?_
  change WantF1 c W E σ F μ H ((ev env S).bind _) at want
  cases h : ev env S with
  | bad => rw [h] at want; exact want
  | exc C ns ds S' => rw [h] at want; exact want
  | ok d S' =>
    rw [h] at want
    exact fun v F' μ' H' x' rel' r' => sm_gname v d σ env (env.set i (some d)) F' μ' S' H' _ r' (eR.ext x') rel' rfl fun σ' eR' _ => want σ' F' μ' H' x' rel' eR'
theorem gs1_expr (h : GE X W e ev) (hs : swapsWith e none pos.line X.env = pure false := by rfl) : GS1 X W (.Expr e pos) (sDrop ev) := let ⟨_, p, s⟩ := h; ⟨_, ps_expr p hs, sm1_drop s⟩
theorem gs1_ret (h : GE X W e ev) : GS1 X W (.Return (some e) pos) (sRet ev) := let ⟨_, p, s⟩ := h; ⟨_, ps_ret p, sm1_ret s⟩
theorem gs1_set (i : Nat) {x : Str} {pos' : Pos} (hN : X.N.Nodup) (h : GE X W e ev) (hi : X.N[i]? = some x := by rfl) (hx : Loc X.env.scope x := by first | exact Or.inl rfl | exact Or.inr rfl) (hs : swapsWith e (some (.Name x pos')) pos.line X.env = pure false := by rfl)
    (hf : X.fn x = true ∨ X.env.scope.names.lookup x = some .local := by first | exact .inl rfl | exact .inr rfl) : GS1 X W (.Assign [.Name x pos'] e pos) (sSet i ev) := let ⟨_, p, s⟩ := h; ⟨_, ps_set hN hi hx p hs hf, sm1_set s⟩
def Sof1 (c : Cfg) (sv : SV) (W : WX) : TS := fun E σ H => ∃ env F μ S, EnvR c F μ σ env ∧ Rel c F μ S H ∧ WantF1 c W E σ F μ H (sv env S)
theorem GS1.canon {st : Stmt} {sv : SV} (h : GS1 X W st sv) : PSs X [st] (Sof1 (cf X) sv W) := by
  obtain ⟨t, p, s⟩ := h
  have q := pss_one p
  exact ⟨fun pins s0 σ H D I ⟨env, F, μ, S, eR, rel, w⟩ => q.run pins s0 σ H D I (s D σ env F μ S H eR rel w)⟩
/-- a call whose exceptions are caught here: the slots are known -/
theorem ge_callS {k ar : Nat} {x : Str} {fv : List D → Sto → Res D} {e : Expr} {es : List Expr} {av : AV} {p pos : Pos} (F : Fo X.prog X.w X.K X.mg X.base k x ar fv) (hr : Room k X.A) (tk : Takes X W) (ha : GA X W (e :: es) av) (hg : Gl X x := by rfl)
    (hdb : (x == ("__debug__" : Str)) = false := by decide) (he : starEach (e :: es) X.env = (false, eval e X.env) :: starEach es X.env := by rfl) (hpl : (backTo pos (starEach es X.env)).any (·.1) = false := by rfl) :
    GE X W (.Call (.Name x p) (e :: es) [] pos) (eCall fv ar av) := by
  obtain ⟨f, fd, ps, F, hm, hk, hb, hl⟩ := F
  obtain ⟨t, pt, st⟩ := ha
  refine ⟨_, pe_callS F hr hg hm hk hb (passAt tk) pt hdb he hpl, ?_⟩
  refine Sm.bind (kt := fun vs σ H1 Q => SpF (cf X) ar fv vs H1 Q (L2.WE W σ)) (ke := fun ds env S1 => if ds.length = ar then fv ds S1 else .bad) st fun F1 μ1 xs ds s1 p1 r1 => ?_
  intro σ env F μ S H Q s p eR rel want
  split at want
  · rename_i h
    refine ⟨by rw [r1.length]; exact h, F, μ, S, ds, r1.mono s p, rel, ?_⟩
    change Want _ W _ σ F μ H Q (fv ds S) at want
    cases q : fv ds S with
    | bad => rw [q] at want; exact want
    | ok a S => rw [q] at want; exact want
    | exc C ns ds S' => rw [q] at want; exact fun cl dd F' μ' H' fs x rel hc hd hn hr hf => want cl dd F' μ' H' fs x rel hc hd hn hr hf
  · exact want.elim
end
/-! ## the suites -/
structure XIn (c : Cfg) (i : Nat) (a dd : Addr) (fs : List (Str × V)) (ds : List D) (σ : L2.St) (F : Hp) (μ : List Addr) (H : Hp) : Prop where
  slot : σ[i]? = some (some (.ref a))
  xd : H dd = some (.xd fs)
  nf : F dd = none
  nm : dd ∉ μ
  rd : RDs c F μ (fs.map (·.2)) ds
theorem XIn.ext {c : Cfg} {i : Nat} {a dd : Addr} {fs : List (Str × V)} {ds : List D} {σ : L2.St} {F F' : Hp} {μ μ' : List Addr} {H H' : Hp} (z : XIn c i a dd fs ds σ F μ H) (x : Ext F μ H F' μ' H') : XIn c i a dd fs ds σ F' μ' H' := by
  obtain ⟨k1, k2⟩ := x.keep dd _ z.xd z.nm
  refine ⟨z.slot, k1, k2 (fun a q => by cases q) z.nf, fun q => ?_, z.rd.mono x.mono x.pre⟩
  rcases x.fresh dd q with h | h
  · exact z.nm h
  · rw [z.xd] at h; cases h
theorem XIn.set {c : Cfg} {i j : Nat} {a dd : Addr} {fs : List (Str × V)} {ds : List D} {σ : L2.St} {F : Hp} {μ : List Addr} {H : Hp} {v : Option V} (z : XIn c i a dd fs ds σ F μ H) (h : j ≠ i) : XIn c i a dd fs ds (σ.set j v) F μ H :=
  ⟨by rw [List.getElem?_set_ne h]; exact z.slot, z.xd, z.nf, z.nm, z.rd⟩
def WantU (c : Cfg) (i : Nat) (a dd : Addr) (fs : List (Str × V)) (ds : List D) (E : Ends) (F : Hp) (μ : List Addr) (H : Hp) : Res Flow → Prop
  | .ok (.nx env') S' => ∀ σ' F' μ' H', Ext F μ H F' μ' H' → Rel c F' μ' S' H' → EnvR c F' μ' σ' env' → XIn c i a dd fs ds σ' F' μ' H' → E.nx σ' H'
  | .ok (.rt d) S' => ∀ v F' μ' H', Ext F μ H F' μ' H' → Rel c F' μ' S' H' → RD c F' μ' v d → E.rt v H'
  | _ => False
def SmU (c : Cfg) (i : Nat) (a dd : Addr) (fs : List (Str × V)) (ds : List D) (ts : TS) (sv : SV) : Prop := ∀ E σ env F μ S H, EnvR c F μ σ env → Rel c F μ S H → XIn c i a dd fs ds σ F μ H → WantU c i a dd fs ds E F μ H (sv env S) → ts E σ H
def SmX {β α : Type} (c : Cfg) (i : Nat) (a dd : Addr) (fs : List (Str × V)) (ds : List D) (R : RR β α) (te : TX β) (ev : Env → Sto → Res α) : Prop :=
  ∀ σ env F μ S H Q, EnvR c F μ σ env → Rel c F μ S H → XIn c i a dd fs ds σ F μ H → Want c W0 R σ F μ H Q (ev env S) → te σ H Q
/-- where a suite stands: the slot and the name of what was caught, its class, its fields -/
structure Cau where
  i : Nat
  cl : Addr
  a : Addr
  dd : Addr
  fs : List (Str × V)
  ds : List D
structure GX (X : Cx) (u : Cau) (e : Expr) (ev : EV) : Prop where
  ex : ∃ t, PE X e t ∧ SmX (cf X) u.i u.a u.dd u.fs u.ds (rE (cf X)) t ev
structure GXA (X : Cx) (u : Cau) (es : List Expr) (av : AV) : Prop where
  ex : ∃ t, PA X es t ∧ SmX (cf X) u.i u.a u.dd u.fs u.ds (rA (cf X)) t av
structure GU (X : Cx) (u : Cau) (sts : List Stmt) (sv : SV) : Prop where
  ex : ∃ t, PSs X sts t ∧ SmU (cf X) u.i u.a u.dd u.fs u.ds t sv
structure GU1 (X : Cx) (u : Cau) (st : Stmt) (sv : SV) : Prop where
  ex : ∃ t, PS X st t ∧ SmU (cf X) u.i u.a u.dd u.fs u.ds t sv
section
variable {X : Cx} {u : Cau} {e : Expr} {ev : EV} {pos : Pos} {c : Cfg}
theorem SmX.bind {β α γ δ : Type} {i : Nat} {a dd : Addr} {fs : List (Str × V)} {ds : List D} {R : RR β α} {T : RR γ δ} {ta : TX β} {ea : Env → Sto → Res α} {kt : β → TX γ} {ke : α → Env → Sto → Res δ}
    (ha : SmX c i a dd fs ds R ta ea) (hk : ∀ F1 μ1 b x, R F1 μ1 b x → ∀ σ env S H Q, EnvR c F1 μ1 σ env → Rel c F1 μ1 S H → XIn c i a dd fs ds σ F1 μ1 H → Want c W0 T σ F1 μ1 H Q (ke x env S) → kt b σ H Q) :
    SmX c i a dd fs ds T (fun σ H Q => ta σ H fun b H1 => kt b σ H1 Q) (fun env S => (ea env S).bind fun x S1 => ke x env S1) := by
  intro σ env F μ S H Q eR rel xi want
  refine ha σ env F μ S H _ eR rel xi ?_
  change Want c W0 T σ F μ H Q ((ea env S).bind fun x S1 => ke x env S1) at want
  cases h : ea env S with
  | bad => rw [h] at want; exact want
  | exc C ns ds S' => rw [h] at want; exact want
  | ok x S1 =>
    rw [h] at want
    intro b F1 μ1 H1 x1 rel1 r1
    exact hk F1 μ1 b x r1 σ env S1 H1 Q (eR.ext x1) rel1 (xi.ext x1) (Want.ext want x1)
theorem gy_of (h : GE X W0 e ev) : GX X u e ev := let ⟨_, p, s⟩ := h; ⟨_, p, fun σ env F μ S H Q eR rel _ w => s.go eR rel w⟩
theorem gya_nil : GXA X u [] aNil := let ⟨_, p, s⟩ := (ga_nil (X := X) (W := W0)); ⟨_, p, fun σ env F μ S H Q eR rel _ w => s.go eR rel w⟩
theorem gya_cons {es : List Expr} {av : AV} (h : GX X u e ev) (r : GXA X u es av) (hs : starEach (e :: es) X.env = (false, eval e X.env) :: starEach es X.env := by rfl) : GXA X u (e :: es) (aCons ev av) := by
  obtain ⟨t, p, s⟩ := h
  obtain ⟨ts, ps, ss⟩ := r
  refine ⟨_, pa_cons p ps hs, ?_⟩
  refine SmX.bind (kt := fun v σ H1 (Q : List V → Hp → Prop) => ts σ H1 fun vs H2 => Q (v :: vs) H2) (ke := fun d env S1 => (av env S1).bind fun ds S2 => .ok (d :: ds) S2) s fun F1 μ1 v d r1 => ?_
  intro σ env S H Q eR rel xi want
  refine ss σ env F1 μ1 S H _ eR rel xi ?_
  cases h : av env S with
  | bad => rw [h] at want; exact want
  | exc C ns ds S' => rw [h] at want; exact want
  | ok ds S2 =>
    rw [h] at want
    intro vs F' μ' H' x' rel' r'
    exact want (v :: vs) F' μ' H' x' rel' (.cons (r1.mono x'.mono x'.pre) r')
/-- a field of what was caught -/
def eXf (ns : List Str) (ds : List D) (f : Str) : EV := fun _ S => match (ns.zip ds).lookup f with | some d => .ok d S | none => .bad
theorem lookup_rd {F : Hp} {μ : List Addr} {f : Str} : ∀ {fs : List (Str × V)} {ds : List D} {d : D}, RDs c F μ (fs.map (·.2)) ds → ((fs.map (·.1)).zip ds).lookup f = some d → ∃ v, fs.lookup f = some v ∧ RD c F μ v d
  | [], [], d, _, e => by cases e
  | (g, v) :: fs, d0 :: ds, d, .cons r rs, e => by
    by_cases h : f = g
    · subst h
      have e0 : (((f, v) :: fs).map (·.1)).zip (d0 :: ds) = (f, d0) :: ((fs.map (·.1)).zip ds) := rfl
      rw [e0, List.lookup_cons_self] at e
      cases e
      exact ⟨v, List.lookup_cons_self, r⟩
    · have hb : (f == g) = false := by simpa using h
      have e0 : (((g, v) :: fs).map (·.1)).zip (d0 :: ds) = (g, d0) :: ((fs.map (·.1)).zip ds) := rfl
      have e1 : ((fs.map (·.1)).zip ds).lookup f = some d := by rw [e0, List.lookup_cons, hb] at e; exact e
      obtain ⟨w, h1, h2⟩ := lookup_rd rs e1
      exact ⟨w, by rw [List.lookup_cons, hb]; exact h1, h2⟩
theorem gy_fld {X : Cx} {oe : Obj} {pn : List (Addr × Obj)} {nm f : Str} {p1 : Pos} (hN : X.N[u.i]? = some nm) (T : XfC X.K u.cl) (no : PySem.W.findIn X.K (.ref u.cl) f = some none) (hz : Zc (.ref u.cl) (some u.dd) oe) (hf : ∃ vs, oe.data = .fields vs)
    (hv : Vis X.env.scope nm := by first | exact Or.inl rfl | exact Or.inr (Or.inl rfl) | exact Or.inr (Or.inr rfl)) (hd : (nm == ("__debug__" : Str)) = false := by decide) (hcd : (nm == ("__classdict__" : Str)) = false := by decide)
    (hb : attributeBase (.Name nm p1) f X.env (eval (.Name nm p1) X.env) = eval (.Name nm p1) X.env := by rfl) :
    GX (X.suite u.a ((u.a, oe) :: pn)) u (.Attribute (.Name nm p1) f pos) (eXf (u.fs.map (·.1)) u.ds f) := by
  refine ⟨_, pe_xf T no hz hf (pe_var (X := X.suite u.a ((u.a, oe) :: pn)) hN hv hd hcd) hb, ?_⟩
  intro σ env F μ S H Q eR rel xi want
  change Want _ W0 _ σ F μ H Q (match ((u.fs.map (·.1)).zip u.ds).lookup f with | some d => .ok d S | none => .bad) at want
  cases h : ((u.fs.map (·.1)).zip u.ds).lookup f with
  | none => rw [h] at want; exact want.elim
  | some d =>
    rw [h] at want
    obtain ⟨v, l1, r1⟩ := lookup_rd xi.rd h
    exact ⟨_, xi.slot, rfl, rfl, u.dd, u.fs, v, rfl, xi.xd, l1, want v F μ H Ext.refl rel r1⟩
theorem gy_tup {es : List Expr} {av : AV} (h : GXA X u es av) : GX X u (.Tuple es k pos) (eTup av) := by
  obtain ⟨_, p, s⟩ := h
  refine ⟨_, pe_tup p, SmX.bind (kt := fun (xs : List V) σ H1 (Q : VK) => xs.length ≤ sizeLine ∧ ∀ p, H1 p = none → Q (.ref p) (upd H1 p (.tup xs))) (ke := fun (ds : List D) env S1 => if ds.length ≤ 16777216 then (.ok (.tup ds) S1 : Res D) else .bad) s fun F1 μ1 xs ds r1 => ?_⟩
  intro σ env S H Q eR rel xi want
  split at want
  · rename_i hl
    refine ⟨by rw [r1.length]; exact le_line hl, fun p hp => ?_⟩
    obtain ⟨rel', x', sF⟩ := rel.frozen (o := .tup xs) hp
    exact want (.ref p) _ μ1 _ x' rel' (.tup upd_same (r1.mono sF (List.prefix_refl _)))
  · exact want.elim
/-! ### statements of a suite -/
theorem gu_one {st : Stmt} {sv : SV} (h : GU1 X u st sv) : GU X u [st] sv := let ⟨_, p, s⟩ := h; ⟨_, pss_one p, s⟩
theorem gu_cons {st : Stmt} {rest : List Stmt} {a b : SV} (h : GU1 X u st a) (r : GU X u rest b) : GU X u (st :: rest) (sSeq a b) := by
  obtain ⟨t, p, s⟩ := h
  obtain ⟨t2, p2, s2⟩ := r
  refine ⟨_, pss_cons p p2, ?_⟩
  intro E σ env F μ S H eR rel xi want
  refine s _ σ env F μ S H eR rel xi ?_
  change WantU _ _ _ _ _ _ E F μ H ((a env S).bind _) at want
  cases h : a env S with
  | bad => rw [h] at want; exact want
  | exc C ns ds S' => rw [h] at want; exact want
  | ok fl S' =>
    rw [h] at want
    cases fl with
    | nx env1 =>
      intro σ' F' μ' H' x' rel' eR' xi'
      refine s2 E σ' env1 F' μ' S' H' eR' rel' xi' ?_
      change WantU _ _ _ _ _ _ E F μ H (b env1 S') at want
      cases h2 : b env1 S' with
      | bad => rw [h2] at want; exact want
      | exc C ns ds S' => rw [h2] at want; exact want
      | ok fl S2 =>
        rw [h2] at want
        cases fl with
        | nx e2 => exact fun σ2 F2 μ2 H2 x2 => want σ2 F2 μ2 H2 (x'.trans x2)
        | rt d => exact fun v F2 μ2 H2 x2 => want v F2 μ2 H2 (x'.trans x2)
        | bk e2 => exact want.elim
        | ct e2 => exact want.elim
    | rt d => exact want
    | bk e1 => exact want.elim
    | ct e1 => exact want.elim
theorem gu_ret (h : GX X u e ev) : GU1 X u (.Return (some e) pos) (sRet ev) := by
  obtain ⟨_, p, s⟩ := h
  refine ⟨_, ps_ret p, ?_⟩
  intro E σ env F μ S H eR rel xi want
  refine s σ env F μ S H _ eR rel xi ?_
  change WantU _ _ _ _ _ _ E F μ H ((ev env S).bind _) at want
  cases h : ev env S with
  | bad => rw [h] at want; exact want
  | exc C ns ds S' => rw [h] at want; exact want.elim
  | ok d S' => rw [h] at want; exact fun v F' μ' H' x' rel' r' => want v F' μ' H' x' rel' r'
theorem gu_set (j : Nat) {x : Str} {pos' : Pos} (hN : X.N.Nodup) (hj : j ≠ u.i) (h : GX X u e ev) (hi : X.N[j]? = some x := by rfl) (hx : Loc X.env.scope x := by first | exact Or.inl rfl | exact Or.inr rfl) (hs : swapsWith e (some (.Name x pos')) pos.line X.env = pure false := by rfl)
    (hf : X.fn x = true ∨ X.env.scope.names.lookup x = some .local := by first | exact .inl rfl | exact .inr rfl) : GU1 X u (.Assign [.Name x pos'] e pos) (sSet j ev) := by
  obtain ⟨_, p, s⟩ := h
  refine ⟨_, ps_set hN hi hx p hs hf, ?_⟩
  intro E σ env F μ S H eR rel xi want
  refine s σ env F μ S H _ eR rel xi ?_
  change WantU _ _ _ _ _ _ E F μ H ((ev env S).bind _) at want
  cases h : ev env S with
  | bad => rw [h] at want; exact want
  | exc C ns ds S' => rw [h] at want; exact want.elim
  | ok d S' =>
    rw [h] at want
    intro v F' μ' H' x' rel' r'
    exact want (σ.set j (some v)) F' μ' H' x' rel' ((eR.ext x').set j r') ((xi.ext x').set hj)
end
/-! ## try -/
/-- a clause: the class it names, the classes of the program that aren't, what they do with the fields -/
structure ClV where
  C : Str
  nos : List Str
  i : Nat
  hv : List Str → List D → SV
def hEnd (i : Nat) : Res Flow → Res Flow
  | .ok (.nx env) S => .ok (.nx (env.set i none)) S
  | .ok (.rt d) S => .ok (.rt d) S
  | _ => .bad
def hGo : List ClV → Str → List Str → List D → SV
  | [], C, ns, ds, _, S => .exc C ns ds S
  | v :: r, C, ns, ds, env, S => if C = v.C then (if v.i < env.length then hEnd v.i (v.hv ns ds (env.set v.i none) S) else .bad) else if C ∈ v.nos then hGo r C ns ds env S else .bad
def sTry (sv : SV) (hs : List ClV) : SV := fun env S => match sv env S with
  | .exc C ns ds S' => hGo hs C ns ds env S'
  | r => r
structure ExM (K : PySem.W.Frag) (mg : Str → Option Value) (C : Str) (b : Bool) (cl : Addr) : Prop where
  ex : ∃ cc, mg C = some (.ref cc) ∧ PySem.W.exmOne K (.ref cc) (.ref cl) = some b
/-- what a suite must show -/
def SuOk (X : Cx) (i : Nat) (cl : Addr) (sts : List Stmt) (hv : List Str → List D → SV) : Prop := ∀ (u : Cau) (oe : Obj) (pn : List (Addr × Obj)), u.i = i → u.cl = cl → Zc (.ref cl) (some u.dd) oe → (∃ vs, oe.data = .fields vs) →
  GU (X.suite u.a ((u.a, oe) :: pn)) u sts (hv (u.fs.map (·.1)) u.ds)
inductive GHs (X : Cx) : List ExceptHandler → List ClV → Prop
  | nil : GHs X [] []
  | cons {n : Str} {cl : Addr} {v : ClV} {st : Stmt} {suite : List Stmt} {np ps : Pos} {hds : List ExceptHandler} {l : List ClV} (hi : X.N[v.i]? = some n) (hl : X.env.kindOf n = some .local) (hg : Gl X v.C) (hdb : (v.C == ("__debug__" : Str)) = false) (hm : X.mg v.C = some (.ref cl))
      (yes : ExM X.K X.mg v.C true cl) (no : ∀ C ∈ v.nos, ExM X.K X.mg C false cl) (su : SuOk X v.i cl (st :: suite) v.hv) (r : GHs X hds l) : GHs X (.ExceptHandler (some (.Name v.C np)) (some n) (st :: suite) ps :: hds) (v :: l)
theorem EnvR.hide {c : Cfg} {F : Hp} {μ : List Addr} {σ : L2.St} {env : Env} (e : EnvR c F μ σ env) {i : Nat} {v : Option V} : EnvR c F μ (σ.set i v) (env.set i Option.none) := by
  refine ⟨by simpa using e.len, fun j d h => ?_⟩
  by_cases hj : i = j
  · subst hj
    rw [List.getElem?_set] at h
    simp only [if_true] at h
    split at h <;> cases h
  · rw [List.getElem?_set_ne hj] at h
    obtain ⟨w, h1, h2⟩ := e.at_ j d h
    exact ⟨w, by rw [List.getElem?_set_ne hj]; exact h1, h2⟩
/-- a suite's canonical reading -/
def Uof (c : Cfg) (i : Nat) (cl : Addr) (hv : List Str → List D → SV) (a : Addr) (cls : Value) (d : Option Addr) : TS := fun E σ H => ∃ (u : Cau) (env : Env) (F : Hp) (μ : List Addr) (S : Sto), u.i = i ∧ u.cl = cl ∧ u.a = a ∧ cls = .ref cl ∧ d = some u.dd ∧
  EnvR c F μ σ env ∧ Rel c F μ S H ∧ XIn c i a u.dd u.fs u.ds σ F μ H ∧ WantU c i a u.dd u.fs u.ds E F μ H (hv (u.fs.map (·.1)) u.ds env S)
theorem SuOk.canon {X : Cx} {i : Nat} {cl : Addr} {sts : List Stmt} {hv : List Str → List D → SV} (su : SuOk X i cl sts hv) (a : Addr) (oe : Obj) (cls : Value) (d : Option Addr) (pn : List (Addr × Obj)) (hz : Zc cls d oe) (hf : ∃ vs, oe.data = .fields vs) :
    PSs (X.suite a ((a, oe) :: pn)) sts (Uof (cf X) i cl hv a cls d) := by
  refine ⟨fun pins s0 σ H E I ⟨u, env, F, μ, S, e1, e2, e3, e4, e5, eR, rel, xi, w⟩ => ?_⟩
  subst e3 e4 e5
  obtain ⟨t, p, s⟩ := su u oe pn e1 e2 hz hf
  rw [← e1] at xi w
  exact p.run pins s0 σ H E I (s E σ env F μ S H eR rel xi w)
theorem GHs.rows {X : Cx} {hds : List ExceptHandler} {l : List ClV} (h : GHs X hds l) : ∃ rows : List Cl, RowOk X hds rows ∧ ∀ (W : WX) (E : Ends) (C : Str) (ns : List Str) (ds : List D) (env : Env) (σ : L2.St) (F : Hp) (μ : List Addr) (H : Hp) (S : Sto),
    EnvR (cf X) F μ σ env → Rel (cf X) F μ S H → WantF (cf X) W E F μ H (hGo l C ns ds env S) → ∀ ccl dd fs, X.mg C = some (.ref ccl) → H dd = some (.xd fs) → fs.map (·.1) = ns → RDs (cf X) F μ (fs.map (·.2)) ds → (F dd = none ∧ dd ∉ μ) → wRow X.K W E rows (.ref ccl) (some dd) σ H := by
  induction h with
  | nil =>
    refine ⟨[], .nil, fun W E C ns ds env σ F μ H S eR rel want ccl dd fs hm hd hn hr hf => ?_⟩
    exact (want σ) ccl dd F μ H fs Ext.refl rel hm hd hn hr hf
  | @cons n cl v st suite np ps hds l hi hl hg hdb hm yes no su r ih =>
    obtain ⟨rows, ro, k⟩ := ih
    refine ⟨(.ref cl, v.i, Uof (cf X) v.i cl v.hv) :: rows, .cons hi hl ⟨hg, hdb, .inl hm⟩ (fun a oe cls d pn hz hf => su.canon a oe cls d pn hz hf) ro, ?_⟩
    intro W E C ns ds env σ F μ H S eR rel want ccl dd fs hmc hd hn hr hf
    change WantF (cf X) W E F μ H (if C = v.C then (if v.i < env.length then hEnd v.i (v.hv ns ds (env.set v.i none) S) else .bad) else if C ∈ v.nos then hGo l C ns ds env S else .bad) at want
    by_cases e : C = v.C
    · rw [if_pos e] at want
      subst e
      obtain ⟨cc, m1, m2⟩ := yes
      rw [hmc] at m1
      cases m1
      rw [hmc] at hm
      cases hm
      refine ⟨true, m2, fun _ a na => ?_, fun z => Bool.noConfusion z⟩
      by_cases hlt0 : v.i < env.length
      case neg => rw [if_neg hlt0] at want; exact want.elim
      rw [if_pos hlt0] at want
      have hlt : v.i < σ.length := by rw [eR.len]; exact hlt0
      refine ⟨⟨v.i, cl, a, dd, fs, ds⟩, env.set v.i none, F, μ, S, rfl, rfl, rfl, rfl, rfl, ?_, rel, ⟨?_, hd, hf.1, hf.2, hr⟩, ?_⟩
      · exact eR.hide
      · rw [List.getElem?_set_self hlt]
      · rw [hn]
        revert want
        cases v.hv ns ds (env.set v.i none) S with
        | bad => exact id
        | exc C ns ds S' => exact id
        | ok fl S' =>
          cases fl with
          | nx env2 => exact fun w σ' F' μ' H' x' rel' eR' _ => w (σ'.set v.i none) F' μ' H' x' rel' (eR'.none v.i)
          | rt d => exact id
          | bk e => exact id
          | ct e => exact id
    · rw [if_neg e] at want
      by_cases e2 : C ∈ v.nos
      · rw [if_pos e2] at want
        obtain ⟨cc, m1, m2⟩ := no C e2
        rw [hmc] at m1
        cases m1
        exact ⟨false, m2, fun z => Bool.noConfusion z, fun _ => k W E C ns ds env σ F μ H S eR rel want _ dd fs hmc hd hn hr hf⟩
      · rw [if_neg e2] at want
        exact want.elim
theorem gs_try {X : Cx} {W : WX} {st : Stmt} {h₀ : ExceptHandler} {hds : List ExceptHandler} {pos : Pos} {sv : SV} {l : List ClV} (hs : X.stack = X.env :: X.outer) (hf : X.env.frame = some X.env.locals) (hN : X.N.Nodup) (tk : Takes X W)
    (hb : ∀ (W : WX) (pn : List (Addr × Obj)) (xe : Value → Shared → Prop), Takes (X.tr pn xe) W → PassesOwn (model X.prog X.w) X.A X.env xe → GS1 (X.tr pn xe) W st sv) (hh : GHs X (h₀ :: hds) l) : GS X W (.Try [st] (h₀ :: hds) [] [] pos) (sTry sv l) := by
  obtain ⟨rows, ro, k⟩ := hh.rows
  refine ⟨_, ps_try_row (tb := Sof1 (cf X) sv) hs hf hN tk (fun W pn xe tk' po => (hb W pn xe tk' po).canon) ro, ?_⟩
  intro E σ env F μ S H eR rel want
  refine ⟨env, F, μ, S, eR, rel, ?_⟩
  change WantF (cf X) W E F μ H (match sv env S with | .exc C ns ds S' => hGo l C ns ds env S' | r => r) at want
  cases h : sv env S with
  | bad => rw [h] at want; exact want
  | ok fl S' =>
    rw [h] at want
    cases fl with
    | nx e => exact want
    | rt d => exact want
    | bk e => exact want
    | ct e => exact want
  | exc C ns ds S' =>
    rw [h] at want
    intro cl dd F' μ' H' fs x' rel' hc hd hn hr hf'
    exact k W E C ns ds env σ F' μ' H' S' (eR.ext x') rel' (WantF.ext want x') cl dd fs hc hd hn hr hf'

/-! ## what the head says of an exception's class -/
def eqL (a b : List Value) : Bool := decide (a = b)
/-- x is a class of ours over a base of ours -/
def oexB (K : PySem.W.Frag) (x : Str) : Bool := match K.lookup (He.ga K x) with
  | some ⟨.type t, _, .cls cd, sl⟩ => (match cd.mro, sl with
    | .ref c :: bm, ⟨[_, _, _, _, some (.builtin n), _]⟩ => decide (t = "type") && (decide (c = He.ga K x) && (cd.hasDict && (!cd.hasDel && Xb.basesB.any fun p => decide (p.1 = n) && eqL p.2 bm)))
    | _, _ => false)
  | _ => false
def oexB2 (K : PySem.W.Frag) (x : Str) : Bool := oexB K x && (He.eqO (PySem.W.findIn K (.ref (He.ga K x)) "__setattr__") (some (some (.builtin "object.__setattr__"))) && (decide (PySem.W.subIn K (.ref (He.ga K x)) (.type "BaseException") = some true) &&
  (decide (PySem.W.typeIn K (.ref (He.ga K x)) = some (.type "type")) && PySem.W.keepIn K (.ref (He.ga K x)))))
theorem oexB_ok {K : PySem.W.Frag} {x : Str} (h : oexB K x = true) : ∃ nm q N bs bm newId sn sub ab col dd k0 k1 k2 k3 k5, K.lookup (He.ga K x) = some (excClassObj nm q (He.ga K x) N bs bm true sn sub ab col dd k0 k1 k2 k3 k5 newId) ∧ Xb.Base newId bm := by
  unfold oexB at h
  split at h
  · rename_i t dd cd sl e
    split at h
    · rename_i c bm k0 k1 k2 k3 n k5 em
      simp only [Bool.and_eq_true, decide_eq_true_eq, Bool.not_eq_true', List.any_eq_true] at h
      obtain ⟨rfl, rfl, h3, h4, p, hp, rfl, h5⟩ := h
      have h5 : p.2 = bm := of_decide_eq_true h5
      subst h5
      obtain ⟨nm, bs, mro, ns, qn, hd, sn, sub, ab, col, del⟩ := cd
      dsimp only at em h3 h4
      subst em h3 h4
      exact ⟨_, _, _, _, _, _, _, _, _, _, _, _, _, _, _, _, e, Xb.base_of hp⟩
    · cases h
  · cases h
theorem oexB2_ok {K : PySem.W.Frag} {x : Str} (h : oexB2 K x = true) : OexG K (He.ga K x) := by
  obtain ⟨h1, h⟩ := He.ba h
  obtain ⟨h2, h⟩ := He.ba h
  obtain ⟨h3, h⟩ := He.ba h
  obtain ⟨h4, h5⟩ := He.ba h
  exact ⟨oexB_ok h1, He.eqO_ok h2, of_decide_eq_true h3, of_decide_eq_true h4, h5⟩
theorem exm_of {K : PySem.W.Frag} {h : Heap} {mg : Str → Option Value} (X : K.In h) (G : h.Ns mainGlobals mg) {C D : Str} {b : Bool} (c : (He.Fa.exm C D b).ok K = true) (g : (He.Fa.glo C).ok K = true) : ExM K mg C b (He.ga K D) := ⟨_, He.glo_ok X G g, He.exm_ok c⟩
end Sm
set_option Elab.async false
set_option linter.all false
set_option maxRecDepth 100000
set_option maxHeartbeats 1000000
namespace Sm
open PySem PySem.Spec PyProof.Rows L2
/-! ## an own exception's __init__ -/
theorem spx_len {C : Addr} {f : Str} {vs : List V} {H : Hp} {Q : VK} {E : XK} (h : spX C f vs H Q E) : vs.length = 2 := by
  obtain ⟨a, x, rfl, _⟩ := h; rfl
theorem gst_go {K : PySem.W.Frag} {C : Addr} {f : Str} {N : List Str} {vs : List V} {H : Hp} {Q : VK} {E : XK} (T : OexG K C) (no : PySem.W.findIn K (.ref C) f = some none) (h : spX C f vs H Q E) :
    tGst K f (tVar 0) (tVar 1) { nx := fun _ H' => Q .non H', rt := Q } (start N vs) H := by
  obtain ⟨a, x, rfl, ea, k⟩ := h
  exact ⟨x, rfl, .ref a, rfl, a, C, rfl, T, no, ea, fun dx n ne => k dx n ne⟩
theorem exms_nil {K : PySem.W.Frag} {mg : Str → Option Value} {cl : Addr} : ∀ C ∈ ([] : List Str), ExM K mg C false cl := fun _ h => nomatch h
theorem exms_cons {K : PySem.W.Frag} {mg : Str → Option Value} {cl : Addr} {C : Str} {r : List Str} (h : ExM K mg C false cl) (t : ∀ D ∈ r, ExM K mg D false cl) : ∀ D ∈ C :: r, ExM K mg D false cl := fun D m => by
  rcases List.mem_cons.mp m with e | m
  · rw [e]; exact h
  · exact t D m
/-! ## a plain def, some of its parameters by name, in any order -/
def pk {α : Type} (pi : List Nat) (ws : List α) : List α := pi.filterMap (ws[·]?)
theorem pk_vals {zs : List V} {ws : List Value} (r : Vals zs ws) : ∀ (pi : List Nat), Vals (pk pi zs) (pk pi ws)
  | [] => .nil
  | i :: pi => by
    have ih := pk_vals r pi
    unfold pk at ih ⊢
    rw [List.filterMap_cons, List.filterMap_cons]
    have hl : zs.length = ws.length := Paired.length r
    by_cases hi : i < zs.length
    · have e1 : zs[i]? = some zs[i] := List.getElem?_eq_getElem hi
      have e2 : ws[i]? = some (ws[i]'(hl ▸ hi)) := List.getElem?_eq_getElem (hl ▸ hi)
      rw [e1, e2]
      refine .cons ?_ ih
      have : ∀ {zs : List V} {ws : List Value} (r : Vals zs ws) (i : Nat) (h1 : i < zs.length) (h2 : i < ws.length), RelV zs[i] ws[i] := by
        intro zs ws r
        induction r with
        | nil => intro i h1; exact absurd h1 (Nat.not_lt_zero _)
        | cons h t ih =>
          intro i h1 h2
          cases i with
          | zero => exact h
          | succ i => exact ih i (Nat.lt_of_succ_lt_succ h1) (Nat.lt_of_succ_lt_succ h2)
      exact this r i hi (hl ▸ hi)
    · rw [List.getElem?_eq_none (Nat.le_of_not_lt hi), List.getElem?_eq_none (by omega)]
      exact ih
theorem pk_rds {c : Cfg} {F : Hp} {μ : List Addr} {zs : List V} {es : List D} (r : RDs c F μ zs es) : ∀ (pi : List Nat), RDs c F μ (pk pi zs) (pk pi es)
  | [] => .nil
  | i :: pi => by
    have ih := pk_rds r pi
    unfold pk at ih ⊢
    rw [List.filterMap_cons, List.filterMap_cons]
    cases e : es[i]? with
    | some d =>
      obtain ⟨v, e1, h1⟩ := r.get e
      rw [e1]
      exact .cons h1 ih
    | none =>
      have : zs[i]? = none := by
        rw [List.getElem?_eq_none_iff] at e ⊢
        rw [r.length]; exact e
      rw [this]
      exact ih
theorem kbn_perm {K : PySem.W.Frag} {x qual : Str} {params : Arguments} {body : List Stmt} {scope : Scope} {f : Addr} {fd : FuncData} {ps : List Str} (F : FunD K x qual params body scope [] [] f fd) (n : Nat) (ks : List Str) (pi : List Nat)
    (h : ∀ (kV doc pm : Value) (an : Option Addr) (cdv ct : Value) (us ws : List Value), us.length = n → ws.length = ks.length → bindArgs (PySem.W.fnOf x qual params body scope .none kV doc pm an cdv ct) ⟨us, ks.zip ws⟩ = pure (ps.zip (us ++ pk pi ws))) :
    KBn K fd ps n ks (fun us ws => us ++ pk pi ws) (fun vs zs => vs ++ pk pi zs) := by
  obtain ⟨oc, od, dV, kV, doc, pm, an, cdv, ct, osl, rfl, lk, hcd, hD, hK⟩ := F.ex
  rcases hD with ⟨_, rfl⟩ | ⟨e, _⟩
  · exact ⟨fun s us ws X l1 l2 => .of_eq (h kV doc pm an cdv ct us ws l1 l2), fun r1 r2 => r1.append (pk_vals r2 pi)⟩
  · exact absurd rfl e
structure FoP (P : Program) (w : World) (K : PySem.W.Frag) (mg : Str → Option Value) (base : Heap) (k : Nat) (x : Str) (n : Nat) (ks : List Str) (pi : List Nat) (ev : List D → Sto → Res D) : Prop where
  ex : ∃ (f : Addr) (fd : FuncData) (ps : List Str), FnOk P w K mg base (L2.CX P w) k f fd ps (SpF ⟨K, mg⟩ (n + pi.length) ev) ∧ mg x = some (.ref f) ∧ PySem.W.keepIn K (.ref f) = true ∧ KBn K fd ps n ks (fun us ws => us ++ pk pi ws) (fun vs zs => vs ++ pk pi zs)
def eCallP (ev : List D → Sto → Res D) (n m : Nat) (pi : List Nat) (a ak : AV) : EV := fun env S => (a env S).bind fun ds S1 => (ak env S1).bind fun es S2 => if ds.length = n ∧ es.length = m ∧ (pk pi es).length = pi.length then ev (ds ++ pk pi es) S2 else .bad
section
variable {X : Cx} {W : WX}
theorem ge_callP {k n : Nat} {x : Str} {ks : List Str} {pi : List Nat} {ev : List D → Sto → Res D} {e : Expr} {es : List Expr} {kws : List Keyword} {av ak : AV} {p pos : Pos} (M : FoP X.prog X.w X.K X.mg X.base k x n ks pi ev) (hr : Room k X.A) (px : PassW X W) (ha : GA X W (e :: es) av) (hk : GK X W kws ak) (hg : Gl X x := by rfl)
    (hall : (backToKw pos (keywordEach kws X.env)).all (·.1.isSome) = true := by rfl) (hks : (backToKw pos (keywordEach kws X.env)).filterMap (·.1) = ks := by rfl) (hdb : (x == ("__debug__" : Str)) = false := by decide)
    (he : starEach (e :: es) X.env = (false, eval e X.env) :: starEach es X.env := by rfl) (hpl : ((backTo pos (starEach (e :: es) X.env)).any (·.1) || (backToKw pos (keywordEach kws X.env)).any (·.1.isNone)) = false := by rfl) :
    GE X W (.Call (.Name x p) (e :: es) kws pos) (eCallP ev n ks.length pi av ak) := by
  obtain ⟨f, fd, ps, F, hm, hkp, hb⟩ := M
  obtain ⟨E, hp, hE⟩ := px
  obtain ⟨t, pt, st⟩ := ha
  obtain ⟨tk, ptk, stk⟩ := hk
  refine ⟨_, pe_callN F hr hg hm hkp hb hp pt ptk hall hks hdb he hpl, ?_⟩
  refine Sm.bind (kt := fun vs σ H1 (Q : VK) => tk σ H1 fun zs H2 => vs.length = n ∧ zs.length = ks.length ∧ SpF (cf X) (n + pi.length) ev (vs ++ pk pi zs) H2 Q E)
    (ke := fun ds env S => (ak env S).bind fun es S2 => if ds.length = n ∧ es.length = ks.length ∧ (pk pi es).length = pi.length then ev (ds ++ pk pi es) S2 else .bad) st fun F1 μ1 xs ds s1 p1 r1 => ?_
  refine Sm.bind (kt := fun zs σ H1 (Q : VK) => xs.length = n ∧ zs.length = ks.length ∧ SpF (cf X) (n + pi.length) ev (xs ++ pk pi zs) H1 Q E)
    (ke := fun es env S => if ds.length = n ∧ es.length = ks.length ∧ (pk pi es).length = pi.length then ev (ds ++ pk pi es) S else .bad) (stk.weaken (fun _ _ h => nomatch h) List.nil_prefix) fun F2 μ2 zs ys s2 p2 r2 => ?_
  intro σ env F μ S H Q s p eR rel want
  dsimp only at want
  split at want
  · rename_i h
    have r1' := r1.mono (s2.trans s) (p2.trans p)
    have r2' := r2.mono s p
    have r3 := r1'.append (pk_rds r2' pi)
    exact ⟨by rw [r1'.length]; exact h.1, by rw [r2'.length]; exact h.2.1, by rw [r3.length, List.length_append, h.1, h.2.2], F, μ, S, ds ++ pk pi ys, r3, rel, want_of_callee hE want⟩
  · exact want.elim
end
end Sm
set_option Elab.async false
set_option linter.all false
set_option maxRecDepth 100000
set_option maxHeartbeats 1000000
namespace Sm
open PySem PySem.Spec PyProof.Rows L2
/-! ## calls by names alone -/
theorem kbn_permK {K : PySem.W.Frag} {x qual : Str} {params : Arguments} {body : List Stmt} {scope : Scope} {kws : List (Str × V)} {f : Addr} {fd : FuncData} {ps : List Str} (F : FunD K x qual params body scope [] kws f fd) (n : Nat) (ks : List Str) (pi : List Nat) (hk : kws ≠ [])
    (h : ∀ (D : Addr) (doc pm : Value) (an : Option Addr) (cdv ct : Value) (us ws : List Value), us.length = n → ws.length = ks.length → bindArgs (PySem.W.fnOf x qual params body scope .none (.ref D) doc pm an cdv ct) ⟨us, ks.zip ws⟩ = pure (ps.zip (us ++ pk pi ws))) :
    KBn K fd ps n ks (fun us ws => us ++ pk pi ws) (fun vs zs => vs ++ pk pi zs) := by
  obtain ⟨oc, od, dV, kV, doc, pm, an, cdv, ct, osl, rfl, lk, hcd, hD, hK⟩ := F.ex
  rcases hD with ⟨_, rfl⟩ | ⟨e, _⟩
  · rcases hK with e | ⟨D, rfl, hq⟩
    · exact absurd e hk
    · exact ⟨fun s us ws X l1 l2 => .of_eq (h D doc pm an cdv ct us ws l1 l2), fun r1 r2 => r1.append (pk_vals r2 pi)⟩
  · exact absurd rfl e
section
variable {X : Cx} {W : WX}
theorem pe_callN0 {CX : CXT} {k : Nat} {f : Addr} {fd : FuncData} {ps ks : List Str} {sp : Sp} {E : XK} {x : Str} {p pos : Pos} {kws : List Keyword} {tk : TA} {g : List Value → List Value → List Value} {gV : List V → List V → List V}
    (F : FnOk X.prog X.w X.K X.mg X.base CX k f fd ps sp) (hr : Room k X.A) (hg : Gl X x) (hm : X.mg x = some (.ref f)) (hk : PySem.W.keepIn X.K (.ref f) = true) (hb : KBn X.K fd ps 0 ks g gV) (hx : Passes CX X E)
    (hkw : PK X kws tk) (hall : (backToKw pos (keywordEach kws X.env)).all (·.1.isSome) = true := by rfl) (hks : (backToKw pos (keywordEach kws X.env)).filterMap (·.1) = ks := by rfl)
    (hdb : (x == ("__debug__" : Str)) = false := by decide)
    (hpl : ((backTo pos (starEach [] X.env)).any (·.1) || (backToKw pos (keywordEach kws X.env)).any (·.1.isNone)) = false := by rfl) :
    PE X (.Call (.Name x p) [] kws pos) (fun σ H Q => tk σ H fun zs H2 => zs.length = ks.length ∧ sp (gV [] zs) H2 Q E) := by
  refine ⟨fun pins s σ H Q I h => ?_⟩
  refine wpAny_Call_Name_kw (ld_glob I hg hm ?_ hdb)
  refine PySem.W.callWith_KW0 (h₀ := X.base) I.ok.mod.kin hk hall (thn (hkw.run pos pins s σ H _ I h) fun ws s2 ⟨zs, H2, I2, rz, l2, q2⟩ => ⟨I2.kIn, ?_⟩) hpl
  rw [hks]
  exact run_fnN (us := []) (vs := []) F hr hb hx I2 .nil rz rfl l2 q2
theorem ge_callP0 {k : Nat} {x : Str} {ks : List Str} {pi : List Nat} {ev : List D → Sto → Res D} {kws : List Keyword} {ak : AV} {p pos : Pos} (M : FoP X.prog X.w X.K X.mg X.base k x 0 ks pi ev) (hr : Room k X.A) (px : PassW X W) (hk : GK X W kws ak) (hg : Gl X x := by rfl)
    (hall : (backToKw pos (keywordEach kws X.env)).all (·.1.isSome) = true := by rfl) (hks : (backToKw pos (keywordEach kws X.env)).filterMap (·.1) = ks := by rfl) (hdb : (x == ("__debug__" : Str)) = false := by decide)
    (hpl : ((backTo pos (starEach [] X.env)).any (·.1) || (backToKw pos (keywordEach kws X.env)).any (·.1.isNone)) = false := by rfl) :
    GE X W (.Call (.Name x p) [] kws pos) (eCallP ev 0 ks.length pi aNil ak) := by
  obtain ⟨f, fd, ps, F, hm, hkp, hb⟩ := M
  obtain ⟨E, hp, hE⟩ := px
  obtain ⟨tk, ptk, stk⟩ := hk
  refine ⟨_, pe_callN0 F hr hg hm hkp hb hp ptk hall hks hdb hpl, ?_⟩
  refine Sm.bind (kt := fun zs σ H1 (Q : VK) => zs.length = ks.length ∧ SpF (cf X) (0 + pi.length) ev ([] ++ pk pi zs) H1 Q E)
    (ke := fun es env S => if ([] : List D).length = 0 ∧ es.length = ks.length ∧ (pk pi es).length = pi.length then ev ([] ++ pk pi es) S else .bad) stk fun F2 μ2 zs ys s2 p2 r2 => ?_
  intro σ env F μ S H Q s p eR rel want
  dsimp only at want
  split at want
  · rename_i h
    have r2' := r2.mono s p
    have r3 := pk_rds r2' pi
    exact ⟨by rw [r2'.length]; exact h.2.1, by rw [List.nil_append, r3.length, h.2.2]; omega, F, μ, S, pk pi ys, r3, rel, want_of_callee hE want⟩
  · exact want.elim
/-! ## a call with defaults whose exceptions are caught here -/
theorem ge_callDS {k ar : Nat} {x : Str} {dd : List D} {ev : List D → Sto → Res D} {e : Expr} {es : List Expr} {av : AV} {p pos : Pos} (F : FoD X.prog X.w X.K X.mg X.base k x ar dd ev) (hr : Room k X.A) (tk : Takes X W) (ha : GA X W (e :: es) av) (hg : Gl X x := by rfl)
    (hdb : (x == ("__debug__" : Str)) = false := by decide) (he : starEach (e :: es) X.env = (false, eval e X.env) :: starEach es X.env := by rfl) (hpl : (backTo pos (starEach es X.env)).any (·.1) = false := by rfl) :
    GE X W (.Call (.Name x p) (e :: es) [] pos) (eCallD ev ar dd av) := by
  obtain ⟨f, fd, ps, dz, dvs, F, hm, hk, hb, hv, hd⟩ := F
  obtain ⟨t, pt, st⟩ := ha
  refine ⟨_, pe_callSD F hr hg hm hk hb hv (passAt tk) pt hdb he hpl, ?_⟩
  refine Sm.bind (kt := fun vs σ H1 Q => SpF (cf X) (ar + dd.length) ev (vs ++ dvs) H1 Q (L2.WE W σ)) (ke := fun ds env S1 => if ds.length = ar then ev (ds ++ dd) S1 else .bad) st fun F1 μ1 xs ds s1 p1 r1 => ?_
  intro σ env F μ S H Q s p eR rel want
  split at want
  · rename_i h
    refine ⟨by rw [List.length_append, r1.length, (hd F μ).length, h], F, μ, S, ds ++ dd, (r1.mono s p).append (hd F μ), rel, ?_⟩
    change Want _ W _ σ F μ H Q (ev (ds ++ dd) S) at want
    cases q : ev (ds ++ dd) S with
    | bad => rw [q] at want; exact want
    | ok a S => rw [q] at want; exact want
    | exc C ns ds S' => rw [q] at want; exact fun cl dd F' μ' H' fs x rel hc hd hn hr hf => want cl dd F' μ' H' fs x rel hc hd hn hr hf
  · exact want.elim
/-! ## a comparison in a suite -/
theorem gy_cmp {u : Cau} {op : CmpOp} {f : OV2} {a b : Expr} {ea eb : EV} {pos : Pos} (o : GOp X (compareOp op) f) (ha : GX X u a ea) (hb : GX X u b eb) (hm : behindInMarks op b = false := by first | exact nomark _ | rfl) : GX X u (.Compare a [op] [b] pos) (eOp f ea eb) := by
  obtain ⟨r, o, s⟩ := o
  obtain ⟨ta, pa, sa⟩ := ha
  obtain ⟨tb, pb, sb⟩ := hb
  refine ⟨_, pe_cmpR o pa pb hm, ?_⟩
  refine SmX.bind (kt := fun x σ H1 (Q : VK) => tb σ H1 fun y H2 => r x y H2 Q) (ke := fun d env S1 => (eb env S1).bind fun e S2 => noX (f d e S2)) sa fun F1 μ1 x dx r1 => ?_
  intro σ env S H Q eR rel xi want
  refine sb σ env F1 μ1 S H _ eR rel xi ?_
  cases h : eb env S with
  | bad => rw [h] at want; exact want
  | exc C ns ds S' => rw [h] at want; exact want
  | ok e S2 =>
    rw [h] at want
    intro y F' μ' H' x' rel' r'
    exact s F' μ' S2 H' x y dx e Q rel' (r1.mono x'.mono x'.pre) r' (Want.ext want x').noX
end
end Sm
set_option Elab.async false
set_option linter.all false
set_option maxRecDepth 100000
set_option maxHeartbeats 0
open PySem PySem.Spec
namespace Sm
open L2 PySem.W
def top (i : Nat) : Stmt := PySem.Challenge.pw_promptworks_k54_bounds_of_messages.main.body.getD i (.Pass ⟨0, 0, 0, 0⟩)
abbrev s_by_rank : Stmt := top 6
abbrev s_Shared___init__ : Stmt := inClass (top 4) 0
abbrev s_Twice___init__ : Stmt := inClass (top 3) 0
abbrev s_more_urgent : Stmt := top 7
abbrev s_comings : Stmt := top 9
abbrev s_demanded : Stmt := top 10
abbrev s_is_name : Stmt := top 14
abbrev s_is_number : Stmt := top 15
abbrev s_wrong_part : Stmt := top 16
abbrev s_Message___init__ : Stmt := inClass (top 19) 0
abbrev s_BadTask___init__ : Stmt := inClass (top 1) 0
abbrev s_waiting : Stmt := top 20
abbrev s_held_back : Stmt := top 22
abbrev s_with_spoils : Stmt := top 23
abbrev s_stretch : Stmt := top 24
abbrev s_least_begin : Stmt := top 25
abbrev s_Bus_message : Stmt := inClass (top 21) 2
abbrev s_NoTask___init__ : Stmt := inClass (top 2) 0
abbrev s_Bus_messages : Stmt := inClass (top 21) 1
abbrev s_bus_bound : Stmt := top 26
abbrev s__law_tape : Stmt := top 28
abbrev s__law_draw : Stmt := top 29
abbrev s__law_pick : Stmt := top 30
abbrev s__law_names : Stmt := top 31
abbrev s__law_ranked : Stmt := top 32
abbrev s__law_rows : Stmt := top 33
abbrev s_Bus___init__ : Stmt := inClass (top 21) 0
abbrev s__law_bus : Stmt := top 34
abbrev s__law_times : Stmt := top 35
abbrev s__law_bus_bound : Stmt := top 36
abbrev s__law_no_task : Stmt := top 37
abbrev s_law : Stmt := top 38
structure Facts (K : PySem.W.Frag) (mg : Str → Option Value) (base : Heap) : Prop where
  at_Message_name : ClsF K mg "Message" "name"
  at_Message_rank : ClsF K mg "Message" "rank"
  b_list : mg "list" = none
  b_sorted : mg "sorted" = none
  mx_Shared : ∃ fI fd cl, FunD K "__init__" "Shared.__init__" (defArgs s_Shared___init__) (defBody s_Shared___init__) (defScope s_Shared___init__) [] [] fI fd ∧ mg "Shared" = some (.ref cl) ∧ OexG K cl ∧ Meth K cl "__init__" fI ∧ PySem.W.findIn K (.ref cl) "rank" = some none
  mx_Twice : ∃ fI fd cl, FunD K "__init__" "Twice.__init__" (defArgs s_Twice___init__) (defBody s_Twice___init__) (defScope s_Twice___init__) [] [] fI fd ∧ mg "Twice" = some (.ref cl) ∧ OexG K cl ∧ Meth K cl "__init__" fI ∧ PySem.W.findIn K (.ref cl) "name" = some none
  d_by_rank : ∃ f fd, FunD K "by_rank" "by_rank" (defArgs s_by_rank) (defBody s_by_rank) (defScope s_by_rank) [] [] f fd ∧ mg "by_rank" = some (.ref f)
  d_more_urgent : ∃ f fd, FunD K "more_urgent" "more_urgent" (defArgs s_more_urgent) (defBody s_more_urgent) (defScope s_more_urgent) [] [] f fd ∧ mg "more_urgent" = some (.ref f)
  at_Message_gap : ClsF K mg "Message" "gap"
  at_Message_wait : ClsF K mg "Message" "wait"
  d_comings : ∃ f fd, FunD K "comings" "comings" (defArgs s_comings) (defBody s_comings) (defScope s_comings) [] [] f fd ∧ mg "comings" = some (.ref f)
  at_Message_most : ClsF K mg "Message" "most"
  b_sum : mg "sum" = none
  d_demanded : ∃ f fd, FunD K "demanded" "demanded" (defArgs s_demanded) (defBody s_demanded) (defScope s_demanded) [] [] f fd ∧ mg "demanded" = some (.ref f)
  b_all : mg "all" = none
  b_len : mg "len" = none
  b_str : mg "str" = none
  b_type : mg "type" = none
  i_LONGEST_NAME : ∃ t, mg "LONGEST_NAME" = some (.int 12 t)
  s_LETTERS : ∃ t, mg "LETTERS" = some (.str "abcdefghijklmnopqrstuvwxyz" t)
  d_is_name : ∃ f fd, FunD K "is_name" "is_name" (defArgs s_is_name) (defBody s_is_name) (defScope s_is_name) [] [] f fd ∧ mg "is_name" = some (.ref f)
  b_int : mg "int" = none
  d_is_number : ∃ f fd, FunD K "is_number" "is_number" (defArgs s_is_number) (defBody s_is_number) (defScope s_is_number) [] [] f fd ∧ mg "is_number" = some (.ref f)
  d_wrong_part : ∃ f fd, FunD K "wrong_part" "wrong_part" (defArgs s_wrong_part) (defBody s_wrong_part) (defScope s_wrong_part) [] [] f fd ∧ mg "wrong_part" = some (.ref f)
  at_Message_due : ClsF K mg "Message" "due"
  mx_BadTask : ∃ fI fd cl, FunD K "__init__" "BadTask.__init__" (defArgs s_BadTask___init__) (defBody s_BadTask___init__) (defScope s_BadTask___init__) [] [] fI fd ∧ mg "BadTask" = some (.ref cl) ∧ OexG K cl ∧ Meth K cl "__init__" fI ∧ PySem.W.findIn K (.ref cl) "part" = some none
  mk_Message : ∃ f fd cl kws, kws ≠ [] ∧ FunD K "__init__" "Message.__init__" (defArgs s_Message___init__) (defBody s_Message___init__) (defScope s_Message___init__) [] kws f fd ∧ mg "Message" = some (.ref cl) ∧ Mk K cl f
  d_waiting : ∃ f fd, FunD K "waiting" "waiting" (defArgs s_waiting) (defBody s_waiting) (defScope s_waiting) [] [] f fd ∧ mg "waiting" = some (.ref f)
  b_max : mg "max" = none
  d_held_back : ∃ f fd, FunD K "held_back" "held_back" (defArgs s_held_back) (defBody s_held_back) (defScope s_held_back) [] [] f fd ∧ mg "held_back" = some (.ref f)
  d_with_spoils : ∃ f fd, FunD K "with_spoils" "with_spoils" (defArgs s_with_spoils) (defBody s_with_spoils) (defScope s_with_spoils) [] [] f fd ∧ mg "with_spoils" = some (.ref f)
  i_GAPS : ∃ t, mg "GAPS" = some (.int 100 t)
  d_stretch : ∃ f fd, FunD K "stretch" "stretch" (defArgs s_stretch) (defBody s_stretch) (defScope s_stretch) [] [] f fd ∧ mg "stretch" = some (.ref f)
  d_least_begin : ∃ f fd, FunD K "least_begin" "least_begin" (defArgs s_least_begin) (defBody s_least_begin) (defScope s_least_begin) [] [] f fd ∧ mg "least_begin" = some (.ref f)
  at_Bus__messages : ClsF K mg "Bus" "_messages"
  mx_NoTask : ∃ fI fd cl, FunD K "__init__" "NoTask.__init__" (defArgs s_NoTask___init__) (defBody s_NoTask___init__) (defScope s_NoTask___init__) [] [] fI fd ∧ mg "NoTask" = some (.ref cl) ∧ OexG K cl ∧ Meth K cl "__init__" fI ∧ PySem.W.findIn K (.ref cl) "name" = some none
  me_Bus_message : ∃ f fd cl, FunD K "message" "Bus.message" (defArgs s_Bus_message) (defBody s_Bus_message) (defScope s_Bus_message) [] [] f fd ∧ mg "Bus" = some (.ref cl) ∧ Cls K cl ∧ Meth K cl "message" f
  me_Bus_messages : ∃ f fd cl, FunD K "messages" "Bus.messages" (defArgs s_Bus_messages) (defBody s_Bus_messages) (defScope s_Bus_messages) [] [] f fd ∧ mg "Bus" = some (.ref cl) ∧ Cls K cl ∧ Meth K cl "messages" f
  b_range : mg "range" = none
  d_bus_bound : ∃ f fd, FunD K "bus_bound" "bus_bound" (defArgs s_bus_bound) (defBody s_bus_bound) (defScope s_bus_bound) [] [("apart", .non)] f fd ∧ mg "bus_bound" = some (.ref f)
  d__law_tape : ∃ f fd, FunD K "_law_tape" "_law_tape" (defArgs s__law_tape) (defBody s__law_tape) (defScope s__law_tape) [] [] f fd ∧ mg "_law_tape" = some (.ref f)
  d__law_draw : ∃ f fd, FunD K "_law_draw" "_law_draw" (defArgs s__law_draw) (defBody s__law_draw) (defScope s__law_draw) [] [] f fd ∧ mg "_law_draw" = some (.ref f)
  d__law_pick : ∃ f fd, FunD K "_law_pick" "_law_pick" (defArgs s__law_pick) (defBody s__law_pick) (defScope s__law_pick) [] [] f fd ∧ mg "_law_pick" = some (.ref f)
  d__law_names : ∃ f fd, FunD K "_law_names" "_law_names" (defArgs s__law_names) (defBody s__law_names) (defScope s__law_names) [] [] f fd ∧ mg "_law_names" = some (.ref f)
  d__law_ranked : ∃ f fd, FunD K "_law_ranked" "_law_ranked" (defArgs s__law_ranked) (defBody s__law_ranked) (defScope s__law_ranked) [] [] f fd ∧ mg "_law_ranked" = some (.ref f)
  d__law_rows : ∃ f fd, FunD K "_law_rows" "_law_rows" (defArgs s__law_rows) (defBody s__law_rows) (defScope s__law_rows) [] [] f fd ∧ mg "_law_rows" = some (.ref f)
  mk_Bus : ∃ f fd cl v0, FunD K "__init__" "Bus.__init__" (defArgs s_Bus___init__) (defBody s_Bus___init__) (defScope s_Bus___init__) [v0] [] f fd ∧ mg "Bus" = some (.ref cl) ∧ Mk K cl f ∧ EmptyT K v0
  d__law_bus : ∃ f fd, FunD K "_law_bus" "_law_bus" (defArgs s__law_bus) (defBody s__law_bus) (defScope s__law_bus) [] [] f fd ∧ mg "_law_bus" = some (.ref f)
  d__law_times : ∃ f fd, FunD K "_law_times" "_law_times" (defArgs s__law_times) (defBody s__law_times) (defScope s__law_times) [] [] f fd ∧ mg "_law_times" = some (.ref f)
  d__law_bus_bound : ∃ f fd, FunD K "_law_bus_bound" "_law_bus_bound" (defArgs s__law_bus_bound) (defBody s__law_bus_bound) (defScope s__law_bus_bound) [] [] f fd ∧ mg "_law_bus_bound" = some (.ref f)
  xc__law_no_task_0 : ∃ cl, mg "NoTask" = some (.ref cl) ∧ XfC K cl ∧ ExM K mg "NoTask" true cl ∧ (∀ C ∈ (["BadTask"] : List Str), ExM K mg C false cl) ∧ PySem.W.findIn K (.ref cl) "name" = some none
  d__law_no_task : ∃ f fd, FunD K "_law_no_task" "_law_no_task" (defArgs s__law_no_task) (defBody s__law_no_task) (defScope s__law_no_task) [] [] f fd ∧ mg "_law_no_task" = some (.ref f)
  b_repr : mg "repr" = none
  d_law : ∃ f fd, FunD K "law" "law" (defArgs s_law) (defBody s_law) (defScope s_law) [] [] f fd ∧ mg "law" = some (.ref f)
section
variable {P : Program} {w : World} {K : PySem.W.Frag} {mg : Str → Option Value} {base : Heap}
theorem sc_Shared___init__ : FnScope ["self", "rank"] ["self", "rank"] (defScope s_Shared___init__) := ⟨rfl, rfl, rfl, by decide +kernel, rfl, by decide +kernel, by decide +kernel⟩
theorem mx_Shared (G : Facts K mg base) : MoX P w K mg base "Shared" "rank" := by
  obtain ⟨fI, fd, cl, F, hm, T, me, no⟩ := G.mx_Shared
  refine ⟨cl, fI, fd, ["self", "rank"], hm, T, me.at_, by have := me.fn; simpa [PySem.W.isFn] using this, F.ok sc_Shared___init__ (fun vs H Q E h => spx_len h) (fun cdv A outer s H vs Q E hr h => ⟨_, pss_one (ps_gst (pe_var (i := 0) rfl (Or.inl rfl)) (pe_var (i := 1) rfl (Or.inl rfl))), gst_go T no h⟩), F.bindsN (fun _ _ _ _ _ _ us hl => match us, hl with | [_, _], _ => rfl)⟩
theorem sc_Twice___init__ : FnScope ["self", "name"] ["self", "name"] (defScope s_Twice___init__) := ⟨rfl, rfl, rfl, by decide +kernel, rfl, by decide +kernel, by decide +kernel⟩
theorem mx_Twice (G : Facts K mg base) : MoX P w K mg base "Twice" "name" := by
  obtain ⟨fI, fd, cl, F, hm, T, me, no⟩ := G.mx_Twice
  refine ⟨cl, fI, fd, ["self", "name"], hm, T, me.at_, by have := me.fn; simpa [PySem.W.isFn] using this, F.ok sc_Twice___init__ (fun vs H Q E h => spx_len h) (fun cdv A outer s H vs Q E hr h => ⟨_, pss_one (ps_gst (pe_var (i := 0) rfl (Or.inl rfl)) (pe_var (i := 1) rfl (Or.inl rfl))), gst_go T no h⟩), F.bindsN (fun _ _ _ _ _ _ us hl => match us, hl with | [_, _], _ => rfl)⟩
theorem sc_by_rank : FnScope ["rows", "names", "ranks", "row", "rank"] ["rows"] (defScope s_by_rank) := ⟨rfl, rfl, rfl, by decide +kernel, rfl, by decide +kernel, by decide +kernel⟩
def m_by_rank : List D → Sto → Res D := fnT 5 (sSeq (sSet 1 eDNewK) (sSeq (sSet 2 eDNewK) (sSeq (sFor (aIt dSeq (eV 0)) (vName 3) (sSeq (sIf (tB' (eOp (dInS false) (eUn (fldD ["Message"] "name") (eV 3)) (eV 1))) (sRaise "Twice" "name" (aCons (eUn (fldD ["Message"] "name") (eV 3)) aNil)) sNext) (sSeq (sIf (tB' (eOp (dInS false) (eUn (fldD ["Message"] "rank") (eV 3)) (eV 2))) (sRaise "Shared" "rank" (aCons (eUn (fldD ["Message"] "rank") (eV 3)) aNil)) sNext) (sSeq (sPut dPutS (eV 1) (eUn (fldD ["Message"] "name") (eV 3)) (eC (.bl true))) (sPut dPutS (eV 2) (eUn (fldD ["Message"] "rank") (eV 3)) (eV 3)))))) (sRet (eLc [4] (aIt dSeq (eAr aSortP (aCons (eAr aListD (aCons (eV 2) aNil)) aNil))) (vName 4) tvYes (eOp dGetS (eV 2) (eV 4)))))))
theorem fn_by_rank (G : Facts K mg base) {f : Addr} {fd : FuncData} (F : FunD K "by_rank" "by_rank" (defArgs s_by_rank) (defBody s_by_rank) (defScope s_by_rank) [] [] f fd) : FnOk P w K mg base (L2.CX P w) 3 f fd ["rows"] (SpF ⟨K, mg⟩ 1 m_by_rank) := by
  refine fn_cut (fn_sm F sc_by_rank fun cdv A outer s H E hr => GB.ex (W := WE E) ?_)
  have nd := sc_by_rank.nd
  have po : PassesOwn (model P w) (cxOf (L2.CX P w) P w K mg base ["rows", "names", "ranks", "row", "rank"] "by_rank" (defScope s_by_rank) f cdv A outer s H E).A (cxOf (L2.CX P w) P w K mg base ["rows", "names", "ranks", "row", "rank"] "by_rank" (defScope s_by_rank) f cdv A outer s H E).env (cxOf (L2.CX P w) P w K mg base ["rows", "names", "ranks", "row", "rank"] "by_rank" (defScope s_by_rank) f cdv A outer s H E).xe := passes_of (X := cxOf (L2.CX P w) P w K mg base ["rows", "names", "ranks", "row", "rank"] "by_rank" (defScope s_by_rank) f cdv A outer s H E) rfl
  have px : PassW (cxOf (L2.CX P w) P w K mg base ["rows", "names", "ranks", "row", "rank"] "by_rank" (defScope s_by_rank) f cdv A outer s H E) (WE E) := passWE (takes_of (X := cxOf (L2.CX P w) P w K mg base ["rows", "names", "ranks", "row", "rank"] "by_rank" (defScope s_by_rank) f cdv A outer s H E) rfl rfl rfl rfl)
  have tk : Takes (cxOf (L2.CX P w) P w K mg base ["rows", "names", "ranks", "row", "rank"] "by_rank" (defScope s_by_rank) f cdv A outer s H E) (WE E) := takes_of (X := cxOf (L2.CX P w) P w K mg base ["rows", "names", "ranks", "row", "rank"] "by_rank" (defScope s_by_rank) f cdv A outer s H E) rfl rfl rfl rfl
  exact (gb_cons (gs_set 1 nd ge_dnewK) (gb_cons (gs_set 2 nd ge_dnewK) (gb_cons (gs_for po (gi_seq (gv 0)) (gg_name 3 nd) (gb_cons (gs_if (gt_din hr (ge_fld (one G.at_Message_name) (gv 3)) (gv 1)) (gb_one (gs_raise (mx_Twice G) (hr.mono (by omega)) tk (ga_cons (ge_fld (one G.at_Message_name) (gv 3)) ga_nil))) gb_nil) (gb_cons (gs_if (gt_din hr (ge_fld (one G.at_Message_rank) (gv 3)) (gv 2)) (gb_one (gs_raise (mx_Shared G) (hr.mono (by omega)) tk (ga_cons (ge_fld (one G.at_Message_rank) (gv 3)) ga_nil))) gb_nil) (gb_cons (gs_dput hr (gv 1) (ge_fld (one G.at_Message_name) (gv 3)) ge_bl) (gb_one (gs_dput hr (gv 2) (ge_fld (one G.at_Message_rank) (gv 3)) (gv 3))))))) (gb_one (gs_ret (ge_lc (own := [("rank", 4)]) nd (gi_seq (ge_sorted hr G.b_sorted (ga_cons (ge_listD rfl G.b_list (ga_cons (gv 2) ga_nil)) ga_nil))) rfl (fun s H C cl fp => (gg_name 4 nd)) (fun s H C cl fp => gts_nil) (fun s H C cl fp => (ge_dget hr (gv 2) (gv 4)))))))))
theorem fo_by_rank (G : Facts K mg base) : Fo P w K mg base 3 "by_rank" 1 m_by_rank := by
  obtain ⟨f, fd, F, hm⟩ := G.d_by_rank
  exact ⟨f, fd, ["rows"], fn_by_rank G F, hm, F.kp, F.bindsN (fun _ _ _ _ _ _ us hl => match us, hl with | [_], _ => rfl), rfl⟩
theorem sc_more_urgent : FnScope ["rows", "row", "other"] ["rows", "row"] (defScope s_more_urgent) := ⟨rfl, rfl, rfl, by decide +kernel, rfl, by decide +kernel, by decide +kernel⟩
def m_more_urgent : List D → Sto → Res D := fnT 3 (sRet (eLc [2] (aIt dSeq (eV 0)) (vName 2) (tB' (eOp (q2 (i2 fLt)) (eUn (fldD ["Message"] "rank") (eV 2)) (eUn (fldD ["Message"] "rank") (eV 1)))) (eV 2)))
theorem fn_more_urgent (G : Facts K mg base) {f : Addr} {fd : FuncData} (F : FunD K "more_urgent" "more_urgent" (defArgs s_more_urgent) (defBody s_more_urgent) (defScope s_more_urgent) [] [] f fd) : FnOk P w K mg base (L2.CX P w) 1 f fd ["rows", "row"] (SpF ⟨K, mg⟩ 2 m_more_urgent) := by
  refine fn_cut (fn_sm F sc_more_urgent fun cdv A outer s H E hr => GB.ex (W := WE E) ?_)
  have nd := sc_more_urgent.nd
  have po : PassesOwn (model P w) (cxOf (L2.CX P w) P w K mg base ["rows", "row", "other"] "more_urgent" (defScope s_more_urgent) f cdv A outer s H E).A (cxOf (L2.CX P w) P w K mg base ["rows", "row", "other"] "more_urgent" (defScope s_more_urgent) f cdv A outer s H E).env (cxOf (L2.CX P w) P w K mg base ["rows", "row", "other"] "more_urgent" (defScope s_more_urgent) f cdv A outer s H E).xe := passes_of (X := cxOf (L2.CX P w) P w K mg base ["rows", "row", "other"] "more_urgent" (defScope s_more_urgent) f cdv A outer s H E) rfl
  have px : PassW (cxOf (L2.CX P w) P w K mg base ["rows", "row", "other"] "more_urgent" (defScope s_more_urgent) f cdv A outer s H E) (WE E) := passWE (takes_of (X := cxOf (L2.CX P w) P w K mg base ["rows", "row", "other"] "more_urgent" (defScope s_more_urgent) f cdv A outer s H E) rfl rfl rfl rfl)
  exact (gb_one (gs_ret (ge_lc (own := [("other", 2)]) nd (gi_seq (gv 0)) rfl (fun s H C cl fp => (gg_name 2 nd)) (fun s H C cl fp => (gts_one (gt_cmp (go_lt) (ge_fld (one G.at_Message_rank) (gv 2)) (ge_fld (one G.at_Message_rank) (gv 1))))) (fun s H C cl fp => (gv 2)))))
theorem fo_more_urgent (G : Facts K mg base) : Fo P w K mg base 1 "more_urgent" 2 m_more_urgent := by
  obtain ⟨f, fd, F, hm⟩ := G.d_more_urgent
  exact ⟨f, fd, ["rows", "row"], fn_more_urgent G F, hm, F.kp, F.bindsN (fun _ _ _ _ _ _ us hl => match us, hl with | [_, _], _ => rfl), rfl⟩
theorem sc_comings : FnScope ["task", "ticks"] ["task", "ticks"] (defScope s_comings) := ⟨rfl, rfl, rfl, by decide +kernel, rfl, by decide +kernel, by decide +kernel⟩
def m_comings : List D → Sto → Res D := fnT 2 (sRet (eUn unNeg (eOp (q2 (i2 fDiv)) (eUn unNeg (eOp (q2 dAdd) (eV 1) (eUn (fldD ["Message"] "wait") (eV 0)))) (eUn (fldD ["Message"] "gap") (eV 0)))))
theorem fn_comings (G : Facts K mg base) {f : Addr} {fd : FuncData} (F : FunD K "comings" "comings" (defArgs s_comings) (defBody s_comings) (defScope s_comings) [] [] f fd) : FnOk P w K mg base (L2.CX P w) 1 f fd ["task", "ticks"] (SpF ⟨K, mg⟩ 2 m_comings) := by
  refine fn_cut (fn_sm F sc_comings fun cdv A outer s H E hr => GB.ex (W := WE E) ?_)
  have nd := sc_comings.nd
  have po : PassesOwn (model P w) (cxOf (L2.CX P w) P w K mg base ["task", "ticks"] "comings" (defScope s_comings) f cdv A outer s H E).A (cxOf (L2.CX P w) P w K mg base ["task", "ticks"] "comings" (defScope s_comings) f cdv A outer s H E).env (cxOf (L2.CX P w) P w K mg base ["task", "ticks"] "comings" (defScope s_comings) f cdv A outer s H E).xe := passes_of (X := cxOf (L2.CX P w) P w K mg base ["task", "ticks"] "comings" (defScope s_comings) f cdv A outer s H E) rfl
  have px : PassW (cxOf (L2.CX P w) P w K mg base ["task", "ticks"] "comings" (defScope s_comings) f cdv A outer s H E) (WE E) := passWE (takes_of (X := cxOf (L2.CX P w) P w K mg base ["task", "ticks"] "comings" (defScope s_comings) f cdv A outer s H E) rfl rfl rfl rfl)
  exact (gb_one (gs_ret (ge_neg (ge_op go_divI (ge_neg (ge_op go_add (gv 1) (ge_fld (one G.at_Message_wait) (gv 0)))) (ge_fld (one G.at_Message_gap) (gv 0))))))
theorem fo_comings (G : Facts K mg base) : Fo P w K mg base 1 "comings" 2 m_comings := by
  obtain ⟨f, fd, F, hm⟩ := G.d_comings
  exact ⟨f, fd, ["task", "ticks"], fn_comings G F, hm, F.kp, F.bindsN (fun _ _ _ _ _ _ us hl => match us, hl with | [_, _], _ => rfl), rfl⟩
theorem sc_demanded : FnScope ["first", "ahead", "ticks", "task"] ["first", "ahead", "ticks"] (defScope s_demanded) := ⟨rfl, rfl, rfl, by decide +kernel, rfl, by decide +kernel, by decide +kernel⟩
def m_demanded : List D → Sto → Res D := fnT 4 (sRet (eOp (q2 dAdd) (eV 0) (eAr (qA dSum) (aCons (eLc [3] (aIt dSeq (eV 1)) (vName 3) tvYes (eOp (q2 (i2 fMul)) (eUn (fldD ["Message"] "most") (eV 3)) (eCall m_comings 2 (aCons (eV 3) (aCons (eV 2) aNil))))) aNil))))
theorem fn_demanded (G : Facts K mg base) {f : Addr} {fd : FuncData} (F : FunD K "demanded" "demanded" (defArgs s_demanded) (defBody s_demanded) (defScope s_demanded) [] [] f fd) : FnOk P w K mg base (L2.CX P w) 2 f fd ["first", "ahead", "ticks"] (SpF ⟨K, mg⟩ 3 m_demanded) := by
  refine fn_cut (fn_sm F sc_demanded fun cdv A outer s H E hr => GB.ex (W := WE E) ?_)
  have nd := sc_demanded.nd
  have po : PassesOwn (model P w) (cxOf (L2.CX P w) P w K mg base ["first", "ahead", "ticks", "task"] "demanded" (defScope s_demanded) f cdv A outer s H E).A (cxOf (L2.CX P w) P w K mg base ["first", "ahead", "ticks", "task"] "demanded" (defScope s_demanded) f cdv A outer s H E).env (cxOf (L2.CX P w) P w K mg base ["first", "ahead", "ticks", "task"] "demanded" (defScope s_demanded) f cdv A outer s H E).xe := passes_of (X := cxOf (L2.CX P w) P w K mg base ["first", "ahead", "ticks", "task"] "demanded" (defScope s_demanded) f cdv A outer s H E) rfl
  have px : PassW (cxOf (L2.CX P w) P w K mg base ["first", "ahead", "ticks", "task"] "demanded" (defScope s_demanded) f cdv A outer s H E) (WE E) := passWE (takes_of (X := cxOf (L2.CX P w) P w K mg base ["first", "ahead", "ticks", "task"] "demanded" (defScope s_demanded) f cdv A outer s H E) rfl rfl rfl rfl)
  exact (gb_one (gs_ret (ge_op go_add (gv 0) (ge_callB (cb_sum rfl) G.b_sum (ga_cons (ge_lc (own := [("task", 3)]) nd (gi_seq (gv 1)) rfl (fun s H C cl fp => (gg_name 3 nd)) (fun s H C cl fp => gts_nil) (fun s H C cl fp => (ge_op go_mulI (ge_fld (one G.at_Message_most) (gv 3)) (ge_call (fo_comings G) (hr.mono (by omega)) passW0 (ga_cons (gv 3) (ga_cons (gv 2) ga_nil)))))) ga_nil)))))
theorem fo_demanded (G : Facts K mg base) : Fo P w K mg base 2 "demanded" 3 m_demanded := by
  obtain ⟨f, fd, F, hm⟩ := G.d_demanded
  exact ⟨f, fd, ["first", "ahead", "ticks"], fn_demanded G F, hm, F.kp, F.bindsN (fun _ _ _ _ _ _ us hl => match us, hl with | [_, _, _], _ => rfl), rfl⟩
theorem sc_is_name : FnScope ["thing", "letter"] ["thing"] (defScope s_is_name) := ⟨rfl, rfl, rfl, by decide +kernel, rfl, by decide +kernel, by decide +kernel⟩
def m_is_name : List D → Sto → Res D := fnT 2 (sSeq (sIf (tvOr (tB' (eOp (q2 dNis) (eAr (qA dTyp) (aCons (eV 0) aNil)) (eC (.ty "str")))) (tvNot (tB' (eChain (q2 (i2 fLe)) (q2 (i2 fLe)) (eC (.int 1)) (eAr (qA dLen) (aCons (eV 0) aNil)) (eC (.int 12)))))) (sRet (eC (.bl false))) sNext) (sRet (eAr (qA dAll) (aCons (eLc [1] (aIt dSigns (eV 0)) (vName 1) tvYes (eOp (q2 dIn) (eV 1) (eC (.str "abcdefghijklmnopqrstuvwxyz")))) aNil))))
theorem fn_is_name (G : Facts K mg base) {f : Addr} {fd : FuncData} (F : FunD K "is_name" "is_name" (defArgs s_is_name) (defBody s_is_name) (defScope s_is_name) [] [] f fd) : FnOk P w K mg base (L2.CX P w) 1 f fd ["thing"] (SpF ⟨K, mg⟩ 1 m_is_name) := by
  refine fn_cut (fn_sm F sc_is_name fun cdv A outer s H E hr => GB.ex (W := WE E) ?_)
  have nd := sc_is_name.nd
  have po : PassesOwn (model P w) (cxOf (L2.CX P w) P w K mg base ["thing", "letter"] "is_name" (defScope s_is_name) f cdv A outer s H E).A (cxOf (L2.CX P w) P w K mg base ["thing", "letter"] "is_name" (defScope s_is_name) f cdv A outer s H E).env (cxOf (L2.CX P w) P w K mg base ["thing", "letter"] "is_name" (defScope s_is_name) f cdv A outer s H E).xe := passes_of (X := cxOf (L2.CX P w) P w K mg base ["thing", "letter"] "is_name" (defScope s_is_name) f cdv A outer s H E) rfl
  have px : PassW (cxOf (L2.CX P w) P w K mg base ["thing", "letter"] "is_name" (defScope s_is_name) f cdv A outer s H E) (WE E) := passWE (takes_of (X := cxOf (L2.CX P w) P w K mg base ["thing", "letter"] "is_name" (defScope s_is_name) f cdv A outer s H E) rfl rfl rfl rfl)
  exact (gb_cons (gs_if ((gw_or (gt_cmp (go_nis) (ge_callTy cb_type G.b_type (ga_cons (gv 0) ga_nil)) (ge_ty G.b_str (by decide +kernel))) (gw_or1 (gt_not (gt_chain (go_le) (go_le) ge_int (ge_callB cb_len G.b_len (ga_cons (gv 0) ga_nil)) (ge_gint G.i_LONGEST_NAME.choose_spec)))))).t (gb_one (gs_ret ge_bl)) gb_nil) (gb_one (gs_ret (ge_callB (cb_all rfl) G.b_all (ga_cons (ge_lc (own := [("letter", 1)]) nd (gi_str (gv 0)) rfl (fun s H C cl fp => (gg_name 1 nd)) (fun s H C cl fp => gts_nil) (fun s H C cl fp => (ge_cmp (go_in) (gv 1) (ge_gstr G.s_LETTERS.choose_spec)))) ga_nil)))))
theorem fo_is_name (G : Facts K mg base) : Fo P w K mg base 1 "is_name" 1 m_is_name := by
  obtain ⟨f, fd, F, hm⟩ := G.d_is_name
  exact ⟨f, fd, ["thing"], fn_is_name G F, hm, F.kp, F.bindsN (fun _ _ _ _ _ _ us hl => match us, hl with | [_], _ => rfl), rfl⟩
theorem sc_is_number : FnScope ["thing", "least"] ["thing", "least"] (defScope s_is_number) := ⟨rfl, rfl, rfl, by decide +kernel, rfl, by decide +kernel, by decide +kernel⟩
def m_is_number : List D → Sto → Res D := fnT 2 (sRet (eAnd (eOp (q2 dIs) (eAr (qA dTyp) (aCons (eV 0) aNil)) (eC (.ty "int"))) (eOp (q2 (i2 fGe)) (eV 0) (eV 1))))
theorem fn_is_number (G : Facts K mg base) {f : Addr} {fd : FuncData} (F : FunD K "is_number" "is_number" (defArgs s_is_number) (defBody s_is_number) (defScope s_is_number) [] [] f fd) : FnOk P w K mg base (L2.CX P w) 1 f fd ["thing", "least"] (SpF ⟨K, mg⟩ 2 m_is_number) := by
  refine fn_cut (fn_sm F sc_is_number fun cdv A outer s H E hr => GB.ex (W := WE E) ?_)
  have nd := sc_is_number.nd
  have po : PassesOwn (model P w) (cxOf (L2.CX P w) P w K mg base ["thing", "least"] "is_number" (defScope s_is_number) f cdv A outer s H E).A (cxOf (L2.CX P w) P w K mg base ["thing", "least"] "is_number" (defScope s_is_number) f cdv A outer s H E).env (cxOf (L2.CX P w) P w K mg base ["thing", "least"] "is_number" (defScope s_is_number) f cdv A outer s H E).xe := passes_of (X := cxOf (L2.CX P w) P w K mg base ["thing", "least"] "is_number" (defScope s_is_number) f cdv A outer s H E) rfl
  have px : PassW (cxOf (L2.CX P w) P w K mg base ["thing", "least"] "is_number" (defScope s_is_number) f cdv A outer s H E) (WE E) := passWE (takes_of (X := cxOf (L2.CX P w) P w K mg base ["thing", "least"] "is_number" (defScope s_is_number) f cdv A outer s H E) rfl rfl rfl rfl)
  exact (gb_one (gs_ret (ge_and (ge_cmp (go_is) (ge_callTy cb_type G.b_type (ga_cons (gv 0) ga_nil)) (ge_ty G.b_int (by decide +kernel))) (ge_one (ge_cmp (go_ge) (gv 0) (gv 1))))))
theorem fo_is_number (G : Facts K mg base) : Fo P w K mg base 1 "is_number" 2 m_is_number := by
  obtain ⟨f, fd, F, hm⟩ := G.d_is_number
  exact ⟨f, fd, ["thing", "least"], fn_is_number G F, hm, F.kp, F.bindsN (fun _ _ _ _ _ _ us hl => match us, hl with | [_, _], _ => rfl), rfl⟩
theorem sc_wrong_part : FnScope ["name", "rank", "gap", "most", "due", "wait"] ["name", "rank", "gap", "most", "due", "wait"] (defScope s_wrong_part) := ⟨rfl, rfl, rfl, by decide +kernel, rfl, by decide +kernel, by decide +kernel⟩
def m_wrong_part : List D → Sto → Res D := fnT 6 (sSeq (sIf (tvNot (tB' (eCall m_is_name 1 (aCons (eV 0) aNil)))) (sRet (eC (.str "name"))) sNext) (sSeq (sIf (tvNot (tB' (eCall m_is_number 2 (aCons (eV 1) (aCons (eC (.int 1)) aNil))))) (sRet (eC (.str "rank"))) sNext) (sSeq (sIf (tvNot (tB' (eCall m_is_number 2 (aCons (eV 2) (aCons (eC (.int 1)) aNil))))) (sRet (eC (.str "gap"))) sNext) (sSeq (sIf (tvNot (tB' (eCall m_is_number 2 (aCons (eV 3) (aCons (eC (.int 1)) aNil))))) (sRet (eC (.str "most"))) sNext) (sSeq (sIf (tvOr (tvNot (tB' (eCall m_is_number 2 (aCons (eV 4) (aCons (eC (.int 1)) aNil))))) (tB' (eOp (q2 (i2 fGt)) (eV 4) (eV 2)))) (sRet (eC (.str "due"))) sNext) (sSeq (sIf (tvNot (tB' (eCall m_is_number 2 (aCons (eV 5) (aCons (eC (.int 0)) aNil))))) (sRet (eC (.str "wait"))) sNext) (sRet (eC .non))))))))
theorem fn_wrong_part (G : Facts K mg base) {f : Addr} {fd : FuncData} (F : FunD K "wrong_part" "wrong_part" (defArgs s_wrong_part) (defBody s_wrong_part) (defScope s_wrong_part) [] [] f fd) : FnOk P w K mg base (L2.CX P w) 2 f fd ["name", "rank", "gap", "most", "due", "wait"] (SpF ⟨K, mg⟩ 6 m_wrong_part) := by
  refine fn_cut (fn_sm F sc_wrong_part fun cdv A outer s H E hr => GB.ex (W := WE E) ?_)
  have nd := sc_wrong_part.nd
  have po : PassesOwn (model P w) (cxOf (L2.CX P w) P w K mg base ["name", "rank", "gap", "most", "due", "wait"] "wrong_part" (defScope s_wrong_part) f cdv A outer s H E).A (cxOf (L2.CX P w) P w K mg base ["name", "rank", "gap", "most", "due", "wait"] "wrong_part" (defScope s_wrong_part) f cdv A outer s H E).env (cxOf (L2.CX P w) P w K mg base ["name", "rank", "gap", "most", "due", "wait"] "wrong_part" (defScope s_wrong_part) f cdv A outer s H E).xe := passes_of (X := cxOf (L2.CX P w) P w K mg base ["name", "rank", "gap", "most", "due", "wait"] "wrong_part" (defScope s_wrong_part) f cdv A outer s H E) rfl
  have px : PassW (cxOf (L2.CX P w) P w K mg base ["name", "rank", "gap", "most", "due", "wait"] "wrong_part" (defScope s_wrong_part) f cdv A outer s H E) (WE E) := passWE (takes_of (X := cxOf (L2.CX P w) P w K mg base ["name", "rank", "gap", "most", "due", "wait"] "wrong_part" (defScope s_wrong_part) f cdv A outer s H E) rfl rfl rfl rfl)
  exact (gb_cons (gs_if (gt_not (gt_val (ge_call (fo_is_name G) (hr.mono (by omega)) px (ga_cons (gv 0) ga_nil)))) (gb_one (gs_ret ge_str)) gb_nil) (gb_cons (gs_if (gt_not (gt_val (ge_call (fo_is_number G) (hr.mono (by omega)) px (ga_cons (gv 1) (ga_cons ge_int ga_nil))))) (gb_one (gs_ret ge_str)) gb_nil) (gb_cons (gs_if (gt_not (gt_val (ge_call (fo_is_number G) (hr.mono (by omega)) px (ga_cons (gv 2) (ga_cons ge_int ga_nil))))) (gb_one (gs_ret ge_str)) gb_nil) (gb_cons (gs_if (gt_not (gt_val (ge_call (fo_is_number G) (hr.mono (by omega)) px (ga_cons (gv 3) (ga_cons ge_int ga_nil))))) (gb_one (gs_ret ge_str)) gb_nil) (gb_cons (gs_if ((gw_or (gt_not (gt_val (ge_call (fo_is_number G) (hr.mono (by omega)) px (ga_cons (gv 4) (ga_cons ge_int ga_nil))))) (gw_or1 (gt_cmp (go_gt) (gv 4) (gv 2))))).t (gb_one (gs_ret ge_str)) gb_nil) (gb_cons (gs_if (gt_not (gt_val (ge_call (fo_is_number G) (hr.mono (by omega)) px (ga_cons (gv 5) (ga_cons ge_int ga_nil))))) (gb_one (gs_ret ge_str)) gb_nil) (gb_one (gs_ret ge_non))))))))
theorem fo_wrong_part (G : Facts K mg base) : Fo P w K mg base 2 "wrong_part" 6 m_wrong_part := by
  obtain ⟨f, fd, F, hm⟩ := G.d_wrong_part
  exact ⟨f, fd, ["name", "rank", "gap", "most", "due", "wait"], fn_wrong_part G F, hm, F.kp, F.bindsN (fun _ _ _ _ _ _ us hl => match us, hl with | [_, _, _, _, _, _], _ => rfl), rfl⟩
theorem sc_BadTask___init__ : FnScope ["self", "part"] ["self", "part"] (defScope s_BadTask___init__) := ⟨rfl, rfl, rfl, by decide +kernel, rfl, by decide +kernel, by decide +kernel⟩
theorem mx_BadTask (G : Facts K mg base) : MoX P w K mg base "BadTask" "part" := by
  obtain ⟨fI, fd, cl, F, hm, T, me, no⟩ := G.mx_BadTask
  refine ⟨cl, fI, fd, ["self", "part"], hm, T, me.at_, by have := me.fn; simpa [PySem.W.isFn] using this, F.ok sc_BadTask___init__ (fun vs H Q E h => spx_len h) (fun cdv A outer s H vs Q E hr h => ⟨_, pss_one (ps_gst (pe_var (i := 0) rfl (Or.inl rfl)) (pe_var (i := 1) rfl (Or.inl rfl))), gst_go T no h⟩), F.bindsN (fun _ _ _ _ _ _ us hl => match us, hl with | [_, _], _ => rfl)⟩
theorem sc_Message___init__ : FnScope ["self", "name", "rank", "gap", "most", "due", "wait", "part"] ["self", "name", "rank", "gap", "most", "due", "wait"] (defScope s_Message___init__) := ⟨rfl, rfl, rfl, by decide +kernel, rfl, by decide +kernel, by decide +kernel⟩
def m_Message___init__ : List D → Sto → Res D := fnT 8 (sSeq (sIf (tB' (eOp (q2 dIs) (eV 5) (eC .non))) (sSet 5 (eV 3)) sNext) (sSeq (sSet 7 (eCall m_wrong_part 6 (aCons (eV 1) (aCons (eV 2) (aCons (eV 3) (aCons (eV 4) (aCons (eV 5) (aCons (eV 6) aNil)))))))) (sSeq (sIf (tB' (eOp (q2 dNis) (eV 7) (eC .non))) (sRaise "BadTask" "part" (aCons (eV 7) aNil)) sNext) (sSeq (sFldV "Message" "name" (eV 0) (eV 1)) (sSeq (sFldV "Message" "rank" (eV 0) (eV 2)) (sSeq (sFldV "Message" "gap" (eV 0) (eV 3)) (sSeq (sFldV "Message" "most" (eV 0) (eV 4)) (sSeq (sFldV "Message" "due" (eV 0) (eV 5)) (sFldV "Message" "wait" (eV 0) (eV 6))))))))))
def kg_Message : List D → List D → List D := fun ds es => ds ++ es
theorem mo_Message (G : Facts K mg base) : MoK P w K mg base 3 "Message" 1 6 ["rank", "gap", "most", "due", "wait"] kg_Message m_Message___init__ := by
  obtain ⟨f, fd, cl, kws, hk, F, hm, hmk⟩ := G.mk_Message
  refine ⟨cl, f, fd, ["self", "name", "rank", "gap", "most", "due", "wait"], _, _, ?_, hm, hmk, kbn_all F 2 ["rank", "gap", "most", "due", "wait"] hk (fun D doc pm an cdv ct us ws l1 l2 => match us, l1, ws, l2 with | [_, _], _, [_, _, _, _, _], _ => rfl), fun F μ vs zs ds es r1 r2 _ _ => r1.append r2, fun d ds es l1 l2 => ⟨ds ++ es, rfl, by simp [l1, l2]⟩⟩
  refine fn_cut (fn_sm F sc_Message___init__ fun cdv A outer s H E hr => GB.ex (W := WE E) ?_)
  have nd := sc_Message___init__.nd
  have po : PassesOwn (model P w) (cxOf (L2.CX P w) P w K mg base ["self", "name", "rank", "gap", "most", "due", "wait", "part"] "Message.__init__" (defScope s_Message___init__) f cdv A outer s H E).A (cxOf (L2.CX P w) P w K mg base ["self", "name", "rank", "gap", "most", "due", "wait", "part"] "Message.__init__" (defScope s_Message___init__) f cdv A outer s H E).env (cxOf (L2.CX P w) P w K mg base ["self", "name", "rank", "gap", "most", "due", "wait", "part"] "Message.__init__" (defScope s_Message___init__) f cdv A outer s H E).xe := passes_of (X := cxOf (L2.CX P w) P w K mg base ["self", "name", "rank", "gap", "most", "due", "wait", "part"] "Message.__init__" (defScope s_Message___init__) f cdv A outer s H E) rfl
  have px : PassW (cxOf (L2.CX P w) P w K mg base ["self", "name", "rank", "gap", "most", "due", "wait", "part"] "Message.__init__" (defScope s_Message___init__) f cdv A outer s H E) (WE E) := passWE (takes_of (X := cxOf (L2.CX P w) P w K mg base ["self", "name", "rank", "gap", "most", "due", "wait", "part"] "Message.__init__" (defScope s_Message___init__) f cdv A outer s H E) rfl rfl rfl rfl)
  have tk : Takes (cxOf (L2.CX P w) P w K mg base ["self", "name", "rank", "gap", "most", "due", "wait", "part"] "Message.__init__" (defScope s_Message___init__) f cdv A outer s H E) (WE E) := takes_of (X := cxOf (L2.CX P w) P w K mg base ["self", "name", "rank", "gap", "most", "due", "wait", "part"] "Message.__init__" (defScope s_Message___init__) f cdv A outer s H E) rfl rfl rfl rfl
  exact (gb_cons (gs_if (gt_cmp (go_is) (gv 5) ge_non) (gb_one (gs_set 5 nd (gv 3))) gb_nil) (gb_cons (gs_set 7 nd (ge_call (fo_wrong_part G) (hr.mono (by omega)) px (ga_cons (gv 1) (ga_cons (gv 2) (ga_cons (gv 3) (ga_cons (gv 4) (ga_cons (gv 5) (ga_cons (gv 6) ga_nil)))))))) (gb_cons (gs_if (gt_cmp (go_nis) (gv 7) ge_non) (gb_one (gs_raise (mx_BadTask G) (hr.mono (by omega)) tk (ga_cons (gv 7) ga_nil))) gb_nil) (gb_cons (gs_fld G.at_Message_name (gv 0) (gv 1)) (gb_cons (gs_fld G.at_Message_rank (gv 0) (gv 2)) (gb_cons (gs_fld G.at_Message_gap (gv 0) (gv 3)) (gb_cons (gs_fld G.at_Message_most (gv 0) (gv 4)) (gb_cons (gs_fld G.at_Message_due (gv 0) (gv 5)) (gb_one (gs_fld G.at_Message_wait (gv 0) (gv 6)))))))))))

theorem sc_waiting : FnScope ["message", "wait"] ["message", "wait"] (defScope s_waiting) := ⟨rfl, rfl, rfl, by decide +kernel, rfl, by decide +kernel, by decide +kernel⟩
def m_waiting : List D → Sto → Res D := fnT 2 (sRet (eFrzO (eMakeK "Message" kg_Message m_Message___init__ 1 5 (aCons (eUn (fldD ["Message"] "name") (eV 0)) aNil) (aCons (eUn (fldD ["Message"] "rank") (eV 0)) (aCons (eUn (fldD ["Message"] "gap") (eV 0)) (aCons (eUn (fldD ["Message"] "most") (eV 0)) (aCons (eUn (fldD ["Message"] "due") (eV 0)) (aCons (eV 1) aNil))))))))
theorem fn_waiting (G : Facts K mg base) {f : Addr} {fd : FuncData} (F : FunD K "waiting" "waiting" (defArgs s_waiting) (defBody s_waiting) (defScope s_waiting) [] [] f fd) : FnOk P w K mg base (L2.CX P w) 5 f fd ["message", "wait"] (SpF ⟨K, mg⟩ 2 m_waiting) := by
  refine fn_cut (fn_sm F sc_waiting fun cdv A outer s H E hr => GB.ex (W := WE E) ?_)
  have nd := sc_waiting.nd
  have po : PassesOwn (model P w) (cxOf (L2.CX P w) P w K mg base ["message", "wait"] "waiting" (defScope s_waiting) f cdv A outer s H E).A (cxOf (L2.CX P w) P w K mg base ["message", "wait"] "waiting" (defScope s_waiting) f cdv A outer s H E).env (cxOf (L2.CX P w) P w K mg base ["message", "wait"] "waiting" (defScope s_waiting) f cdv A outer s H E).xe := passes_of (X := cxOf (L2.CX P w) P w K mg base ["message", "wait"] "waiting" (defScope s_waiting) f cdv A outer s H E) rfl
  have px : PassW (cxOf (L2.CX P w) P w K mg base ["message", "wait"] "waiting" (defScope s_waiting) f cdv A outer s H E) (WE E) := passWE (takes_of (X := cxOf (L2.CX P w) P w K mg base ["message", "wait"] "waiting" (defScope s_waiting) f cdv A outer s H E) rfl rfl rfl rfl)
  exact (gb_one (gs_ret (ge_frzO (ge_makeK (mo_Message G) (hr.mono (by omega)) px (ga_cons (ge_fld (one G.at_Message_name) (gv 0)) ga_nil) (gk_cons (ge_fld (one G.at_Message_rank) (gv 0)) (gk_cons (ge_fld (one G.at_Message_gap) (gv 0)) (gk_cons (ge_fld (one G.at_Message_most) (gv 0)) (gk_cons (ge_fld (one G.at_Message_due) (gv 0)) (gk_cons (gv 1) gk_nil)))))))))
theorem fo_waiting (G : Facts K mg base) : Fo P w K mg base 5 "waiting" 2 m_waiting := by
  obtain ⟨f, fd, F, hm⟩ := G.d_waiting
  exact ⟨f, fd, ["message", "wait"], fn_waiting G F, hm, F.kp, F.bindsN (fun _ _ _ _ _ _ us hl => match us, hl with | [_, _], _ => rfl), rfl⟩
theorem sc_held_back : FnScope ["rows", "message", "other"] ["rows", "message"] (defScope s_held_back) := ⟨rfl, rfl, rfl, by decide +kernel, rfl, by decide +kernel, by decide +kernel⟩
def m_held_back : List D → Sto → Res D := fnT 3 (sRet (eAr (qA dMaxL) (aCons (eOp (q2 dAdd) (eLst (aCons (eC (.int 0)) aNil)) (eLc [2] (aIt dSeq (eV 0)) (vName 2) (tB' (eOp (q2 (i2 fGt)) (eUn (fldD ["Message"] "rank") (eV 2)) (eUn (fldD ["Message"] "rank") (eV 1)))) (eOp (q2 (i2 fSub)) (eUn (fldD ["Message"] "most") (eV 2)) (eC (.int 1))))) aNil)))
theorem fn_held_back (G : Facts K mg base) {f : Addr} {fd : FuncData} (F : FunD K "held_back" "held_back" (defArgs s_held_back) (defBody s_held_back) (defScope s_held_back) [] [] f fd) : FnOk P w K mg base (L2.CX P w) 1 f fd ["rows", "message"] (SpF ⟨K, mg⟩ 2 m_held_back) := by
  refine fn_cut (fn_sm F sc_held_back fun cdv A outer s H E hr => GB.ex (W := WE E) ?_)
  have nd := sc_held_back.nd
  have po : PassesOwn (model P w) (cxOf (L2.CX P w) P w K mg base ["rows", "message", "other"] "held_back" (defScope s_held_back) f cdv A outer s H E).A (cxOf (L2.CX P w) P w K mg base ["rows", "message", "other"] "held_back" (defScope s_held_back) f cdv A outer s H E).env (cxOf (L2.CX P w) P w K mg base ["rows", "message", "other"] "held_back" (defScope s_held_back) f cdv A outer s H E).xe := passes_of (X := cxOf (L2.CX P w) P w K mg base ["rows", "message", "other"] "held_back" (defScope s_held_back) f cdv A outer s H E) rfl
  have px : PassW (cxOf (L2.CX P w) P w K mg base ["rows", "message", "other"] "held_back" (defScope s_held_back) f cdv A outer s H E) (WE E) := passWE (takes_of (X := cxOf (L2.CX P w) P w K mg base ["rows", "message", "other"] "held_back" (defScope s_held_back) f cdv A outer s H E) rfl rfl rfl rfl)
  exact (gb_one (gs_ret (ge_callB (cb_maxL rfl) G.b_max (ga_cons (ge_op go_add (ge_lst (ga_cons ge_int ga_nil)) (ge_lc (own := [("other", 2)]) nd (gi_seq (gv 0)) rfl (fun s H C cl fp => (gg_name 2 nd)) (fun s H C cl fp => (gts_one (gt_cmp (go_gt) (ge_fld (one G.at_Message_rank) (gv 2)) (ge_fld (one G.at_Message_rank) (gv 1))))) (fun s H C cl fp => (ge_op go_subI (ge_fld (one G.at_Message_most) (gv 2)) ge_int)))) ga_nil))))
theorem fo_held_back (G : Facts K mg base) : Fo P w K mg base 1 "held_back" 2 m_held_back := by
  obtain ⟨f, fd, F, hm⟩ := G.d_held_back
  exact ⟨f, fd, ["rows", "message"], fn_held_back G F, hm, F.kp, F.bindsN (fun _ _ _ _ _ _ us hl => match us, hl with | [_, _], _ => rfl), rfl⟩
theorem sc_with_spoils : FnScope ["ticks", "cost", "apart"] ["ticks", "cost", "apart"] (defScope s_with_spoils) := ⟨rfl, rfl, rfl, by decide +kernel, rfl, by decide +kernel, by decide +kernel⟩
def m_with_spoils : List D → Sto → Res D := fnT 3 (sSeq (sIf (tB' (eOp (q2 dIs) (eV 2) (eC .non))) (sRet (eV 0)) sNext) (sSeq (sIf (tB' (eOp (q2 (i2 fLe)) (eV 2) (eV 1))) (sRet (eC .non)) sNext) (sRet (eOp (q2 dAdd) (eV 0) (eOp (q2 (i2 fMul)) (eV 1) (eUn unNeg (eOp (q2 (i2 fDiv)) (eUn unNeg (eV 0)) (eOp (q2 (i2 fSub)) (eV 2) (eV 1)))))))))
theorem fn_with_spoils (G : Facts K mg base) {f : Addr} {fd : FuncData} (F : FunD K "with_spoils" "with_spoils" (defArgs s_with_spoils) (defBody s_with_spoils) (defScope s_with_spoils) [] [] f fd) : FnOk P w K mg base (L2.CX P w) 1 f fd ["ticks", "cost", "apart"] (SpF ⟨K, mg⟩ 3 m_with_spoils) := by
  refine fn_cut (fn_sm F sc_with_spoils fun cdv A outer s H E hr => GB.ex (W := WE E) ?_)
  have nd := sc_with_spoils.nd
  have po : PassesOwn (model P w) (cxOf (L2.CX P w) P w K mg base ["ticks", "cost", "apart"] "with_spoils" (defScope s_with_spoils) f cdv A outer s H E).A (cxOf (L2.CX P w) P w K mg base ["ticks", "cost", "apart"] "with_spoils" (defScope s_with_spoils) f cdv A outer s H E).env (cxOf (L2.CX P w) P w K mg base ["ticks", "cost", "apart"] "with_spoils" (defScope s_with_spoils) f cdv A outer s H E).xe := passes_of (X := cxOf (L2.CX P w) P w K mg base ["ticks", "cost", "apart"] "with_spoils" (defScope s_with_spoils) f cdv A outer s H E) rfl
  have px : PassW (cxOf (L2.CX P w) P w K mg base ["ticks", "cost", "apart"] "with_spoils" (defScope s_with_spoils) f cdv A outer s H E) (WE E) := passWE (takes_of (X := cxOf (L2.CX P w) P w K mg base ["ticks", "cost", "apart"] "with_spoils" (defScope s_with_spoils) f cdv A outer s H E) rfl rfl rfl rfl)
  exact (gb_cons (gs_if (gt_cmp (go_is) (gv 2) ge_non) (gb_one (gs_ret (gv 0))) gb_nil) (gb_cons (gs_if (gt_cmp (go_le) (gv 2) (gv 1)) (gb_one (gs_ret ge_non)) gb_nil) (gb_one (gs_ret (ge_op go_add (gv 0) (ge_op go_mulI (gv 1) (ge_neg (ge_op go_divI (ge_neg (gv 0)) (ge_op go_subI (gv 2) (gv 1))))))))))
theorem fo_with_spoils (G : Facts K mg base) : Fo P w K mg base 1 "with_spoils" 3 m_with_spoils := by
  obtain ⟨f, fd, F, hm⟩ := G.d_with_spoils
  exact ⟨f, fd, ["ticks", "cost", "apart"], fn_with_spoils G F, hm, F.kp, F.bindsN (fun _ _ _ _ _ _ us hl => match us, hl with | [_, _, _], _ => rfl), rfl⟩
theorem sc_stretch : FnScope ["rows", "message", "apart", "urgent", "cost", "other", "limit", "ticks", "more"] ["rows", "message", "apart"] (defScope s_stretch) := ⟨rfl, rfl, rfl, by decide +kernel, rfl, by decide +kernel, by decide +kernel⟩
def m_stretch : List D → Sto → Res D := fnT 9 (sSeq (sSet 3 (eOp (q2 dAdd) (eCall m_more_urgent 2 (aCons (eV 0) (aCons (eV 1) aNil))) (eLst (aCons (eV 1) aNil)))) (sSeq (sSet 4 (eAr (qA dMaxL) (aCons (eLc [5] (aIt dSeq (eV 3)) (vName 5) tvYes (eUn (fldD ["Message"] "most") (eV 5))) aNil))) (sSeq (sSet 6 (eOp (q2 (i2 fMul)) (eC (.int 100)) (eAr (qA dMaxL) (aCons (eLc [5] (aIt dSeq (eV 0)) (vName 5) tvYes (eUn (fldD ["Message"] "gap") (eV 5))) aNil)))) (sSeq (sSet 7 (eC (.int 1))) (sSeq (sWhile (tvAnd (tB' (eOp (q2 dNis) (eV 7) (eC .non))) (tB' (eOp (q2 (i2 fLe)) (eV 7) (eV 6)))) (sSeq (sSet 8 (eCall m_with_spoils 3 (aCons (eCall m_demanded 3 (aCons (eCall m_held_back 2 (aCons (eV 0) (aCons (eV 1) aNil))) (aCons (eV 3) (aCons (eV 7) aNil)))) (aCons (eV 4) (aCons (eV 2) aNil))))) (sSeq (sIf (tB' (eOp (q2 dEq) (eV 8) (eV 7))) (sRet (eV 7)) sNext) (sSet 7 (eV 8)))) fuel) (sRet (eC .non)))))))
theorem fn_stretch (G : Facts K mg base) {f : Addr} {fd : FuncData} (F : FunD K "stretch" "stretch" (defArgs s_stretch) (defBody s_stretch) (defScope s_stretch) [] [] f fd) : FnOk P w K mg base (L2.CX P w) 3 f fd ["rows", "message", "apart"] (SpF ⟨K, mg⟩ 3 m_stretch) := by
  refine fn_cut (fn_sm F sc_stretch fun cdv A outer s H E hr => GB.ex (W := WE E) ?_)
  have nd := sc_stretch.nd
  have po : PassesOwn (model P w) (cxOf (L2.CX P w) P w K mg base ["rows", "message", "apart", "urgent", "cost", "other", "limit", "ticks", "more"] "stretch" (defScope s_stretch) f cdv A outer s H E).A (cxOf (L2.CX P w) P w K mg base ["rows", "message", "apart", "urgent", "cost", "other", "limit", "ticks", "more"] "stretch" (defScope s_stretch) f cdv A outer s H E).env (cxOf (L2.CX P w) P w K mg base ["rows", "message", "apart", "urgent", "cost", "other", "limit", "ticks", "more"] "stretch" (defScope s_stretch) f cdv A outer s H E).xe := passes_of (X := cxOf (L2.CX P w) P w K mg base ["rows", "message", "apart", "urgent", "cost", "other", "limit", "ticks", "more"] "stretch" (defScope s_stretch) f cdv A outer s H E) rfl
  have px : PassW (cxOf (L2.CX P w) P w K mg base ["rows", "message", "apart", "urgent", "cost", "other", "limit", "ticks", "more"] "stretch" (defScope s_stretch) f cdv A outer s H E) (WE E) := passWE (takes_of (X := cxOf (L2.CX P w) P w K mg base ["rows", "message", "apart", "urgent", "cost", "other", "limit", "ticks", "more"] "stretch" (defScope s_stretch) f cdv A outer s H E) rfl rfl rfl rfl)
  exact (gb_cons (gs_set 3 nd (ge_op go_add (ge_call (fo_more_urgent G) (hr.mono (by omega)) px (ga_cons (gv 0) (ga_cons (gv 1) ga_nil))) (ge_lst (ga_cons (gv 1) ga_nil)))) (gb_cons (gs_set 4 nd (ge_callB (cb_maxL rfl) G.b_max (ga_cons (ge_lc (own := [("other", 5)]) nd (gi_seq (gv 3)) rfl (fun s H C cl fp => (gg_name 5 nd)) (fun s H C cl fp => gts_nil) (fun s H C cl fp => (ge_fld (one G.at_Message_most) (gv 5)))) ga_nil))) (gb_cons (gs_set 6 nd (ge_op go_mulI (ge_gint G.i_GAPS.choose_spec) (ge_callB (cb_maxL rfl) G.b_max (ga_cons (ge_lc (own := [("other", 5)]) nd (gi_seq (gv 0)) rfl (fun s H C cl fp => (gg_name 5 nd)) (fun s H C cl fp => gts_nil) (fun s H C cl fp => (ge_fld (one G.at_Message_gap) (gv 5)))) ga_nil)))) (gb_cons (gs_set 7 nd ge_int) (gb_cons (gs_while fuel po ((gw_and (gt_cmp (go_nis) (gv 7) ge_non) (gw_and1 (gt_cmp (go_le) (gv 7) (gv 6))))).t (gb_cons (gs_set 8 nd (ge_call (fo_with_spoils G) (hr.mono (by omega)) px (ga_cons (ge_call (fo_demanded G) (hr.mono (by omega)) px (ga_cons (ge_call (fo_held_back G) (hr.mono (by omega)) px (ga_cons (gv 0) (ga_cons (gv 1) ga_nil))) (ga_cons (gv 3) (ga_cons (gv 7) ga_nil)))) (ga_cons (gv 4) (ga_cons (gv 2) ga_nil))))) (gb_cons (gs_if (gt_cmp (go_eq hr) (gv 8) (gv 7)) (gb_one (gs_ret (gv 7))) gb_nil) (gb_one (gs_set 7 nd (gv 8)))))) (gb_one (gs_ret ge_non)))))))
theorem fo_stretch (G : Facts K mg base) : Fo P w K mg base 3 "stretch" 3 m_stretch := by
  obtain ⟨f, fd, F, hm⟩ := G.d_stretch
  exact ⟨f, fd, ["rows", "message", "apart"], fn_stretch G F, hm, F.kp, F.bindsN (fun _ _ _ _ _ _ us hl => match us, hl with | [_, _, _], _ => rfl), rfl⟩
theorem sc_least_begin : FnScope ["first", "ahead", "message", "apart", "begin", "cost", "other", "ticks", "later"] ["first", "ahead", "message", "apart", "begin"] (defScope s_least_begin) := ⟨rfl, rfl, rfl, by decide +kernel, rfl, by decide +kernel, by decide +kernel⟩
def m_least_begin : List D → Sto → Res D := fnT 9 (sSeq (sSet 5 (eAr (qA dMaxL) (aCons (eOp (q2 dAdd) (eLst (aCons (eUn (fldD ["Message"] "most") (eV 2)) aNil)) (eLc [6] (aIt dSeq (eV 1)) (vName 6) tvYes (eUn (fldD ["Message"] "most") (eV 6)))) aNil))) (sWhile (tB' (eC (.bl true))) (sSeq (sSet 7 (eCall m_demanded 3 (aCons (eV 0) (aCons (eV 1) (aCons (eOp (q2 dAdd) (eV 4) (eC (.int 1))) aNil))))) (sSeq (sSet 8 (eOp (q2 (i2 fSub)) (eCall m_with_spoils 3 (aCons (eOp (q2 dAdd) (eV 7) (eUn (fldD ["Message"] "most") (eV 2))) (aCons (eV 5) (aCons (eV 3) aNil)))) (eUn (fldD ["Message"] "most") (eV 2)))) (sSeq (sIf (tB' (eOp (q2 dEq) (eV 8) (eV 4))) (sRet (eV 4)) sNext) (sSet 4 (eV 8))))) fuel))
theorem fn_least_begin (G : Facts K mg base) {f : Addr} {fd : FuncData} (F : FunD K "least_begin" "least_begin" (defArgs s_least_begin) (defBody s_least_begin) (defScope s_least_begin) [] [] f fd) : FnOk P w K mg base (L2.CX P w) 3 f fd ["first", "ahead", "message", "apart", "begin"] (SpF ⟨K, mg⟩ 5 m_least_begin) := by
  refine fn_cut (fn_sm F sc_least_begin fun cdv A outer s H E hr => GB.ex (W := WE E) ?_)
  have nd := sc_least_begin.nd
  have po : PassesOwn (model P w) (cxOf (L2.CX P w) P w K mg base ["first", "ahead", "message", "apart", "begin", "cost", "other", "ticks", "later"] "least_begin" (defScope s_least_begin) f cdv A outer s H E).A (cxOf (L2.CX P w) P w K mg base ["first", "ahead", "message", "apart", "begin", "cost", "other", "ticks", "later"] "least_begin" (defScope s_least_begin) f cdv A outer s H E).env (cxOf (L2.CX P w) P w K mg base ["first", "ahead", "message", "apart", "begin", "cost", "other", "ticks", "later"] "least_begin" (defScope s_least_begin) f cdv A outer s H E).xe := passes_of (X := cxOf (L2.CX P w) P w K mg base ["first", "ahead", "message", "apart", "begin", "cost", "other", "ticks", "later"] "least_begin" (defScope s_least_begin) f cdv A outer s H E) rfl
  have px : PassW (cxOf (L2.CX P w) P w K mg base ["first", "ahead", "message", "apart", "begin", "cost", "other", "ticks", "later"] "least_begin" (defScope s_least_begin) f cdv A outer s H E) (WE E) := passWE (takes_of (X := cxOf (L2.CX P w) P w K mg base ["first", "ahead", "message", "apart", "begin", "cost", "other", "ticks", "later"] "least_begin" (defScope s_least_begin) f cdv A outer s H E) rfl rfl rfl rfl)
  exact (gb_cons (gs_set 5 nd (ge_callB (cb_maxL rfl) G.b_max (ga_cons (ge_op go_add (ge_lst (ga_cons (ge_fld (one G.at_Message_most) (gv 2)) ga_nil)) (ge_lc (own := [("other", 6)]) nd (gi_seq (gv 1)) rfl (fun s H C cl fp => (gg_name 6 nd)) (fun s H C cl fp => gts_nil) (fun s H C cl fp => (ge_fld (one G.at_Message_most) (gv 6))))) ga_nil))) (gb_one (gs_while fuel po (gt_val ge_bl) (gb_cons (gs_set 7 nd (ge_call (fo_demanded G) (hr.mono (by omega)) px (ga_cons (gv 0) (ga_cons (gv 1) (ga_cons (ge_op go_add (gv 4) ge_int) ga_nil))))) (gb_cons (gs_set 8 nd (ge_op go_subI (ge_call (fo_with_spoils G) (hr.mono (by omega)) px (ga_cons (ge_op go_add (gv 7) (ge_fld (one G.at_Message_most) (gv 2))) (ga_cons (gv 5) (ga_cons (gv 3) ga_nil)))) (ge_fld (one G.at_Message_most) (gv 2)))) (gb_cons (gs_if (gt_cmp (go_eq hr) (gv 8) (gv 4)) (gb_one (gs_ret (gv 4))) gb_nil) (gb_one (gs_set 4 nd (gv 8)))))))))
theorem fo_least_begin (G : Facts K mg base) : Fo P w K mg base 3 "least_begin" 5 m_least_begin := by
  obtain ⟨f, fd, F, hm⟩ := G.d_least_begin
  exact ⟨f, fd, ["first", "ahead", "message", "apart", "begin"], fn_least_begin G F, hm, F.kp, F.bindsN (fun _ _ _ _ _ _ us hl => match us, hl with | [_, _, _, _, _], _ => rfl), rfl⟩
theorem sc_NoTask___init__ : FnScope ["self", "name"] ["self", "name"] (defScope s_NoTask___init__) := ⟨rfl, rfl, rfl, by decide +kernel, rfl, by decide +kernel, by decide +kernel⟩
theorem mx_NoTask (G : Facts K mg base) : MoX P w K mg base "NoTask" "name" := by
  obtain ⟨fI, fd, cl, F, hm, T, me, no⟩ := G.mx_NoTask
  refine ⟨cl, fI, fd, ["self", "name"], hm, T, me.at_, by have := me.fn; simpa [PySem.W.isFn] using this, F.ok sc_NoTask___init__ (fun vs H Q E h => spx_len h) (fun cdv A outer s H vs Q E hr h => ⟨_, pss_one (ps_gst (pe_var (i := 0) rfl (Or.inl rfl)) (pe_var (i := 1) rfl (Or.inl rfl))), gst_go T no h⟩), F.bindsN (fun _ _ _ _ _ _ us hl => match us, hl with | [_, _], _ => rfl)⟩
theorem sc_Bus_message : FnScope ["self", "name"] ["self", "name"] (defScope s_Bus_message) := ⟨rfl, rfl, rfl, by decide +kernel, rfl, by decide +kernel, by decide +kernel⟩
def m_Bus_message : List D → Sto → Res D := fnT 2 (sSeq (sIf (tB' (eOp (dInS true) (eV 1) (eUn (fldD ["Bus"] "_messages") (eV 0)))) (sRaise "NoTask" "name" (aCons (eV 1) aNil)) sNext) (sRet (eCall m_waiting 2 (aCons (eOp dGetS (eUn (fldD ["Bus"] "_messages") (eV 0)) (eV 1)) (aCons (eUn (fldD ["Message"] "wait") (eOp dGetS (eUn (fldD ["Bus"] "_messages") (eV 0)) (eV 1))) aNil)))))
theorem me_Bus_message (G : Facts K mg base) : Me P w K mg base 6 "Bus" "message" 1 m_Bus_message := by
  obtain ⟨f, fd, cl, F, hm, hc, hme⟩ := G.me_Bus_message
  refine ⟨cl, f, fd, ["self", "name"], ?_, hm, hc, hme, F.bindsN (fun _ _ _ _ _ _ us hl => match us, hl with | [_, _], _ => rfl), rfl⟩
  refine fn_cut (fn_sm F sc_Bus_message fun cdv A outer s H E hr => GB.ex (W := WE E) ?_)
  have nd := sc_Bus_message.nd
  have po : PassesOwn (model P w) (cxOf (L2.CX P w) P w K mg base ["self", "name"] "Bus.message" (defScope s_Bus_message) f cdv A outer s H E).A (cxOf (L2.CX P w) P w K mg base ["self", "name"] "Bus.message" (defScope s_Bus_message) f cdv A outer s H E).env (cxOf (L2.CX P w) P w K mg base ["self", "name"] "Bus.message" (defScope s_Bus_message) f cdv A outer s H E).xe := passes_of (X := cxOf (L2.CX P w) P w K mg base ["self", "name"] "Bus.message" (defScope s_Bus_message) f cdv A outer s H E) rfl
  have px : PassW (cxOf (L2.CX P w) P w K mg base ["self", "name"] "Bus.message" (defScope s_Bus_message) f cdv A outer s H E) (WE E) := passWE (takes_of (X := cxOf (L2.CX P w) P w K mg base ["self", "name"] "Bus.message" (defScope s_Bus_message) f cdv A outer s H E) rfl rfl rfl rfl)
  have tk : Takes (cxOf (L2.CX P w) P w K mg base ["self", "name"] "Bus.message" (defScope s_Bus_message) f cdv A outer s H E) (WE E) := takes_of (X := cxOf (L2.CX P w) P w K mg base ["self", "name"] "Bus.message" (defScope s_Bus_message) f cdv A outer s H E) rfl rfl rfl rfl
  exact (gb_cons (gs_if (gt_dnin hr (gv 1) (ge_fld (one G.at_Bus__messages) (gv 0))) (gb_one (gs_raise (mx_NoTask G) (hr.mono (by omega)) tk (ga_cons (gv 1) ga_nil))) gb_nil) (gb_one (gs_ret (ge_call (fo_waiting G) (hr.mono (by omega)) px (ga_cons (ge_dget hr (ge_fld (one G.at_Bus__messages) (gv 0)) (gv 1)) (ga_cons (ge_fld (one G.at_Message_wait) (ge_dget hr (ge_fld (one G.at_Bus__messages) (gv 0)) (gv 1))) ga_nil))))))

theorem sc_Bus_messages : FnScope ["self", "message"] ["self"] (defScope s_Bus_messages) := ⟨rfl, rfl, rfl, by decide +kernel, rfl, by decide +kernel, by decide +kernel⟩
def m_Bus_messages : List D → Sto → Res D := fnT 2 (sRet (eLcV (pF ["Bus"] "_messages" (pV 0)) [1] (vName 1) tvYes (eCall m_waiting 2 (aCons (eV 1) (aCons (eUn (fldD ["Message"] "wait") (eV 1)) aNil)))))
theorem me_Bus_messages (G : Facts K mg base) : Me P w K mg base 6 "Bus" "messages" 0 m_Bus_messages := by
  obtain ⟨f, fd, cl, F, hm, hc, hme⟩ := G.me_Bus_messages
  refine ⟨cl, f, fd, ["self"], ?_, hm, hc, hme, F.bindsN (fun _ _ _ _ _ _ us hl => match us, hl with | [_], _ => rfl), rfl⟩
  refine fn_cut (fn_sm F sc_Bus_messages fun cdv A outer s H E hr => GB.ex (W := WE E) ?_)
  have nd := sc_Bus_messages.nd
  have po : PassesOwn (model P w) (cxOf (L2.CX P w) P w K mg base ["self", "message"] "Bus.messages" (defScope s_Bus_messages) f cdv A outer s H E).A (cxOf (L2.CX P w) P w K mg base ["self", "message"] "Bus.messages" (defScope s_Bus_messages) f cdv A outer s H E).env (cxOf (L2.CX P w) P w K mg base ["self", "message"] "Bus.messages" (defScope s_Bus_messages) f cdv A outer s H E).xe := passes_of (X := cxOf (L2.CX P w) P w K mg base ["self", "message"] "Bus.messages" (defScope s_Bus_messages) f cdv A outer s H E) rfl
  have px : PassW (cxOf (L2.CX P w) P w K mg base ["self", "message"] "Bus.messages" (defScope s_Bus_messages) f cdv A outer s H E) (WE E) := passWE (takes_of (X := cxOf (L2.CX P w) P w K mg base ["self", "message"] "Bus.messages" (defScope s_Bus_messages) f cdv A outer s H E) rfl rfl rfl rfl)
  exact (gb_one (gs_ret (ge_lcV (own := [("message", 1)]) nd (gp_fld (one G.at_Bus__messages) (gp_var 0)) rfl (fun s H C cl fp => (gg_name 1 nd)) (fun s H C cl fp => gts_nil) (fun s H C cl fp => (ge_call (fo_waiting G) (hr.mono (by omega)) passW0 (ga_cons (gv 1) (ga_cons (ge_fld (one G.at_Message_wait) (gv 1)) ga_nil)))))))

theorem sc_bus_bound : FnScope ["bus", "name", "apart", "message", "rows", "ticks", "held", "ahead", "begin", "told", "place"] ["bus", "name", "apart"] (defScope s_bus_bound) := ⟨rfl, rfl, rfl, by decide +kernel, rfl, by decide +kernel, by decide +kernel⟩
def m_bus_bound : List D → Sto → Res D := fnT 11 (sSeq (sSet 3 (eMeth "Bus" "message" m_Bus_message 1 (eV 0) (aCons (eV 1) aNil))) (sSeq (sSet 4 (eMeth0 "Bus" "messages" m_Bus_messages (eV 0))) (sSeq (sSet 5 (eCall m_stretch 3 (aCons (eV 4) (aCons (eV 3) (aCons (eV 2) aNil))))) (sSeq (sIf (tB' (eOp (q2 dIs) (eV 5) (eC .non))) (sRet (eC .non)) sNext) (sSeq (sSet 6 (eCall m_held_back 2 (aCons (eV 4) (aCons (eV 3) aNil)))) (sSeq (sSet 7 (eCall m_more_urgent 2 (aCons (eV 4) (aCons (eV 3) aNil)))) (sSeq (sSet 8 (eC (.int 0))) (sSeq (sSet 9 (eC (.int 0))) (sSeq (sFor (aRng dRng1 (aCons (eCall m_comings 2 (aCons (eV 3) (aCons (eV 5) aNil))) aNil)) (vName 10) (sSeq (sSet 8 (eCall m_least_begin 5 (aCons (eOp (q2 dAdd) (eV 6) (eOp (q2 (i2 fMul)) (eV 10) (eUn (fldD ["Message"] "most") (eV 3)))) (aCons (eV 7) (aCons (eV 3) (aCons (eV 2) (aCons (eV 8) aNil))))))) (sSeq (sSet 9 (eAr (qA dMax2) (aCons (eV 9) (aCons (eOp (q2 dAdd) (eOp (q2 (i2 fSub)) (eOp (q2 dAdd) (eUn (fldD ["Message"] "wait") (eV 3)) (eV 8)) (eOp (q2 (i2 fMul)) (eV 10) (eUn (fldD ["Message"] "gap") (eV 3)))) (eUn (fldD ["Message"] "most") (eV 3))) aNil)))) (sIf (tB' (eOp (q2 (i2 fGt)) (eV 9) (eUn (fldD ["Message"] "due") (eV 3)))) (sRet (eC .non)) sNext)))) (sRet (eV 9)))))))))))
theorem fn_bus_bound (G : Facts K mg base) {f : Addr} {fd : FuncData} (F : FunD K "bus_bound" "bus_bound" (defArgs s_bus_bound) (defBody s_bus_bound) (defScope s_bus_bound) [] [("apart", .non)] f fd) : FnOk P w K mg base (L2.CX P w) 7 f fd ["bus", "name", "apart"] (SpF ⟨K, mg⟩ 3 m_bus_bound) := by
  refine fn_cut (fn_sm F sc_bus_bound fun cdv A outer s H E hr => GB.ex (W := WE E) ?_)
  have nd := sc_bus_bound.nd
  have po : PassesOwn (model P w) (cxOf (L2.CX P w) P w K mg base ["bus", "name", "apart", "message", "rows", "ticks", "held", "ahead", "begin", "told", "place"] "bus_bound" (defScope s_bus_bound) f cdv A outer s H E).A (cxOf (L2.CX P w) P w K mg base ["bus", "name", "apart", "message", "rows", "ticks", "held", "ahead", "begin", "told", "place"] "bus_bound" (defScope s_bus_bound) f cdv A outer s H E).env (cxOf (L2.CX P w) P w K mg base ["bus", "name", "apart", "message", "rows", "ticks", "held", "ahead", "begin", "told", "place"] "bus_bound" (defScope s_bus_bound) f cdv A outer s H E).xe := passes_of (X := cxOf (L2.CX P w) P w K mg base ["bus", "name", "apart", "message", "rows", "ticks", "held", "ahead", "begin", "told", "place"] "bus_bound" (defScope s_bus_bound) f cdv A outer s H E) rfl
  have px : PassW (cxOf (L2.CX P w) P w K mg base ["bus", "name", "apart", "message", "rows", "ticks", "held", "ahead", "begin", "told", "place"] "bus_bound" (defScope s_bus_bound) f cdv A outer s H E) (WE E) := passWE (takes_of (X := cxOf (L2.CX P w) P w K mg base ["bus", "name", "apart", "message", "rows", "ticks", "held", "ahead", "begin", "told", "place"] "bus_bound" (defScope s_bus_bound) f cdv A outer s H E) rfl rfl rfl rfl)
  exact (gb_cons (gs_set 3 nd (ge_meth (me_Bus_message G) (hr.mono (by omega)) px (gv 0) (ga_cons (gv 1) ga_nil))) (gb_cons (gs_set 4 nd (ge_meth0 (me_Bus_messages G) (hr.mono (by omega)) px (gv 0))) (gb_cons (gs_set 5 nd (ge_call (fo_stretch G) (hr.mono (by omega)) px (ga_cons (gv 4) (ga_cons (gv 3) (ga_cons (gv 2) ga_nil))))) (gb_cons (gs_if (gt_cmp (go_is) (gv 5) ge_non) (gb_one (gs_ret ge_non)) gb_nil) (gb_cons (gs_set 6 nd (ge_call (fo_held_back G) (hr.mono (by omega)) px (ga_cons (gv 4) (ga_cons (gv 3) ga_nil)))) (gb_cons (gs_set 7 nd (ge_call (fo_more_urgent G) (hr.mono (by omega)) px (ga_cons (gv 4) (ga_cons (gv 3) ga_nil)))) (gb_cons (gs_set 8 nd ge_int) (gb_cons (gs_set 9 nd ge_int) (gb_cons (gs_for po (gi_range1 G.b_range (ga_cons (ge_call (fo_comings G) (hr.mono (by omega)) px (ga_cons (gv 3) (ga_cons (gv 5) ga_nil))) ga_nil)) (gg_name 10 nd) (gb_cons (gs_set 8 nd (ge_call (fo_least_begin G) (hr.mono (by omega)) px (ga_cons (ge_op go_add (gv 6) (ge_op go_mulI (gv 10) (ge_fld (one G.at_Message_most) (gv 3)))) (ga_cons (gv 7) (ga_cons (gv 3) (ga_cons (gv 2) (ga_cons (gv 8) ga_nil))))))) (gb_cons (gs_set 9 nd (ge_callB (cb_max2 rfl) G.b_max (ga_cons (gv 9) (ga_cons (ge_op go_add (ge_op go_subI (ge_op go_add (ge_fld (one G.at_Message_wait) (gv 3)) (gv 8)) (ge_op go_mulI (gv 10) (ge_fld (one G.at_Message_gap) (gv 3)))) (ge_fld (one G.at_Message_most) (gv 3))) ga_nil)))) (gb_one (gs_if (gt_cmp (go_gt) (gv 9) (ge_fld (one G.at_Message_due) (gv 3))) (gb_one (gs_ret ge_non)) gb_nil))))) (gb_one (gs_ret (gv 9))))))))))))
theorem fo_bus_bound (G : Facts K mg base) : FoD P w K mg base 7 "bus_bound" 2 (nons 1) m_bus_bound := by
  obtain ⟨f, fd, F, hm⟩ := G.d_bus_bound
  obtain ⟨ds, hv, hb⟩ := F.binds0 (ps := ["bus", "name", "apart"]) 2 (by simp) rfl (fun D doc pm an cdv ct us ks hl hk => match us, hl, ks, hk with | [_, _], _, [_], _ => ⟨_, _, _, _, _, _, rfl, rfl, rfl⟩)
  exact ⟨f, fd, ["bus", "name", "apart"], ds, _, fn_bus_bound G F, hm, F.kp, hb, hv, fun F μ => rds_nons 1⟩
theorem fok_bus_bound (G : Facts K mg base) : FoK P w K mg base 7 "bus_bound" 2 ["apart"] m_bus_bound := by
  obtain ⟨f, fd, F, hm⟩ := G.d_bus_bound
  exact ⟨f, fd, ["bus", "name", "apart"], _, _, fn_bus_bound G F, hm, F.kp, kbn_all F 2 ["apart"] (by simp) (fun D doc pm an cdv ct us ws l1 l2 => match us, l1, ws, l2 with | [_, _], _, [_], _ => rfl), fun F μ vs zs ds es r1 r2 => r1.append r2⟩
theorem fop_bus_bound_apart_name_bus (G : Facts K mg base) : FoP P w K mg base 7 "bus_bound" 0 ["apart", "name", "bus"] [2, 1, 0] m_bus_bound := by
  obtain ⟨f, fd, F, hm⟩ := G.d_bus_bound
  exact ⟨f, fd, ["bus", "name", "apart"], fn_bus_bound G F, hm, F.kp, kbn_permK F 0 ["apart", "name", "bus"] [2, 1, 0] (by simp) (fun D doc pm an cdv ct us ws l1 l2 => match us, l1, ws, l2 with | [], _, [_, _, _], _ => rfl)⟩
theorem sc__law_tape : FnScope ["script"] ["script"] (defScope s__law_tape) := ⟨rfl, rfl, rfl, by decide +kernel, rfl, by decide +kernel, by decide +kernel⟩
def m__law_tape : List D → Sto → Res D := fnK 1 (sRet (eDispH (pCons (eC (.str "cells")) (eAr (qA dMkL) (aCons (eSl (altS slT slL) (eV 0) oNone (oSome (eC (.int 63)))) aNil)) (pCons (eC (.str "spot")) (eC (.int 0)) (pCons (eC (.str "rest")) (eC (.int 0)) pNil)))))
theorem fn__law_tape (G : Facts K mg base) {f : Addr} {fd : FuncData} (F : FunD K "_law_tape" "_law_tape" (defArgs s__law_tape) (defBody s__law_tape) (defScope s__law_tape) [] [] f fd) : FnOk P w K mg base (L2.CX P w) 1 f fd ["script"] (SpF ⟨K, mg⟩ 1 m__law_tape) := by
  refine fn_sm F sc__law_tape fun cdv A outer s H E hr => GB.ex (W := WE E) ?_
  have nd := sc__law_tape.nd
  have po : PassesOwn (model P w) (cxOf (L2.CX P w) P w K mg base ["script"] "_law_tape" (defScope s__law_tape) f cdv A outer s H E).A (cxOf (L2.CX P w) P w K mg base ["script"] "_law_tape" (defScope s__law_tape) f cdv A outer s H E).env (cxOf (L2.CX P w) P w K mg base ["script"] "_law_tape" (defScope s__law_tape) f cdv A outer s H E).xe := passes_of (X := cxOf (L2.CX P w) P w K mg base ["script"] "_law_tape" (defScope s__law_tape) f cdv A outer s H E) rfl
  have px : PassW (cxOf (L2.CX P w) P w K mg base ["script"] "_law_tape" (defScope s__law_tape) f cdv A outer s H E) (WE E) := passWE (takes_of (X := cxOf (L2.CX P w) P w K mg base ["script"] "_law_tape" (defScope s__law_tape) f cdv A outer s H E) rfl rfl rfl rfl)
  exact (gb_one (gs_ret (ge_dispH (gps_cons ge_str (ge_callTy cb_list G.b_list (ga_cons (ge_slice gsl_any (gv 0) go_none (go_some ge_int)) ga_nil)) (gps_cons ge_str ge_int (gps_cons ge_str ge_int gps_nil))))))
theorem fo__law_tape (G : Facts K mg base) : Fo P w K mg base 1 "_law_tape" 1 m__law_tape := by
  obtain ⟨f, fd, F, hm⟩ := G.d__law_tape
  exact ⟨f, fd, ["script"], fn__law_tape G F, hm, F.kp, F.bindsN (fun _ _ _ _ _ _ us hl => match us, hl with | [_], _ => rfl), rfl⟩
theorem sc__law_draw : FnScope ["tape", "many", "digit", "spot", "cell", "mixed"] ["tape", "many"] (defScope s__law_draw) := ⟨rfl, rfl, rfl, by decide +kernel, rfl, by decide +kernel, by decide +kernel⟩
def m__law_draw : List D → Sto → Res D := fnT 6 (sSeq (sIf (tB' (eOp (q2 (i2 fGt)) (eOp dGetS (eV 0) (eC (.str "rest"))) (eC (.int 0)))) (sSeq (sSet 2 (eOp (q2 (i2 fMod)) (eOp dGetS (eV 0) (eC (.str "rest"))) (eV 1))) (sSeq (sPut dPutS (eV 0) (eC (.str "rest")) (eOp (q2 (i2 fDiv)) (eOp dGetS (eV 0) (eC (.str "rest"))) (eV 1))) (sRet (eV 2)))) sNext) (sSeq (sSet 3 (eOp dGetS (eV 0) (eC (.str "spot")))) (sSeq (sPut dPutS (eV 0) (eC (.str "spot")) (eOp (q2 dAdd) (eV 3) (eC (.int 1)))) (sSeq (sSet 4 (eOp (q2 dAdd) (eC (.int 11)) (eV 3))) (sSeq (sIf (tB' (eOp (q2 dNe) (eOp dGetS (eV 0) (eC (.str "cells"))) (eLst aNil))) (sSet 4 (eOp (q2 dIx) (eOp dGetS (eV 0) (eC (.str "cells"))) (eOp (q2 (i2 fMod)) (eV 3) (eAr (qA dLen) (aCons (eOp dGetS (eV 0) (eC (.str "cells"))) aNil))))) sNext) (sSeq (sIf (tvAnd (tB' (eOp (q2 (i2 fGe)) (eV 4) (eOp (q2 (i2 fPow)) (eC (.int 10)) (eC (.int 18))))) (tB' (eOp (q2 (i2 fLt)) (eV 3) (eAr (qA dLen) (aCons (eOp dGetS (eV 0) (eC (.str "cells"))) aNil))))) (sSeq (sPut dPutS (eV 0) (eC (.str "rest")) (eOp (q2 (i2 fDiv)) (eOp (q2 (i2 fSub)) (eV 4) (eOp (q2 (i2 fPow)) (eC (.int 10)) (eC (.int 18)))) (eV 1))) (sRet (eOp (q2 (i2 fMod)) (eOp (q2 (i2 fSub)) (eV 4) (eOp (q2 (i2 fPow)) (eC (.int 10)) (eC (.int 18)))) (eV 1)))) sNext) (sSeq (sSet 5 (eOp (q2 (i2 fMod)) (eOp (q2 dAdd) (eOp (q2 dAdd) (eOp (q2 dAdd) (eOp (q2 (i2 fMul)) (eOp (q2 (i2 fMod)) (eV 4) (eC (.int 2147483647))) (eC (.int 48271))) (eOp (q2 (i2 fMul)) (eOp (q2 (i2 fMul)) (eC (.int 7919)) (eV 3)) (eV 3))) (eOp (q2 (i2 fMul)) (eC (.int 31)) (eV 3))) (eC (.int 5))) (eC (.int 2147483629)))) (sSeq (sSet 5 (eOp (q2 (i2 fMod)) (eOp (q2 dAdd) (eOp (q2 dAdd) (eOp (q2 (i2 fMul)) (eV 5) (eV 5)) (eOp (q2 (i2 fMul)) (eC (.int 69621)) (eV 5))) (eV 3)) (eC (.int 2147483587)))) (sRet (eOp (q2 (i2 fMod)) (eOp (q2 (i2 fDiv)) (eOp (q2 (i2 fMod)) (eOp (q2 (i2 fMul)) (eV 5) (eOp (q2 dAdd) (eOp (q2 (i2 fMod)) (eV 5) (eC (.int 40699))) (eC (.int 3)))) (eC (.int 2147483563))) (eC (.int 64))) (eV 1)))))))))))
theorem fn__law_draw (G : Facts K mg base) {f : Addr} {fd : FuncData} (F : FunD K "_law_draw" "_law_draw" (defArgs s__law_draw) (defBody s__law_draw) (defScope s__law_draw) [] [] f fd) : FnOk P w K mg base (L2.CX P w) 1 f fd ["tape", "many"] (SpF ⟨K, mg⟩ 2 m__law_draw) := by
  refine fn_cut (fn_sm F sc__law_draw fun cdv A outer s H E hr => GB.ex (W := WE E) ?_)
  have nd := sc__law_draw.nd
  have po : PassesOwn (model P w) (cxOf (L2.CX P w) P w K mg base ["tape", "many", "digit", "spot", "cell", "mixed"] "_law_draw" (defScope s__law_draw) f cdv A outer s H E).A (cxOf (L2.CX P w) P w K mg base ["tape", "many", "digit", "spot", "cell", "mixed"] "_law_draw" (defScope s__law_draw) f cdv A outer s H E).env (cxOf (L2.CX P w) P w K mg base ["tape", "many", "digit", "spot", "cell", "mixed"] "_law_draw" (defScope s__law_draw) f cdv A outer s H E).xe := passes_of (X := cxOf (L2.CX P w) P w K mg base ["tape", "many", "digit", "spot", "cell", "mixed"] "_law_draw" (defScope s__law_draw) f cdv A outer s H E) rfl
  have px : PassW (cxOf (L2.CX P w) P w K mg base ["tape", "many", "digit", "spot", "cell", "mixed"] "_law_draw" (defScope s__law_draw) f cdv A outer s H E) (WE E) := passWE (takes_of (X := cxOf (L2.CX P w) P w K mg base ["tape", "many", "digit", "spot", "cell", "mixed"] "_law_draw" (defScope s__law_draw) f cdv A outer s H E) rfl rfl rfl rfl)
  exact (gb_cons (gs_if (gt_cmp (go_gt) (ge_dget hr (gv 0) ge_str) ge_int) (gb_cons (gs_set 2 nd (ge_op go_modI (ge_dget hr (gv 0) ge_str) (gv 1))) (gb_cons (gs_dput hr (gv 0) ge_str (ge_op go_divI (ge_dget hr (gv 0) ge_str) (gv 1))) (gb_one (gs_ret (gv 2))))) gb_nil) (gb_cons (gs_set 3 nd (ge_dget hr (gv 0) ge_str)) (gb_cons (gs_dput hr (gv 0) ge_str (ge_op go_add (gv 3) ge_int)) (gb_cons (gs_set 4 nd (ge_op go_add ge_int (gv 3))) (gb_cons (gs_if (gt_cmp (go_ne hr) (ge_dget hr (gv 0) ge_str) (ge_lst ga_nil)) (gb_one (gs_set 4 nd (ge_ix gx_any (ge_dget hr (gv 0) ge_str) (ge_op go_modI (gv 3) (ge_callB cb_len G.b_len (ga_cons (ge_dget hr (gv 0) ge_str) ga_nil)))))) gb_nil) (gb_cons (gs_if ((gw_and (gt_cmp (go_ge) (gv 4) (ge_op go_powI ge_int ge_int)) (gw_and1 (gt_cmp (go_lt) (gv 3) (ge_callB cb_len G.b_len (ga_cons (ge_dget hr (gv 0) ge_str) ga_nil)))))).t (gb_cons (gs_dput hr (gv 0) ge_str (ge_op go_divI (ge_op go_subI (gv 4) (ge_op go_powI ge_int ge_int)) (gv 1))) (gb_one (gs_ret (ge_op go_modI (ge_op go_subI (gv 4) (ge_op go_powI ge_int ge_int)) (gv 1))))) gb_nil) (gb_cons (gs_set 5 nd (ge_op go_modI (ge_op go_add (ge_op go_add (ge_op go_add (ge_op go_mulI (ge_op go_modI (gv 4) ge_int) ge_int) (ge_op go_mulI (ge_op go_mulI ge_int (gv 3)) (gv 3))) (ge_op go_mulI ge_int (gv 3))) ge_int) ge_int)) (gb_cons (gs_set 5 nd (ge_op go_modI (ge_op go_add (ge_op go_add (ge_op go_mulI (gv 5) (gv 5)) (ge_op go_mulI ge_int (gv 5))) (gv 3)) ge_int)) (gb_one (gs_ret (ge_op go_modI (ge_op go_divI (ge_op go_modI (ge_op go_mulI (gv 5) (ge_op go_add (ge_op go_modI (gv 5) ge_int) ge_int)) ge_int) ge_int) (gv 1))))))))))))
theorem fo__law_draw (G : Facts K mg base) : Fo P w K mg base 1 "_law_draw" 2 m__law_draw := by
  obtain ⟨f, fd, F, hm⟩ := G.d__law_draw
  exact ⟨f, fd, ["tape", "many"], fn__law_draw G F, hm, F.kp, F.bindsN (fun _ _ _ _ _ _ us hl => match us, hl with | [_, _], _ => rfl), rfl⟩
theorem sc__law_pick : FnScope ["tape", "some"] ["tape", "some"] (defScope s__law_pick) := ⟨rfl, rfl, rfl, by decide +kernel, rfl, by decide +kernel, by decide +kernel⟩
def m__law_pick : List D → Sto → Res D := fnT 2 (sRet (eOp (q2 dIx) (eV 1) (eCall m__law_draw 2 (aCons (eV 0) (aCons (eAr (qA dLen) (aCons (eV 1) aNil)) aNil)))))
theorem fn__law_pick (G : Facts K mg base) {f : Addr} {fd : FuncData} (F : FunD K "_law_pick" "_law_pick" (defArgs s__law_pick) (defBody s__law_pick) (defScope s__law_pick) [] [] f fd) : FnOk P w K mg base (L2.CX P w) 2 f fd ["tape", "some"] (SpF ⟨K, mg⟩ 2 m__law_pick) := by
  refine fn_cut (fn_sm F sc__law_pick fun cdv A outer s H E hr => GB.ex (W := WE E) ?_)
  have nd := sc__law_pick.nd
  have po : PassesOwn (model P w) (cxOf (L2.CX P w) P w K mg base ["tape", "some"] "_law_pick" (defScope s__law_pick) f cdv A outer s H E).A (cxOf (L2.CX P w) P w K mg base ["tape", "some"] "_law_pick" (defScope s__law_pick) f cdv A outer s H E).env (cxOf (L2.CX P w) P w K mg base ["tape", "some"] "_law_pick" (defScope s__law_pick) f cdv A outer s H E).xe := passes_of (X := cxOf (L2.CX P w) P w K mg base ["tape", "some"] "_law_pick" (defScope s__law_pick) f cdv A outer s H E) rfl
  have px : PassW (cxOf (L2.CX P w) P w K mg base ["tape", "some"] "_law_pick" (defScope s__law_pick) f cdv A outer s H E) (WE E) := passWE (takes_of (X := cxOf (L2.CX P w) P w K mg base ["tape", "some"] "_law_pick" (defScope s__law_pick) f cdv A outer s H E) rfl rfl rfl rfl)
  exact (gb_one (gs_ret (ge_ix gx_any (gv 1) (ge_call (fo__law_draw G) (hr.mono (by omega)) px (ga_cons (gv 0) (ga_cons (ge_callB cb_len G.b_len (ga_cons (gv 1) ga_nil)) ga_nil))))))
theorem fo__law_pick (G : Facts K mg base) : Fo P w K mg base 2 "_law_pick" 2 m__law_pick := by
  obtain ⟨f, fd, F, hm⟩ := G.d__law_pick
  exact ⟨f, fd, ["tape", "some"], fn__law_pick G F, hm, F.kp, F.bindsN (fun _ _ _ _ _ _ us hl => match us, hl with | [_, _], _ => rfl), rfl⟩
theorem sc__law_names : FnScope ["tape", "many", "letters", "base", "k", "spot", "first", "by", "short", "found", "behind"] ["tape", "many"] (defScope s__law_names) := ⟨rfl, rfl, rfl, by decide +kernel, rfl, by decide +kernel, by decide +kernel⟩
def m__law_names : List D → Sto → Res D := fnT 11 (sSeq (sSet 2 (eC (.str "abcdefghijklmnopqrstuvwxyz"))) (sSeq (sSet 3 (eJoin (eC (.str "")) (eLc [4] (aRng dRng1 (aCons (eOp (q2 dAdd) (eC (.int 1)) (eCall m__law_draw 2 (aCons (eV 0) (aCons (eC (.int 12)) aNil)))) aNil)) (vName 4) tvYes (eOp (q2 dIx) (eV 2) (eCall m__law_draw 2 (aCons (eV 0) (aCons (eC (.int 26)) aNil))))))) (sSeq (sPar 5 6 (aCons (eCall m__law_draw 2 (aCons (eV 0) (aCons (eAr (qA dLen) (aCons (eV 3) aNil)) aNil))) (aCons (eCall m__law_draw 2 (aCons (eV 0) (aCons (eC (.int 26)) aNil))) aNil))) (sSeq (sPar 7 8 (aCons (eCall m__law_pick 2 (aCons (eV 0) (aCons (eLst (aCons (eC (.int 3)) (aCons (eC (.int 5)) (aCons (eC (.int 7)) (aCons (eC (.int 9)) (aCons (eC (.int 11)) (aCons (eC (.int 15)) (aCons (eC (.int 17)) (aCons (eC (.int 25)) aNil))))))))) aNil))) (aCons (eCall m__law_draw 2 (aCons (eV 0) (aCons (eC (.int 2)) aNil))) aNil))) (sSeq (sSet 9 (eLstH aNil)) (sSeq (sFor (aRng dRng1 (aCons (eV 1) aNil)) (vName 4) (sSeq (sSet 10 (eIf (tB' (eOp (q2 dEq) (eV 8) (eC (.int 0)))) (eSl slS (eV 3) (oSome (eOp (q2 dAdd) (eV 5) (eC (.int 1)))) oNone) (eSl slS (eSl slS (eV 3) (oSome (eOp (q2 dAdd) (eV 5) (eC (.int 1)))) oNone) oNone (oSome (eOp (q2 (i2 fMod)) (eV 4) (eC (.int 4))))))) (sDrop (eBm "list" (mLst lApp) (eV 9) (aCons (eOp (q2 dAdd) (eOp (q2 dAdd) (eSl slS (eV 3) oNone (oSome (eV 5))) (eOp (q2 dIx) (eV 2) (eOp (q2 (i2 fMod)) (eOp (q2 dAdd) (eV 6) (eOp (q2 (i2 fMul)) (eV 7) (eV 4))) (eC (.int 26))))) (eV 10)) aNil))))) (sSeq (sFrz 9) (sRet (eV 9)))))))))
theorem fn__law_names (G : Facts K mg base) {f : Addr} {fd : FuncData} (F : FunD K "_law_names" "_law_names" (defArgs s__law_names) (defBody s__law_names) (defScope s__law_names) [] [] f fd) : FnOk P w K mg base (L2.CX P w) 3 f fd ["tape", "many"] (SpF ⟨K, mg⟩ 2 m__law_names) := by
  refine fn_cut (fn_sm F sc__law_names fun cdv A outer s H E hr => GB.ex (W := WE E) ?_)
  have nd := sc__law_names.nd
  have po : PassesOwn (model P w) (cxOf (L2.CX P w) P w K mg base ["tape", "many", "letters", "base", "k", "spot", "first", "by", "short", "found", "behind"] "_law_names" (defScope s__law_names) f cdv A outer s H E).A (cxOf (L2.CX P w) P w K mg base ["tape", "many", "letters", "base", "k", "spot", "first", "by", "short", "found", "behind"] "_law_names" (defScope s__law_names) f cdv A outer s H E).env (cxOf (L2.CX P w) P w K mg base ["tape", "many", "letters", "base", "k", "spot", "first", "by", "short", "found", "behind"] "_law_names" (defScope s__law_names) f cdv A outer s H E).xe := passes_of (X := cxOf (L2.CX P w) P w K mg base ["tape", "many", "letters", "base", "k", "spot", "first", "by", "short", "found", "behind"] "_law_names" (defScope s__law_names) f cdv A outer s H E) rfl
  have px : PassW (cxOf (L2.CX P w) P w K mg base ["tape", "many", "letters", "base", "k", "spot", "first", "by", "short", "found", "behind"] "_law_names" (defScope s__law_names) f cdv A outer s H E) (WE E) := passWE (takes_of (X := cxOf (L2.CX P w) P w K mg base ["tape", "many", "letters", "base", "k", "spot", "first", "by", "short", "found", "behind"] "_law_names" (defScope s__law_names) f cdv A outer s H E) rfl rfl rfl rfl)
  exact (gb_cons (gs_set 2 nd ge_str) (gb_cons (gs_set 3 nd (ge_join ge_str (ge_lc (own := [("k", 4)]) nd (gi_range1 G.b_range (ga_cons (ge_op go_add ge_int (ge_call (fo__law_draw G) (hr.mono (by omega)) px (ga_cons (gv 0) (ga_cons ge_int ga_nil)))) ga_nil)) rfl (fun s H C cl fp => (gg_name 4 nd)) (fun s H C cl fp => gts_nil) (fun s H C cl fp => (ge_ix gx_any (gv 2) (ge_call (fo__law_draw G) (hr.mono (by omega)) passW0 (ga_cons (gv 0) (ga_cons ge_int ga_nil)))))))) (gb_cons (gs_par 5 6 nd (ga_cons (ge_call (fo__law_draw G) (hr.mono (by omega)) px (ga_cons (gv 0) (ga_cons (ge_callB cb_len G.b_len (ga_cons (gv 3) ga_nil)) ga_nil))) (ga_cons (ge_call (fo__law_draw G) (hr.mono (by omega)) px (ga_cons (gv 0) (ga_cons ge_int ga_nil))) ga_nil))) (gb_cons (gs_par 7 8 nd (ga_cons (ge_call (fo__law_pick G) (hr.mono (by omega)) px (ga_cons (gv 0) (ga_cons (ge_lst (ga_cons ge_int (ga_cons ge_int (ga_cons ge_int (ga_cons ge_int (ga_cons ge_int (ga_cons ge_int (ga_cons ge_int (ga_cons ge_int ga_nil))))))))) ga_nil))) (ga_cons (ge_call (fo__law_draw G) (hr.mono (by omega)) px (ga_cons (gv 0) (ga_cons ge_int ga_nil))) ga_nil))) (gb_cons (gs_set 9 nd (ge_lstH ga_nil)) (gb_cons (gs_for po (gi_range1 G.b_range (ga_cons (gv 1) ga_nil)) (gg_name 4 nd) (gb_cons (gs_set 10 nd (ge_if (gt_cmp (go_eq hr) (gv 8) ge_int) (ge_slice gsl_str (gv 3) (go_some (ge_op go_add (gv 5) ge_int)) go_none) (ge_slice gsl_str (ge_slice gsl_str (gv 3) (go_some (ge_op go_add (gv 5) ge_int)) go_none) go_none (go_some (ge_op go_modI (gv 4) ge_int))))) (gb_one (gs_expr (ge_append (gv 9) (ga_cons (ge_op go_add (ge_op go_add (ge_slice gsl_str (gv 3) go_none (go_some (gv 5))) (ge_ix gx_any (gv 2) (ge_op go_modI (ge_op go_add (gv 6) (ge_op go_mulI (gv 7) (gv 4))) ge_int))) (gv 10)) ga_nil)))))) (gb_frz 9 (gb_one (gs_ret (gv 9))))))))))
theorem fo__law_names (G : Facts K mg base) : Fo P w K mg base 3 "_law_names" 2 m__law_names := by
  obtain ⟨f, fd, F, hm⟩ := G.d__law_names
  exact ⟨f, fd, ["tape", "many"], fn__law_names G F, hm, F.kp, F.bindsN (fun _ _ _ _ _ _ us hl => match us, hl with | [_, _], _ => rfl), rfl⟩
theorem sc__law_ranked : FnScope ["tape", "things", "left", "found", "level", "one"] ["tape", "things"] (defScope s__law_ranked) := ⟨rfl, rfl, rfl, by decide +kernel, rfl, by decide +kernel, by decide +kernel⟩
def m__law_ranked : List D → Sto → Res D := fnT 6 (sSeq (sPar3 2 3 4 (aCons (eAr aListH (aCons (eV 1) aNil)) (aCons (eLstH aNil) (aCons (eC (.int 0)) aNil)))) (sSeq (sWhile (tB' (eOp (eqH true) (eV 2) (eLst aNil))) (sSeq (sSet 4 (eOp (q2 dAdd) (eOp (q2 dAdd) (eV 4) (eC (.int 1))) (eCall m__law_draw 2 (aCons (eV 0) (aCons (eC (.int 3)) aNil))))) (sSeq (sSet 5 (eBm "list" (mLst lPopAt) (eV 2) (aCons (eCall m__law_draw 2 (aCons (eV 0) (aCons (eAr lenH (aCons (eV 2) aNil)) aNil))) aNil))) (sDrop (eBm "list" (mLst lApp) (eV 3) (aCons (eOp (q2 dAdd) (eTup (aCons (eOp (q2 dIx) (eV 5) (eC (.int 0))) (aCons (eV 4) aNil))) (eSl (altS slT slL) (eV 5) (oSome (eC (.int 1))) oNone)) aNil))))) fuel) (sSeq (sFrz 3) (sSeq (sFrz 2) (sRet (eV 3))))))
theorem fn__law_ranked (G : Facts K mg base) {f : Addr} {fd : FuncData} (F : FunD K "_law_ranked" "_law_ranked" (defArgs s__law_ranked) (defBody s__law_ranked) (defScope s__law_ranked) [] [] f fd) : FnOk P w K mg base (L2.CX P w) 2 f fd ["tape", "things"] (SpF ⟨K, mg⟩ 2 m__law_ranked) := by
  refine fn_cut (fn_sm F sc__law_ranked fun cdv A outer s H E hr => GB.ex (W := WE E) ?_)
  have nd := sc__law_ranked.nd
  have po : PassesOwn (model P w) (cxOf (L2.CX P w) P w K mg base ["tape", "things", "left", "found", "level", "one"] "_law_ranked" (defScope s__law_ranked) f cdv A outer s H E).A (cxOf (L2.CX P w) P w K mg base ["tape", "things", "left", "found", "level", "one"] "_law_ranked" (defScope s__law_ranked) f cdv A outer s H E).env (cxOf (L2.CX P w) P w K mg base ["tape", "things", "left", "found", "level", "one"] "_law_ranked" (defScope s__law_ranked) f cdv A outer s H E).xe := passes_of (X := cxOf (L2.CX P w) P w K mg base ["tape", "things", "left", "found", "level", "one"] "_law_ranked" (defScope s__law_ranked) f cdv A outer s H E) rfl
  have px : PassW (cxOf (L2.CX P w) P w K mg base ["tape", "things", "left", "found", "level", "one"] "_law_ranked" (defScope s__law_ranked) f cdv A outer s H E) (WE E) := passWE (takes_of (X := cxOf (L2.CX P w) P w K mg base ["tape", "things", "left", "found", "level", "one"] "_law_ranked" (defScope s__law_ranked) f cdv A outer s H E) rfl rfl rfl rfl)
  exact (gb_cons (gs_par3 2 3 4 nd (ga_cons (ge_listH G.b_list (ga_cons (gv 1) ga_nil)) (ga_cons (ge_lstH ga_nil) (ga_cons ge_int ga_nil)))) (gb_cons (gs_while fuel po (gt_cmp (go_neH hr) (gv 2) (ge_lst ga_nil)) (gb_cons (gs_set 4 nd (ge_op go_add (ge_op go_add (gv 4) ge_int) (ge_call (fo__law_draw G) (hr.mono (by omega)) px (ga_cons (gv 0) (ga_cons ge_int ga_nil))))) (gb_cons (gs_set 5 nd (ge_popAt (gv 2) (ga_cons (ge_call (fo__law_draw G) (hr.mono (by omega)) px (ga_cons (gv 0) (ga_cons (ge_callH ar_lenH G.b_len (ga_cons (gv 2) ga_nil)) ga_nil))) ga_nil))) (gb_one (gs_expr (ge_append (gv 3) (ga_cons (ge_op go_add (ge_tup (ga_cons (ge_ix gx_any (gv 5) ge_int) (ga_cons (gv 4) ga_nil))) (ge_slice gsl_any (gv 5) (go_some ge_int) go_none)) ga_nil))))))) (gb_frz 3 (gb_frz 2 (gb_one (gs_ret (gv 3)))))))
theorem fo__law_ranked (G : Facts K mg base) : Fo P w K mg base 2 "_law_ranked" 2 m__law_ranked := by
  obtain ⟨f, fd, F, hm⟩ := G.d__law_ranked
  exact ⟨f, fd, ["tape", "things"], fn__law_ranked G F, hm, F.kp, F.bindsN (fun _ _ _ _ _ _ us hl => match us, hl with | [_, _], _ => rfl), rfl⟩
theorem sc__law_rows : FnScope ["tape", "many", "wide", "late", "some", "called", "long", "far", "between", "owed", "lateness"] ["tape", "many", "wide", "late"] (defScope s__law_rows) := ⟨rfl, rfl, rfl, by decide +kernel, rfl, by decide +kernel, by decide +kernel⟩
def m__law_rows : List D → Sto → Res D := fnT 11 (sSeq (sSet 4 (eLstH aNil)) (sSeq (sFor (aIt dSeq (eCall m__law_names 2 (aCons (eV 0) (aCons (eV 1) aNil)))) (vName 5) (sSeq (sSet 6 (eOp (q2 dAdd) (eC (.int 1)) (eCall m__law_draw 2 (aCons (eV 0) (aCons (eC (.int 4)) aNil))))) (sSeq (sSet 7 (eOp (q2 dAdd) (eV 2) (eCall m__law_draw 2 (aCons (eV 0) (aCons (eV 2) aNil))))) (sSeq (sSet 8 (eCall m__law_pick 2 (aCons (eV 0) (aCons (eLst (aCons (eOp (q2 dAdd) (eV 6) (eCall m__law_draw 2 (aCons (eV 0) (aCons (eV 2) aNil)))) (aCons (eV 7) (aCons (eOp (q2 dAdd) (eC (.int 1)) (eCall m__law_draw 2 (aCons (eV 0) (aCons (eC (.int 9)) aNil)))) aNil)))) aNil)))) (sSeq (sSet 9 (eCall m__law_pick 2 (aCons (eV 0) (aCons (eLst (aCons (eV 8) (aCons (eV 8) (aCons (eOp (q2 dAdd) (eC (.int 1)) (eCall m__law_draw 2 (aCons (eV 0) (aCons (eV 8) aNil)))) aNil)))) aNil)))) (sSeq (sSet 10 (eCall m__law_pick 2 (aCons (eV 0) (aCons (eLst (aCons (eC (.int 0)) (aCons (eCall m__law_draw 2 (aCons (eV 0) (aCons (eV 3) aNil))) (aCons (eCall m__law_draw 2 (aCons (eV 0) (aCons (eV 8) aNil))) aNil)))) aNil)))) (sDrop (eBm "list" (mLst lApp) (eV 4) (aCons (eTup (aCons (eV 5) (aCons (eV 8) (aCons (eV 6) (aCons (eV 9) (aCons (eV 10) (aCons (eTup aNil) aNil))))))) aNil))))))))) (sSeq (sFrz 4) (sRet (eCall m__law_ranked 2 (aCons (eV 0) (aCons (eV 4) aNil)))))))
theorem fn__law_rows (G : Facts K mg base) {f : Addr} {fd : FuncData} (F : FunD K "_law_rows" "_law_rows" (defArgs s__law_rows) (defBody s__law_rows) (defScope s__law_rows) [] [] f fd) : FnOk P w K mg base (L2.CX P w) 4 f fd ["tape", "many", "wide", "late"] (SpF ⟨K, mg⟩ 4 m__law_rows) := by
  refine fn_cut (fn_sm F sc__law_rows fun cdv A outer s H E hr => GB.ex (W := WE E) ?_)
  have nd := sc__law_rows.nd
  have po : PassesOwn (model P w) (cxOf (L2.CX P w) P w K mg base ["tape", "many", "wide", "late", "some", "called", "long", "far", "between", "owed", "lateness"] "_law_rows" (defScope s__law_rows) f cdv A outer s H E).A (cxOf (L2.CX P w) P w K mg base ["tape", "many", "wide", "late", "some", "called", "long", "far", "between", "owed", "lateness"] "_law_rows" (defScope s__law_rows) f cdv A outer s H E).env (cxOf (L2.CX P w) P w K mg base ["tape", "many", "wide", "late", "some", "called", "long", "far", "between", "owed", "lateness"] "_law_rows" (defScope s__law_rows) f cdv A outer s H E).xe := passes_of (X := cxOf (L2.CX P w) P w K mg base ["tape", "many", "wide", "late", "some", "called", "long", "far", "between", "owed", "lateness"] "_law_rows" (defScope s__law_rows) f cdv A outer s H E) rfl
  have px : PassW (cxOf (L2.CX P w) P w K mg base ["tape", "many", "wide", "late", "some", "called", "long", "far", "between", "owed", "lateness"] "_law_rows" (defScope s__law_rows) f cdv A outer s H E) (WE E) := passWE (takes_of (X := cxOf (L2.CX P w) P w K mg base ["tape", "many", "wide", "late", "some", "called", "long", "far", "between", "owed", "lateness"] "_law_rows" (defScope s__law_rows) f cdv A outer s H E) rfl rfl rfl rfl)
  exact (gb_cons (gs_set 4 nd (ge_lstH ga_nil)) (gb_cons (gs_for po (gi_seq (ge_call (fo__law_names G) (hr.mono (by omega)) px (ga_cons (gv 0) (ga_cons (gv 1) ga_nil)))) (gg_name 5 nd) (gb_cons (gs_set 6 nd (ge_op go_add ge_int (ge_call (fo__law_draw G) (hr.mono (by omega)) px (ga_cons (gv 0) (ga_cons ge_int ga_nil))))) (gb_cons (gs_set 7 nd (ge_op go_add (gv 2) (ge_call (fo__law_draw G) (hr.mono (by omega)) px (ga_cons (gv 0) (ga_cons (gv 2) ga_nil))))) (gb_cons (gs_set 8 nd (ge_call (fo__law_pick G) (hr.mono (by omega)) px (ga_cons (gv 0) (ga_cons (ge_lst (ga_cons (ge_op go_add (gv 6) (ge_call (fo__law_draw G) (hr.mono (by omega)) px (ga_cons (gv 0) (ga_cons (gv 2) ga_nil)))) (ga_cons (gv 7) (ga_cons (ge_op go_add ge_int (ge_call (fo__law_draw G) (hr.mono (by omega)) px (ga_cons (gv 0) (ga_cons ge_int ga_nil)))) ga_nil)))) ga_nil)))) (gb_cons (gs_set 9 nd (ge_call (fo__law_pick G) (hr.mono (by omega)) px (ga_cons (gv 0) (ga_cons (ge_lst (ga_cons (gv 8) (ga_cons (gv 8) (ga_cons (ge_op go_add ge_int (ge_call (fo__law_draw G) (hr.mono (by omega)) px (ga_cons (gv 0) (ga_cons (gv 8) ga_nil)))) ga_nil)))) ga_nil)))) (gb_cons (gs_set 10 nd (ge_call (fo__law_pick G) (hr.mono (by omega)) px (ga_cons (gv 0) (ga_cons (ge_lst (ga_cons ge_int (ga_cons (ge_call (fo__law_draw G) (hr.mono (by omega)) px (ga_cons (gv 0) (ga_cons (gv 3) ga_nil))) (ga_cons (ge_call (fo__law_draw G) (hr.mono (by omega)) px (ga_cons (gv 0) (ga_cons (gv 8) ga_nil))) ga_nil)))) ga_nil)))) (gb_one (gs_expr (ge_append (gv 4) (ga_cons (ge_tup (ga_cons (gv 5) (ga_cons (gv 8) (ga_cons (gv 6) (ga_cons (gv 9) (ga_cons (gv 10) (ga_cons (ge_tup ga_nil) ga_nil))))))) ga_nil)))))))))) (gb_frz 4 (gb_one (gs_ret (ge_call (fo__law_ranked G) (hr.mono (by omega)) px (ga_cons (gv 0) (ga_cons (gv 4) ga_nil))))))))
theorem fo__law_rows (G : Facts K mg base) : Fo P w K mg base 4 "_law_rows" 4 m__law_rows := by
  obtain ⟨f, fd, F, hm⟩ := G.d__law_rows
  exact ⟨f, fd, ["tape", "many", "wide", "late"], fn__law_rows G F, hm, F.kp, F.bindsN (fun _ _ _ _ _ _ us hl => match us, hl with | [_, _, _, _], _ => rfl), rfl⟩
theorem sc_Bus___init__ : FnScope ["self", "messages", "message"] ["self", "messages"] (defScope s_Bus___init__) := ⟨rfl, rfl, rfl, by decide +kernel, rfl, by decide +kernel, by decide +kernel⟩
def m_Bus___init__ : List D → Sto → Res D := fnT 3 (sFldV "Bus" "_messages" (eV 0) (eFrz (eDcH [2] (aIt dSeq (eCall m_by_rank 1 (aCons (eV 1) aNil))) (vName 2) tvYes (eUn (fldD ["Message"] "name") (eV 2)) (eCall m_waiting 2 (aCons (eV 2) (aCons (eUn (fldD ["Message"] "wait") (eV 2)) aNil))))))
theorem mo_Bus (G : Facts K mg base) : Mo P w K mg base 6 "Bus" 1 m_Bus___init__ := by
  obtain ⟨f, fd, cl, v0, F, hm, hmk, _⟩ := G.mk_Bus
  obtain ⟨ds, hv, hb⟩ := F.binds1 (ps := ["self", "messages"]) 2 1 (by simp) rfl (fun T kV doc pm an cdv ct us its hl hi => match us, hl, its, hi with | [_, _], _, [_], _ => ⟨_, rfl, rfl⟩)
  obtain rfl : ds = [] := by cases hv; rfl
  refine ⟨cl, f, fd, ["self", "messages"], ?_, hm, hmk, hb, rfl⟩
  refine fn_cut (fn_sm F sc_Bus___init__ fun cdv A outer s H E hr => GB.ex (W := WE E) ?_)
  have nd := sc_Bus___init__.nd
  have po : PassesOwn (model P w) (cxOf (L2.CX P w) P w K mg base ["self", "messages", "message"] "Bus.__init__" (defScope s_Bus___init__) f cdv A outer s H E).A (cxOf (L2.CX P w) P w K mg base ["self", "messages", "message"] "Bus.__init__" (defScope s_Bus___init__) f cdv A outer s H E).env (cxOf (L2.CX P w) P w K mg base ["self", "messages", "message"] "Bus.__init__" (defScope s_Bus___init__) f cdv A outer s H E).xe := passes_of (X := cxOf (L2.CX P w) P w K mg base ["self", "messages", "message"] "Bus.__init__" (defScope s_Bus___init__) f cdv A outer s H E) rfl
  have px : PassW (cxOf (L2.CX P w) P w K mg base ["self", "messages", "message"] "Bus.__init__" (defScope s_Bus___init__) f cdv A outer s H E) (WE E) := passWE (takes_of (X := cxOf (L2.CX P w) P w K mg base ["self", "messages", "message"] "Bus.__init__" (defScope s_Bus___init__) f cdv A outer s H E) rfl rfl rfl rfl)
  exact (gb_one (gs_fld G.at_Bus__messages (gv 0) (ge_frz (ge_dcH (own := [("message", 2)]) nd (gi_seq (ge_call (fo_by_rank G) (hr.mono (by omega)) px (ga_cons (gv 1) ga_nil))) rfl (fun s H C cl fp => (gg_name 2 nd)) (fun s H C cl fp => gts_nil) (fun s H C cl fp => (ge_fld (one G.at_Message_name) (gv 2))) (fun s H C cl fp => (ge_call (fo_waiting G) (hr.mono (by omega)) passW0 (ga_cons (gv 2) (ga_cons (ge_fld (one G.at_Message_wait) (gv 2)) ga_nil))))))))

def dd_Bus : List D := [.ktp []]
theorem mo0_Bus (G : Facts K mg base) : Mo0 P w K mg base 6 "Bus" 1 dd_Bus m_Bus___init__ := by
  obtain ⟨f, fd, cl, v0, F, hm, hmk, ev0⟩ := G.mk_Bus
  obtain ⟨ds, hv, hb⟩ := F.binds1 (ps := ["self", "messages"]) 1 0 (by simp) rfl (fun T kV doc pm an cdv ct us its hl hi => match us, hl, its, hi with | [_], _, [_], _ => ⟨_, rfl, rfl⟩)
  refine ⟨cl, f, fd, ["self", "messages"], ds, _, ?_, hm, hmk, hb, hv, fun F μ => (.cons (ktp_nil ev0) .nil), rfl⟩
  refine fn_cut (fn_sm F sc_Bus___init__ fun cdv A outer s H E hr => GB.ex (W := WE E) ?_)
  have nd := sc_Bus___init__.nd
  have po : PassesOwn (model P w) (cxOf (L2.CX P w) P w K mg base ["self", "messages", "message"] "Bus.__init__" (defScope s_Bus___init__) f cdv A outer s H E).A (cxOf (L2.CX P w) P w K mg base ["self", "messages", "message"] "Bus.__init__" (defScope s_Bus___init__) f cdv A outer s H E).env (cxOf (L2.CX P w) P w K mg base ["self", "messages", "message"] "Bus.__init__" (defScope s_Bus___init__) f cdv A outer s H E).xe := passes_of (X := cxOf (L2.CX P w) P w K mg base ["self", "messages", "message"] "Bus.__init__" (defScope s_Bus___init__) f cdv A outer s H E) rfl
  have px : PassW (cxOf (L2.CX P w) P w K mg base ["self", "messages", "message"] "Bus.__init__" (defScope s_Bus___init__) f cdv A outer s H E) (WE E) := passWE (takes_of (X := cxOf (L2.CX P w) P w K mg base ["self", "messages", "message"] "Bus.__init__" (defScope s_Bus___init__) f cdv A outer s H E) rfl rfl rfl rfl)
  exact (gb_one (gs_fld G.at_Bus__messages (gv 0) (ge_frz (ge_dcH (own := [("message", 2)]) nd (gi_seq (ge_call (fo_by_rank G) (hr.mono (by omega)) px (ga_cons (gv 1) ga_nil))) rfl (fun s H C cl fp => (gg_name 2 nd)) (fun s H C cl fp => gts_nil) (fun s H C cl fp => (ge_fld (one G.at_Message_name) (gv 2))) (fun s H C cl fp => (ge_call (fo_waiting G) (hr.mono (by omega)) passW0 (ga_cons (gv 2) (ga_cons (ge_fld (one G.at_Message_wait) (gv 2)) ga_nil))))))))

theorem sc__law_bus : FnScope ["rows", "some", "row"] ["rows"] (defScope s__law_bus) := ⟨rfl, rfl, rfl, by decide +kernel, rfl, by decide +kernel, by decide +kernel⟩
def m__law_bus : List D → Sto → Res D := fnT 3 (sSeq (sSet 1 (eLstH aNil)) (sSeq (sFor (aIt dSeq (eSl3 (eV 0) oNone oNone (eUn unNeg (eC (.int 1))))) (vName 2) (sDrop (eBm "list" (mLst lApp) (eV 1) (aCons (eFrzO (eMakeK "Message" kg_Message m_Message___init__ 1 5 (aCons (eOp (q2 dIx) (eV 2) (eC (.int 0))) aNil) (aCons (eOp (q2 dIx) (eV 2) (eC (.int 1))) (aCons (eOp (q2 dIx) (eV 2) (eC (.int 2))) (aCons (eOp (q2 dIx) (eV 2) (eC (.int 3))) (aCons (eOp (q2 dIx) (eV 2) (eC (.int 4))) (aCons (eOp (q2 dIx) (eV 2) (eC (.int 5))) aNil))))))) aNil)))) (sSeq (sFrz 1) (sRet (eFrzO (eMake "Bus" m_Bus___init__ 1 (aCons (eV 1) aNil)))))))
theorem fn__law_bus (G : Facts K mg base) {f : Addr} {fd : FuncData} (F : FunD K "_law_bus" "_law_bus" (defArgs s__law_bus) (defBody s__law_bus) (defScope s__law_bus) [] [] f fd) : FnOk P w K mg base (L2.CX P w) 8 f fd ["rows"] (SpF ⟨K, mg⟩ 1 m__law_bus) := by
  refine fn_cut (fn_sm F sc__law_bus fun cdv A outer s H E hr => GB.ex (W := WE E) ?_)
  have nd := sc__law_bus.nd
  have po : PassesOwn (model P w) (cxOf (L2.CX P w) P w K mg base ["rows", "some", "row"] "_law_bus" (defScope s__law_bus) f cdv A outer s H E).A (cxOf (L2.CX P w) P w K mg base ["rows", "some", "row"] "_law_bus" (defScope s__law_bus) f cdv A outer s H E).env (cxOf (L2.CX P w) P w K mg base ["rows", "some", "row"] "_law_bus" (defScope s__law_bus) f cdv A outer s H E).xe := passes_of (X := cxOf (L2.CX P w) P w K mg base ["rows", "some", "row"] "_law_bus" (defScope s__law_bus) f cdv A outer s H E) rfl
  have px : PassW (cxOf (L2.CX P w) P w K mg base ["rows", "some", "row"] "_law_bus" (defScope s__law_bus) f cdv A outer s H E) (WE E) := passWE (takes_of (X := cxOf (L2.CX P w) P w K mg base ["rows", "some", "row"] "_law_bus" (defScope s__law_bus) f cdv A outer s H E) rfl rfl rfl rfl)
  exact (gb_cons (gs_set 1 nd (ge_lstH ga_nil)) (gb_cons (gs_for po (gi_seq (ge_slice3 (gv 0) go_none go_none (ge_neg ge_int))) (gg_name 2 nd) (gb_one (gs_expr (ge_append (gv 1) (ga_cons (ge_frzO (ge_makeK (mo_Message G) (hr.mono (by omega)) px (ga_cons (ge_ix gx_any (gv 2) ge_int) ga_nil) (gk_cons (ge_ix gx_any (gv 2) ge_int) (gk_cons (ge_ix gx_any (gv 2) ge_int) (gk_cons (ge_ix gx_any (gv 2) ge_int) (gk_cons (ge_ix gx_any (gv 2) ge_int) (gk_cons (ge_ix gx_any (gv 2) ge_int) gk_nil))))))) ga_nil))))) (gb_frz 1 (gb_one (gs_ret (ge_frzO (ge_make (mo_Bus G) (hr.mono (by omega)) px (ga_cons (gv 1) ga_nil))))))))
theorem fo__law_bus (G : Facts K mg base) : Fo P w K mg base 8 "_law_bus" 1 m__law_bus := by
  obtain ⟨f, fd, F, hm⟩ := G.d__law_bus
  exact ⟨f, fd, ["rows"], fn__law_bus G F, hm, F.kp, F.bindsN (fun _ _ _ _ _ _ us hl => match us, hl with | [_], _ => rfl), rfl⟩
theorem sc__law_times : FnScope ["number", "between"] ["number", "between"] (defScope s__law_times) := ⟨rfl, rfl, rfl, by decide +kernel, rfl, by decide +kernel, by decide +kernel⟩
def m__law_times : List D → Sto → Res D := fnT 2 (sRet (eOp (q2 (i2 fSub)) (eC (.int 0)) (eOp (q2 (i2 fDiv)) (eOp (q2 (i2 fSub)) (eC (.int 0)) (eV 0)) (eV 1))))
theorem fn__law_times (G : Facts K mg base) {f : Addr} {fd : FuncData} (F : FunD K "_law_times" "_law_times" (defArgs s__law_times) (defBody s__law_times) (defScope s__law_times) [] [] f fd) : FnOk P w K mg base (L2.CX P w) 1 f fd ["number", "between"] (SpF ⟨K, mg⟩ 2 m__law_times) := by
  refine fn_cut (fn_sm F sc__law_times fun cdv A outer s H E hr => GB.ex (W := WE E) ?_)
  have nd := sc__law_times.nd
  have po : PassesOwn (model P w) (cxOf (L2.CX P w) P w K mg base ["number", "between"] "_law_times" (defScope s__law_times) f cdv A outer s H E).A (cxOf (L2.CX P w) P w K mg base ["number", "between"] "_law_times" (defScope s__law_times) f cdv A outer s H E).env (cxOf (L2.CX P w) P w K mg base ["number", "between"] "_law_times" (defScope s__law_times) f cdv A outer s H E).xe := passes_of (X := cxOf (L2.CX P w) P w K mg base ["number", "between"] "_law_times" (defScope s__law_times) f cdv A outer s H E) rfl
  have px : PassW (cxOf (L2.CX P w) P w K mg base ["number", "between"] "_law_times" (defScope s__law_times) f cdv A outer s H E) (WE E) := passWE (takes_of (X := cxOf (L2.CX P w) P w K mg base ["number", "between"] "_law_times" (defScope s__law_times) f cdv A outer s H E) rfl rfl rfl rfl)
  exact (gb_one (gs_ret (ge_op go_subI ge_int (ge_op go_divI (ge_op go_subI ge_int (gv 0)) (gv 1)))))
theorem fo__law_times (G : Facts K mg base) : Fo P w K mg base 1 "_law_times" 2 m__law_times := by
  obtain ⟨f, fd, F, hm⟩ := G.d__law_times
  exact ⟨f, fd, ["number", "between"], fn__law_times G F, hm, F.kp, F.bindsN (fun _ _ _ _ _ _ us hl => match us, hl with | [_, _], _ => rfl), rfl⟩
theorem sc__law_bus_bound : FnScope ["rows", "place", "spaced", "own", "above", "cost", "back", "row", "ticks", "more", "best", "number", "start"] ["rows", "place", "spaced"] (defScope s__law_bus_bound) := ⟨rfl, rfl, rfl, by decide +kernel, rfl, by decide +kernel, by decide +kernel⟩
def m__law_bus_bound : List D → Sto → Res D := fnT 13 (sSeq (sPar3 3 4 5 (aCons (eOp (q2 dIx) (eV 0) (eV 1)) (aCons (eSl (altS slT slL) (eV 0) oNone (oSome (eV 1))) (aCons (eC (.int 0)) aNil)))) (sSeq (sSet 6 (eMaxDf (aCons (eLc [7] (aIt dSeq (eSl (altS slT slL) (eV 0) (oSome (eOp (q2 dAdd) (eV 1) (eC (.int 1)))) oNone)) (vName 7) tvYes (eOp (q2 (i2 fSub)) (eOp (q2 dIx) (eV 7) (eC (.int 3))) (eC (.int 1)))) aNil) (aCons (eC (.int 0)) aNil))) (sSeq (sIf (tB' (eOp (q2 dNis) (eV 2) (eC .non))) (sSet 5 (eAr (qA dMaxL) (aCons (eLc [7] (aIt dSeq (eSl (altS slT slL) (eV 0) oNone (oSome (eOp (q2 dAdd) (eV 1) (eC (.int 1)))))) (vName 7) tvYes (eOp (q2 dIx) (eV 7) (eC (.int 3)))) aNil))) sNext) (sSeq (sAsg (eTup (aCons (eC (.int 0)) (aCons (eC (.int 1)) (aCons (eC (.int 0)) aNil)))) (vTup 3 (vCons (vName 8) (vCons (vName 9) (vCons (vName 10) vNil))))) (sSeq (sWhile (tB' (eOp (q2 (i2 fGt)) (eV 9) (eV 8))) (sSeq (sSet 8 (eV 9)) (sSeq (sIf (tB' (eOp (q2 (i2 fGt)) (eV 8) (eOp (q2 (i2 fMul)) (eC (.int 100)) (eAr (qA dMaxL) (aCons (eLc [7] (aIt dSeq (eV 0)) (vName 7) tvYes (eOp (q2 dIx) (eV 7) (eC (.int 2)))) aNil))))) (sRet (eC .non)) sNext) (sSeq (sSet 9 (eOp (q2 dAdd) (eV 6) (eOp (q2 (i2 fMul)) (eV 5) (eCall m__law_times 2 (aCons (eV 8) (aCons (eOrT (eV 2) (eC (.int 1))) aNil)))))) (sSet 9 (eOp (q2 dAdd) (eV 9) (eAr (qA dSum) (aCons (eLc [7] (aIt dSeq (eSl (altS slT slL) (eV 0) oNone (oSome (eOp (q2 dAdd) (eV 1) (eC (.int 1)))))) (vName 7) tvYes (eOp (q2 (i2 fMul)) (eOp (q2 dIx) (eV 7) (eC (.int 3))) (eCall m__law_times 2 (aCons (eOp (q2 dAdd) (eV 8) (eOp (q2 dIx) (eV 7) (eC (.int 5)))) (aCons (eOp (q2 dIx) (eV 7) (eC (.int 2))) aNil))))) aNil))))))) fuel) (sSeq (sFor (aRng dRng1 (aCons (eCall m__law_times 2 (aCons (eOp (q2 dAdd) (eV 8) (eOp (q2 dIx) (eV 3) (eC (.int 5)))) (aCons (eOp (q2 dIx) (eV 3) (eC (.int 2))) aNil))) aNil)) (vName 11) (sSeq (sAsg (eTup (aCons (eUn unNeg (eC (.int 1))) (aCons (eC (.int 0)) aNil))) (vTup 2 (vCons (vName 12) (vCons (vName 9) vNil)))) (sSeq (sWhile (tB' (eOp (q2 (i2 fGt)) (eV 9) (eV 12))) (sSeq (sSet 12 (eV 9)) (sSeq (sSet 9 (eOp (q2 dAdd) (eOp (q2 dAdd) (eV 6) (eOp (q2 (i2 fMul)) (eV 11) (eOp (q2 dIx) (eV 3) (eC (.int 3))))) (eOp (q2 (i2 fMul)) (eV 5) (eCall m__law_times 2 (aCons (eOp (q2 dAdd) (eV 12) (eOp (q2 dIx) (eV 3) (eC (.int 3)))) (aCons (eOrT (eV 2) (eC (.int 1))) aNil)))))) (sSet 9 (eOp (q2 dAdd) (eV 9) (eAr (qA dSum) (aCons (eLc [7] (aIt dSeq (eV 4)) (vName 7) tvYes (eOp (q2 (i2 fMul)) (eOp (q2 dIx) (eV 7) (eC (.int 3))) (eOp (q2 dAdd) (eOp (q2 (i2 fDiv)) (eOp (q2 dAdd) (eV 12) (eOp (q2 dIx) (eV 7) (eC (.int 5)))) (eOp (q2 dIx) (eV 7) (eC (.int 2)))) (eC (.int 1))))) aNil)))))) fuel) (sSet 10 (eAr (qA dMax2) (aCons (eV 10) (aCons (eOp (q2 (i2 fSub)) (eOp (q2 dAdd) (eOp (q2 dAdd) (eOp (q2 dIx) (eV 3) (eC (.int 5))) (eV 12)) (eOp (q2 dIx) (eV 3) (eC (.int 3)))) (eOp (q2 (i2 fMul)) (eV 11) (eOp (q2 dIx) (eV 3) (eC (.int 2))))) aNil))))))) (sRet (eIf (tB' (eOp (q2 (i2 fLe)) (eV 10) (eOp (q2 dIx) (eV 3) (eC (.int 4))))) (eV 10) (eC .non)))))))))
theorem fn__law_bus_bound (G : Facts K mg base) {f : Addr} {fd : FuncData} (F : FunD K "_law_bus_bound" "_law_bus_bound" (defArgs s__law_bus_bound) (defBody s__law_bus_bound) (defScope s__law_bus_bound) [] [] f fd) : FnOk P w K mg base (L2.CX P w) 2 f fd ["rows", "place", "spaced"] (SpF ⟨K, mg⟩ 3 m__law_bus_bound) := by
  refine fn_cut (fn_sm F sc__law_bus_bound fun cdv A outer s H E hr => GB.ex (W := WE E) ?_)
  have nd := sc__law_bus_bound.nd
  have po : PassesOwn (model P w) (cxOf (L2.CX P w) P w K mg base ["rows", "place", "spaced", "own", "above", "cost", "back", "row", "ticks", "more", "best", "number", "start"] "_law_bus_bound" (defScope s__law_bus_bound) f cdv A outer s H E).A (cxOf (L2.CX P w) P w K mg base ["rows", "place", "spaced", "own", "above", "cost", "back", "row", "ticks", "more", "best", "number", "start"] "_law_bus_bound" (defScope s__law_bus_bound) f cdv A outer s H E).env (cxOf (L2.CX P w) P w K mg base ["rows", "place", "spaced", "own", "above", "cost", "back", "row", "ticks", "more", "best", "number", "start"] "_law_bus_bound" (defScope s__law_bus_bound) f cdv A outer s H E).xe := passes_of (X := cxOf (L2.CX P w) P w K mg base ["rows", "place", "spaced", "own", "above", "cost", "back", "row", "ticks", "more", "best", "number", "start"] "_law_bus_bound" (defScope s__law_bus_bound) f cdv A outer s H E) rfl
  have px : PassW (cxOf (L2.CX P w) P w K mg base ["rows", "place", "spaced", "own", "above", "cost", "back", "row", "ticks", "more", "best", "number", "start"] "_law_bus_bound" (defScope s__law_bus_bound) f cdv A outer s H E) (WE E) := passWE (takes_of (X := cxOf (L2.CX P w) P w K mg base ["rows", "place", "spaced", "own", "above", "cost", "back", "row", "ticks", "more", "best", "number", "start"] "_law_bus_bound" (defScope s__law_bus_bound) f cdv A outer s H E) rfl rfl rfl rfl)
  exact (gb_cons (gs_par3 3 4 5 nd (ga_cons (ge_ix gx_any (gv 0) (gv 1)) (ga_cons (ge_slice gsl_any (gv 0) go_none (go_some (gv 1))) (ga_cons ge_int ga_nil)))) (gb_cons (gs_set 6 nd (ge_maxDf hr G.b_max (ga_cons (ge_lc (own := [("row", 7)]) nd (gi_seq (ge_slice gsl_any (gv 0) (go_some (ge_op go_add (gv 1) ge_int)) go_none)) rfl (fun s H C cl fp => (gg_name 7 nd)) (fun s H C cl fp => gts_nil) (fun s H C cl fp => (ge_op go_subI (ge_ix gx_any (gv 7) ge_int) ge_int))) ga_nil) (gk_cons ge_int gk_nil))) (gb_cons (gs_if (gt_cmp (go_nis) (gv 2) ge_non) (gb_one (gs_set 5 nd (ge_callB (cb_maxL rfl) G.b_max (ga_cons (ge_lc (own := [("row", 7)]) nd (gi_seq (ge_slice gsl_any (gv 0) go_none (go_some (ge_op go_add (gv 1) ge_int)))) rfl (fun s H C cl fp => (gg_name 7 nd)) (fun s H C cl fp => gts_nil) (fun s H C cl fp => (ge_ix gx_any (gv 7) ge_int))) ga_nil)))) gb_nil) (gb_cons (gs_asg (ge_tup (ga_cons ge_int (ga_cons ge_int (ga_cons ge_int ga_nil)))) (gg_tup (ggs_cons (gg_name 8 nd) (ggs_cons (gg_name 9 nd) (ggs_cons (gg_name 10 nd) ggs_nil))))) (gb_cons (gs_while fuel po (gt_cmp (go_gt) (gv 9) (gv 8)) (gb_cons (gs_set 8 nd (gv 9)) (gb_cons (gs_if (gt_cmp (go_gt) (gv 8) (ge_op go_mulI ge_int (ge_callB (cb_maxL rfl) G.b_max (ga_cons (ge_lc (own := [("row", 7)]) nd (gi_seq (gv 0)) rfl (fun s H C cl fp => (gg_name 7 nd)) (fun s H C cl fp => gts_nil) (fun s H C cl fp => (ge_ix gx_any (gv 7) ge_int))) ga_nil)))) (gb_one (gs_ret ge_non)) gb_nil) (gb_cons (gs_set 9 nd (ge_op go_add (gv 6) (ge_op go_mulI (gv 5) (ge_call (fo__law_times G) (hr.mono (by omega)) px (ga_cons (gv 8) (ga_cons (ge_orT (gv 2) (ge_one ge_int)) ga_nil)))))) (gb_one (gs_set 9 nd (ge_op go_add (gv 9) (ge_callB (cb_sum rfl) G.b_sum (ga_cons (ge_lc (own := [("row", 7)]) nd (gi_seq (ge_slice gsl_any (gv 0) go_none (go_some (ge_op go_add (gv 1) ge_int)))) rfl (fun s H C cl fp => (gg_name 7 nd)) (fun s H C cl fp => gts_nil) (fun s H C cl fp => (ge_op go_mulI (ge_ix gx_any (gv 7) ge_int) (ge_call (fo__law_times G) (hr.mono (by omega)) passW0 (ga_cons (ge_op go_add (gv 8) (ge_ix gx_any (gv 7) ge_int)) (ga_cons (ge_ix gx_any (gv 7) ge_int) ga_nil)))))) ga_nil))))))))) (gb_cons (gs_for po (gi_range1 G.b_range (ga_cons (ge_call (fo__law_times G) (hr.mono (by omega)) px (ga_cons (ge_op go_add (gv 8) (ge_ix gx_any (gv 3) ge_int)) (ga_cons (ge_ix gx_any (gv 3) ge_int) ga_nil))) ga_nil)) (gg_name 11 nd) (gb_cons (gs_asg (ge_tup (ga_cons (ge_neg ge_int) (ga_cons ge_int ga_nil))) (gg_tup (ggs_cons (gg_name 12 nd) (ggs_cons (gg_name 9 nd) ggs_nil)))) (gb_cons (gs_while fuel po (gt_cmp (go_gt) (gv 9) (gv 12)) (gb_cons (gs_set 12 nd (gv 9)) (gb_cons (gs_set 9 nd (ge_op go_add (ge_op go_add (gv 6) (ge_op go_mulI (gv 11) (ge_ix gx_any (gv 3) ge_int))) (ge_op go_mulI (gv 5) (ge_call (fo__law_times G) (hr.mono (by omega)) px (ga_cons (ge_op go_add (gv 12) (ge_ix gx_any (gv 3) ge_int)) (ga_cons (ge_orT (gv 2) (ge_one ge_int)) ga_nil)))))) (gb_one (gs_set 9 nd (ge_op go_add (gv 9) (ge_callB (cb_sum rfl) G.b_sum (ga_cons (ge_lc (own := [("row", 7)]) nd (gi_seq (gv 4)) rfl (fun s H C cl fp => (gg_name 7 nd)) (fun s H C cl fp => gts_nil) (fun s H C cl fp => (ge_op go_mulI (ge_ix gx_any (gv 7) ge_int) (ge_op go_add (ge_op go_divI (ge_op go_add (gv 12) (ge_ix gx_any (gv 7) ge_int)) (ge_ix gx_any (gv 7) ge_int)) ge_int)))) ga_nil)))))))) (gb_one (gs_set 10 nd (ge_callB (cb_max2 rfl) G.b_max (ga_cons (gv 10) (ga_cons (ge_op go_subI (ge_op go_add (ge_op go_add (ge_ix gx_any (gv 3) ge_int) (gv 12)) (ge_ix gx_any (gv 3) ge_int)) (ge_op go_mulI (gv 11) (ge_ix gx_any (gv 3) ge_int))) ga_nil)))))))) (gb_one (gs_ret (ge_if (gt_cmp (go_le) (gv 10) (ge_ix gx_any (gv 3) ge_int)) (gv 10) ge_non)))))))))
theorem fo__law_bus_bound (G : Facts K mg base) : Fo P w K mg base 2 "_law_bus_bound" 3 m__law_bus_bound := by
  obtain ⟨f, fd, F, hm⟩ := G.d__law_bus_bound
  exact ⟨f, fd, ["rows", "place", "spaced"], fn__law_bus_bound G F, hm, F.kp, F.bindsN (fun _ _ _ _ _ _ us hl => match us, hl with | [_, _, _], _ => rfl), rfl⟩
theorem sc__law_no_task : FnScope ["wire", "called", "e"] ["wire", "called"] (defScope s__law_no_task) := ⟨rfl, rfl, rfl, by decide +kernel, rfl, by decide +kernel, by decide +kernel⟩
def m__law_no_task : List D → Sto → Res D := fnT 3 (sSeq (sTry (sDrop (eCallD m_bus_bound 2 (nons 1) (aCons (eV 0) (aCons (eV 1) aNil)))) [⟨"NoTask", ["BadTask"], 2, fun ns ds => (sRet (eOp (q2 (eqF false)) (eXf ns ds "name") (eV 1)))⟩]) (sRet (eC (.bl false))))
theorem fn__law_no_task (G : Facts K mg base) {f : Addr} {fd : FuncData} (F : FunD K "_law_no_task" "_law_no_task" (defArgs s__law_no_task) (defBody s__law_no_task) (defScope s__law_no_task) [] [] f fd) : FnOk P w K mg base (L2.CX P w) 8 f fd ["wire", "called"] (SpF ⟨K, mg⟩ 2 m__law_no_task) := by
  refine fn_cut (fn_sm F sc__law_no_task fun cdv A outer s H E hr => GB.ex (W := WE E) ?_)
  have nd := sc__law_no_task.nd
  have po : PassesOwn (model P w) (cxOf (L2.CX P w) P w K mg base ["wire", "called", "e"] "_law_no_task" (defScope s__law_no_task) f cdv A outer s H E).A (cxOf (L2.CX P w) P w K mg base ["wire", "called", "e"] "_law_no_task" (defScope s__law_no_task) f cdv A outer s H E).env (cxOf (L2.CX P w) P w K mg base ["wire", "called", "e"] "_law_no_task" (defScope s__law_no_task) f cdv A outer s H E).xe := passes_of (X := cxOf (L2.CX P w) P w K mg base ["wire", "called", "e"] "_law_no_task" (defScope s__law_no_task) f cdv A outer s H E) rfl
  have px : PassW (cxOf (L2.CX P w) P w K mg base ["wire", "called", "e"] "_law_no_task" (defScope s__law_no_task) f cdv A outer s H E) (WE E) := passWE (takes_of (X := cxOf (L2.CX P w) P w K mg base ["wire", "called", "e"] "_law_no_task" (defScope s__law_no_task) f cdv A outer s H E) rfl rfl rfl rfl)
  have tk : Takes (cxOf (L2.CX P w) P w K mg base ["wire", "called", "e"] "_law_no_task" (defScope s__law_no_task) f cdv A outer s H E) (WE E) := takes_of (X := cxOf (L2.CX P w) P w K mg base ["wire", "called", "e"] "_law_no_task" (defScope s__law_no_task) f cdv A outer s H E) rfl rfl rfl rfl
  exact (gb_cons (by obtain ⟨cl0, m0, T0, y0, n0, no0_name⟩ := G.xc__law_no_task_0; exact gs_try rfl rfl nd tk (fun W pn xe tk' po => (gs1_expr (ge_callDS (fo_bus_bound G) (hr.mono (by omega)) tk' (ga_cons (gv 0) (ga_cons (gv 1) ga_nil))))) (GHs.cons (cl := cl0) (v := ⟨"NoTask", ["BadTask"], 2, fun ns ds => (sRet (eOp (q2 (eqF false)) (eXf ns ds "name") (eV 1)))⟩) rfl rfl rfl (by decide) m0 y0 n0 (fun u oe pn hi hcl hz hf => by obtain ⟨i, cl, a, dd, fs, ds⟩ := u; cases hi; cases hcl; exact (gu_one (gu_ret (gy_cmp go_eqF (gy_fld rfl T0 no0_name hz hf) (gy_of (gv 1)))))) GHs.nil)) (gb_one (gs_ret ge_bl)))
theorem fo__law_no_task (G : Facts K mg base) : Fo P w K mg base 8 "_law_no_task" 2 m__law_no_task := by
  obtain ⟨f, fd, F, hm⟩ := G.d__law_no_task
  exact ⟨f, fd, ["wire", "called"], fn__law_no_task G F, hm, F.kp, F.bindsN (fun _ _ _ _ _ _ us hl => match us, hl with | [_, _], _ => rfl), rfl⟩
theorem sc_law : FnScope ["script", "tape", "turn", "many", "rows", "wire", "far", "spaced", "place", "owed", "row"] ["script"] (defScope s_law) := ⟨rfl, rfl, rfl, by decide +kernel, rfl, by decide +kernel, by decide +kernel⟩
def m_law : List D → Sto → Res D := fnT 11 (sSeq (sSet 1 (eCall m__law_tape 1 (aCons (eV 0) aNil))) (sSeq (sFor (aRng dRng1 (aCons (eC (.int 4)) aNil)) (vName 2) (sSeq (sSet 3 (eOp (q2 dAdd) (eC (.int 1)) (eCall m__law_draw 2 (aCons (eV 1) (aCons (eC (.int 8)) aNil))))) (sSeq (sSet 4 (eCall m__law_rows 4 (aCons (eV 1) (aCons (eV 3) (aCons (eOp (q2 dIx) (eLst (aCons (eC (.int 8)) (aCons (eC (.int 20)) (aCons (eC (.int 50)) aNil)))) (eCall m__law_draw 2 (aCons (eV 1) (aCons (eC (.int 3)) aNil)))) (aCons (eOp (q2 dIx) (eLst (aCons (eC (.int 4)) (aCons (eC (.int 30)) aNil))) (eCall m__law_draw 2 (aCons (eV 1) (aCons (eC (.int 2)) aNil)))) aNil)))))) (sSeq (sSet 5 (eCall m__law_bus 1 (aCons (eV 4) aNil))) (sSeq (sSet 6 (eOp (q2 dAdd) (eC (.int 1)) (eAr (qA dMaxL) (aCons (eLc [10] (aIt dSeq (eV 4)) (vName 10) tvYes (eOp (q2 dIx) (eV 10) (eC (.int 3)))) aNil)))) (sSeq (sFor (aIt dSeq (eTup (aCons (eC .non) (aCons (eOp (q2 dAdd) (eV 6) (eCall m__law_draw 2 (aCons (eV 1) (aCons (eC (.int 3)) aNil)))) (aCons (eOp (q2 dAdd) (eV 6) (eCall m__law_draw 2 (aCons (eV 1) (aCons (eC (.int 60)) aNil)))) aNil))))) (vName 7) (sSeq (sFor (aRng dRng1 (aCons (eV 3) aNil)) (vName 8) (sSeq (sSet 9 (eCall m__law_bus_bound 3 (aCons (eV 4) (aCons (eV 8) (aCons (eV 7) aNil))))) (sIf (tB' (eOp (q2 dNe) (eAr (qA dRepr) (aCons (eCallK m_bus_bound 2 1 (aCons (eV 5) (aCons (eOp (q2 dIx) (eOp (q2 dIx) (eV 4) (eV 8)) (eC (.int 0))) aNil)) (aCons (eV 7) aNil)) aNil)) (eAr (qA dRepr) (aCons (eV 9) aNil)))) (sRet (eC (.bl false))) sNext))) (sSeq (sSet 8 (eCall m__law_draw 2 (aCons (eV 1) (aCons (eV 3) aNil)))) (sSeq (sSet 9 (eCall m__law_bus_bound 3 (aCons (eV 4) (aCons (eV 8) (aCons (eV 7) aNil))))) (sIf (tB' (eOp (q2 dNe) (eAr (qA dRepr) (aCons (eCallP m_bus_bound 0 3 [2, 1, 0] aNil (aCons (eV 7) (aCons (eOp (q2 dIx) (eOp (q2 dIx) (eV 4) (eV 8)) (eC (.int 0))) (aCons (eV 5) aNil)))) aNil)) (eAr (qA dRepr) (aCons (eV 9) aNil)))) (sRet (eC (.bl false))) sNext))))) (sIf (tvOr (tB' (eOp (q2 dNe) (eCallD m_bus_bound 2 (nons 1) (aCons (eV 5) (aCons (eOp (q2 dIx) (eOp (q2 dIx) (eV 4) (eC (.int 0))) (eC (.int 0))) aNil))) (eCall m__law_bus_bound 3 (aCons (eV 4) (aCons (eC (.int 0)) (aCons (eC .non) aNil)))))) (tvNot (tB' (eCall m__law_no_task 2 (aCons (eV 5) (aCons (eC (.str "zzzzzzzzzzzzz")) aNil)))))) (sRet (eC (.bl false))) sNext))))))) (sRet (eC (.bl true)))))
theorem fn_law (G : Facts K mg base) {f : Addr} {fd : FuncData} (F : FunD K "law" "law" (defArgs s_law) (defBody s_law) (defScope s_law) [] [] f fd) : FnOk P w K mg base (L2.CX P w) 9 f fd ["script"] (SpF ⟨K, mg⟩ 1 m_law) := by
  refine fn_cut (fn_sm F sc_law fun cdv A outer s H E hr => GB.ex (W := WE E) ?_)
  have nd := sc_law.nd
  have po : PassesOwn (model P w) (cxOf (L2.CX P w) P w K mg base ["script", "tape", "turn", "many", "rows", "wire", "far", "spaced", "place", "owed", "row"] "law" (defScope s_law) f cdv A outer s H E).A (cxOf (L2.CX P w) P w K mg base ["script", "tape", "turn", "many", "rows", "wire", "far", "spaced", "place", "owed", "row"] "law" (defScope s_law) f cdv A outer s H E).env (cxOf (L2.CX P w) P w K mg base ["script", "tape", "turn", "many", "rows", "wire", "far", "spaced", "place", "owed", "row"] "law" (defScope s_law) f cdv A outer s H E).xe := passes_of (X := cxOf (L2.CX P w) P w K mg base ["script", "tape", "turn", "many", "rows", "wire", "far", "spaced", "place", "owed", "row"] "law" (defScope s_law) f cdv A outer s H E) rfl
  have px : PassW (cxOf (L2.CX P w) P w K mg base ["script", "tape", "turn", "many", "rows", "wire", "far", "spaced", "place", "owed", "row"] "law" (defScope s_law) f cdv A outer s H E) (WE E) := passWE (takes_of (X := cxOf (L2.CX P w) P w K mg base ["script", "tape", "turn", "many", "rows", "wire", "far", "spaced", "place", "owed", "row"] "law" (defScope s_law) f cdv A outer s H E) rfl rfl rfl rfl)
  exact (gb_cons (gs_set 1 nd (ge_call (fo__law_tape G) (hr.mono (by omega)) px (ga_cons (gv 0) ga_nil))) (gb_cons (gs_for po (gi_range1 G.b_range (ga_cons ge_int ga_nil)) (gg_name 2 nd) (gb_cons (gs_set 3 nd (ge_op go_add ge_int (ge_call (fo__law_draw G) (hr.mono (by omega)) px (ga_cons (gv 1) (ga_cons ge_int ga_nil))))) (gb_cons (gs_set 4 nd (ge_call (fo__law_rows G) (hr.mono (by omega)) px (ga_cons (gv 1) (ga_cons (gv 3) (ga_cons (ge_ix gx_any (ge_lst (ga_cons ge_int (ga_cons ge_int (ga_cons ge_int ga_nil)))) (ge_call (fo__law_draw G) (hr.mono (by omega)) px (ga_cons (gv 1) (ga_cons ge_int ga_nil)))) (ga_cons (ge_ix gx_any (ge_lst (ga_cons ge_int (ga_cons ge_int ga_nil))) (ge_call (fo__law_draw G) (hr.mono (by omega)) px (ga_cons (gv 1) (ga_cons ge_int ga_nil)))) ga_nil)))))) (gb_cons (gs_set 5 nd (ge_call (fo__law_bus G) (hr.mono (by omega)) px (ga_cons (gv 4) ga_nil))) (gb_cons (gs_set 6 nd (ge_op go_add ge_int (ge_callB (cb_maxL rfl) G.b_max (ga_cons (ge_lc (own := [("row", 10)]) nd (gi_seq (gv 4)) rfl (fun s H C cl fp => (gg_name 10 nd)) (fun s H C cl fp => gts_nil) (fun s H C cl fp => (ge_ix gx_any (gv 10) ge_int))) ga_nil)))) (gb_cons (gs_for po (gi_seq (ge_tup (ga_cons ge_non (ga_cons (ge_op go_add (gv 6) (ge_call (fo__law_draw G) (hr.mono (by omega)) px (ga_cons (gv 1) (ga_cons ge_int ga_nil)))) (ga_cons (ge_op go_add (gv 6) (ge_call (fo__law_draw G) (hr.mono (by omega)) px (ga_cons (gv 1) (ga_cons ge_int ga_nil)))) ga_nil))))) (gg_name 7 nd) (gb_cons (gs_for po (gi_range1 G.b_range (ga_cons (gv 3) ga_nil)) (gg_name 8 nd) (gb_cons (gs_set 9 nd (ge_call (fo__law_bus_bound G) (hr.mono (by omega)) px (ga_cons (gv 4) (ga_cons (gv 8) (ga_cons (gv 7) ga_nil))))) (gb_one (gs_if (gt_cmp (go_ne hr) (ge_callB cb_repr G.b_repr (ga_cons (ge_callK (fok_bus_bound G) (hr.mono (by omega)) px (ga_cons (gv 5) (ga_cons (ge_ix gx_any (ge_ix gx_any (gv 4) (gv 8)) ge_int) ga_nil)) (gk_cons (gv 7) gk_nil)) ga_nil)) (ge_callB cb_repr G.b_repr (ga_cons (gv 9) ga_nil))) (gb_one (gs_ret ge_bl)) gb_nil)))) (gb_cons (gs_set 8 nd (ge_call (fo__law_draw G) (hr.mono (by omega)) px (ga_cons (gv 1) (ga_cons (gv 3) ga_nil)))) (gb_cons (gs_set 9 nd (ge_call (fo__law_bus_bound G) (hr.mono (by omega)) px (ga_cons (gv 4) (ga_cons (gv 8) (ga_cons (gv 7) ga_nil))))) (gb_one (gs_if (gt_cmp (go_ne hr) (ge_callB cb_repr G.b_repr (ga_cons (ge_callP0 (fop_bus_bound_apart_name_bus G) (hr.mono (by omega)) px (gk_cons (gv 7) (gk_cons (ge_ix gx_any (ge_ix gx_any (gv 4) (gv 8)) ge_int) (gk_cons (gv 5) gk_nil)))) ga_nil)) (ge_callB cb_repr G.b_repr (ga_cons (gv 9) ga_nil))) (gb_one (gs_ret ge_bl)) gb_nil)))))) (gb_one (gs_if ((gw_or (gt_cmp (go_ne hr) (ge_callD (fo_bus_bound G) (hr.mono (by omega)) px (ga_cons (gv 5) (ga_cons (ge_ix gx_any (ge_ix gx_any (gv 4) ge_int) ge_int) ga_nil))) (ge_call (fo__law_bus_bound G) (hr.mono (by omega)) px (ga_cons (gv 4) (ga_cons ge_int (ga_cons ge_non ga_nil))))) (gw_or1 (gt_not (gt_val (ge_call (fo__law_no_task G) (hr.mono (by omega)) px (ga_cons (gv 5) (ga_cons ge_str ga_nil)))))))).t (gb_one (gs_ret ge_bl)) gb_nil)))))))) (gb_one (gs_ret ge_bl))))
theorem fo_law (G : Facts K mg base) : Fo P w K mg base 9 "law" 1 m_law := by
  obtain ⟨f, fd, F, hm⟩ := G.d_law
  exact ⟨f, fd, ["script"], fn_law G F, hm, F.kp, F.bindsN (fun _ _ _ _ _ _ us hl => match us, hl with | [_], _ => rfl), rfl⟩
end
end Sm
set_option Elab.async false
set_option linter.all false
set_option maxRecDepth 100000
set_option maxHeartbeats 0
open PySem PySem.Spec
namespace Sm
open L2 PySem.W
def d_Shared___init___D : He.DefD := ⟨("Shared", some "__init__"), "__init__", "Shared.__init__", defArgs s_Shared___init__, defBody s_Shared___init__, defScope s_Shared___init__, [], []⟩
def d_Twice___init___D : He.DefD := ⟨("Twice", some "__init__"), "__init__", "Twice.__init__", defArgs s_Twice___init__, defBody s_Twice___init__, defScope s_Twice___init__, [], []⟩
def d_by_rank_D : He.DefD := ⟨("by_rank", none), "by_rank", "by_rank", defArgs s_by_rank, defBody s_by_rank, defScope s_by_rank, [], []⟩
def d_more_urgent_D : He.DefD := ⟨("more_urgent", none), "more_urgent", "more_urgent", defArgs s_more_urgent, defBody s_more_urgent, defScope s_more_urgent, [], []⟩
def d_comings_D : He.DefD := ⟨("comings", none), "comings", "comings", defArgs s_comings, defBody s_comings, defScope s_comings, [], []⟩
def d_demanded_D : He.DefD := ⟨("demanded", none), "demanded", "demanded", defArgs s_demanded, defBody s_demanded, defScope s_demanded, [], []⟩
def d_is_name_D : He.DefD := ⟨("is_name", none), "is_name", "is_name", defArgs s_is_name, defBody s_is_name, defScope s_is_name, [], []⟩
def d_is_number_D : He.DefD := ⟨("is_number", none), "is_number", "is_number", defArgs s_is_number, defBody s_is_number, defScope s_is_number, [], []⟩
def d_wrong_part_D : He.DefD := ⟨("wrong_part", none), "wrong_part", "wrong_part", defArgs s_wrong_part, defBody s_wrong_part, defScope s_wrong_part, [], []⟩
def d_BadTask___init___D : He.DefD := ⟨("BadTask", some "__init__"), "__init__", "BadTask.__init__", defArgs s_BadTask___init__, defBody s_BadTask___init__, defScope s_BadTask___init__, [], []⟩
def d_Message___init___D : He.DefD := ⟨("Message", some "__init__"), "__init__", "Message.__init__", defArgs s_Message___init__, defBody s_Message___init__, defScope s_Message___init__, [], [("due", .non), ("wait", .int 0)]⟩
def d_waiting_D : He.DefD := ⟨("waiting", none), "waiting", "waiting", defArgs s_waiting, defBody s_waiting, defScope s_waiting, [], []⟩
def d_held_back_D : He.DefD := ⟨("held_back", none), "held_back", "held_back", defArgs s_held_back, defBody s_held_back, defScope s_held_back, [], []⟩
def d_with_spoils_D : He.DefD := ⟨("with_spoils", none), "with_spoils", "with_spoils", defArgs s_with_spoils, defBody s_with_spoils, defScope s_with_spoils, [], []⟩
def d_stretch_D : He.DefD := ⟨("stretch", none), "stretch", "stretch", defArgs s_stretch, defBody s_stretch, defScope s_stretch, [], []⟩
def d_least_begin_D : He.DefD := ⟨("least_begin", none), "least_begin", "least_begin", defArgs s_least_begin, defBody s_least_begin, defScope s_least_begin, [], []⟩
def d_NoTask___init___D : He.DefD := ⟨("NoTask", some "__init__"), "__init__", "NoTask.__init__", defArgs s_NoTask___init__, defBody s_NoTask___init__, defScope s_NoTask___init__, [], []⟩
def d_Bus_message_D : He.DefD := ⟨("Bus", some "message"), "message", "Bus.message", defArgs s_Bus_message, defBody s_Bus_message, defScope s_Bus_message, [], []⟩
def d_Bus_messages_D : He.DefD := ⟨("Bus", some "messages"), "messages", "Bus.messages", defArgs s_Bus_messages, defBody s_Bus_messages, defScope s_Bus_messages, [], []⟩
def d_bus_bound_D : He.DefD := ⟨("bus_bound", none), "bus_bound", "bus_bound", defArgs s_bus_bound, defBody s_bus_bound, defScope s_bus_bound, [], [("apart", .non)]⟩
def d__law_tape_D : He.DefD := ⟨("_law_tape", none), "_law_tape", "_law_tape", defArgs s__law_tape, defBody s__law_tape, defScope s__law_tape, [], []⟩
def d__law_draw_D : He.DefD := ⟨("_law_draw", none), "_law_draw", "_law_draw", defArgs s__law_draw, defBody s__law_draw, defScope s__law_draw, [], []⟩
def d__law_pick_D : He.DefD := ⟨("_law_pick", none), "_law_pick", "_law_pick", defArgs s__law_pick, defBody s__law_pick, defScope s__law_pick, [], []⟩
def d__law_names_D : He.DefD := ⟨("_law_names", none), "_law_names", "_law_names", defArgs s__law_names, defBody s__law_names, defScope s__law_names, [], []⟩
def d__law_ranked_D : He.DefD := ⟨("_law_ranked", none), "_law_ranked", "_law_ranked", defArgs s__law_ranked, defBody s__law_ranked, defScope s__law_ranked, [], []⟩
def d__law_rows_D : He.DefD := ⟨("_law_rows", none), "_law_rows", "_law_rows", defArgs s__law_rows, defBody s__law_rows, defScope s__law_rows, [], []⟩
def d_Bus___init___D : He.DefD := ⟨("Bus", some "__init__"), "__init__", "Bus.__init__", defArgs s_Bus___init__, defBody s_Bus___init__, defScope s_Bus___init__, [.adr (He.dflAt ("Bus", some "__init__") 0)], []⟩
def d__law_bus_D : He.DefD := ⟨("_law_bus", none), "_law_bus", "_law_bus", defArgs s__law_bus, defBody s__law_bus, defScope s__law_bus, [], []⟩
def d__law_times_D : He.DefD := ⟨("_law_times", none), "_law_times", "_law_times", defArgs s__law_times, defBody s__law_times, defScope s__law_times, [], []⟩
def d__law_bus_bound_D : He.DefD := ⟨("_law_bus_bound", none), "_law_bus_bound", "_law_bus_bound", defArgs s__law_bus_bound, defBody s__law_bus_bound, defScope s__law_bus_bound, [], []⟩
def d__law_no_task_D : He.DefD := ⟨("_law_no_task", none), "_law_no_task", "_law_no_task", defArgs s__law_no_task, defBody s__law_no_task, defScope s__law_no_task, [], []⟩
def d_law_D : He.DefD := ⟨("law", none), "law", "law", defArgs s_law, defBody s_law, defScope s_law, [], []⟩
def hfn : List He.DefD := [d_Shared___init___D, d_Twice___init___D, d_by_rank_D, d_more_urgent_D, d_comings_D, d_demanded_D, d_is_name_D, d_is_number_D, d_wrong_part_D, d_BadTask___init___D, d_Message___init___D, d_waiting_D, d_held_back_D, d_with_spoils_D, d_stretch_D, d_least_begin_D, d_NoTask___init___D, d_Bus_message_D, d_Bus_messages_D, d_bus_bound_D, d__law_tape_D, d__law_draw_D, d__law_pick_D, d__law_names_D, d__law_ranked_D, d__law_rows_D, d_Bus___init___D, d__law_bus_D, d__law_times_D, d__law_bus_bound_D, d__law_no_task_D, d_law_D]
def hfa : List He.Fa := [.glo "Message", .cls "Message", .noat "Message" "name", .noat "Message" "rank", .free "list", .free "sorted", .glo "Shared", .meth "Shared" "__init__", .noat "Shared" "rank", .glo "Twice", .meth "Twice" "__init__", .noat "Twice" "name", .glo "by_rank", .glo "more_urgent", .noat "Message" "gap", .noat "Message" "wait", .glo "comings", .noat "Message" "most", .free "sum", .glo "demanded", .free "all", .free "len", .free "str", .free "type", .int "LONGEST_NAME" 12, .str "LETTERS" "abcdefghijklmnopqrstuvwxyz", .glo "is_name", .free "int", .glo "is_number", .glo "wrong_part", .noat "Message" "due", .glo "BadTask", .meth "BadTask" "__init__", .noat "BadTask" "part", .mkr "Message", .glo "waiting", .free "max", .glo "held_back", .glo "with_spoils", .int "GAPS" 100, .glo "stretch", .glo "least_begin", .glo "Bus", .cls "Bus", .noat "Bus" "_messages", .glo "NoTask", .meth "NoTask" "__init__", .noat "NoTask" "name", .meth "Bus" "message", .meth "Bus" "messages", .free "range", .glo "bus_bound", .glo "_law_tape", .glo "_law_draw", .glo "_law_pick", .glo "_law_names", .glo "_law_ranked", .glo "_law_rows", .mkr "Bus", .glo "_law_bus", .glo "_law_times", .glo "_law_bus_bound", .exm "BadTask" "NoTask" false, .exm "NoTask" "NoTask" true, .glo "_law_no_task", .free "repr", .glo "law"]
def htf : List He.Defn := []
def hex (K : PySem.W.Frag) : Bool := oexB2 K "Shared" && oexB2 K "Twice" && oexB2 K "BadTask" && oexB2 K "NoTask" && emptyB K (He.dflAt ("Bus", some "__init__") 0 K) && xfB K (He.ga K "NoTask")
theorem facts {K : PySem.W.Frag} {h base : Heap} {mg : Str → Option Value} (X : K.In h) (Gn : h.Ns mainGlobals mg) (c : He.SaysD hfa hfn K) (hx_mx_Shared : OexG K (He.ga K "Shared")) (hx_mx_Twice : OexG K (He.ga K "Twice")) (hx_mx_BadTask : OexG K (He.ga K "BadTask")) (hx_mx_NoTask : OexG K (He.ga K "NoTask")) (hx0_Bus : EmptyT K (.ref (He.dflAt ("Bus", some "__init__") 0 K))) (hx_xf_NoTask : XfC K (He.ga K "NoTask"))  : Facts K mg base where
  at_Message_name := ⟨_, He.glo_ok X Gn (c.fact 0 rfl), He.cls_ok (c.fact 1 rfl), He.noat_ok (c.fact 2 rfl)⟩
  at_Message_rank := ⟨_, He.glo_ok X Gn (c.fact 0 rfl), He.cls_ok (c.fact 1 rfl), He.noat_ok (c.fact 3 rfl)⟩
  b_list := He.free_ok X Gn (c.fact 4 rfl)
  b_sorted := He.free_ok X Gn (c.fact 5 rfl)
  mx_Shared := (c.def_ 0 (d := d_Shared___init___D) rfl).elim fun fd F => ⟨_, fd, _, F, He.glo_ok X Gn (c.fact 6 rfl), hx_mx_Shared, He.meth_ok (c.fact 7 rfl), He.noat_ok (c.fact 8 rfl)⟩
  mx_Twice := (c.def_ 1 (d := d_Twice___init___D) rfl).elim fun fd F => ⟨_, fd, _, F, He.glo_ok X Gn (c.fact 9 rfl), hx_mx_Twice, He.meth_ok (c.fact 10 rfl), He.noat_ok (c.fact 11 rfl)⟩
  d_by_rank := (c.def_ 2 (d := d_by_rank_D) rfl).elim fun fd F => ⟨_, fd, F, He.glo_ok X Gn (c.fact 12 rfl)⟩
  d_more_urgent := (c.def_ 3 (d := d_more_urgent_D) rfl).elim fun fd F => ⟨_, fd, F, He.glo_ok X Gn (c.fact 13 rfl)⟩
  at_Message_gap := ⟨_, He.glo_ok X Gn (c.fact 0 rfl), He.cls_ok (c.fact 1 rfl), He.noat_ok (c.fact 14 rfl)⟩
  at_Message_wait := ⟨_, He.glo_ok X Gn (c.fact 0 rfl), He.cls_ok (c.fact 1 rfl), He.noat_ok (c.fact 15 rfl)⟩
  d_comings := (c.def_ 4 (d := d_comings_D) rfl).elim fun fd F => ⟨_, fd, F, He.glo_ok X Gn (c.fact 16 rfl)⟩
  at_Message_most := ⟨_, He.glo_ok X Gn (c.fact 0 rfl), He.cls_ok (c.fact 1 rfl), He.noat_ok (c.fact 17 rfl)⟩
  b_sum := He.free_ok X Gn (c.fact 18 rfl)
  d_demanded := (c.def_ 5 (d := d_demanded_D) rfl).elim fun fd F => ⟨_, fd, F, He.glo_ok X Gn (c.fact 19 rfl)⟩
  b_all := He.free_ok X Gn (c.fact 20 rfl)
  b_len := He.free_ok X Gn (c.fact 21 rfl)
  b_str := He.free_ok X Gn (c.fact 22 rfl)
  b_type := He.free_ok X Gn (c.fact 23 rfl)
  i_LONGEST_NAME := He.int_ok X Gn (c.fact 24 rfl)
  s_LETTERS := He.str_ok X Gn (c.fact 25 rfl)
  d_is_name := (c.def_ 6 (d := d_is_name_D) rfl).elim fun fd F => ⟨_, fd, F, He.glo_ok X Gn (c.fact 26 rfl)⟩
  b_int := He.free_ok X Gn (c.fact 27 rfl)
  d_is_number := (c.def_ 7 (d := d_is_number_D) rfl).elim fun fd F => ⟨_, fd, F, He.glo_ok X Gn (c.fact 28 rfl)⟩
  d_wrong_part := (c.def_ 8 (d := d_wrong_part_D) rfl).elim fun fd F => ⟨_, fd, F, He.glo_ok X Gn (c.fact 29 rfl)⟩
  at_Message_due := ⟨_, He.glo_ok X Gn (c.fact 0 rfl), He.cls_ok (c.fact 1 rfl), He.noat_ok (c.fact 30 rfl)⟩
  mx_BadTask := (c.def_ 9 (d := d_BadTask___init___D) rfl).elim fun fd F => ⟨_, fd, _, F, He.glo_ok X Gn (c.fact 31 rfl), hx_mx_BadTask, He.meth_ok (c.fact 32 rfl), He.noat_ok (c.fact 33 rfl)⟩
  mk_Message := (c.def_ 10 (d := d_Message___init___D) rfl).elim fun fd F => ⟨_, fd, _, _, by simp [He.DefD.kws, d_Message___init___D], F, He.glo_ok X Gn (c.fact 0 rfl), He.mkr_ok (c.fact 34 rfl)⟩
  d_waiting := (c.def_ 11 (d := d_waiting_D) rfl).elim fun fd F => ⟨_, fd, F, He.glo_ok X Gn (c.fact 35 rfl)⟩
  b_max := He.free_ok X Gn (c.fact 36 rfl)
  d_held_back := (c.def_ 12 (d := d_held_back_D) rfl).elim fun fd F => ⟨_, fd, F, He.glo_ok X Gn (c.fact 37 rfl)⟩
  d_with_spoils := (c.def_ 13 (d := d_with_spoils_D) rfl).elim fun fd F => ⟨_, fd, F, He.glo_ok X Gn (c.fact 38 rfl)⟩
  i_GAPS := He.int_ok X Gn (c.fact 39 rfl)
  d_stretch := (c.def_ 14 (d := d_stretch_D) rfl).elim fun fd F => ⟨_, fd, F, He.glo_ok X Gn (c.fact 40 rfl)⟩
  d_least_begin := (c.def_ 15 (d := d_least_begin_D) rfl).elim fun fd F => ⟨_, fd, F, He.glo_ok X Gn (c.fact 41 rfl)⟩
  at_Bus__messages := ⟨_, He.glo_ok X Gn (c.fact 42 rfl), He.cls_ok (c.fact 43 rfl), He.noat_ok (c.fact 44 rfl)⟩
  mx_NoTask := (c.def_ 16 (d := d_NoTask___init___D) rfl).elim fun fd F => ⟨_, fd, _, F, He.glo_ok X Gn (c.fact 45 rfl), hx_mx_NoTask, He.meth_ok (c.fact 46 rfl), He.noat_ok (c.fact 47 rfl)⟩
  me_Bus_message := (c.def_ 17 (d := d_Bus_message_D) rfl).elim fun fd F => ⟨_, fd, _, F, He.glo_ok X Gn (c.fact 42 rfl), He.cls_ok (c.fact 43 rfl), He.meth_ok (c.fact 48 rfl)⟩
  me_Bus_messages := (c.def_ 18 (d := d_Bus_messages_D) rfl).elim fun fd F => ⟨_, fd, _, F, He.glo_ok X Gn (c.fact 42 rfl), He.cls_ok (c.fact 43 rfl), He.meth_ok (c.fact 49 rfl)⟩
  b_range := He.free_ok X Gn (c.fact 50 rfl)
  d_bus_bound := (c.def_ 19 (d := d_bus_bound_D) rfl).elim fun fd F => ⟨_, fd, F, He.glo_ok X Gn (c.fact 51 rfl)⟩
  d__law_tape := (c.def_ 20 (d := d__law_tape_D) rfl).elim fun fd F => ⟨_, fd, F, He.glo_ok X Gn (c.fact 52 rfl)⟩
  d__law_draw := (c.def_ 21 (d := d__law_draw_D) rfl).elim fun fd F => ⟨_, fd, F, He.glo_ok X Gn (c.fact 53 rfl)⟩
  d__law_pick := (c.def_ 22 (d := d__law_pick_D) rfl).elim fun fd F => ⟨_, fd, F, He.glo_ok X Gn (c.fact 54 rfl)⟩
  d__law_names := (c.def_ 23 (d := d__law_names_D) rfl).elim fun fd F => ⟨_, fd, F, He.glo_ok X Gn (c.fact 55 rfl)⟩
  d__law_ranked := (c.def_ 24 (d := d__law_ranked_D) rfl).elim fun fd F => ⟨_, fd, F, He.glo_ok X Gn (c.fact 56 rfl)⟩
  d__law_rows := (c.def_ 25 (d := d__law_rows_D) rfl).elim fun fd F => ⟨_, fd, F, He.glo_ok X Gn (c.fact 57 rfl)⟩
  mk_Bus := (c.def_ 26 (d := d_Bus___init___D) rfl).elim fun fd F => ⟨_, fd, _, _, F, He.glo_ok X Gn (c.fact 42 rfl), He.mkr_ok (c.fact 58 rfl), hx0_Bus⟩
  d__law_bus := (c.def_ 27 (d := d__law_bus_D) rfl).elim fun fd F => ⟨_, fd, F, He.glo_ok X Gn (c.fact 59 rfl)⟩
  d__law_times := (c.def_ 28 (d := d__law_times_D) rfl).elim fun fd F => ⟨_, fd, F, He.glo_ok X Gn (c.fact 60 rfl)⟩
  d__law_bus_bound := (c.def_ 29 (d := d__law_bus_bound_D) rfl).elim fun fd F => ⟨_, fd, F, He.glo_ok X Gn (c.fact 61 rfl)⟩
  xc__law_no_task_0 := ⟨_, He.glo_ok X Gn (c.fact 45 rfl), hx_xf_NoTask, (exm_of X Gn (c.fact 63 rfl) (c.fact 45 rfl)), (exms_cons (exm_of X Gn (c.fact 62 rfl) (c.fact 31 rfl)) exms_nil), He.noat_ok (c.fact 47 rfl)⟩
  d__law_no_task := (c.def_ 30 (d := d__law_no_task_D) rfl).elim fun fd F => ⟨_, fd, F, He.glo_ok X Gn (c.fact 64 rfl)⟩
  b_repr := He.free_ok X Gn (c.fact 65 rfl)
  d_law := (c.def_ 31 (d := d_law_D) rfl).elim fun fd F => ⟨_, fd, F, He.glo_ok X Gn (c.fact 66 rfl)⟩
abbrev R : PySem.W.OpenRow := PySem.W.OpenLaw.row PySem.Challenge.rw_promptworks_k54_bounds_of_messages
abbrev hk : PySem.W.Hook := He.hookX 7 hfa hfn [] htf hex
def hob (s : PySem.W.SharedT) : He.AlX := He.obsX 7 hfa hfn [] htf hex (HandSHeadRun.getT s)
theorem hob_eq (s : PySem.W.SharedT) : hob s = hk.obs s.abs := He.obsX_eq (HandSHeadRun.getT_eq s)
def hloose : List Str := (["BadTask", "NoTask", "Twice", "Shared", "by_rank", "more_urgent", "comings", "demanded"] : List Str) ++ (["LETTERS", "LONGEST_NAME", "is_name", "is_number", "wrong_part", "GAPS", "Message", "waiting"] : List Str) ++ (["Bus", "held_back", "with_spoils", "stretch", "least_begin", "bus_bound", "_law_tape", "_law_draw"] : List Str) ++ (["_law_pick", "_law_names", "_law_ranked", "_law_rows", "_law_bus", "_law_times", "_law_bus_bound", "_law_no_task"] : List Str)
theorem run (w : World) : HandSHeadRun.RunEq R (PySem.W.view R.prog [38]) hk hob 3000 hloose w := by
  intro os
  kernel_rfl
end Sm
set_option Elab.async false
set_option linter.all false
set_option maxRecDepth 100000
set_option maxHeartbeats 0
open PySem PySem.Spec
namespace Sm
open L2 PySem.W
def S0 : Sto := []
/-- what is left to show, of plain Lean -/
def Sound : Prop := ∀ ns : List Int, ns.length ≤ 63 → (∀ z ∈ ns, Builtin.Int.intBits z ≤ 1048576) → ∃ S', m_law [.fix (ns.map D.int)] S0 = .ok (.bl true) S'
theorem law_of (S : Sound) : PySem.Challenge.rw_promptworks_k54_bounds_of_messages.Holds := by
  w_on; o_law
  refine HandSHeadRun.head_any (r := PySem.W.OpenLaw.row PySem.Challenge.rw_promptworks_k54_bounds_of_messages) (q := PySem.W.view (PySem.W.OpenLaw.row PySem.Challenge.rw_promptworks_k54_bounds_of_messages).prog [38]) (H := Sm.hk) (ob := Sm.hob) (M := 3000) (loose := Sm.hloose) (d := HandSHeadRun.topDef (PySem.W.OpenLaw.row PySem.Challenge.rw_promptworks_k54_bounds_of_messages).prog 38) (kwd := []) Sm.hob_eq
    (by kernel_rfl) (fun s => by kernel_rfl) Sm.run (by kernel_rfl) (by kernel_rfl) (by kernel_rfl) (by rfl) (by first | assumption | decide +kernel) (by decide +kernel) ⟨rfl, rfl, rfl, rfl, rfl, by decide +kernel⟩ ?hw ?hc
  case hw => w_witness2
  case hc =>
    refine LamX.walk_ofTsE (l := PySem.Challenge.rw_promptworks_k54_bounds_of_messages) (n := 63) (k := 9) (x := "script") (CX := fun w => L2.CX PySem.Challenge.rw_promptworks_k54_bounds_of_messages.prog w) rfl (by decide) (by kernel_rfl) ⟨rfl, by decide, by decide⟩ ?F (fun _ _ _ _ _ ⟨_, _, _, _, _, _, _, _, _, _, _, _, e⟩ => e)
    intro w mg fa h Y G hmg0
    obtain ⟨K, KX, c⟩ := Y
    have hmg : mg ("law" : PySem.Str) = some (.ref fa) := by
      have e : (HandSHeadRun.topDef (PySem.W.OpenLaw.row PySem.Challenge.rw_promptworks_k54_bounds_of_messages).prog 38).name = ("law" : PySem.Str) := by kernel_rfl
      rw [← e]
      exact hmg0
    have cd := c.t.d
    have hy := c.more
    obtain ⟨hy, hx5⟩ := He.ba hy
    obtain ⟨hy, hx4⟩ := He.ba hy
    obtain ⟨hy, hx3⟩ := He.ba hy
    obtain ⟨hy, hx2⟩ := He.ba hy
    obtain ⟨hy, hx1⟩ := He.ba hy
    have hx0 := hy
    obtain ⟨fd, F⟩ := cd.def_ 31 (d := d_law_D) rfl
    have e := hmg.symm.trans (He.glo_ok KX G (cd.fact 66 (f := .glo "law") rfl))
    cases e
    have b := FunD.bindsA (ps := ["script"]) F fun _ _ _ _ _ _ us hl => match us, hl with | [_], _ => rfl
    have one : ∀ p ∈ htf.map (He.cT K), ∃ z ∈ htf, He.cT K z = p := fun p hp => List.mem_map.mp hp
    refine ⟨K, KX, fd, htf.map (He.cT K), SpF ⟨K, mg⟩ 1 m_law, fun p hp => ?_, fun p hp => ?_, fun p hp => ?_, fun s u => b s [u] rfl, fun H a ns hl hb hH hS => ?_, fun base KB GB TB => ?_⟩
    · obtain ⟨z, hz, rfl⟩ := one p hp; exact c.empty z hz
    · obtain ⟨z, hz, rfl⟩ := one p hp; exact c.out z hz
    · obtain ⟨z, hz, rfl⟩ := one p hp; exact PySem.W.codeHd_of_K KX (c.hd z hz)
    · obtain ⟨F0, rel, rd⟩ := start_rel0 (K := K) (mg := mg) hS
      obtain ⟨S', hs⟩ := S ns hl hb
      refine ⟨rfl, F0, _, S0, [.fix (ns.map D.int)], .cons rd .nil, rel, ?_⟩
      rw [hs]
      intro v F' μ' H' x' rel' r'
      cases r'
      rfl
    · exact fn_law (facts KX G cd (oexB2_ok hx0) (oexB2_ok hx1) (oexB2_ok hx2) (oexB2_ok hx3) (emptyB_ok hx4) (xfB_ok hx5)) F
end Sm
set_option linter.all false
namespace Sm
/-! plain mathematics of the bounds -/
structure Tk where
  most : Int
  wait : Int
  gap : Int
structure Tk.Ok (k : Tk) : Prop where
  m : 0 ≤ k.most
  w : 0 ≤ k.wait
  g : 0 < k.gap
def up (x g : Int) : Int := -(-x / g)
theorem up_ge {x g : Int} (h : 0 < g) : x ≤ g * up x g := by
  unfold up
  have e := Int.mul_ediv_add_emod (-x) g
  have p := Int.emod_nonneg (-x) (Int.ne_of_gt h)
  rw [Int.mul_neg]
  omega
theorem up_lt {x g : Int} (h : 0 < g) : g * up x g < x + g := by
  unfold up
  have e := Int.mul_ediv_add_emod (-x) g
  have p := Int.emod_lt_of_pos (-x) h
  rw [Int.mul_neg]
  omega
theorem lt_of_mul {a b g : Int} (h : 0 < g) (e : g * a < g * b) : a < b := Int.lt_of_mul_lt_mul_left e (Int.le_of_lt h)
theorem up_le {x g y : Int} (h : 0 < g) (e : x ≤ g * y) : up x g ≤ y := by
  have a := up_lt (x := x) h
  have : g * up x g < g * (y + 1) := by rw [Int.mul_add, Int.mul_one]; omega
  have := lt_of_mul h this
  omega
theorem up_mono {x y g : Int} (h : 0 < g) (e : x ≤ y) : up x g ≤ up y g := up_le h (Int.le_trans e (up_ge h))
theorem up_eq {x g : Int} (h : 0 < g) : (x + g - 1) / g = up x g := by
  have a := up_ge (x := x) h
  have b := up_lt (x := x) h
  have e := Int.mul_ediv_add_emod (x + g - 1) g
  have p := Int.emod_nonneg (x + g - 1) (Int.ne_of_gt h)
  have q := Int.emod_lt_of_pos (x + g - 1) h
  have l1 : g * ((x + g - 1) / g) < g * (up x g + 1) := by rw [Int.mul_add, Int.mul_one]; omega
  have l2 : g * up x g < g * ((x + g - 1) / g + 1) := by rw [Int.mul_add, Int.mul_one]; omega
  have := lt_of_mul h l1
  have := lt_of_mul h l2
  omega
def sumI : List Int → Int := fun l => l.foldr (· + ·) 0
@[simp] theorem sumI_nil : sumI [] = 0 := rfl
@[simp] theorem sumI_cons {a : Int} {l : List Int} : sumI (a :: l) = a + sumI l := rfl
theorem sumI_perm {l m : List Int} (h : l.Perm m) : sumI l = sumI m := by
  induction h with
  | nil => rfl
  | cons x _ ih => simp [ih]
  | swap x y l => simp only [sumI_cons]; omega
  | trans _ _ a b => exact a.trans b
def dem (first : Int) (l : List Tk) (t : Int) : Int := first + sumI (l.map fun k => k.most * up (t + k.wait) k.gap)
def load (W : Int) (l : List Tk) : Int := sumI (l.map fun k => k.most * (W / k.gap))
def lead (W : Int) (l : List Tk) : Int := sumI (l.map fun k => k.most * k.wait * (W / k.gap))
theorem dem_mono {first t s : Int} {l : List Tk} (h : ∀ k ∈ l, k.Ok) (e : t ≤ s) : dem first l t ≤ dem first l s := by
  unfold dem
  induction l with
  | nil => simp
  | cons k l ih =>
    have o := h k (by simp)
    have := Int.mul_le_mul_of_nonneg_left (up_mono o.g (Int.add_le_add_right e k.wait)) o.m
    have := ih fun k hk => h k (by simp [hk])
    simp only [List.map_cons, sumI_cons]
    omega
theorem load_nonneg {W : Int} {l : List Tk} (hW : 0 < W) (h : ∀ k ∈ l, k.Ok) : 0 ≤ load W l := by
  unfold load
  induction l with
  | nil => simp
  | cons k l ih =>
    have o := h k (by simp)
    have := Int.mul_nonneg o.m (Int.ediv_nonneg (Int.le_of_lt hW) (Int.le_of_lt o.g))
    have := ih fun k hk => h k (by simp [hk])
    simp only [List.map_cons, sumI_cons]
    omega
theorem lead_nonneg {W : Int} {l : List Tk} (hW : 0 < W) (h : ∀ k ∈ l, k.Ok) : 0 ≤ lead W l := by
  unfold lead
  induction l with
  | nil => simp
  | cons k l ih =>
    have o := h k (by simp)
    have := Int.mul_nonneg (Int.mul_nonneg o.m o.w) (Int.ediv_nonneg (Int.le_of_lt hW) (Int.le_of_lt o.g))
    have := ih fun k hk => h k (by simp [hk])
    simp only [List.map_cons, sumI_cons]
    omega
theorem le_sum {W t : Int} {l : List Tk} (hW : 0 < W) (h : ∀ k ∈ l, k.Ok) (hd : ∀ k ∈ l, k.gap ∣ W) :
    lead W l + t * load W l ≤ W * sumI (l.map fun k => k.most * up (t + k.wait) k.gap) := by
  unfold lead load
  induction l with
  | nil => simp
  | cons k l ih =>
    have o := h k (by simp)
    obtain ⟨c, hc⟩ := hd k (by simp)
    have i := ih (fun k hk => h k (by simp [hk])) (fun k hk => hd k (by simp [hk]))
    have ec : W / k.gap = c := by rw [hc]; exact Int.mul_ediv_cancel_left c (Int.ne_of_gt o.g)
    have c0 : 0 ≤ c := by rw [← ec]; exact Int.ediv_nonneg (Int.le_of_lt hW) (Int.le_of_lt o.g)
    have u := up_ge (x := t + k.wait) o.g
    have u2 := Int.mul_le_mul_of_nonneg_left u (Int.mul_nonneg o.m c0)
    simp only [List.map_cons, sumI_cons, ec, Int.mul_add]
    have e1 : k.most * k.wait * c + t * (k.most * c) = k.most * c * (t + k.wait) := by
      rw [Int.mul_add]
      have a1 : k.most * k.wait * c = k.most * c * k.wait := by rw [Int.mul_assoc, Int.mul_comm k.wait c, ← Int.mul_assoc]
      have a2 : t * (k.most * c) = k.most * c * t := Int.mul_comm _ _
      omega
    have e2 : k.most * c * (k.gap * up (t + k.wait) k.gap) = W * (k.most * up (t + k.wait) k.gap) := by
      rw [hc]
      generalize up (t + k.wait) k.gap = z
      simp only [Int.mul_assoc, Int.mul_left_comm, Int.mul_comm]
    omega
theorem le_dem {first W t : Int} {l : List Tk} (hW : 0 < W) (h : ∀ k ∈ l, k.Ok) (hd : ∀ k ∈ l, k.gap ∣ W) : first * W + lead W l + t * load W l ≤ W * dem first l t := by
  have := le_sum (t := t) hW h hd
  unfold dem
  rw [Int.mul_add, Int.mul_comm W first]
  omega
theorem no_fix {first W k : Int} {l : List Tk} (hW : 0 < W) (h : ∀ k ∈ l, k.Ok) (hd : ∀ k ∈ l, k.gap ∣ W) (hf : 0 < first) (hk : 0 ≤ k) (hl : W ≤ load W l) : dem first l k ≠ k := fun e => by
  have a := le_dem (first := first) (t := k) hW h hd
  rw [e] at a
  have b := Int.mul_le_mul_of_nonneg_left hl hk
  have c := Int.mul_pos hf hW
  have d := lead_nonneg hW h
  have : W * k = k * W := Int.mul_comm _ _
  omega
def t0 (first W : Int) (l : List Tk) : Int := up (first * W + lead W l) (W - load W l)
theorem fix_ge {first W k : Int} {l : List Tk} (hW : 0 < W) (h : ∀ k ∈ l, k.Ok) (hd : ∀ k ∈ l, k.gap ∣ W) (hl : load W l < W) (e : dem first l k = k) : t0 first W l ≤ k := by
  have a := le_dem (first := first) (t := k) hW h hd
  rw [e] at a
  refine up_le (by omega) ?_
  rw [Int.sub_mul]
  have : load W l * k = k * load W l := Int.mul_comm _ _
  omega
theorem t0_le {first W : Int} {l : List Tk} (hW : 0 < W) (h : ∀ k ∈ l, k.Ok) (hd : ∀ k ∈ l, k.gap ∣ W) (hl : load W l < W) : t0 first W l ≤ dem first l (t0 first W l) := by
  have a := le_dem (first := first) (t := t0 first W l) hW h hd
  have b := up_lt (x := first * W + lead W l) (g := W - load W l) (by omega)
  have c := load_nonneg hW h
  change (W - load W l) * t0 first W l < _ at b
  refine Int.not_lt.mp fun hn => ?_
  have hn' : dem first l (t0 first W l) ≤ t0 first W l - 1 := by omega
  have d := Int.mul_le_mul_of_nonneg_left hn' (Int.le_of_lt hW)
  rw [Int.mul_sub, Int.mul_one] at d
  rw [Int.sub_mul] at b
  have : load W l * t0 first W l = t0 first W l * load W l := Int.mul_comm _ _
  omega
theorem t0_pos {first W : Int} {l : List Tk} (hW : 0 < W) (h : ∀ k ∈ l, k.Ok) (hf : 0 < first) (hl : load W l < W) : 0 < t0 first W l := by
  have a := up_ge (x := first * W + lead W l) (g := W - load W l) (by omega)
  change _ ≤ (W - load W l) * t0 first W l at a
  have b := Int.mul_pos hf hW
  have c := lead_nonneg hW h
  refine Int.not_le.mp fun hn => ?_
  have := Int.mul_le_mul_of_nonneg_left hn (show 0 ≤ W - load W l by omega)
  rw [Int.mul_zero] at this
  omega
/-- r tells the least number from 1 up to lim that is its own right side -/
def Least (first : Int) (l : List Tk) (lim : Int) : Option Int → Prop
  | none => ∀ k, 1 ≤ k → k ≤ lim → dem first l k ≠ k
  | some k => 1 ≤ k ∧ k ≤ lim ∧ dem first l k = k ∧ ∀ j, 1 ≤ j → j < k → dem first l j ≠ j
theorem Least.uniq {first lim : Int} {l : List Tk} : ∀ {r s : Option Int}, Least first l lim r → Least first l lim s → r = s
  | none, none, _, _ => rfl
  | none, some k, a, ⟨b1, b2, b3, _⟩ => absurd b3 (a k b1 b2)
  | some k, none, ⟨b1, b2, b3, _⟩, a => absurd b3 (a k b1 b2)
  | some k, some j, ⟨a1, a2, a3, a4⟩, ⟨b1, b2, b3, b4⟩ => by
    by_cases h : k < j
    · exact absurd a3 (b4 k a1 h)
    · by_cases h2 : j < k
      · exact absurd b3 (a4 j b1 h2)
      · congr 1; omega
/-- the whole numbers from a on, n of them -/
def rng (a : Int) : Nat → List Int
  | 0 => []
  | n + 1 => a :: rng (a + 1) n
theorem rng_least {first lim : Int} {l : List Tk} : ∀ {n : Nat} {a : Int}, 1 ≤ a → a + n = lim + 1 → (∀ j, 1 ≤ j → j < a → dem first l j ≠ j) → Least first l lim (((rng a n).filter fun k => dem first l k == k).head?)
  | 0, a, h1, h2, h3 => fun k k1 k2 => h3 k k1 (by omega)
  | n + 1, a, h1, h2, h3 => by
    unfold rng
    by_cases e : dem first l a = a
    · rw [List.filter_cons_of_pos (by simpa using e)]
      exact ⟨h1, by omega, e, h3⟩
    · rw [List.filter_cons_of_neg (by simpa using e)]
      refine rng_least (by omega) (by omega) fun j j1 j2 => ?_
      by_cases q : j = a
      · rw [q]; exact e
      · exact h3 j j1 (by omega)
end Sm
set_option Elab.async false
set_option linter.all false
set_option maxRecDepth 100000
set_option maxHeartbeats 4000000
open PySem PySem.Spec
namespace Sm
open L2 PySem.W
/-! ## evaluation by simp: every part, as it is applied -/
/-- a mark, by which simp leaves what follows alone till its turn comes -/
inductive Tg {γ : Type} (k : γ) : Type
  | mk
def tg {γ : Type} (k : γ) : Tg k := .mk
def Res.bnd {α β : Type} {k : α → Sto → Res β} (r : Res α) (_ : Tg k) : Res β := r.bind k
@[simp] theorem Res.bnd_ok {α β : Type} {k : α → Sto → Res β} {a : α} {S : Sto} {t : Tg k} : (Res.ok a S).bnd t = k a S := (rfl)
section
variable {env : Env} {S : Sto} {a b e : EV} {x y : SV} {t u : TV} {v z : AV} {g : GV}
@[simp] theorem ap_next : sNext env S = .ok (.nx env) S := (rfl)
@[simp] theorem ap_seq : sSeq x y env S = (x env S).bnd (tg fun fl S1 => match fl with
  | .nx env1 => y env1 S1
  | .bk env1 => .ok (.bk env1) S1
  | .ct env1 => .ok (.ct env1) S1
  | .rt d => .ok (.rt d) S1) := by unfold sSeq; congr 1; funext fl S1; cases fl <;> rfl
@[simp] theorem ap_drop : sDrop e env S = (e env S).bnd (tg fun _ S1 => .ok (.nx env) S1) := (rfl)
@[simp] theorem ap_ret : sRet e env S = (e env S).bnd (tg fun d S1 => .ok (.rt d) S1) := (rfl)
@[simp] theorem ap_if : sIf t x y env S = (t env S).bnd (tg fun k S1 => if k = true then x env S1 else y env S1) := (rfl)
@[simp] theorem ap_raise {C f : Str} : sRaise C f v env S = (v env S).bnd (tg fun ds S1 => match ds with | [d] => .exc C [f] [d] S1 | _ => .bad) := (rfl)
@[simp] theorem bnd_exc {α β : Type} {k : α → Sto → Res β} {C : Str} {ns : List Str} {es : List D} {t : Tg k} : (Res.exc C ns es S : Res α).bnd t = .exc C ns es S := (rfl)
@[simp] theorem ap_bad : sBad env S = .bad := (rfl)
@[simp] theorem ap_name {i : Nat} {d : D} : vName i d env = some (env.set i (some d)) := (rfl)
@[simp] theorem ap_nil : vNil [] env = some env := (rfl)
@[simp] theorem ap_cons {gs : List D → Env → Option Env} {d : D} {r : List D} : vCons g gs (d :: r) env = (g d env).bind (gs r) := (rfl)
@[simp] theorem ap_tup {n : Nat} {gs : List D → Env → Option Env} {ds : List D} : vTup n gs (.tup ds) env = if ds.length = n then gs ds env else none := (rfl)
@[simp] theorem ap_asg : sAsg e g env S = (e env S).bnd (tg fun d S1 => match g d env with | some env1 => .ok (.nx env1) S1 | none => .bad) := (rfl)
@[simp] theorem ap_for : sFor v g x env S = (v env S).bnd (tg fun ds S1 => forGo g x ds env S1) := (rfl)
theorem ap_V {i : Nat} : eV i env S = match env[i]? with | some (some d) => .ok d S | _ => .bad := (rfl)
@[simp] theorem ap_V0 {d : D} {r : Env} : eV 0 (some d :: r) S = .ok d S := (rfl)
@[simp] theorem ap_V1 {q0 : Option D} {d : D} {r : Env} : eV 1 (q0 :: some d :: r) S = .ok d S := (rfl)
@[simp] theorem ap_V2 {q0 q1 : Option D} {d : D} {r : Env} : eV 2 (q0 :: q1 :: some d :: r) S = .ok d S := (rfl)
@[simp] theorem ap_V3 {q0 q1 q2 : Option D} {d : D} {r : Env} : eV 3 (q0 :: q1 :: q2 :: some d :: r) S = .ok d S := (rfl)
@[simp] theorem ap_V4 {q0 q1 q2 q3 : Option D} {d : D} {r : Env} : eV 4 (q0 :: q1 :: q2 :: q3 :: some d :: r) S = .ok d S := (rfl)
@[simp] theorem ap_V5 {q0 q1 q2 q3 q4 : Option D} {d : D} {r : Env} : eV 5 (q0 :: q1 :: q2 :: q3 :: q4 :: some d :: r) S = .ok d S := (rfl)
@[simp] theorem ap_V6 {q0 q1 q2 q3 q4 q5 : Option D} {d : D} {r : Env} : eV 6 (q0 :: q1 :: q2 :: q3 :: q4 :: q5 :: some d :: r) S = .ok d S := (rfl)
@[simp] theorem ap_V7 {q0 q1 q2 q3 q4 q5 q6 : Option D} {d : D} {r : Env} : eV 7 (q0 :: q1 :: q2 :: q3 :: q4 :: q5 :: q6 :: some d :: r) S = .ok d S := (rfl)
@[simp] theorem ap_V8 {q0 q1 q2 q3 q4 q5 q6 q7 : Option D} {d : D} {r : Env} : eV 8 (q0 :: q1 :: q2 :: q3 :: q4 :: q5 :: q6 :: q7 :: some d :: r) S = .ok d S := (rfl)
@[simp] theorem ap_V9 {q0 q1 q2 q3 q4 q5 q6 q7 q8 : Option D} {d : D} {r : Env} : eV 9 (q0 :: q1 :: q2 :: q3 :: q4 :: q5 :: q6 :: q7 :: q8 :: some d :: r) S = .ok d S := (rfl)
@[simp] theorem ap_V10 {q0 q1 q2 q3 q4 q5 q6 q7 q8 q9 : Option D} {d : D} {r : Env} : eV 10 (q0 :: q1 :: q2 :: q3 :: q4 :: q5 :: q6 :: q7 :: q8 :: q9 :: some d :: r) S = .ok d S := (rfl)
@[simp] theorem ap_C {d : D} : eC d env S = .ok d S := (rfl)
@[simp] theorem ap_op {f : OV2} : eOp f a b env S = (a env S).bnd (tg fun p S1 => (b env S1).bnd (tg fun q S2 => noX (f p q S2))) := (rfl)
@[simp] theorem ap_un {f : OV1} : eUn f a env S = (a env S).bnd (tg fun p S1 => noX (f p S1)) := (rfl)
@[simp] theorem ap_ar {f : List D → Sto → Res D} : eAr f v env S = (v env S).bnd (tg fun p S1 => noX (f p S1)) := (rfl)
@[simp] theorem ap_tB : tB' e env S = (e env S).bnd (tg fun d S1 => match d with | .bl k => .ok k S1 | _ => .bad) := (rfl)
@[simp] theorem ap_tand : tvAnd t u env S = (t env S).bnd (tg fun k S1 => if k = true then u env S1 else .ok false S1) := (rfl)
@[simp] theorem ap_tor : tvOr t u env S = (t env S).bnd (tg fun k S1 => if k = true then .ok true S1 else u env S1) := (rfl)
@[simp] theorem ap_tnot : tvNot t env S = (t env S).bnd (tg fun k S1 => .ok (!k) S1) := (rfl)
@[simp] theorem ap_tyes : tvYes env S = .ok true S := (rfl)
@[simp] theorem ap_and : eAnd a b env S = (a env S).bnd (tg fun d S1 => match d with | .bl true => b env S1 | .bl false => .ok (.bl false) S1 | _ => .bad) := (rfl)
@[simp] theorem ap_or : eOr a b env S = (a env S).bnd (tg fun d S1 => match d with | .bl true => .ok (.bl true) S1 | .bl false => b env S1 | _ => .bad) := (rfl)
@[simp] theorem ap_eif : eIf t a b env S = (t env S).bnd (tg fun k S1 => if k = true then a env S1 else b env S1) := (rfl)
@[simp] theorem ap_anil : aNil env S = .ok [] S := (rfl)
@[simp] theorem ap_acons : aCons e v env S = (e env S).bnd (tg fun d S1 => (v env S1).bnd (tg fun ds S2 => .ok (d :: ds) S2)) := (rfl)
@[simp] theorem ap_etup : eTup v env S = (v env S).bnd (tg fun ds S1 => if ds.length ≤ 16777216 then .ok (.tup ds) S1 else .bad) := (rfl)
@[simp] theorem ap_elst : eLst v env S = (v env S).bnd (tg fun ds S1 => if ds.length ≤ 16777216 then .ok (.lst ds) S1 else .bad) := (rfl)
@[simp] theorem ap_ait {f : D → Option (List D)} : aIt f e env S = (e env S).bnd (tg fun d S1 => optR (f d) S1) := (rfl)
@[simp] theorem ap_arng {f : List D → Option (List D)} : aRng f v env S = (v env S).bnd (tg fun ds S1 => optR (f ds) S1) := (rfl)
@[simp] theorem ap_call {ev : List D → Sto → Res D} {n : Nat} : eCall ev n v env S = (v env S).bnd (tg fun ds S1 => if ds.length = n then ev ds S1 else .bad) := (rfl)
@[simp] theorem ap_callD {ev : List D → Sto → Res D} {n : Nat} {dd : List D} : eCallD ev n dd v env S = (v env S).bnd (tg fun ds S1 => if ds.length = n then ev (ds ++ dd) S1 else .bad) := (rfl)
@[simp] theorem ap_meth {C m : Str} {ev : List D → Sto → Res D} {n : Nat} : eMeth C m ev n a v env S = (a env S).bnd (tg fun p S1 => if isC C m p S1 = true then (v env S1).bnd (tg fun ds S2 => if ds.length = n then ev (p :: ds) S2 else .bad) else .bad) := (rfl)
@[simp] theorem ap_meth0 {C m : Str} {ev : List D → Sto → Res D} : eMeth0 C m ev a env S = (a env S).bnd (tg fun p S1 => if isC C m p S1 = true then ev [p] S1 else .bad) := (rfl)
@[simp] theorem ap_chain {f f' : OV2} : eChain f f' a b e env S = (a env S).bnd (tg fun p S1 => (b env S1).bnd (tg fun q S2 => (noX (f p q S2)).bnd (tg fun z S3 => match z with
  | .bl true => (e env S3).bnd (tg fun w S4 => noX (f' q w S4))
  | .bl false => .ok (.bl false) S3
  | _ => .bad))) := (rfl)
@[simp] theorem ap_lc {own : List Nat} : eLc own v g t e env S = (v env S).bnd (tg fun ds S1 => fin [] (lcGo g t e (wipeE env own) ds S1)) := (rfl)
@[simp] theorem ap_wipe0 : wipeE env [] = env := (rfl)
@[simp] theorem ap_wipe {i : Nat} {l : List Nat} : wipeE env (i :: l) = (wipeE env l).set i none := (rfl)
@[simp] theorem ap_fin {ys : List D} : fin [] (.ok ys S) = if ys.length ≤ 16777216 then .ok (.lst ys) S else .bad := (rfl)
@[simp] theorem ap_noX {α : Type} {r : α} : noX (.ok r S) = .ok r S := (rfl)
@[simp] theorem ap_some {α : Type} {r : α} : optR (some r) S = .ok r S := (rfl)
@[simp] theorem ap_fnK {n : Nat} {ds : List D} : fnK n x ds S = (x (ds.map some ++ List.replicate (n - ds.length) none) S).bnd (tg fun fl S1 => match fl with
  | .rt d => .ok d S1
  | .nx _ => .ok .non S1
  | .bk _ => .bad
  | .ct _ => .bad) := (rfl)
@[simp] theorem ap_fnT {n : Nat} {ds : List D} : fnT n x ds S = cutR S.length (fnK n x ds S) := (rfl)
@[simp] theorem ap_cut {d : D} : cutR S.length (.ok d S) = .ok d S := cut_same rfl
/-! data -/
variable {i j : Int} {s r : Str} {k l : Bool} {ds es : List D} {p q : D}
@[simp] theorem d_q2 {f : D → D → Option D} : q2 f p q S = optR (f p q) S := (rfl)
@[simp] theorem d_i2 {f : Int → Int → Option D} : i2 f (.int i) (.int j) = f i j := (rfl)
@[simp] theorem d_lt : fLt i j = some (.bl (decide (i < j))) := (rfl)
@[simp] theorem d_le : fLe i j = some (.bl (decide (i ≤ j))) := (rfl)
@[simp] theorem d_gt : fGt i j = some (.bl (decide (j < i))) := (rfl)
@[simp] theorem d_ge : fGe i j = some (.bl (decide (j ≤ i))) := (rfl)
@[simp] theorem d_sub : fSub i j = some (.int (i - j)) := (rfl)
@[simp] theorem d_add : dAdd (.int i) (.int j) = some (.int (i + j)) := (rfl)
@[simp] theorem d_adds : dAdd (.str s) (.str r) = if s.length + r.length ≤ 16777216 then some (.str (s ++ r)) else none := (rfl)
@[simp] theorem d_addl : dAdd (.lst ds) (.lst es) = if ds.length + es.length ≤ 16777216 then some (.lst (ds ++ es)) else none := (rfl)
@[simp] theorem d_neg : unNeg (.int i) S = .ok (.int (-i)) S := (rfl)
@[simp] theorem d_eqi : dEq (.int i) (.int j) = some (.bl (decide (i = j))) := by show some (D.bl (xor false _)) = _; rw [Bool.false_xor]
@[simp] theorem d_nei : dNe (.int i) (.int j) = some (.bl (!decide (i = j))) := by show some (D.bl (xor true _)) = _; rw [Bool.true_xor]
@[simp] theorem d_eqs : dEq (.str s) (.str r) = some (.bl (decide (s = r))) := by show some (D.bl (xor false _)) = _; rw [Bool.false_xor]
@[simp] theorem d_neb : dNe (.bl k) (.bl l) = some (.bl (!decide (k = l))) := by show some (D.bl (xor true _)) = _; rw [Bool.true_xor]
@[simp] theorem d_neni : dNe .non (.int j) = some (.bl true) := (rfl)
@[simp] theorem d_nein : dNe (.int j) .non = some (.bl true) := (rfl)
@[simp] theorem d_nenn : dNe .non .non = some (.bl false) := (rfl)
@[simp] theorem d_isn {d : D} : dIs d .non = some (.bl d.isNon) := by show some (D.bl (xor false _)) = _; rw [Bool.false_xor]
@[simp] theorem d_nisn {d : D} : dNis d .non = some (.bl (!d.isNon)) := by show some (D.bl (xor true _)) = _; rw [Bool.true_xor]
@[simp] theorem d_ist {m n : String} : dIs (.ty m) (.ty n) = some (.bl (decide (m = n))) := by show some (D.bl (xor false _)) = _; rw [Bool.false_xor]
@[simp] theorem d_nist {m n : String} : dNis (.ty m) (.ty n) = some (.bl (!decide (m = n))) := by show some (D.bl (xor true _)) = _; rw [Bool.true_xor]
@[simp] theorem d_isb : dIs (.bl k) (.bl l) = some (.bl (decide (k = l))) := (rfl)
@[simp] theorem n_non : D.isNon .non = true := (rfl)
@[simp] theorem n_int : D.isNon (.int i) = false := (rfl)
@[simp] theorem n_str : D.isNon (.str s) = false := (rfl)
@[simp] theorem y_int : dTyp [.int i] = some (.ty "int") := (rfl)
@[simp] theorem y_str : dTyp [.str s] = some (.ty "str") := (rfl)
@[simp] theorem y_tup : dTyp [.tup ds] = some (.ty "tuple") := (rfl)
@[simp] theorem y_lst : dTyp [.lst ds] = some (.ty "list") := (rfl)
@[simp] theorem s_lst : dSeq (.lst ds) = some ds := (rfl)
@[simp] theorem s_fix : dSeq (.fix ds) = some ds := (rfl)
@[simp] theorem s_tup : dSeq (.tup ds) = some ds := (rfl)
@[simp] theorem s_ktp : dSeq (.ktp ds) = some ds := (rfl)
@[simp] theorem q_lst : dSq (.lst ds) = some ds := (rfl)
@[simp] theorem q_tup : dSq (.tup ds) = some ds := (rfl)
@[simp] theorem l_str : dLen [.str s] = if s.length ≤ 16777216 then some (.int s.length) else none := (rfl)
@[simp] theorem l_lst : dLen [.lst ds] = some (.int ds.length) := (rfl)
@[simp] theorem l_fix : dLen [.fix ds] = some (.int ds.length) := (rfl)
@[simp] theorem l_tup : dLen [.tup ds] = some (.int ds.length) := (rfl)
@[simp] theorem x_max2 : dMax2 [.int i, .int j] = some (.int (if j > i then j else i)) := (rfl)
@[simp] theorem x_min2 : dMin2 [.int i, .int j] = some (.int (if j < i then j else i)) := (rfl)
@[simp] theorem q_qA {f : List D → Option D} : qA f ds S = optR (f ds) S := (rfl)
/-- an item of a list or a tuple -/
theorem ix_tup {n : Nat} (h : ds[n]? = some p) : dIx (.tup ds) (.int (n : Int)) = some p := by
  have hl := (List.getElem?_eq_some_iff.mp h).1
  have e : ixT (.tup ds) (.int (n : Int)) = some p := by
    show L2.atI ds (n : Int) = _
    unfold L2.atI
    have : L2.ixN ds.length (n : Int) = some n := by simp [L2.ixN, hl]
    rw [this]; simpa using h
  show alt2 ixT (alt2 ixL ixS) _ _ = _
  unfold alt2
  rw [e]
theorem ix_lst {n : Nat} (h : ds[n]? = some p) : dIx (.lst ds) (.int (n : Int)) = some p := by
  have hl := (List.getElem?_eq_some_iff.mp h).1
  have e : ixL (.lst ds) (.int (n : Int)) = some p := by
    show L2.atI ds (n : Int) = _
    unfold L2.atI
    have : L2.ixN ds.length (n : Int) = some n := by simp [L2.ixN, hl]
    rw [this]; simpa using h
  show alt2 ixT (alt2 ixL ixS) _ _ = _
  have e0 : ixT (.lst ds) (.int (n : Int)) = none := (rfl)
  unfold alt2
  rw [e0]
  simp only [e]
variable {c0 c1 c2 c3 c4 c5 c6 : D}
@[simp] theorem t7_0 : dIx (.tup (c0 :: ds)) (.int 0) = some c0 := ix_tup (n := 0) rfl
@[simp] theorem t7_1 : dIx (.tup (c0 :: c1 :: ds)) (.int 1) = some c1 := ix_tup (n := 1) rfl
@[simp] theorem t7_2 : dIx (.tup (c0 :: c1 :: c2 :: ds)) (.int 2) = some c2 := ix_tup (n := 2) rfl
@[simp] theorem t7_3 : dIx (.tup (c0 :: c1 :: c2 :: c3 :: ds)) (.int 3) = some c3 := ix_tup (n := 3) rfl
@[simp] theorem t7_4 : dIx (.tup (c0 :: c1 :: c2 :: c3 :: c4 :: ds)) (.int 4) = some c4 := ix_tup (n := 4) rfl
@[simp] theorem t7_5 : dIx (.tup (c0 :: c1 :: c2 :: c3 :: c4 :: c5 :: ds)) (.int 5) = some c5 := ix_tup (n := 5) rfl
@[simp] theorem t7_6 : dIx (.tup (c0 :: c1 :: c2 :: c3 :: c4 :: c5 :: c6 :: ds)) (.int 6) = some c6 := ix_tup (n := 6) rfl
@[simp] theorem l7_0 : dIx (.lst (c0 :: ds)) (.int 0) = some c0 := ix_lst (n := 0) rfl
end
/-! ## comprehensions over rows, nothing made -/
section
variable {α : Type} {enc f : α → D} {p : α → Bool} {g : GV} {t : TV} {e : EV} {env : Env} {S : Sto}
theorem lc_map : ∀ {xs : List α}, (∀ x ∈ xs, ∃ env1, g (enc x) env = some env1 ∧ t env1 S = .ok (p x) S ∧ (p x = true → e env1 S = .ok (f x) S)) → lcGo g t e env (xs.map enc) S = .ok ((xs.filter p).map f) S
  | [], _ => rfl
  | x :: xs, h => by
    obtain ⟨env1, h1, h2, h3⟩ := h x (by simp)
    have ih := lc_map (xs := xs) fun y hy => h y (by simp [hy])
    cases hp : p x with
    | true => simp only [List.map_cons, lcGo, h1, h2, h3 hp, hp, noX, Res.bind_ok, Res.bnd_ok, if_true, ih, List.filter_cons]
    | false => simp only [List.map_cons, lcGo, h1, h2, hp, noX, Res.bind_ok, Res.bnd_ok, ih, List.filter_cons, Bool.false_eq_true, if_false]
theorem lc_all {xs : List α} (h : ∀ x ∈ xs, ∃ env1, g (enc x) env = some env1 ∧ t env1 S = .ok true S ∧ e env1 S = .ok (f x) S) : lcGo g t e env (xs.map enc) S = .ok (xs.map f) S := by
  have := lc_map (p := fun _ => true) (xs := xs) fun x hx => let ⟨a, b, c, d⟩ := h x hx; ⟨a, b, c, fun _ => d⟩
  rw [this, List.filter_eq_self.mpr (by simp)]
end
theorem ints_map (l : List Int) : D.ints (l.map D.int) = some l := by
  induction l with
  | nil => rfl
  | cons a l ih => show (D.ints (l.map D.int)).map _ = _; rw [ih]; rfl
theorem bls_map (l : List Bool) : D.bls (l.map D.bl) = some l := by
  induction l with
  | nil => rfl
  | cons a l ih => show (D.bls (l.map D.bl)).map _ = _; rw [ih]; rfl
theorem sum_map (l : List Int) : dSum [.lst (l.map D.int)] = some (.int (sumI l)) := by
  show (D.ints (l.map D.int)).map _ = _
  rw [ints_map]
  rfl
theorem all_map (l : List Bool) : dAll [.lst (l.map D.bl)] = some (.bl (l.all id)) := by
  show (D.bls (l.map D.bl)).map _ = _
  rw [bls_map]
  rfl
end Sm
set_option Elab.async false
set_option linter.all false
set_option maxRecDepth 100000
set_option maxHeartbeats 4000000
open PySem PySem.Spec
namespace Sm
open L2 PySem.W
def tapeKs : List Key := [.inr "cells", .inr "spot", .inr "rest"]
def tapeM (cells : List Int) (a l : Int) : MO := .dic tapeKs [.lst (cells.map D.int), .int a, .int l]
section
variable {S : Sto} {p : Nat} {cells : List Int} {a l b many : Int}
theorem t_cells (h : S[p]? = some (tapeM cells a l)) : dGetS (.hnd p) (.str "cells") S = .ok (.lst (cells.map D.int)) S := by
  simp only [dGetS, dicOf, h, tapeM]; rfl
theorem t_spot (h : S[p]? = some (tapeM cells a l)) : dGetS (.hnd p) (.str "spot") S = .ok (.int a) S := by
  simp only [dGetS, dicOf, h, tapeM]; rfl
theorem t_rest (h : S[p]? = some (tapeM cells a l)) : dGetS (.hnd p) (.str "rest") S = .ok (.int l) S := by
  simp only [dGetS, dicOf, h, tapeM]; rfl
theorem tp_spot (h : S[p]? = some (tapeM cells a l)) : dPutS (.hnd p) (.str "spot") (.int b) S = some (S.set p (tapeM cells b l)) := by
  simp only [dPutS, h, tapeM]; rfl
theorem tp_rest (h : S[p]? = some (tapeM cells a l)) : dPutS (.hnd p) (.str "rest") (.int b) S = some (S.set p (tapeM cells a b)) := by
  simp only [dPutS, h, tapeM]; rfl
theorem ap_put {f : D → D → D → Sto → Option Sto} {o i e : EV} {env : Env} : sPut f o i e env S = (e env S).bnd (tg fun d S1 => (o env S1).bnd (tg fun x S2 => (i env S2).bnd (tg fun y S3 => match f x y d S3 with | some S4 => .ok (.nx env) S4 | none => .bad))) := by
  unfold sPut
  rfl
theorem fMod_ok {i j : Int} (h : 0 < j) : fMod i j = some (.int (i % j)) := if_pos h
theorem fDiv_ok {i j : Int} (h : 0 < j) (h2 : j < 1073741824) : fDiv i j = some (.int (i / j)) := if_pos ⟨h, big_lim (by omega) (by omega)⟩
theorem tape_left (h : S[p]? = some (tapeM cells a l)) (hl : 0 < l) (h4 : 0 < many) (h5 : many < 1073741824) :
    m__law_draw [.hnd p, .int many] S = .ok (.int (l % many)) (S.set p (tapeM cells a (l / many))) := by
  have e1 := t_rest h
  have e2 := tp_rest (b := l / many) h
  have e3 := fMod_ok (i := l) h4
  have e4 := fDiv_ok (i := l) h4 h5
  have e5 : decide (0 < l) = true := decide_eq_true hl
  unfold m__law_draw
  refine fnT_rt ?_ (by simp)
  simp only [ap_fnK, List.map_cons, List.map_nil, List.length_cons, List.length_nil, Nat.reduceAdd, Nat.reduceSub, List.replicate, List.cons_append, List.nil_append, ap_next, ap_seq, ap_drop, ap_ret, ap_if, ap_name, ap_nil, ap_cons, ap_tup, ap_asg, ap_for, ap_V0, ap_V1, ap_V2, ap_V3, ap_V4, ap_V5, ap_V6, ap_V7, ap_V8, ap_V9, ap_V10, ap_C, ap_op, ap_un, ap_ar, ap_tB, ap_tand, ap_tor, ap_tnot, ap_tyes, ap_and, ap_or, ap_eif, ap_anil, ap_acons, ap_etup, ap_elst, ap_ait, ap_arng, ap_call, ap_callD, ap_meth, ap_meth0, ap_lc, ap_wipe0, ap_wipe, ap_fin, ap_noX, ap_some, Res.bind_ok, Res.bnd_ok, List.set_cons_succ, List.set_cons_zero, Option.bind_some, d_q2, d_i2, q_qA, s_lst, s_fix, s_tup, s_ktp, q_lst, q_tup, l_lst, l_fix, l_tup, d_lt, d_le, d_gt, d_ge, d_sub, d_add, d_eqi, d_nei, d_isn, d_nisn, n_non, n_int, n_str, x_max2, x_min2, decide_true, decide_false, if_true, ↓reduceIte, Bool.false_eq_true, Nat.reduceLeDiff, e1, e2, e3, e4, e5, ap_put]
end
theorem py_ints : ∀ cells : List Int, Ds.py (cells.map D.int) = some (cells.map PyData.int)
  | [] => rfl
  | c :: cs => by
    show (match D.py (D.int c), Ds.py (cs.map D.int) with | some p, some ps => some (p :: ps) | _, _ => none) = _
    rw [py_ints cs]; rfl
theorem ne_nil {cells : List Int} : dNe (.lst (cells.map D.int)) (.lst []) = some (.bl (!cells.isEmpty)) := by
  have e1 : D.py (.lst (cells.map D.int)) = some (.list (cells.map PyData.int)) := by
    show (Ds.py (cells.map D.int)).map PyData.list = _
    rw [py_ints]; rfl
  have e2 : D.py (.lst []) = some (.list []) := rfl
  unfold dNe alt2
  have e3 : eqF true (.lst (cells.map D.int)) (.lst []) = none := rfl
  rw [e3]
  show eqP true _ _ = _
  unfold eqP
  rw [e1, e2]
  have l1 : SeqAt.shaped (.list (cells.map PyData.int)) = true := by
    unfold SeqAt.shaped
    have d0 : (PyData.list (cells.map PyData.int)).depth ≤ 64 := by
      show PyData.depthAll (cells.map PyData.int) + 1 ≤ 64
      rw [depth_ints]; omega
    have c0 : (PyData.list (cells.map PyData.int)).canLay0 = true := by
      show PyData.canLayAll0 (cells.map PyData.int) = true
      clear e1 e3 d0
      induction cells with
      | nil => rfl
      | cons c cs ih => simpa [PyData.canLayAll0, PyData.canLay0] using ih
    rw [c0]; simpa using d0
  have l2 : SeqAt.shaped (.list []) = true := by decide
  show (if SeqAt.shaped (PyData.list (cells.map PyData.int)) = true ∧ SeqAt.shaped (PyData.list []) = true then some (D.bl (true ^^ PyData.eqv (.list (cells.map PyData.int)) (.list []))) else none) = _
  rw [if_pos ⟨l1, l2⟩]
  cases cells with
  | nil => rfl
  | cons c cs => rfl
theorem mod_len {a : Int} {n : Nat} (hn : 0 < n) : ∃ j : Nat, a % (n : Int) = (j : Int) ∧ j < n := by
  have h1 : 0 ≤ a % (n : Int) := Int.emod_nonneg _ (by omega)
  have h2 : a % (n : Int) < n := Int.emod_lt_of_pos _ (by omega)
  exact ⟨(a % (n : Int)).toNat, by omega, by omega⟩
theorem ixN_nat {n j : Nat} (h : j < n) : L2.ixN n (j : Int) = some j := by
  simp [L2.ixN, h]
theorem ix_cells {cells : List Int} {a : Int} (h : cells ≠ []) : ∃ c, dIx (.lst (cells.map D.int)) (.int (a % (cells.length : Int))) = some (.int c) := by
  obtain ⟨j, e, hj⟩ := mod_len (a := a) (n := cells.length) (List.length_pos_iff.mpr h)
  refine ⟨cells[j], ?_⟩
  rw [e]
  have e1 : ixL (.lst (cells.map D.int)) (.int (j : Int)) = some (.int cells[j]) := by
    show (L2.atI (cells.map D.int) (j : Int)) = _
    unfold L2.atI
    rw [List.length_map, ixN_nat hj]
    simp [hj]
  show alt2 ixT (alt2 ixL ixS) _ _ = _
  have e0 : ixT (.lst (cells.map D.int)) (.int (j : Int)) = none := rfl
  unfold alt2
  rw [e0]
  simp only [e1]

theorem fMul_ok {i j : Int} (h1 : -18446744073709551616 < i) (h2 : i < 18446744073709551616) : fMul i j = some (.int (i * j)) := if_pos (.inl (.inl ⟨h1, h2⟩))
theorem fMul_ok2 {i j : Int} (h1 : -18446744073709551616 < j) (h2 : j < 18446744073709551616) : fMul i j = some (.int (i * j)) := if_pos (.inl (.inr ⟨h1, h2⟩))
theorem p18 : fPow 10 18 = some (.int 1000000000000000000) := by simp [fPow]
section
variable {S : Sto} {p : Nat} {cells : List Int} {a l b many cell : Int}
def tmix (cell a : Int) : Int :=
  let n := (cell % 2147483647 * 48271 + 7919 * a * a + 31 * a + 5) % 2147483629
  let m := (n * n + 69621 * n + a) % 2147483587
  m * (m % 40699 + 3) % 2147483563 / 64
theorem tape_tail (hlt : p < S.length) (a0 : 0 ≤ a) (ha : a < 4611686018427387904) (h4 : 0 < many) (h5 : many < 1073741824) : ∃ r l' : Int, ((sSeq (sIf (tvAnd (tB' (eOp (q2 (i2 fGe)) (eV 4) (eOp (q2 (i2 fPow)) (eC (.int 10)) (eC (.int 18))))) (tB' (eOp (q2 (i2 fLt)) (eV 3) (eAr (qA dLen) (aCons (eOp dGetS (eV 0) (eC (.str "cells"))) aNil))))) (sSeq (sPut dPutS (eV 0) (eC (.str "rest")) (eOp (q2 (i2 fDiv)) (eOp (q2 (i2 fSub)) (eV 4) (eOp (q2 (i2 fPow)) (eC (.int 10)) (eC (.int 18)))) (eV 1))) (sRet (eOp (q2 (i2 fMod)) (eOp (q2 (i2 fSub)) (eV 4) (eOp (q2 (i2 fPow)) (eC (.int 10)) (eC (.int 18)))) (eV 1)))) sNext) (sSeq (sSet 5 (eOp (q2 (i2 fMod)) (eOp (q2 dAdd) (eOp (q2 dAdd) (eOp (q2 dAdd) (eOp (q2 (i2 fMul)) (eOp (q2 (i2 fMod)) (eV 4) (eC (.int 2147483647))) (eC (.int 48271))) (eOp (q2 (i2 fMul)) (eOp (q2 (i2 fMul)) (eC (.int 7919)) (eV 3)) (eV 3))) (eOp (q2 (i2 fMul)) (eC (.int 31)) (eV 3))) (eC (.int 5))) (eC (.int 2147483629)))) (sSeq (sSet 5 (eOp (q2 (i2 fMod)) (eOp (q2 dAdd) (eOp (q2 dAdd) (eOp (q2 (i2 fMul)) (eV 5) (eV 5)) (eOp (q2 (i2 fMul)) (eC (.int 69621)) (eV 5))) (eV 3)) (eC (.int 2147483587)))) (sRet (eOp (q2 (i2 fMod)) (eOp (q2 (i2 fDiv)) (eOp (q2 (i2 fMod)) (eOp (q2 (i2 fMul)) (eV 5) (eOp (q2 dAdd) (eOp (q2 (i2 fMod)) (eV 5) (eC (.int 40699))) (eC (.int 3)))) (eC (.int 2147483563))) (eC (.int 64))) (eV 1))))))) [some (.hnd p), some (.int many), none, some (.int a), some (.int cell), none] (S.set p (tapeM cells (a + 1) 0))
      = .ok (.rt (.int r)) (S.set p (tapeM cells (a + 1) l')) ∧ 0 ≤ r ∧ r < many ∧ 0 ≤ l' := by
  have h1 : (S.set p (tapeM cells (a + 1) 0))[p]? = some (tapeM cells (a + 1) 0) := List.getElem?_set_self hlt
  have g1 := t_cells h1
  have e3 := fMod_ok (i := cell - 1000000000000000000) h4
  have e4 := fDiv_ok (i := cell - 1000000000000000000) h4 h5
  have e2 := tp_rest (b := (cell - 1000000000000000000) / many) h1
  rw [List.set_set] at e2
  have f0 : ∀ x : Int, 0 ≤ x % 2147483629 ∧ x % 2147483629 < 2147483629 := fun x => ⟨Int.emod_nonneg _ (by omega), Int.emod_lt_of_pos _ (by omega)⟩
  have f1 : ∀ x : Int, 0 ≤ x % 2147483587 ∧ x % 2147483587 < 2147483587 := fun x => ⟨Int.emod_nonneg _ (by omega), Int.emod_lt_of_pos _ (by omega)⟩
  have m1 : ∀ x : Int, fMod x 2147483647 = some (.int (x % 2147483647)) := fun x => fMod_ok (by omega)
  have m2 : ∀ x : Int, fMod x 2147483629 = some (.int (x % 2147483629)) := fun x => fMod_ok (by omega)
  have m3 : ∀ x : Int, fMod x 2147483587 = some (.int (x % 2147483587)) := fun x => fMod_ok (by omega)
  have m4 : ∀ x : Int, fMod x 40699 = some (.int (x % 40699)) := fun x => fMod_ok (by omega)
  have m5 : ∀ x : Int, fMod x 2147483563 = some (.int (x % 2147483563)) := fun x => fMod_ok (by omega)
  have m6 : ∀ x : Int, fMod x many = some (.int (x % many)) := fun x => fMod_ok h4
  have u1 : ∀ x : Int, fMul x 48271 = some (.int (x * 48271)) := fun x => fMul_ok2 (by omega) (by omega)
  have u2 : ∀ x : Int, fMul 7919 x = some (.int (7919 * x)) := fun x => fMul_ok (by omega) (by omega)
  have u3 : ∀ x : Int, fMul x a = some (.int (x * a)) := fun x => fMul_ok2 (by omega) (by omega)
  have u4 : ∀ x : Int, fMul 31 x = some (.int (31 * x)) := fun x => fMul_ok (by omega) (by omega)
  have u5 : ∀ x y : Int, fMul (x % 2147483629) y = some (.int (x % 2147483629 * y)) := fun x y => fMul_ok (by have := f0 x; omega) (by have := f0 x; omega)
  have u6 : ∀ x : Int, fMul 69621 x = some (.int (69621 * x)) := fun x => fMul_ok (by omega) (by omega)
  have u7 : ∀ x y : Int, fMul (x % 2147483587) y = some (.int (x % 2147483587 * y)) := fun x y => fMul_ok (by have := f1 x; omega) (by have := f1 x; omega)
  have v1 : ∀ x : Int, fDiv x 64 = some (.int (x / 64)) := fun x => fDiv_ok (by omega) (by omega)
  generalize hZ : S.set p (tapeM cells (a + 1) 0) = Z at *
  generalize cells.map D.int = L at *
  by_cases c : 1000000000000000000 ≤ cell
  · have c1 : decide (1000000000000000000 ≤ cell) = true := decide_eq_true c
    by_cases d : a < (L.length : Int)
    · have d1 : decide (a < (L.length : Int)) = true := decide_eq_true d
      refine ⟨(cell - 1000000000000000000) % many, (cell - 1000000000000000000) / many, ?_, Int.emod_nonneg _ (by omega), Int.emod_lt_of_pos _ h4, Int.ediv_nonneg (by omega) (by omega)⟩
      simp only [ap_fnK, List.map_cons, List.map_nil, List.length_cons, List.length_nil, Nat.reduceAdd, Nat.reduceSub, List.replicate, List.cons_append, List.nil_append, ap_next, ap_seq, ap_drop, ap_ret, ap_if, ap_name, ap_nil, ap_cons, ap_tup, ap_asg, ap_for, ap_V0, ap_V1, ap_V2, ap_V3, ap_V4, ap_V5, ap_V6, ap_V7, ap_V8, ap_V9, ap_V10, ap_C, ap_op, ap_un, ap_ar, ap_tB, ap_tand, ap_tor, ap_tnot, ap_tyes, ap_and, ap_or, ap_eif, ap_anil, ap_acons, ap_etup, ap_elst, ap_ait, ap_arng, ap_call, ap_callD, ap_meth, ap_meth0, ap_lc, ap_wipe0, ap_wipe, ap_fin, ap_noX, ap_some, Res.bind_ok, Res.bnd_ok, List.set_cons_succ, List.set_cons_zero, Option.bind_some, d_q2, d_i2, q_qA, s_lst, s_fix, s_tup, s_ktp, q_lst, q_tup, l_lst, l_fix, l_tup, d_lt, d_le, d_gt, d_ge, d_sub, d_add, d_eqi, d_nei, d_isn, d_nisn, n_non, n_int, n_str, x_max2, x_min2, decide_true, decide_false, if_true, ↓reduceIte, Bool.false_eq_true, Nat.reduceLeDiff, g1, p18, c1, d1, e3, e4, e2, ap_put]
    · have d1 : decide (a < (L.length : Int)) = false := decide_eq_false d
      refine ⟨tmix cell a % many, 0, ?_, Int.emod_nonneg _ (by omega), Int.emod_lt_of_pos _ h4, Int.le_refl _⟩
      rw [hZ]
      simp only [ap_fnK, List.map_cons, List.map_nil, List.length_cons, List.length_nil, Nat.reduceAdd, Nat.reduceSub, List.replicate, List.cons_append, List.nil_append, ap_next, ap_seq, ap_drop, ap_ret, ap_if, ap_name, ap_nil, ap_cons, ap_tup, ap_asg, ap_for, ap_V0, ap_V1, ap_V2, ap_V3, ap_V4, ap_V5, ap_V6, ap_V7, ap_V8, ap_V9, ap_V10, ap_C, ap_op, ap_un, ap_ar, ap_tB, ap_tand, ap_tor, ap_tnot, ap_tyes, ap_and, ap_or, ap_eif, ap_anil, ap_acons, ap_etup, ap_elst, ap_ait, ap_arng, ap_call, ap_callD, ap_meth, ap_meth0, ap_lc, ap_wipe0, ap_wipe, ap_fin, ap_noX, ap_some, Res.bind_ok, Res.bnd_ok, List.set_cons_succ, List.set_cons_zero, Option.bind_some, d_q2, d_i2, q_qA, s_lst, s_fix, s_tup, s_ktp, q_lst, q_tup, l_lst, l_fix, l_tup, d_lt, d_le, d_gt, d_ge, d_sub, d_add, d_eqi, d_nei, d_isn, d_nisn, n_non, n_int, n_str, x_max2, x_min2, decide_true, decide_false, if_true, ↓reduceIte, Bool.false_eq_true, Nat.reduceLeDiff, g1, p18, c1, d1, m1, m2, m3, m4, m5, m6, u1, u2, u3, u4, u5, u6, u7, v1, tmix]
  · have c1 : decide (1000000000000000000 ≤ cell) = false := decide_eq_false c
    refine ⟨tmix cell a % many, 0, ?_, Int.emod_nonneg _ (by omega), Int.emod_lt_of_pos _ h4, Int.le_refl _⟩
    rw [hZ]
    simp only [ap_fnK, List.map_cons, List.map_nil, List.length_cons, List.length_nil, Nat.reduceAdd, Nat.reduceSub, List.replicate, List.cons_append, List.nil_append, ap_next, ap_seq, ap_drop, ap_ret, ap_if, ap_name, ap_nil, ap_cons, ap_tup, ap_asg, ap_for, ap_V0, ap_V1, ap_V2, ap_V3, ap_V4, ap_V5, ap_V6, ap_V7, ap_V8, ap_V9, ap_V10, ap_C, ap_op, ap_un, ap_ar, ap_tB, ap_tand, ap_tor, ap_tnot, ap_tyes, ap_and, ap_or, ap_eif, ap_anil, ap_acons, ap_etup, ap_elst, ap_ait, ap_arng, ap_call, ap_callD, ap_meth, ap_meth0, ap_lc, ap_wipe0, ap_wipe, ap_fin, ap_noX, ap_some, Res.bind_ok, Res.bnd_ok, List.set_cons_succ, List.set_cons_zero, Option.bind_some, d_q2, d_i2, q_qA, s_lst, s_fix, s_tup, s_ktp, q_lst, q_tup, l_lst, l_fix, l_tup, d_lt, d_le, d_gt, d_ge, d_sub, d_add, d_eqi, d_nei, d_isn, d_nisn, n_non, n_int, n_str, x_max2, x_min2, decide_true, decide_false, if_true, ↓reduceIte, Bool.false_eq_true, Nat.reduceLeDiff, g1, p18, c1, m1, m2, m3, m4, m5, m6, u1, u2, u3, u4, u5, u6, u7, v1, tmix]
theorem tape_next (h : S[p]? = some (tapeM cells a 0)) (a0 : 0 ≤ a) (ha : a < 4611686018427387904) (h4 : 0 < many) (h5 : many < 1073741824) :
    ∃ r l' : Int, m__law_draw [.hnd p, .int many] S = .ok (.int r) (S.set p (tapeM cells (a + 1) l')) ∧ 0 ≤ r ∧ r < many ∧ 0 ≤ l' := by
  have hlt : p < S.length := (List.getElem?_eq_some_iff.mp h).1
  have e1 := t_rest h
  have e2 := t_spot h
  have e3 := tp_spot (b := a + 1) h
  have h1 : (S.set p (tapeM cells (a + 1) 0))[p]? = some (tapeM cells (a + 1) 0) := List.getElem?_set_self hlt
  have g1 := t_cells h1
  have z0 : decide ((0 : Int) < 0) = false := rfl
  have zl : (0 : Nat) ≤ 16777216 := Nat.zero_le _
  cases hc : cells with
  | nil =>
    subst hc
    obtain ⟨r, l', e, r1, r2, r3⟩ := tape_tail (cells := []) (cell := 11 + a) hlt a0 ha h4 h5
    refine ⟨r, l', ?_, r1, r2, r3⟩
    have n0 := ne_nil (cells := [])
    unfold m__law_draw
    refine fnT_rt ?_ (by simp)
    generalize ((sSeq (sIf (tvAnd (tB' (eOp (q2 (i2 fGe)) (eV 4) (eOp (q2 (i2 fPow)) (eC (.int 10)) (eC (.int 18))))) (tB' (eOp (q2 (i2 fLt)) (eV 3) (eAr (qA dLen) (aCons (eOp dGetS (eV 0) (eC (.str "cells"))) aNil))))) (sSeq (sPut dPutS (eV 0) (eC (.str "rest")) (eOp (q2 (i2 fDiv)) (eOp (q2 (i2 fSub)) (eV 4) (eOp (q2 (i2 fPow)) (eC (.int 10)) (eC (.int 18)))) (eV 1))) (sRet (eOp (q2 (i2 fMod)) (eOp (q2 (i2 fSub)) (eV 4) (eOp (q2 (i2 fPow)) (eC (.int 10)) (eC (.int 18)))) (eV 1)))) sNext) (sSeq (sSet 5 (eOp (q2 (i2 fMod)) (eOp (q2 dAdd) (eOp (q2 dAdd) (eOp (q2 dAdd) (eOp (q2 (i2 fMul)) (eOp (q2 (i2 fMod)) (eV 4) (eC (.int 2147483647))) (eC (.int 48271))) (eOp (q2 (i2 fMul)) (eOp (q2 (i2 fMul)) (eC (.int 7919)) (eV 3)) (eV 3))) (eOp (q2 (i2 fMul)) (eC (.int 31)) (eV 3))) (eC (.int 5))) (eC (.int 2147483629)))) (sSeq (sSet 5 (eOp (q2 (i2 fMod)) (eOp (q2 dAdd) (eOp (q2 dAdd) (eOp (q2 (i2 fMul)) (eV 5) (eV 5)) (eOp (q2 (i2 fMul)) (eC (.int 69621)) (eV 5))) (eV 3)) (eC (.int 2147483587)))) (sRet (eOp (q2 (i2 fMod)) (eOp (q2 (i2 fDiv)) (eOp (q2 (i2 fMod)) (eOp (q2 (i2 fMul)) (eV 5) (eOp (q2 dAdd) (eOp (q2 (i2 fMod)) (eV 5) (eC (.int 40699))) (eC (.int 3)))) (eC (.int 2147483563))) (eC (.int 64))) (eV 1))))))) = REST at e ⊢
    generalize hZ : S.set p (tapeM [] (a + 1) 0) = Z at *
    generalize ([] : List Int).map D.int = L at *
    simp only [ap_fnK, List.map_cons, List.map_nil, List.length_cons, List.length_nil, Nat.reduceAdd, Nat.reduceSub, List.replicate, List.cons_append, List.nil_append, ap_next, ap_seq, ap_drop, ap_ret, ap_if, ap_name, ap_nil, ap_cons, ap_tup, ap_asg, ap_for, ap_V0, ap_V1, ap_V2, ap_V3, ap_V4, ap_V5, ap_V6, ap_V7, ap_V8, ap_V9, ap_V10, ap_C, ap_op, ap_un, ap_ar, ap_tB, ap_tand, ap_tor, ap_tnot, ap_tyes, ap_and, ap_or, ap_eif, ap_anil, ap_acons, ap_etup, ap_elst, ap_ait, ap_arng, ap_call, ap_callD, ap_meth, ap_meth0, ap_lc, ap_wipe0, ap_wipe, ap_fin, ap_noX, ap_some, Res.bind_ok, Res.bnd_ok, List.set_cons_succ, List.set_cons_zero, Option.bind_some, d_q2, d_i2, q_qA, s_lst, s_fix, s_tup, s_ktp, q_lst, q_tup, l_lst, l_fix, l_tup, d_lt, d_le, d_gt, d_ge, d_sub, d_add, d_eqi, d_nei, d_isn, d_nisn, n_non, n_int, n_str, x_max2, x_min2, decide_true, decide_false, if_true, ↓reduceIte, Bool.false_eq_true, Nat.reduceLeDiff, e1, z0, e2, e3, ap_put, g1, n0, List.isEmpty_nil, Bool.not_true, e]
  | cons c cs =>
    obtain ⟨x, hx⟩ := ix_cells (cells := cells) (a := a) (by rw [hc]; simp)
    obtain ⟨r, l', e, r1, r2, r3⟩ := tape_tail (cells := cells) (cell := x) hlt a0 ha h4 h5
    rw [← hc]
    refine ⟨r, l', ?_, r1, r2, r3⟩
    have n0 : dNe (.lst (cells.map D.int)) (.lst []) = some (.bl true) := by rw [ne_nil, hc]; rfl
    have m0 : fMod a ((cells.map D.int).length : Nat) = some (.int (a % (cells.length : Int))) := by
      rw [List.length_map]
      exact fMod_ok (by rw [hc]; simp)
    unfold m__law_draw
    refine fnT_rt ?_ (by simp)
    generalize ((sSeq (sIf (tvAnd (tB' (eOp (q2 (i2 fGe)) (eV 4) (eOp (q2 (i2 fPow)) (eC (.int 10)) (eC (.int 18))))) (tB' (eOp (q2 (i2 fLt)) (eV 3) (eAr (qA dLen) (aCons (eOp dGetS (eV 0) (eC (.str "cells"))) aNil))))) (sSeq (sPut dPutS (eV 0) (eC (.str "rest")) (eOp (q2 (i2 fDiv)) (eOp (q2 (i2 fSub)) (eV 4) (eOp (q2 (i2 fPow)) (eC (.int 10)) (eC (.int 18)))) (eV 1))) (sRet (eOp (q2 (i2 fMod)) (eOp (q2 (i2 fSub)) (eV 4) (eOp (q2 (i2 fPow)) (eC (.int 10)) (eC (.int 18)))) (eV 1)))) sNext) (sSeq (sSet 5 (eOp (q2 (i2 fMod)) (eOp (q2 dAdd) (eOp (q2 dAdd) (eOp (q2 dAdd) (eOp (q2 (i2 fMul)) (eOp (q2 (i2 fMod)) (eV 4) (eC (.int 2147483647))) (eC (.int 48271))) (eOp (q2 (i2 fMul)) (eOp (q2 (i2 fMul)) (eC (.int 7919)) (eV 3)) (eV 3))) (eOp (q2 (i2 fMul)) (eC (.int 31)) (eV 3))) (eC (.int 5))) (eC (.int 2147483629)))) (sSeq (sSet 5 (eOp (q2 (i2 fMod)) (eOp (q2 dAdd) (eOp (q2 dAdd) (eOp (q2 (i2 fMul)) (eV 5) (eV 5)) (eOp (q2 (i2 fMul)) (eC (.int 69621)) (eV 5))) (eV 3)) (eC (.int 2147483587)))) (sRet (eOp (q2 (i2 fMod)) (eOp (q2 (i2 fDiv)) (eOp (q2 (i2 fMod)) (eOp (q2 (i2 fMul)) (eV 5) (eOp (q2 dAdd) (eOp (q2 (i2 fMod)) (eV 5) (eC (.int 40699))) (eC (.int 3)))) (eC (.int 2147483563))) (eC (.int 64))) (eV 1))))))) = REST at e ⊢
    generalize hZ : S.set p (tapeM cells (a + 1) 0) = Z at *
    generalize cells.map D.int = L at *
    simp only [ap_fnK, List.map_cons, List.map_nil, List.length_cons, List.length_nil, Nat.reduceAdd, Nat.reduceSub, List.replicate, List.cons_append, List.nil_append, ap_next, ap_seq, ap_drop, ap_ret, ap_if, ap_name, ap_nil, ap_cons, ap_tup, ap_asg, ap_for, ap_V0, ap_V1, ap_V2, ap_V3, ap_V4, ap_V5, ap_V6, ap_V7, ap_V8, ap_V9, ap_V10, ap_C, ap_op, ap_un, ap_ar, ap_tB, ap_tand, ap_tor, ap_tnot, ap_tyes, ap_and, ap_or, ap_eif, ap_anil, ap_acons, ap_etup, ap_elst, ap_ait, ap_arng, ap_call, ap_callD, ap_meth, ap_meth0, ap_lc, ap_wipe0, ap_wipe, ap_fin, ap_noX, ap_some, Res.bind_ok, Res.bnd_ok, List.set_cons_succ, List.set_cons_zero, Option.bind_some, d_q2, d_i2, q_qA, s_lst, s_fix, s_tup, s_ktp, q_lst, q_tup, l_lst, l_fix, l_tup, d_lt, d_le, d_gt, d_ge, d_sub, d_add, d_eqi, d_nei, d_isn, d_nisn, n_non, n_int, n_str, x_max2, x_min2, decide_true, decide_false, if_true, ↓reduceIte, Bool.false_eq_true, Nat.reduceLeDiff, e1, z0, e2, e3, ap_put, g1, n0, m0, hx, e]
/-- a tape stands at p, at most b cells on -/
def Tape (p : Nat) (b : Int) (S : Sto) : Prop := ∃ cells a l, S[p]? = some (tapeM cells a l) ∧ 0 ≤ a ∧ a ≤ b ∧ 0 ≤ l
end
/-- nothing but the thing at p is another -/
def Off (p : Nat) (S S' : Sto) : Prop := S'.length = S.length ∧ ∀ i, i ≠ p → S'[i]? = S[i]?
theorem Off.refl {p : Nat} {S : Sto} : Off p S S := ⟨rfl, fun _ _ => rfl⟩
theorem Off.trans {p : Nat} {A B C : Sto} (x : Off p A B) (y : Off p B C) : Off p A C := ⟨y.1.trans x.1, fun i h => (y.2 i h).trans (x.2 i h)⟩
theorem Off.set {p : Nat} {S : Sto} {m : MO} : Off p S (S.set p m) := ⟨by simp, fun i h => List.getElem?_set_ne (Ne.symm h)⟩
theorem cut63 {ds : List D} (h : ds.length ≤ 63) : cutD ds none (some 63) = ds := by
  have e1 : HT.sIx ds.length ds.length (some 63) = ds.length := by simp [HT.sIx]; omega
  have e2 : HT.sIx ds.length 0 none = 0 := rfl
  unfold cutD
  rw [e1, e2]; simp
theorem Tape.mono {p : Nat} {b c : Int} {S : Sto} (h : Tape p b S) (hc : b ≤ c) : Tape p c S := by
  obtain ⟨cells, a, l, h1, h2, h3, h4⟩ := h
  exact ⟨cells, a, l, h1, h2, by omega, h4⟩
/-- one draw -/
theorem tdraw {S : Sto} {p : Nat} {b many : Int} (h : Tape p b S) (hb : b < 4611686018427387904) (h4 : 0 < many) (h5 : many < 1073741824) :
    ∃ (r : Int) (S' : Sto), m__law_draw [.hnd p, .int many] S = .ok (.int r) S' ∧ 0 ≤ r ∧ r < many ∧ Tape p (b + 1) S' ∧ Off p S S' := by
  obtain ⟨cells, a, l, h1, h2, h3, hl⟩ := h
  have hlt : p < S.length := (List.getElem?_eq_some_iff.mp h1).1
  by_cases l0 : l = 0
  · subst l0
    obtain ⟨r, l', e, r1, r2, r3⟩ := tape_next h1 h2 (by omega) h4 h5
    exact ⟨r, _, e, r1, r2, ⟨cells, a + 1, l', List.getElem?_set_self hlt, by omega, by omega, r3⟩, .set⟩
  · exact ⟨l % many, _, tape_left h1 (by omega) h4 h5, Int.emod_nonneg _ (by omega), Int.emod_lt_of_pos _ h4, ⟨cells, a, l / many, List.getElem?_set_self hlt, h2, by omega, Int.ediv_nonneg hl (by omega)⟩, .set⟩
theorem tape_new {ns : List Int} {S : Sto} (h : ns.length ≤ 63) : m__law_tape [.fix (ns.map D.int)] S = .ok (.hnd S.length) (S ++ [tapeM ns 0 0]) := by
  have c : cutD (ns.map D.int) none (some 63) = ns.map D.int := cut63 (by simpa using h)
  have sl : altS slT slL (.fix (ns.map D.int)) none (some 63) = some (.lst (ns.map D.int)) := by
    show ((some (ns.map D.int)).map fun ds => D.lst (cutD ds none (some 63))) = _
    rw [Option.map_some, c]
  have ml : dMkL [.lst (ns.map D.int)] = some (.lst (ns.map D.int)) := rfl
  have e0 : eAr (qA dMkL) (aCons (eSl (altS slT slL) (eV 0) oNone (oSome (eC (.int 63)))) aNil) [some (.fix (ns.map D.int))] S = .ok (.lst (ns.map D.int)) S := by
    simp only [ap_fnK, List.map_cons, List.map_nil, List.length_cons, List.length_nil, Nat.reduceAdd, Nat.reduceSub, List.replicate, List.cons_append, List.nil_append, ap_next, ap_seq, ap_drop, ap_ret, ap_if, ap_name, ap_nil, ap_cons, ap_tup, ap_asg, ap_for, ap_V0, ap_V1, ap_V2, ap_V3, ap_V4, ap_V5, ap_V6, ap_V7, ap_V8, ap_V9, ap_V10, ap_C, ap_op, ap_un, ap_ar, ap_tB, ap_tand, ap_tor, ap_tnot, ap_tyes, ap_and, ap_or, ap_eif, ap_anil, ap_acons, ap_etup, ap_elst, ap_ait, ap_arng, ap_call, ap_callD, ap_meth, ap_meth0, ap_lc, ap_wipe0, ap_wipe, ap_fin, ap_noX, ap_some, Res.bind_ok, Res.bnd_ok, List.set_cons_succ, List.set_cons_zero, Option.bind_some, d_q2, d_i2, q_qA, s_lst, s_fix, s_tup, s_ktp, q_lst, q_tup, l_lst, l_fix, l_tup, d_lt, d_le, d_gt, d_ge, d_sub, d_add, d_eqi, d_nei, d_isn, d_nisn, n_non, n_int, n_str, x_max2, x_min2, decide_true, decide_false, if_true, ↓reduceIte, Bool.false_eq_true, Nat.reduceLeDiff, eSl, oNone, oSome, sl, ml]
  have dp : eDispH (pCons (eC (.str "cells")) (eAr (qA dMkL) (aCons (eSl (altS slT slL) (eV 0) oNone (oSome (eC (.int 63)))) aNil)) (pCons (eC (.str "spot")) (eC (.int 0)) (pCons (eC (.str "rest")) (eC (.int 0)) pNil))) [some (.fix (ns.map D.int))] S = .ok (.hnd S.length) (S ++ [tapeM ns 0 0]) := by
    unfold eDispH pCons
    simp only [ap_C, Res.bind_ok, e0, pCons, pNil]
    rfl
  show fnK 1 _ [.fix (ns.map D.int)] S = _
  unfold fnK
  show ((sRet _ [some (.fix (ns.map D.int))] S).bind _) = _
  unfold sRet
  rw [dp]; rfl
end Sm
set_option Elab.async false
set_option linter.all false
set_option maxRecDepth 100000
set_option maxHeartbeats 4000000
open PySem PySem.Spec
namespace Sm
open L2 PySem.W
/-! ## messages as data -/
structure Tsk where
  name : Str
  rank : Int
  gap : Int
  most : Int
  due : Int
  wait : Int
def encT (t : Tsk) : D := .obj "Message" ["name", "rank", "gap", "most", "due", "wait"] [.str t.name, .int t.rank, .int t.gap, .int t.most, .int t.due, .int t.wait]
def encR (t : Tsk) : D := .tup [.str t.name, .int t.rank, .int t.gap, .int t.most, .int t.due, .int t.wait, .tup []]
section
variable {t : Tsk} {S : Sto}
@[simp] theorem f_name : fldD ["Message"] "name" (encT t) S = .ok (.str t.name) S := rfl
@[simp] theorem f_rank : fldD ["Message"] "rank" (encT t) S = .ok (.int t.rank) S := rfl
@[simp] theorem f_gap : fldD ["Message"] "gap" (encT t) S = .ok (.int t.gap) S := rfl
@[simp] theorem f_most : fldD ["Message"] "most" (encT t) S = .ok (.int t.most) S := rfl
@[simp] theorem f_due : fldD ["Message"] "due" (encT t) S = .ok (.int t.due) S := rfl
@[simp] theorem f_wait : fldD ["Message"] "wait" (encT t) S = .ok (.int t.wait) S := rfl
end
/-! ## numbers and names -/
theorem is_number {i least : Int} {S : Sto} : m_is_number [.int i, .int least] S = .ok (.bl (decide (least ≤ i))) S := by
  simp [m_is_number]
def letters : Str := "abcdefghijklmnopqrstuvwxyz"
def Nm (s : Str) : Prop := 1 ≤ s.length ∧ s.length ≤ 12 ∧ ∀ z ∈ s.cps.toList, z ∈ letters.cps.toList
theorem len_cps {s : Str} : s.length = s.cps.toList.length := by
  show s.cps.size = _
  rw [Array.length_toList]
theorem is_name {s : Str} {S : Sto} (h : Nm s) : m_is_name [.str s] S = .ok (.bl true) S := by
  obtain ⟨h1, h2, h3⟩ := h
  have l1 : s.length ≤ 16777216 := by omega
  have e : lcGo (vName 1) tvYes (eOp (q2 dIn) (eV 1) (eC (.str "abcdefghijklmnopqrstuvwxyz"))) [some (.str s), none] (s.cps.toList.map fun n => .str ⟨#[n]⟩) S = .ok (s.cps.toList.map fun _ => D.bl true) S := by
    refine lc_all fun x hx => ⟨_, rfl, rfl, ?_⟩
    have hm := h3 x hx
    have : dIn (.str ⟨#[x]⟩) (.str "abcdefghijklmnopqrstuvwxyz") = some (.bl true) := by
      have e1 : inQ false (.str ⟨#[x]⟩) (.str "abcdefghijklmnopqrstuvwxyz") = none := rfl
      have e2 : inT false (.str ⟨#[x]⟩) (.str "abcdefghijklmnopqrstuvwxyz") = none := rfl
      have e3 : inC false (.str ⟨#[x]⟩) (.str "abcdefghijklmnopqrstuvwxyz") = some (.bl (xor false (decide (x ∈ letters.cps.toList)))) := rfl
      unfold dIn alt2
      rw [e1, e2, e3, decide_eq_true hm]
      rfl
    simp [this]
  have a1 : (1 : Int) ≤ (s.length : Int) := by omega
  have a2 : (s.length : Int) ≤ 12 := by omega
  have l2 : (s.cps.toList.map fun _ => D.bl true).length ≤ 16777216 := by rw [List.length_map, ← len_cps]; exact l1
  have e4 : dAll [.lst (s.cps.toList.map fun _ => D.bl true)] = some (.bl true) := by
    have := all_map (s.cps.toList.map fun _ => true)
    rw [List.map_map] at this
    have e5 : (s.cps.toList.map fun _ => true).all id = true := by simp
    rw [e5] at this
    exact this
  have e6 : dSigns (.str s) = some (s.cps.toList.map fun n => .str ⟨#[n]⟩) := rfl
  generalize (s.cps.toList.map fun n => D.str ⟨#[n]⟩) = L at e e6
  generalize (s.cps.toList.map fun _ => D.bl true) = M at e e4 l2
  simp [m_is_name, l1, a1, a2, e6, e, l2, e4]
/-! ## the store: nothing in it points anywhere -/
def Flat (S : Sto) : Prop := ∀ o ∈ S, o.lim = 0
theorem cut_app {S l : Sto} {d : D} (h : Flat S) (hd : d.lim = 0) : cutR S.length (.ok d (S ++ l)) = .ok d S := by
  show (if (S ++ l).length ≤ S.length then Res.ok d (S ++ l) else if d.lim ≤ S.length ∧ ∀ o ∈ (S ++ l).take S.length, o.lim ≤ S.length then Res.ok d ((S ++ l).take S.length) else Res.bad) = _
  by_cases c : (S ++ l).length ≤ S.length
  · have : l = [] := by
      rw [List.length_append] at c
      exact List.eq_nil_of_length_eq_zero (by omega)
    subst this
    simp
  · have e : (S ++ l).take S.length = S := List.take_left' rfl
    rw [if_neg c, e, if_pos ⟨by omega, fun o ho => by rw [h o ho]; omega⟩]
theorem lims : ∀ {α : Type} {f : α → D} {l : List α}, (∀ x ∈ l, (f x).lim = 0) → Ds.lim (l.map f) = 0
  | _, _, [], _ => rfl
  | _, f, x :: l, h => by
    show max (f x).lim (Ds.lim (l.map f)) = 0
    rw [h x (by simp), lims fun y hy => h y (by simp [hy])]
    rfl
theorem lim_T {t : Tsk} : (encT t).lim = 0 := rfl
theorem lim_R {t : Tsk} : (encR t).lim = 0 := rfl
@[simp] theorem get_last {S : Sto} {m : MO} : (S ++ [m])[S.length]? = some m := by simp
@[simp] theorem set_last {S : Sto} {m m' : MO} : (S ++ [m]).set S.length m' = S ++ [m'] := by simp
/-! ## a message -/
structure Good (t : Tsk) : Prop where
  name : Nm t.name
  rank : 1 ≤ t.rank
  gap : 1 ≤ t.gap
  most : 1 ≤ t.most
  due : 1 ≤ t.due
  dueg : t.due ≤ t.gap
  wait : 0 ≤ t.wait
theorem wrong_part {t : Tsk} {S : Sto} (h : Good t) : m_wrong_part [.str t.name, .int t.rank, .int t.gap, .int t.most, .int t.due, .int t.wait] S = .ok .non S := by
  have h2 : ¬ t.gap < t.due := by have := h.dueg; omega
  simp [m_wrong_part, is_name h.name, is_number, h.rank, h.gap, h.most, h.due, h.wait, h2]
section
variable {a b c d e f g : D}
@[simp] theorem pf1 : putFD [] [] "name" a = ((["name"] : List Str), [a]) := rfl
@[simp] theorem pf2 : putFD ["name"] [a] "rank" b = ((["name", "rank"] : List Str), [a, b]) := rfl
@[simp] theorem pf3 : putFD ["name", "rank"] [a, b] "gap" c = ((["name", "rank", "gap"] : List Str), [a, b, c]) := rfl
@[simp] theorem pf4 : putFD ["name", "rank", "gap"] [a, b, c] "most" d = ((["name", "rank", "gap", "most"] : List Str), [a, b, c, d]) := rfl
@[simp] theorem pf5 : putFD ["name", "rank", "gap", "most"] [a, b, c, d] "due" e = ((["name", "rank", "gap", "most", "due"] : List Str), [a, b, c, d, e]) := rfl
@[simp] theorem pf6 : putFD ["name", "rank", "gap", "most", "due"] [a, b, c, d, e] "wait" f = ((["name", "rank", "gap", "most", "due", "wait"] : List Str), [a, b, c, d, e, f]) := rfl
end
@[simp] theorem fldPut_last {C f : Str} {y : D} {S : Sto} {ns : List Str} {ds : List D} : fldPut C f (.hnd S.length) y (S ++ [.ins C ns ds]) = if ns.length < 1000 then some (S ++ [.ins C (putFD ns ds f y).1 (putFD ns ds f y).2]) else none := by
  simp [fldPut]
@[simp] theorem ap_fldV {C f : Str} {a b : EV} {env : Env} {S : Sto} : sFldV C f a b env S = (b env S).bnd (tg fun y S1 => (a env S1).bnd (tg fun x S2 => match fldPut C f x y S2 with
  | some S3 => .ok (.nx env) S3
  | none => .bad)) := rfl
theorem Message_init {t : Tsk} {S : Sto} (h : Good t) :
    m_Message___init__ [.hnd S.length, .str t.name, .int t.rank, .int t.gap, .int t.most, .int t.due, .int t.wait] (S ++ [.ins "Message" [] []])
      = .ok .non (S ++ [.ins "Message" ["name", "rank", "gap", "most", "due", "wait"] [.str t.name, .int t.rank, .int t.gap, .int t.most, .int t.due, .int t.wait]]) := by
  have wp : ∀ l, m_wrong_part [.str t.name, .int t.rank, .int t.gap, .int t.most, .int t.due, .int t.wait] (S ++ l) = .ok .non (S ++ l) := fun l => wrong_part h
  unfold m_Message___init__
  rw [ap_fnT]
  have : ∀ {r : Res D} {d : D} {l : Sto}, l.length = 1 → r = .ok d (S ++ l) → cutR (S ++ [MO.ins "Message" [] []]).length r = .ok d (S ++ l) := fun {r d l} hl e => by
    rw [e]; exact cut_same (by simp [hl])
  refine this rfl ?_
  simp [wp]
theorem frzO_last {C : Str} {ns : List Str} {ds : List D} {S : Sto} : frzO (.hnd S.length) (S ++ [.ins C ns ds]) = .ok (.obj C ns ds) (S ++ [.dead]) := by
  simp [frzO]
theorem mk_Message {t : Tsk} {S : Sto} (h : Good t) : (mkK "Message" kg_Message m_Message___init__ [.str t.name] [.int t.rank, .int t.gap, .int t.most, .int t.due, .int t.wait] S).bind frzO = .ok (encT t) (S ++ [.dead]) := by
  have e := Message_init (S := S) h
  have e2 : mkK "Message" kg_Message m_Message___init__ [.str t.name] [.int t.rank, .int t.gap, .int t.most, .int t.due, .int t.wait] S = .ok (.hnd S.length) (S ++ [.ins "Message" ["name", "rank", "gap", "most", "due", "wait"] [.str t.name, .int t.rank, .int t.gap, .int t.most, .int t.due, .int t.wait]]) := by
    unfold mkK kg_Message
    simp only [List.cons_append, List.nil_append]
    rw [e]
    simp only [Res.bind_ok, Res.bnd_ok]
  rw [e2, Res.bind_ok, frzO_last]
  rfl
@[simp] theorem ap_frzO {e : EV} {env : Env} {S : Sto} : eFrzO e env S = (e env S).bind frzO := rfl
@[simp] theorem ap_makeK {C : Str} {g : List D → List D → List D} {ev : List D → Sto → Res D} {n m : Nat} {a ak : AV} {env : Env} {S : Sto} : eMakeK C g ev n m a ak env S = (a env S).bnd (tg fun ds S1 => (ak env S1).bnd (tg fun es S2 => if ds.length = n ∧ es.length = m then mkK C g ev ds es S2 else .bad)) := rfl
theorem waiting {t : Tsk} {S : Sto} (h : Good t) (hf : Flat S) : m_waiting [encT t, .int t.wait] S = .ok (encT t) S := by
  have m := mk_Message (S := S) h
  unfold m_waiting
  rw [ap_fnT]
  have : ∀ {r : Res D} {d : D} {l : Sto}, d.lim = 0 → r = .ok d (S ++ l) → cutR S.length r = .ok d S := fun {r d l} hl e => by
    rw [e]; exact cut_app hf hl
  refine this (l := [.dead]) lim_T ?_
  simp [m]
end Sm
set_option Elab.async false
set_option linter.all false
set_option maxRecDepth 100000
set_option maxHeartbeats 200000
open PySem PySem.Spec
namespace Sm
open L2 PySem.W
/-! ## tasks by rank -/
section
variable {S : Sto} {m1 m2 m3 m : MO}
@[simp] theorem g2a : (S ++ [m1, m2])[S.length]? = some m1 := by simp
@[simp] theorem g2b : (S ++ [m1, m2])[S.length + 1]? = some m2 := by simp
@[simp] theorem s2a : (S ++ [m1, m2]).set S.length m = S ++ [m, m2] := by simp
@[simp] theorem s2b : (S ++ [m1, m2]).set (S.length + 1) m = S ++ [m1, m] := by simp
@[simp] theorem g3a : (S ++ [m1, m2, m3])[S.length]? = some m1 := by simp
@[simp] theorem g3c : (S ++ [m1, m2, m3])[S.length + 2]? = some m3 := by simp
@[simp] theorem s3a : (S ++ [m1, m2, m3]).set S.length m = S ++ [m, m2, m3] := by simp
@[simp] theorem s3c : (S ++ [m1, m2, m3]).set (S.length + 2) m = S ++ [m1, m2, m] := by simp
end
def nk (L : List Tsk) : List Key := L.map fun t => .inr t.name
def rk (L : List Tsk) : List Key := L.map fun t => .inl t.rank
def Unl (L : List Tsk) : Prop := L.Pairwise fun a b => a.name ≠ b.name ∧ a.rank ≠ b.rank
theorem look_none {β : Type} {f : Tsk → D} {key : Tsk → Key} {q : Key} : ∀ {L : List Tsk}, (∀ t ∈ L, key t ≠ q) → lookK (L.map key) (L.map f) q = none
  | [], _ => rfl
  | t :: L, h => by
    show (if key t = q then _ else lookK (L.map key) (L.map f) q) = none
    rw [if_neg (h t (by simp)), look_none (β := β) fun u hu => h u (by simp [hu])]
theorem has_none {key : Tsk → Key} {q : Key} {L : List Tsk} (h : ∀ t ∈ L, key t ≠ q) : hasK (L.map key) q = false := by
  unfold hasK
  rw [List.any_map, List.any_eq_false]
  intro t ht
  simpa using h t ht
theorem look_some {f : Tsk → D} {key : Tsk → Key} {t : Tsk} : ∀ {L : List Tsk}, t ∈ L → (L.Pairwise fun a b => key a ≠ key b) → lookK (L.map key) (L.map f) (key t) = some (f t)
  | u :: L, ht, hp => by
    show (if key u = key t then some (f u) else lookK (L.map key) (L.map f) (key t)) = _
    rw [List.pairwise_cons] at hp
    by_cases e : key u = key t
    · rw [if_pos e]
      rcases List.mem_cons.mp ht with rfl | ht
      · rfl
      · exact absurd e (hp.1 t ht)
    · rw [if_neg e]
      rcases List.mem_cons.mp ht with rfl | ht
      · exact absurd rfl e
      · exact look_some ht hp.2
def St2 (S : Sto) (L : List Tsk) : Sto := S ++ [.dic (nk L) (L.map fun _ => .bl true), .dic (rk L) (L.map encT)]
theorem by_loop {S : Sto} {a : Option D} : ∀ (R L : List Tsk) (x : Option D), Unl (L ++ R) → (L ++ R).length < 1000 → ∃ x', forGo (vName 3) (sSeq (sIf (tB' (eOp (dInS false) (eUn (fldD ["Message"] "name") (eV 3)) (eV 1))) (sRaise "Twice" "name" (aCons (eUn (fldD ["Message"] "name") (eV 3)) aNil)) sNext) (sSeq (sIf (tB' (eOp (dInS false) (eUn (fldD ["Message"] "rank") (eV 3)) (eV 2))) (sRaise "Shared" "rank" (aCons (eUn (fldD ["Message"] "rank") (eV 3)) aNil)) sNext) (sSeq (sPut dPutS (eV 1) (eUn (fldD ["Message"] "name") (eV 3)) (eC (.bl true))) (sPut dPutS (eV 2) (eUn (fldD ["Message"] "rank") (eV 3)) (eV 3))))) (R.map encT) [a, some (.hnd S.length), some (.hnd (S.length + 1)), x, none] (St2 S L)
      = .ok (.nx [a, some (.hnd S.length), some (.hnd (S.length + 1)), x', none]) (St2 S (L ++ R))
  | [], L, x, _, _ => ⟨x, by simp [forGo]⟩
  | t :: R, L, x, hu, hl => by
    have e : L ++ t :: R = (L ++ [t]) ++ R := by simp
    obtain ⟨x', ih⟩ := by_loop R (L ++ [t]) (some (encT t)) (by rw [← e]; exact hu) (by rw [← e]; exact hl)
    refine ⟨x', ?_⟩
    rw [e, ← ih]
    have hn : ∀ u ∈ L, u.name ≠ t.name ∧ u.rank ≠ t.rank := fun u hm => by
      have := (List.pairwise_append.mp hu).2.2 u hm t (by simp)
      exact this
    have n1 : ∀ u ∈ L, (fun t : Tsk => (Sum.inr t.name : Key)) u ≠ .inr t.name := fun u hm z => (hn u hm).1 (Sum.inr.inj z)
    have r1 : ∀ u ∈ L, (fun t : Tsk => (Sum.inl t.rank : Key)) u ≠ .inl t.rank := fun u hm z => (hn u hm).2 (Sum.inl.inj z)
    have k1 : lookK (nk L) (L.map fun _ => .bl true) (.inr t.name) = none := look_none (β := Nat) n1
    have k2 : lookK (rk L) (L.map encT) (.inl t.rank) = none := look_none (β := Nat) r1
    have k3 : hasK (nk L) (.inr t.name) = false := has_none n1
    have k4 : hasK (rk L) (.inl t.rank) = false := has_none r1
    have l1 : (nk L).length < 16777216 := by simp only [nk, List.length_map]; simp at hl; omega
    have l2 : (rk L).length < 16777216 := by simp only [rk, List.length_map]; simp at hl; omega
    have e1 : nk (L ++ [t]) = nk L ++ [.inr t.name] := by simp [nk]
    have e2 : rk (L ++ [t]) = rk L ++ [.inl t.rank] := by simp [rk]
    simp only [List.map_cons, forGo]
    simp [ap_put, St2, dInS, dicOf, DV.get, D.key, k1, k2, dPutS, putD, k3, k4, l1, l2, e1, e2]
def leR (a b : Tsk) : Bool := dataLe false (Prod.snd (α := D)) (.int a.rank, PyData.int a.rank) (.int b.rank, PyData.int b.rank)
theorem leR_eq {a b : Tsk} : leR a b = decide (a.rank ≤ b.rank) := by
  show (!(decide (b.rank < a.rank) || (!decide (a.rank < b.rank) && false))) = _
  by_cases h : a.rank ≤ b.rank
  · simp [h, Int.not_lt.mpr h]
  · simp [h, Int.not_le.mp h]
def byR (L : List Tsk) : List Tsk := L.mergeSort leR
theorem byR_perm {L : List Tsk} : (byR L).Perm L := List.mergeSort_perm ..
theorem byR_sorted {L : List Tsk} (h : Unl L) : (byR L).Pairwise fun a b => a.rank < b.rank := by
  have p := List.pairwise_mergeSort (le := leR) (fun a b c h1 h2 => by rw [leR_eq] at *; simp at *; omega) (fun a b => by rw [leR_eq, leR_eq]; simp; omega) L
  have u : (byR L).Pairwise fun a b => a.name ≠ b.name ∧ a.rank ≠ b.rank := h.perm byR_perm.symm fun ⟨x, y⟩ => ⟨Ne.symm x, Ne.symm y⟩
  refine (p.and u).imp fun ⟨h1, h2⟩ => ?_
  rw [leR_eq] at h1
  simp at h1
  have := h2.2
  omega
theorem withKeys_R : ∀ {L : List Tsk}, withKeys D.py (L.map fun t => .int t.rank) = some (L.map fun t => (D.int t.rank, PyData.int t.rank))
  | [] => rfl
  | x :: l => by
    show (withKeys D.py (l.map fun t => .int t.rank)).map _ = _
    rw [withKeys_R]; rfl
theorem sortK_R {L : List Tsk} (h : L.length < 1000) : sortK D.py (L.map fun t => .int t.rank) = some ((byR L).map fun t => .int t.rank) := by
  unfold sortK
  rw [withKeys_R]
  show sortD (L.map fun t => (D.int t.rank, PyData.int t.rank)) = _
  unfold sortD
  have ek : (L.map fun t => (D.int t.rank, PyData.int t.rank)).map Prod.snd = L.map fun t => PyData.int t.rank := by rw [List.map_map]; rfl
  have c2 : alikesB (L.map fun t => PyData.int t.rank) = true := by
    unfold alikesB
    rw [List.all_map, List.all_eq_true]
    intro a _
    show (L.map fun t => PyData.int t.rank).all _ = true
    rw [List.all_map, List.all_eq_true]
    intro b _
    rfl
  have c3 : ableB (L.map fun t => PyData.int t.rank) = true := by
    unfold ableB
    rw [Bool.or_eq_true]
    right
    rw [List.all_map, List.all_eq_true]
    intro b _
    rfl
  have c4 : ((L.map fun t => (D.int t.rank, PyData.int t.rank)).all fun p => decide (p.2.depth ≤ 100)) = true := by
    rw [List.all_map, List.all_eq_true]
    intro b _
    rfl
  rw [ek, if_pos ⟨by rw [List.length_map]; omega, c2, c3, c4⟩]
  congr 1
  have := List.map_mergeSort (r := leR) (s := dataLe false Prod.snd) (f := fun t : Tsk => (D.int t.rank, PyData.int t.rank)) (l := L) fun a _ b _ => rfl
  rw [← this, List.map_map]
  rfl
theorem by_rank {L : List Tsk} {S : Sto} (hf : Flat S) (hu : Unl L) (hl : L.length < 1000) : m_by_rank [.lst (L.map encT)] S = .ok (.lst ((byR L).map encT)) S := by
  obtain ⟨x', lp⟩ := by_loop (S := S) (a := some (.lst (L.map encT))) L [] none (by simpa using hu) (by simpa using hl)
  simp only [List.nil_append] at lp
  unfold m_by_rank
  rw [ap_fnT]
  have : ∀ {r : Res D} {d : D} {l : Sto}, d.lim = 0 → r = .ok d (S ++ l) → cutR S.length r = .ok d S := fun {r d l} hl e => by
    rw [e]; exact cut_app hf hl
  refine this (l := [.dic (nk L) (L.map fun _ => .bl true), .dic (rk L) (L.map encT)]) (lims fun _ _ => lim_T) ?_
  have e0 : St2 S [] = S ++ [.dic [] [], .dic [] []] := rfl
  rw [e0] at lp
  have ls : aListD [.hnd (S.length + 1)] (St2 S L) = .ok (.lst (L.map fun t => .int t.rank)) (St2 S L) := by
    simp [aListD, dicOf, St2, rk, kD]
  have so : aSortP [.lst (L.map fun t => .int t.rank)] (St2 S L) = .ok (.lst ((byR L).map fun t => .int t.rank)) (St2 S L) := by
    show optR (((some (L.map fun t => D.int t.rank)).bind (sortK D.py)).map D.lst) _ = _
    rw [Option.bind_some, sortK_R hl]; rfl
  have lc : lcGo (vName 4) tvYes (eOp dGetS (eV 2) (eV 4)) [some (.lst (L.map encT)), some (.hnd S.length), some (.hnd (S.length + 1)), x', none] ((byR L).map fun t => .int t.rank) (St2 S L) = .ok ((byR L).map encT) (St2 S L) := by
    refine lc_all fun t ht => ⟨_, rfl, rfl, ?_⟩
    have hm : t ∈ L := byR_perm.mem_iff.mp ht
    have k2 : lookK (rk L) (L.map encT) (.inl t.rank) = some (encT t) := look_some (key := fun t => .inl t.rank) hm (hu.imp fun ⟨_, h⟩ z => h (Sum.inl.inj z))
    simp [St2, dGetS, dicOf, DV.get, D.key, k2]
  have ll : (byR L).length ≤ 16777216 := by rw [byR_perm.length_eq]; omega
  simp only [St2] at lp ls so lc
  simp [eDNewK, lp, ls, so, lc, ll]
end Sm
set_option Elab.async false
set_option linter.all false
set_option maxRecDepth 100000
set_option maxHeartbeats 400000
open PySem PySem.Spec
namespace Sm
open L2 PySem.W
structure Row (L : List Tsk) : Prop where
  good : ∀ t ∈ L, Good t
  unl : Unl L
  few : L.length < 1000
theorem Row.perm {L M : List Tsk} (h : Row L) (p : M.Perm L) : Row M :=
  ⟨fun t ht => h.good t (p.mem_iff.mp ht), h.unl.perm p.symm fun ⟨a, b⟩ => ⟨Ne.symm a, Ne.symm b⟩, by rw [p.length_eq]; exact h.few⟩
theorem flat_app {S l : Sto} (h : Flat S) (hl : ∀ o ∈ l, o.lim = 0) : Flat (S ++ l) := fun o ho => by
  rcases List.mem_append.mp ho with h1 | h1
  · exact h o h1
  · exact hl o h1
theorem cutFl {S : Sto} (hf : Flat S) {r : Res D} {d : D} {l : Sto} (hl : d.lim = 0) (e : r = .ok d (S ++ l)) : cutR S.length r = .ok d S := by
  rw [e]; exact cut_app hf hl
/-- the bus of the messages L, by ranks -/
def busD (L : List Tsk) : D := .obj "Bus" ["_messages"] [.dic (nk L) (L.map encT)]
theorem lim_B {L : List Tsk} : (busD L).lim = 0 := by
  have h : Ds.lim (L.map encT) = 0 := lims fun x _ => lim_T
  simp [busD, D.lim, Ds.lim, h]
theorem frz_last {S : Sto} {m : MO} {ks : List Key} {ds : List D} : frzD (.hnd (S.length + 1)) (S ++ [m, .dic ks ds]) = .ok (.dic ks ds) (S ++ [m, .dead]) := by
  unfold frzD frzM
  simp
@[simp] theorem ap_frz {e : EV} {env : Env} {S : Sto} : eFrz e env S = (e env S).bind frzD := rfl
@[simp] theorem ap_dch {own : List Nat} {iv : AV} {g : GV} {t : TV} {ek ev : EV} {env : Env} {S : Sto} : eDcH own iv g t ek ev env S = (iv env S).bnd (tg fun ds S1 => kDicH (dcGo g t ek ev (wipeE env own) ds [] [] S1)) := rfl
theorem dc_go {S : Sto} (hf : Flat S) {a b : Option D} : ∀ (R L : List Tsk), (∀ t ∈ R, Good t) → Unl (L ++ R) → (L ++ R).length < 1000 →
    dcGo (vName 2) tvYes (eUn (fldD ["Message"] "name") (eV 2)) (eCall m_waiting 2 (aCons (eV 2) (aCons (eUn (fldD ["Message"] "wait") (eV 2)) aNil))) [a, b, none] (R.map encT) (nk L) (L.map encT) S = .ok (nk (L ++ R), (L ++ R).map encT) S
  | [], L, _, _, _ => by simp [dcGo]
  | t :: R, L, hg, hu, hl => by
    have e : L ++ t :: R = (L ++ [t]) ++ R := by simp
    have ih := dc_go hf (a := a) (b := b) R (L ++ [t]) (fun u hu => hg u (by simp [hu])) (by rw [← e]; exact hu) (by rw [← e]; exact hl)
    rw [e, ← ih]
    have n1 : ∀ u ∈ L, (fun t : Tsk => (Sum.inr t.name : Key)) u ≠ .inr t.name := fun u hm z => ((List.pairwise_append.mp hu).2.2 u hm t (by simp)).1 (Sum.inr.inj z)
    have k3 : hasK (nk L) (.inr t.name) = false := has_none n1
    have l1 : (nk L).length < 16777216 := by simp only [nk, List.length_map]; simp at hl; omega
    have e1 : nk (L ++ [t]) = nk L ++ [.inr t.name] := by simp [nk]
    have cpy := waiting (hg t (by simp)) hf
    simp only [List.map_cons, dcGo]
    simp only [ap_name, List.set_cons_succ, List.set_cons_zero, ap_tyes, ap_noX, Res.bind_ok, Res.bnd_ok, if_true, ap_un, ap_V2, f_name, f_wait, ap_call, ap_acons, ap_anil, List.length_cons, List.length_nil, Nat.reduceAdd, cpy, D.key, l1, putD, k3, e1]
    simp
theorem Bus_init {L : List Tsk} {S : Sto} (h : Row L) (hf : Flat S) :
    m_Bus___init__ [.hnd S.length, .lst (L.map encT)] (S ++ [.ins "Bus" [] []]) = .ok .non (S ++ [.ins "Bus" ["_messages"] [.dic (nk (byR L)) ((byR L).map encT)]]) := by
  have hf1 : Flat (S ++ [.ins "Bus" [] []]) := flat_app hf (by simp [MO.lim, Ds.lim])
  have hb : Row (byR L) := h.perm byR_perm
  have br := by_rank (L := L) hf1 h.unl h.few
  have dg := dc_go (S := S ++ [.ins "Bus" [] []]) hf1 (a := some (.hnd S.length)) (b := some (.lst (L.map encT))) (byR L) [] hb.good (by simpa using hb.unl) (by simpa using hb.few)
  simp only [List.nil_append] at dg
  have dg' : dcGo (vName 2) tvYes (eUn (fldD ["Message"] "name") (eV 2)) (eCall m_waiting 2 (aCons (eV 2) (aCons (eUn (fldD ["Message"] "wait") (eV 2)) aNil))) [some (.hnd S.length), some (.lst (L.map encT)), none] ((byR L).map encT) [] [] (S ++ [.ins "Bus" [] []]) = .ok (nk (byR L), (byR L).map encT) (S ++ [.ins "Bus" [] []]) := dg
  have kd : kDicH (Res.ok (nk (byR L), (byR L).map encT) (S ++ [.ins "Bus" [] []])) = .ok (.hnd (S.length + 1)) (S ++ [.ins "Bus" [] [], .dic (nk (byR L)) ((byR L).map encT)]) := by
    unfold kDicH; simp
  have fz : frzD (.hnd (S.length + 1)) (S ++ [.ins "Bus" [] [], .dic (nk (byR L)) ((byR L).map encT)]) = .ok (.dic (nk (byR L)) ((byR L).map encT)) (S ++ [.ins "Bus" [] [], .dead]) := frz_last
  have p1 : ∀ x, putFD [] [] "_messages" x = ((["_messages"] : List Str), [x]) := fun x => rfl
  have fp : ∀ x, fldPut "Bus" "_messages" (.hnd S.length) x (S ++ [.ins "Bus" [] [], .dead]) = some (S ++ [.ins "Bus" ["_messages"] [x], .dead]) := fun x => by
    unfold fldPut
    simp [p1]
  have cut : ∀ {r : Res D} {d : D} {l : Sto}, d.lim = 0 → r = .ok d (S ++ [.ins "Bus" ["_messages"] [.dic (nk (byR L)) ((byR L).map encT)]] ++ l) → cutR (S ++ [MO.ins "Bus" [] []]).length r = .ok d (S ++ [.ins "Bus" ["_messages"] [.dic (nk (byR L)) ((byR L).map encT)]]) := fun {r d l} hl e => by
    rw [e]
    have : (S ++ [MO.ins "Bus" [] []]).length = (S ++ [MO.ins "Bus" ["_messages"] [.dic (nk (byR L)) ((byR L).map encT)]]).length := by simp
    rw [this]
    refine cut_app (flat_app hf ?_) hl
    intro o ho
    rw [List.mem_singleton.mp ho]
    have h1 : Ds.lim ((byR L).map encT) = 0 := lims fun x _ => lim_T
    simp [MO.lim, Ds.lim, D.lim, h1]
  unfold m_Bus___init__
  rw [ap_fnT]
  refine cut (l := [.dead]) rfl ?_
  generalize D.dic (nk (byR L)) ((byR L).map encT) = T at *
  simp only [ap_fnK, List.map_cons, List.map_nil, List.length_cons, List.length_nil, Nat.reduceAdd, Nat.reduceSub, List.replicate, List.cons_append, List.nil_append, ap_fldV, ap_frz, ap_dch, ap_ait, ap_call, ap_acons, ap_anil, ap_V0, ap_V1, Res.bind_ok, Res.bnd_ok, if_true, br, s_lst, ap_some, ap_wipe, ap_wipe0, List.set_cons_succ, List.set_cons_zero, dg', kd, fz, fp]
  simp
theorem mk_Bus {L : List Tsk} {S : Sto} (h : Row L) (hf : Flat S) : (mkI "Bus" m_Bus___init__ [.lst (L.map encT)] S).bind frzO = .ok (busD (byR L)) (S ++ [.dead]) := by
  have e := Bus_init h hf
  unfold mkI
  rw [e]
  simp only [Res.bind_ok, Res.bnd_ok]
  rw [frzO_last]
  rfl
/-! ## what a bus tells: L its messages, by rank -/
structure Pl (L : List Tsk) : Prop where
  row : Row L
  ord : L.Pairwise fun a b => a.rank < b.rank
theorem Row.pl {L : List Tsk} (h : Row L) : Pl (byR L) := ⟨h.perm byR_perm, byR_sorted h.unl⟩
section
variable {L : List Tsk} {S : Sto} {t : Tsk}
@[simp] theorem f_msgs : fldD ["Bus"] "_messages" (busD L) S = .ok (.dic (nk L) (L.map encT)) S := rfl
theorem isC_B {m : Str} (h : m ≠ "_messages") : isC "Bus" m (busD L) S = true := by
  unfold isC busD insOf lookF lookF
  simp [h]
theorem Bus_message (h : Pl L) (ht : t ∈ L) (hf : Flat S) : m_Bus_message [busD L, .str t.name] S = .ok (encT t) S := by
  have k : lookK (nk L) (L.map encT) (.inr t.name) = some (encT t) := look_some (key := fun t => .inr t.name) ht (h.row.unl.imp fun ⟨h, _⟩ z => h (Sum.inr.inj z))
  have c := waiting (h.row.good t ht) hf
  have d1 : dInS true (.str t.name) (.dic (nk L) (L.map encT)) S = .ok (.bl false) S := by
    simp [dInS, dicOf, DV.get, D.key, k]
  have d2 : dGetS (.dic (nk L) (L.map encT)) (.str t.name) S = .ok (encT t) S := by
    simp [dGetS, dicOf, DV.get, D.key, k]
  have fm := f_msgs (L := L) (S := S)
  unfold m_Bus_message
  rw [ap_fnT]
  refine cutFl hf (l := []) lim_T ?_
  rw [List.append_nil]
  generalize busD L = B at *
  generalize D.dic (nk L) (L.map encT) = DD at *
  simp only [ap_fnK, List.map_cons, List.map_nil, List.length_cons, List.length_nil, Nat.reduceAdd, Nat.reduceSub, List.replicate, List.cons_append, List.nil_append, ap_next, ap_seq, ap_drop, ap_ret, ap_if, ap_name, ap_nil, ap_cons, ap_tup, ap_asg, ap_for, ap_V0, ap_V1, ap_V2, ap_V3, ap_V4, ap_V5, ap_V6, ap_V7, ap_V8, ap_V9, ap_V10, ap_C, ap_op, ap_un, ap_ar, ap_tB, ap_tand, ap_tor, ap_tnot, ap_tyes, ap_and, ap_or, ap_eif, ap_anil, ap_acons, ap_etup, ap_elst, ap_ait, ap_arng, ap_call, ap_callD, ap_meth, ap_meth0, ap_lc, ap_wipe0, ap_wipe, ap_fin, ap_noX, ap_some, Res.bind_ok, Res.bnd_ok, List.set_cons_succ, List.set_cons_zero, Option.bind_some, d_q2, d_i2, q_qA, s_lst, s_fix, s_tup, s_ktp, q_lst, q_tup, l_lst, l_fix, l_tup, d_lt, d_le, d_gt, d_ge, d_sub, d_add, d_eqi, d_nei, d_isn, d_nisn, n_non, n_int, n_str, x_max2, x_min2, decide_true, decide_false, if_true, ↓reduceIte, Bool.false_eq_true, Nat.reduceLeDiff, fm, d1, d2, f_wait, c]
theorem Bus_messages (h : Pl L) (hf : Flat S) : m_Bus_messages [busD L] S = .ok (.lst (L.map encT)) S := by
  have pv : (pF ["Bus"] "_messages" (pV 0) [some (busD L), none] S).bind dVals = some (L.map encT) := rfl
  have lc : lcGo (vName 1) tvYes (eCall m_waiting 2 (aCons (eV 1) (aCons (eUn (fldD ["Message"] "wait") (eV 1)) aNil))) [some (busD L), none] (L.map encT) S = .ok (L.map encT) S := by
    refine lc_all (enc := encT) (f := encT) fun t ht => ⟨_, rfl, rfl, ?_⟩
    have c := waiting (h.row.good t ht) hf
    simp only [ap_fnK, List.map_cons, List.map_nil, List.length_cons, List.length_nil, Nat.reduceAdd, Nat.reduceSub, List.replicate, List.cons_append, List.nil_append, ap_next, ap_seq, ap_drop, ap_ret, ap_if, ap_name, ap_nil, ap_cons, ap_tup, ap_asg, ap_for, ap_V0, ap_V1, ap_V2, ap_V3, ap_V4, ap_V5, ap_V6, ap_V7, ap_V8, ap_V9, ap_V10, ap_C, ap_op, ap_un, ap_ar, ap_tB, ap_tand, ap_tor, ap_tnot, ap_tyes, ap_and, ap_or, ap_eif, ap_anil, ap_acons, ap_etup, ap_elst, ap_ait, ap_arng, ap_call, ap_callD, ap_meth, ap_meth0, ap_lc, ap_wipe0, ap_wipe, ap_fin, ap_noX, ap_some, Res.bind_ok, Res.bnd_ok, List.set_cons_succ, List.set_cons_zero, Option.bind_some, d_q2, d_i2, q_qA, s_lst, s_fix, s_tup, s_ktp, q_lst, q_tup, l_lst, l_fix, l_tup, d_lt, d_le, d_gt, d_ge, d_sub, d_add, d_eqi, d_nei, d_isn, d_nisn, n_non, n_int, n_str, x_max2, x_min2, decide_true, decide_false, if_true, ↓reduceIte, Bool.false_eq_true, Nat.reduceLeDiff, f_wait, c]
  have ll : (L.map encT).length ≤ 16777216 := by have := h.row.few; simp; omega
  unfold m_Bus_messages
  rw [ap_fnT]
  refine cutFl hf (l := []) (lims fun _ _ => lim_T) ?_
  rw [List.append_nil]
  generalize L.map encT = X at *
  generalize busD L = B at *
  simp only [ap_fnK, List.map_cons, List.map_nil, List.length_cons, List.length_nil, Nat.reduceAdd, Nat.reduceSub, List.replicate, List.cons_append, List.nil_append, ap_next, ap_seq, ap_drop, ap_ret, ap_if, ap_name, ap_nil, ap_cons, ap_tup, ap_asg, ap_for, ap_V0, ap_V1, ap_V2, ap_V3, ap_V4, ap_V5, ap_V6, ap_V7, ap_V8, ap_V9, ap_V10, ap_C, ap_op, ap_un, ap_ar, ap_tB, ap_tand, ap_tor, ap_tnot, ap_tyes, ap_and, ap_or, ap_eif, ap_anil, ap_acons, ap_etup, ap_elst, ap_ait, ap_arng, ap_call, ap_callD, ap_meth, ap_meth0, ap_lc, ap_wipe0, ap_wipe, ap_fin, ap_noX, ap_some, Res.bind_ok, Res.bnd_ok, List.set_cons_succ, List.set_cons_zero, Option.bind_some, d_q2, d_i2, q_qA, s_lst, s_fix, s_tup, s_ktp, q_lst, q_tup, l_lst, l_fix, l_tup, d_lt, d_le, d_gt, d_ge, d_sub, d_add, d_eqi, d_nei, d_isn, d_nisn, n_non, n_int, n_str, x_max2, x_min2, decide_true, decide_false, if_true, ↓reduceIte, Bool.false_eq_true, Nat.reduceLeDiff, eLcV, pv, lc, ll]
end
end Sm
set_option Elab.async false
set_option linter.all false
set_option maxRecDepth 100000
set_option maxHeartbeats 400000
open PySem PySem.Spec
namespace Sm
open L2 PySem.W
/-! ## the right side and the bound -/
def tk (t : Tsk) : Tk := ⟨t.most, t.wait, t.gap⟩
def aheadR (L : List Tsk) (r : Int) : List Tsk := L.filter fun u => decide (u.rank < r)
section
variable {L M : List Tsk} {S : Sto} {t : Tsk} {r : Int}
theorem more_urgent : m_more_urgent [.lst (M.map encT), encT t] S = if M.length ≤ 16777216 then .ok (.lst ((aheadR M t.rank).map encT)) S else m_more_urgent [.lst (M.map encT), encT t] S := by
  by_cases hl : M.length ≤ 16777216
  · rw [if_pos hl]
    have lc : lcGo (vName 2) (tB' (eOp (q2 (i2 fLt)) (eUn (fldD ["Message"] "rank") (eV 2)) (eUn (fldD ["Message"] "rank") (eV 1)))) (eV 2) [some (.lst (M.map encT)), some (encT t), none] (M.map encT) S = .ok ((aheadR M t.rank).map encT) S := by
      refine lc_map (enc := encT) (f := encT) (p := fun u => decide (u.rank < t.rank)) fun u hu => ⟨_, rfl, ?_, fun _ => ?_⟩
      · simp
      · simp
    have ll : ((aheadR M t.rank).map encT).length ≤ 16777216 := by
      rw [List.length_map]
      exact Nat.le_trans (List.length_filter_le _ _) hl
    generalize hX : (aheadR M t.rank).map encT = X at *
    simp [m_more_urgent, lc, ll]
  · rw [if_neg hl]
theorem comings' {w : Int} (hg : 0 < t.gap) (hb : t.gap.natAbs < BIG) : m_comings [encT t, .int w] S = .ok (.int (up (w + t.wait) t.gap)) S := by
  simp [m_comings, fDiv, hg, hb, up]
structure Tame (L : List Tsk) : Prop where
  gap : ∀ t ∈ L, 1 ≤ t.gap ∧ t.gap ≤ 100000000000000
  most : ∀ t ∈ L, 1 ≤ t.most ∧ t.most ≤ 1000000000000000
  wait : ∀ t ∈ L, 0 ≤ t.wait ∧ t.wait ≤ 1000000000000000
theorem demanded {first w : Int} (h : Tame M) (hl : M.length ≤ 16777216) : m_demanded [.int first, .lst (M.map encT), .int w] S = .ok (.int (dem first (M.map tk) w)) S := by
  have lc : lcGo (vName 3) tvYes (eOp (q2 (i2 fMul)) (eUn (fldD ["Message"] "most") (eV 3)) (eCall m_comings 2 (aCons (eV 3) (aCons (eV 2) aNil)))) [some (.int first), some (.lst (M.map encT)), some (.int w), none] (M.map encT) S = .ok ((M.map fun t => t.most * up (w + t.wait) t.gap).map D.int) S := by
    rw [List.map_map]
    refine lc_all (enc := encT) (f := D.int ∘ fun t => t.most * up (w + t.wait) t.gap) fun t ht => ⟨_, rfl, rfl, ?_⟩
    have hg := h.gap t ht
    have hm := h.most t ht
    have c := comings' (t := t) (w := w) (S := S) (by omega) (big_lim (by omega) (by omega))
    have m1 : fMul t.most (up (w + t.wait) t.gap) = some (.int (t.most * up (w + t.wait) t.gap)) := fMul_ok (by omega) (by omega)
    simp [c, m1]
  have sm := sum_map (M.map fun t => t.most * up (w + t.wait) t.gap)
  have ll : ((M.map fun t => t.most * up (w + t.wait) t.gap).map D.int).length ≤ 16777216 := by simpa using hl
  have ed : dem first (M.map tk) w = first + sumI (M.map fun t => t.most * up (w + t.wait) t.gap) := by
    unfold dem
    rw [List.map_map]; rfl
  rw [ed]
  generalize hX : (M.map fun t => t.most * up (w + t.wait) t.gap).map D.int = X at *
  simp [m_demanded, lc, ll, sm]
end
end Sm
set_option Elab.async false
set_option linter.all false
namespace Sm
/-! ## spoils: the least number that is y and the cost of each spoil in it -/
def sp (y c a : Int) : Int := y + c * up y (a - c)
theorem up_pos {x g : Int} (h : 0 < g) (hx : 1 ≤ x) : 1 ≤ up x g := by
  have := up_ge (x := x) h
  have h2 : g * 0 < g * up x g := by omega
  have := lt_of_mul h h2
  omega
theorem up_nonneg {x g : Int} (h : 0 < g) (hx : 0 ≤ x) : 0 ≤ up x g := by
  have := up_ge (x := x) h
  have := up_lt (x := x) h
  have h2 : g * (-1) < g * up x g := by omega
  have := lt_of_mul h h2
  omega
theorem sp_up {y c a : Int} (hc : 0 ≤ c) (ha : c < a) (hy : 1 ≤ y) : up (sp y c a) a = up y (a - c) := by
  have h1 := up_ge (x := y) (g := a - c) (by omega)
  have h2 := up_lt (x := y) (g := a - c) (by omega)
  have ha0 : 0 < a := by omega
  have g1 := up_ge (x := sp y c a) ha0
  have g2 := up_lt (x := sp y c a) ha0
  generalize hk : up y (a - c) = k at *
  generalize hj : up (sp y c a) a = j at *
  have es : sp y c a = y + c * k := by unfold sp; rw [hk]
  rw [es] at g1 g2
  have e1 : (a - c) * k = a * k - c * k := Int.sub_mul _ _ _
  rw [e1] at h1 h2
  have l1 : a * j < a * (k + 1) := by rw [Int.mul_add]; omega
  have l2 : a * (k - 1) < a * j := by
    rw [Int.mul_sub]
    have : 0 ≤ c := hc
    omega
  have := lt_of_mul ha0 l1
  have := lt_of_mul ha0 l2
  omega
theorem sp_fix {y c a : Int} (hc : 0 ≤ c) (ha : c < a) (hy : 1 ≤ y) : sp y c a = y + c * up (sp y c a) a := by
  rw [sp_up hc ha hy]; rfl
theorem sp_least {y c a x : Int} (hc : 0 ≤ c) (ha : c < a) (h : y + c * up x a ≤ x) : sp y c a ≤ x := by
  have g1 := up_ge (x := x) (g := a) (by omega)
  have e1 : (a - c) * up x a = a * up x a - c * up x a := Int.sub_mul _ _ _
  have l : up y (a - c) ≤ up x a := up_le (by omega) (by omega)
  have := Int.mul_le_mul_of_nonneg_left l hc
  unfold sp
  omega
theorem sp_mono {x y c a : Int} (hc : 0 ≤ c) (ha : c < a) (h : x ≤ y) : sp x c a ≤ sp y c a := by
  have l : up x (a - c) ≤ up y (a - c) := up_mono (by omega) h
  have := Int.mul_le_mul_of_nonneg_left l hc
  unfold sp
  omega
theorem sp_ge {y c a : Int} (hc : 0 ≤ c) (ha : c < a) (hy : 0 ≤ y) : y ≤ sp y c a := by
  have := Int.mul_nonneg hc (up_nonneg (x := y) (g := a - c) (by omega) hy)
  unfold sp
  omega
theorem up_one {x g : Int} (h : 0 < g) : up (x + 1) g = x / g + 1 := by
  have h1 := up_ge (x := x + 1) h
  have h2 := up_lt (x := x + 1) h
  have h3 := Int.mul_ediv_add_emod x g
  have h4 := Int.emod_nonneg x (show g ≠ 0 by omega)
  have h5 := Int.emod_lt_of_pos x h
  generalize up (x + 1) g = k at *
  generalize x / g = q at *
  generalize x % g = m at *
  have l1 : g * k < g * (q + 2) := by rw [Int.mul_add]; omega
  have l2 : g * q < g * k := by omega
  have := lt_of_mul h l1
  have := lt_of_mul h l2
  omega
/-! ## least numbers that a rising function leaves as they are -/
def Mono1 (f : Int → Int) (s : Int) : Prop := ∀ x y, s ≤ x → x ≤ y → f x ≤ f y
def LF (f : Int → Int) (s lim : Int) : Option Int → Prop
  | some k => s ≤ k ∧ k ≤ lim ∧ f k = k ∧ ∀ j, s ≤ j → f j = j → k ≤ j
  | none => ∀ j, s ≤ j → j ≤ lim → f j ≠ j
theorem LF.uniq {f : Int → Int} {s lim : Int} : ∀ {a b : Option Int}, LF f s lim a → LF f s lim b → a = b
  | none, none, _, _ => rfl
  | some k, none, h, g => absurd h.2.2.1 (g k h.1 h.2.1)
  | none, some k, h, g => absurd g.2.2.1 (h k g.1 g.2.1)
  | some k, some l, h, g => by
    have := h.2.2.2 l g.1 g.2.2.1
    have := g.2.2.2 k h.1 h.2.2.1
    congr 1
    omega
theorem fix_below {f : Int → Int} {s u : Int} (m : Mono1 f s) (hu : f u ≤ u) : ∀ (n : Nat) (x : Int), (u - x).toNat < n → s ≤ x → x ≤ u → x ≤ f x → ∃ k, x ≤ k ∧ k ≤ u ∧ f k = k
  | 0, _, h, _, _, _ => absurd h (by omega)
  | n + 1, x, h, hs, hx, hf => by
    by_cases e : f x = x
    · exact ⟨x, Int.le_refl _, hx, e⟩
    · have h1 : f x ≤ u := Int.le_trans (m x u hs hx) hu
      obtain ⟨k, k1, k2, k3⟩ := fix_below m hu n (f x) (by omega) (by omega) h1 (m x (f x) hs hf)
      exact ⟨k, by omega, k2, k3⟩
theorem fix_of {f : Int → Int} {s u : Int} (m : Mono1 f s) (h0 : s ≤ f s) (hs : s ≤ u) (hu : f u ≤ u) : ∃ k, s ≤ k ∧ k ≤ u ∧ f k = k :=
  fix_below m hu ((u - s).toNat + 1) s (by omega) (Int.le_refl _) hs h0
/-- the program's way and the law's come to the same -/
theorem LF.of {f g : Int → Int} {s lim : Int} {r : Option Int} (mg : Mono1 g s) (g0 : s ≤ g s) (gf : ∀ x, s ≤ x → g x = x → f x = x) (fg : ∀ x, s ≤ x → f x = x → g x ≤ x) (h : LF g s lim r) : LF f s lim r := by
  cases r with
  | none =>
    intro j h1 h2 e
    obtain ⟨k, k1, k2, k3⟩ := fix_of mg g0 h1 (fg j h1 e)
    exact h k k1 (by omega) k3
  | some k =>
    refine ⟨h.1, h.2.1, gf k h.1 h.2.2.1, fun j h1 e => ?_⟩
    obtain ⟨l, l1, l2, l3⟩ := fix_of mg g0 h1 (fg j h1 e)
    have := h.2.2.2 l l1 l3
    omega
theorem dem_mono0 {first first' t s : Int} {l : List Tk} (h : ∀ k ∈ l, k.Ok) (e0 : first ≤ first') (e : t ≤ s) : dem first l t ≤ dem first' l s := by
  have := dem_mono (first := first) h e
  unfold dem at *
  omega
end Sm
set_option Elab.async false
set_option linter.all false
set_option maxRecDepth 100000
set_option maxHeartbeats 400000
open PySem PySem.Spec
namespace Sm
open L2 PySem.W
def IsMax (l : List Int) (m : Int) : Prop := m ∈ l ∧ ∀ x ∈ l, x ≤ m
theorem IsMax.uniq {l : List Int} {m n : Int} (a : IsMax l m) (b : IsMax l n) : m = n := by
  have := a.2 n b.1
  have := b.2 m a.1
  omega
theorem fold_max : ∀ {l : List Int} {a : Int}, IsMax (a :: l) (l.foldl max a)
  | [], a => ⟨by simp, by simp⟩
  | b :: l, a => by
    rw [List.foldl_cons]
    obtain ⟨h1, h2⟩ := fold_max (l := l) (a := max a b)
    have hm : max a b ≤ l.foldl max (max a b) := h2 _ (by simp)
    refine ⟨?_, fun x hx => ?_⟩
    · rcases List.mem_cons.mp h1 with h | h
      · rw [h]
        by_cases q : a ≤ b
        · simp; omega
        · simp; omega
      · simp [h]
    · rcases List.mem_cons.mp hx with rfl | hx
      · omega
      · rcases List.mem_cons.mp hx with rfl | hx
        · omega
        · exact h2 x (by simp [hx])
theorem max_ints {l : List Int} (h : l ≠ []) : ∃ m, dMaxL [.lst (l.map D.int)] = some (.int m) ∧ IsMax l m := by
  cases l with
  | nil => exact absurd rfl h
  | cons a l =>
    refine ⟨l.foldl max a, ?_, fold_max⟩
    show ((D.ints ((a :: l).map D.int)).bind maxI).map D.int = _
    rw [ints_map]; rfl
def heldB (B : List Tsk) : Int := (B.map fun u => u.most - 1).foldl max 0
section
variable {A B L : List Tsk} {t : Tsk} {S : Sto}
theorem split_ord (h : (A ++ t :: B).Pairwise fun a b => a.rank < b.rank) : aheadR (A ++ t :: B) t.rank = A ∧ (A ++ t :: B).filter (fun u => decide (t.rank < u.rank)) = B := by
  have p := List.pairwise_append.mp h
  have q := List.pairwise_cons.mp p.2.1
  have hA : ∀ a ∈ A, a.rank < t.rank := fun a ha => p.2.2 a ha t (by simp)
  have hB : ∀ b ∈ B, t.rank < b.rank := q.1
  unfold aheadR
  constructor
  · rw [List.filter_append, List.filter_eq_self.mpr (fun a ha => by simpa using hA a ha), List.filter_eq_nil_iff.mpr, List.append_nil]
    intro b hb
    rcases List.mem_cons.mp hb with rfl | hb
    · simp
    · have := hB b hb
      simp; omega
  · rw [List.filter_append, List.filter_eq_nil_iff.mpr, List.nil_append]
    · rw [List.filter_cons_of_neg (by simp), List.filter_eq_self.mpr (fun b hb => by simpa using hB b hb)]
    · intro a ha
      have := hA a ha
      simp; omega
theorem held_back (hl : L.length ≤ 1000000) : m_held_back [.lst (L.map encT), encT t] S = .ok (.int (heldB (L.filter fun u => decide (t.rank < u.rank)))) S := by
  have lc : lcGo (vName 2) (tB' (eOp (q2 (i2 fGt)) (eUn (fldD ["Message"] "rank") (eV 2)) (eUn (fldD ["Message"] "rank") (eV 1)))) (eOp (q2 (i2 fSub)) (eUn (fldD ["Message"] "most") (eV 2)) (eC (.int 1))) [some (.lst (L.map encT)), some (encT t), none] (L.map encT) S
      = .ok (((L.filter fun u => decide (t.rank < u.rank)).map fun u => u.most - 1).map D.int) S := by
    rw [List.map_map]
    refine lc_map (enc := encT) (f := D.int ∘ fun u => u.most - 1) (p := fun u => decide (t.rank < u.rank)) fun u hu => ⟨_, rfl, ?_, fun _ => ?_⟩
    · simp
    · simp
  have l0 := List.length_filter_le (fun u : Tsk => decide (t.rank < u.rank)) L
  have mx : dMaxL [.lst ([.int 0] ++ ((L.filter fun u => decide (t.rank < u.rank)).map fun u => u.most - 1).map D.int)] = some (.int (heldB (L.filter fun u => decide (t.rank < u.rank)))) := by
    show ((D.ints ((0 :: (L.filter fun u => decide (t.rank < u.rank)).map fun u => u.most - 1).map D.int)).bind maxI).map D.int = _
    rw [ints_map]; rfl
  have ll : (((L.filter fun u => decide (t.rank < u.rank)).map fun u => u.most - 1).map D.int).length ≤ 16777216 := by rw [List.length_map, List.length_map]; omega
  have l2 : 0 + 1 + (((L.filter fun u => decide (t.rank < u.rank)).map fun u => u.most - 1).map D.int).length ≤ 16777216 := by rw [List.length_map, List.length_map]; omega
  have n1 : ([D.int 0] : List D).length ≤ 16777216 := by simp
  unfold m_held_back
  refine fnT_rt ?_ rfl
  generalize ((L.filter fun u => decide (t.rank < u.rank)).map fun u => u.most - 1).map D.int = X at *
  generalize L.map encT = Y at *
  simp only [List.cons_append, List.nil_append] at mx
  simp only [ap_fnK, List.map_cons, List.map_nil, List.length_cons, List.length_nil, Nat.reduceAdd, Nat.reduceSub, List.replicate, List.cons_append, List.nil_append, ap_next, ap_seq, ap_drop, ap_ret, ap_if, ap_name, ap_nil, ap_cons, ap_tup, ap_asg, ap_for, ap_V0, ap_V1, ap_V2, ap_V3, ap_V4, ap_V5, ap_V6, ap_V7, ap_V8, ap_V9, ap_V10, ap_C, ap_op, ap_un, ap_ar, ap_tB, ap_tand, ap_tor, ap_tnot, ap_tyes, ap_and, ap_or, ap_eif, ap_anil, ap_acons, ap_etup, ap_elst, ap_ait, ap_arng, ap_call, ap_callD, ap_meth, ap_meth0, ap_lc, ap_wipe0, ap_wipe, ap_fin, ap_noX, ap_some, Res.bind_ok, Res.bnd_ok, List.set_cons_succ, List.set_cons_zero, Option.bind_some, d_q2, d_i2, q_qA, s_lst, s_fix, s_tup, s_ktp, q_lst, q_tup, l_lst, l_fix, l_tup, d_lt, d_le, d_gt, d_ge, d_sub, d_add, d_eqi, d_nei, d_isn, d_nisn, n_non, n_int, n_str, x_max2, x_min2, decide_true, decide_false, if_true, ↓reduceIte, Bool.false_eq_true, Nat.reduceLeDiff, lc, ll, d_addl, l2, mx]
/-- what is told of spoils: their distance, or none; as a cost and a distance -/
inductive Spl (cm : Int) : D → Int → Int → Prop
  | no : Spl cm .non 0 1
  | yes {a : Int} (h : cm < a) (h2 : a < 9223372036854775808) : Spl cm (.int a) cm a
theorem Spl.c0 {cm c a : Int} {d : D} (h : Spl cm d c a) (hm : 0 ≤ cm) : 0 ≤ c ∧ c < a := by
  cases h with
  | no => omega
  | yes h => exact ⟨hm, h⟩
theorem with_spoils {cm c a y : Int} {d : D} (h : Spl cm d c a) (hm : 0 ≤ cm) (hm2 : cm < 9223372036854775808) : m_with_spoils [.int y, .int cm, d] S = .ok (.int (sp y c a)) S := by
  cases h with
  | no =>
    have e : sp y 0 1 = y := by unfold sp; omega
    rw [e]
    unfold m_with_spoils
    refine fnT_rt ?_ rfl
    simp only [ap_fnK, List.map_cons, List.map_nil, List.length_cons, List.length_nil, Nat.reduceAdd, Nat.reduceSub, List.replicate, List.cons_append, List.nil_append, ap_next, ap_seq, ap_drop, ap_ret, ap_if, ap_name, ap_nil, ap_cons, ap_tup, ap_asg, ap_for, ap_V0, ap_V1, ap_V2, ap_V3, ap_V4, ap_V5, ap_V6, ap_V7, ap_V8, ap_V9, ap_V10, ap_C, ap_op, ap_un, ap_ar, ap_tB, ap_tand, ap_tor, ap_tnot, ap_tyes, ap_and, ap_or, ap_eif, ap_anil, ap_acons, ap_etup, ap_elst, ap_ait, ap_arng, ap_call, ap_callD, ap_meth, ap_meth0, ap_lc, ap_wipe0, ap_wipe, ap_fin, ap_noX, ap_some, Res.bind_ok, Res.bnd_ok, List.set_cons_succ, List.set_cons_zero, Option.bind_some, d_q2, d_i2, q_qA, s_lst, s_fix, s_tup, s_ktp, q_lst, q_tup, l_lst, l_fix, l_tup, d_lt, d_le, d_gt, d_ge, d_sub, d_add, d_eqi, d_nei, d_isn, d_nisn, n_non, n_int, n_str, x_max2, x_min2, decide_true, decide_false, if_true, ↓reduceIte, Bool.false_eq_true, Nat.reduceLeDiff]
  | yes h h2 =>
    have c1 : decide (a ≤ cm) = false := decide_eq_false (by omega)
    have fd : fDiv (-y) (a - cm) = some (.int (-y / (a - cm))) := if_pos ⟨by omega, big_lim (by omega) (by omega)⟩
    have fm : fMul cm (-(-y / (a - cm))) = some (.int (cm * -(-y / (a - cm)))) := fMul_ok (by omega) (by omega)
    unfold m_with_spoils
    refine fnT_rt ?_ rfl
    simp only [ap_fnK, List.map_cons, List.map_nil, List.length_cons, List.length_nil, Nat.reduceAdd, Nat.reduceSub, List.replicate, List.cons_append, List.nil_append, ap_next, ap_seq, ap_drop, ap_ret, ap_if, ap_name, ap_nil, ap_cons, ap_tup, ap_asg, ap_for, ap_V0, ap_V1, ap_V2, ap_V3, ap_V4, ap_V5, ap_V6, ap_V7, ap_V8, ap_V9, ap_V10, ap_C, ap_op, ap_un, ap_ar, ap_tB, ap_tand, ap_tor, ap_tnot, ap_tyes, ap_and, ap_or, ap_eif, ap_anil, ap_acons, ap_etup, ap_elst, ap_ait, ap_arng, ap_call, ap_callD, ap_meth, ap_meth0, ap_lc, ap_wipe0, ap_wipe, ap_fin, ap_noX, ap_some, Res.bind_ok, Res.bnd_ok, List.set_cons_succ, List.set_cons_zero, Option.bind_some, d_q2, d_i2, q_qA, s_lst, s_fix, s_tup, s_ktp, q_lst, q_tup, l_lst, l_fix, l_tup, d_lt, d_le, d_gt, d_ge, d_sub, d_add, d_eqi, d_nei, d_isn, d_nisn, n_non, n_int, n_str, x_max2, x_min2, decide_true, decide_false, if_true, ↓reduceIte, Bool.false_eq_true, Nat.reduceLeDiff, c1, d_neg, fd, fm]
    rfl
/-- the stretch's function -/
def gS (A B : List Tsk) (t : Tsk) (c a x : Int) : Int := sp (dem (heldB B) ((A ++ [t]).map tk) x) c a
theorem heldB_nonneg : 0 ≤ heldB B := by
  unfold heldB
  exact (fold_max (l := B.map fun u => u.most - 1) (a := 0)).2 0 (by simp)
theorem Tame.tkOk {M : List Tsk} (h : Tame M) : ∀ k ∈ M.map tk, k.Ok := fun k hk => by
  obtain ⟨u, hu, rfl⟩ := List.mem_map.mp hk
  exact ⟨by have := h.most u hu; show 0 ≤ u.most; omega, by have := h.wait u hu; show 0 ≤ u.wait; omega, by have := h.gap u hu; show 0 < u.gap; omega⟩
theorem Tame.sub {M N : List Tsk} (h : Tame M) (s : ∀ x ∈ N, x ∈ M) : Tame N := ⟨fun t ht => h.gap t (s t ht), fun t ht => h.most t (s t ht), fun t ht => h.wait t (s t ht)⟩
theorem sum_nonneg' : ∀ {l : List Int}, (∀ x ∈ l, 0 ≤ x) → 0 ≤ sumI l
  | [], _ => Int.le_refl _
  | x :: l, h => by
    have := h x (by simp)
    have := sum_nonneg' (l := l) fun y hy => h y (by simp [hy])
    rw [sumI_cons]; omega
theorem sum_app : ∀ {l m : List Int}, sumI (l ++ m) = sumI l + sumI m
  | [], m => by simp
  | x :: l, m => by rw [List.cons_append, sumI_cons, sumI_cons, sum_app]; omega
theorem dem_snoc {first x : Int} {l : List Tk} {k : Tk} : dem first (l ++ [k]) x = dem first l x + k.most * up (x + k.wait) k.gap := by
  unfold dem
  rw [List.map_append, sum_app]
  simp
  omega
theorem dem_ge {first x : Int} {l : List Tk} (h : ∀ k ∈ l, k.Ok) (hx : 0 ≤ x) : first ≤ dem first l x := by
  have : 0 ≤ sumI (l.map fun k => k.most * up (x + k.wait) k.gap) := sum_nonneg' fun y hy => by
    obtain ⟨k, hk, rfl⟩ := List.mem_map.mp hy
    obtain ⟨h1, h2, h3⟩ := h k hk
    exact Int.mul_nonneg h1 (up_nonneg h3 (by omega))
  unfold dem
  omega
theorem dem_self {x : Int} (hT : Tame (A ++ [t])) (hx : 1 ≤ x) {first : Int} (hf : 0 ≤ first) : t.most ≤ dem first ((A ++ [t]).map tk) x := by
  have hok := (hT.sub (N := A) fun x hx => by simp [hx]).tkOk
  have h1 := dem_ge (first := first) (x := x) hok (by omega)
  have hm := hT.most t (by simp); have hg := hT.gap t (by simp); have hw := hT.wait t (by simp)
  have u1 := up_pos (x := x + t.wait) (g := t.gap) (by omega) (by omega)
  have : t.most * 1 ≤ t.most * up (x + t.wait) t.gap := Int.mul_le_mul_of_nonneg_left u1 (by omega)
  rw [List.map_append]
  show t.most ≤ dem first (A.map tk ++ [tk t]) x
  rw [dem_snoc]
  show t.most ≤ _ + t.most * up (x + t.wait) t.gap
  omega
theorem gS_mono {c a : Int} (hT : Tame (A ++ [t])) (hc : 0 ≤ c) (ha : c < a) : ∀ x y, x ≤ y → gS A B t c a x ≤ gS A B t c a y := fun x y e => sp_mono hc ha (dem_mono hT.tkOk e)
theorem gS_one {c a : Int} (hT : Tame (A ++ [t])) (hc : 0 ≤ c) (ha : c < a) : 1 ≤ gS A B t c a 1 := by
  have h := dem_self (x := 1) (first := heldB B) hT (Int.le_refl _) heldB_nonneg
  have hm := hT.most t (by simp)
  have := sp_ge (y := dem (heldB B) ((A ++ [t]).map tk) 1) hc ha (by omega)
  unfold gS
  omega
theorem stretch_go {cm c a lim : Int} {d : D} {x5 : Option D} (hP : Pl (A ++ t :: B)) (hT : Tame (A ++ t :: B)) (hs : Spl cm d c a) (hm : 0 ≤ cm) (hm2 : cm < 9223372036854775808) : ∀ (n : Nat) (s : Int) (x : Option D), (lim + 1 - s).toNat < n → 1 ≤ s → s ≤ gS A B t c a s → (∀ j, 1 ≤ j → gS A B t c a j = j → s ≤ j) →
    ∃ r, LF (gS A B t c a) 1 lim r ∧ match r with
      | some k => sWhile (tvAnd (tB' (eOp (q2 dNis) (eV 7) (eC .non))) (tB' (eOp (q2 (i2 fLe)) (eV 7) (eV 6)))) (sSeq (sSet 8 (eCall m_with_spoils 3 (aCons (eCall m_demanded 3 (aCons (eCall m_held_back 2 (aCons (eV 0) (aCons (eV 1) aNil))) (aCons (eV 3) (aCons (eV 7) aNil)))) (aCons (eV 4) (aCons (eV 2) aNil))))) (sSeq (sIf (tB' (eOp (q2 dEq) (eV 8) (eV 7))) (sRet (eV 7)) sNext) (sSet 7 (eV 8)))) n [some (.lst ((A ++ t :: B).map encT)), some (encT t), some d, some (.lst ((A ++ [t]).map encT)), some (.int cm), x5, some (.int lim), some (.int s), x] S = .ok (.rt (.int k)) S
      | none => ∃ env', sWhile (tvAnd (tB' (eOp (q2 dNis) (eV 7) (eC .non))) (tB' (eOp (q2 (i2 fLe)) (eV 7) (eV 6)))) (sSeq (sSet 8 (eCall m_with_spoils 3 (aCons (eCall m_demanded 3 (aCons (eCall m_held_back 2 (aCons (eV 0) (aCons (eV 1) aNil))) (aCons (eV 3) (aCons (eV 7) aNil)))) (aCons (eV 4) (aCons (eV 2) aNil))))) (sSeq (sIf (tB' (eOp (q2 dEq) (eV 8) (eV 7))) (sRet (eV 7)) sNext) (sSet 7 (eV 8)))) n [some (.lst ((A ++ t :: B).map encT)), some (encT t), some d, some (.lst ((A ++ [t]).map encT)), some (.int cm), x5, some (.int lim), some (.int s), x] S = .ok (.nx env') S
  | 0, _, _, h, _, _, _ => absurd h (by omega)
  | n + 1, s, x, hn, h1, h2, h3 => by
    have hU : Tame (A ++ [t]) := hT.sub fun y hy => by
      rcases List.mem_append.mp hy with h | h
      · simp [h]
      · simp at h; simp [h]
    have few := hP.row.few
    rw [List.length_append, List.length_cons] at few
    have hb := held_back (t := t) (S := S) (L := A ++ t :: B) (by rw [List.length_append, List.length_cons]; omega)
    rw [(split_ord hP.ord).2] at hb
    have dm := demanded (S := S) (first := heldB B) (w := s) hU (by rw [List.length_append]; simp; omega)
    have ws := with_spoils (S := S) (y := dem (heldB B) ((A ++ [t]).map tk) s) hs hm hm2
    change _ = (Res.ok (D.int (gS A B t c a s)) S : Res D) at ws
    have mono := gS_mono (A := A) (B := B) (t := t) (c := c) (a := a) hU (hs.c0 hm).1 (hs.c0 hm).2
    by_cases q : s ≤ lim
    · have q1 : decide (s ≤ lim) = true := decide_eq_true q
      by_cases e : gS A B t c a s = s
      · refine ⟨some s, ⟨h1, q, e, h3⟩, ?_⟩
        rw [e] at ws
        have e1 : dEq (.int s) (.int s) = some (.bl true) := by rw [d_eqi]; simp
        generalize (A ++ t :: B).map encT = X at *
        generalize (A ++ [t]).map encT = Y at *
        simp only [sWhile]
        simp only [ap_fnK, List.map_cons, List.map_nil, List.length_cons, List.length_nil, Nat.reduceAdd, Nat.reduceSub, List.replicate, List.cons_append, List.nil_append, ap_next, ap_seq, ap_drop, ap_ret, ap_if, ap_name, ap_nil, ap_cons, ap_tup, ap_asg, ap_for, ap_V0, ap_V1, ap_V2, ap_V3, ap_V4, ap_V5, ap_V6, ap_V7, ap_V8, ap_V9, ap_V10, ap_C, ap_op, ap_un, ap_ar, ap_tB, ap_tand, ap_tor, ap_tnot, ap_tyes, ap_and, ap_or, ap_eif, ap_anil, ap_acons, ap_etup, ap_elst, ap_ait, ap_arng, ap_call, ap_callD, ap_meth, ap_meth0, ap_lc, ap_wipe0, ap_wipe, ap_fin, ap_noX, ap_some, Res.bind_ok, Res.bnd_ok, List.set_cons_succ, List.set_cons_zero, Option.bind_some, d_q2, d_i2, q_qA, s_lst, s_fix, s_tup, s_ktp, q_lst, q_tup, l_lst, l_fix, l_tup, d_lt, d_le, d_gt, d_ge, d_sub, d_add, d_eqi, d_nei, d_isn, d_nisn, n_non, n_int, n_str, x_max2, x_min2, decide_true, decide_false, if_true, ↓reduceIte, Bool.false_eq_true, Nat.reduceLeDiff, q1, Bool.not_false, hb, dm, ws, e1]
      · obtain ⟨r, r1, r2⟩ := stretch_go (x5 := x5) (lim := lim) hP hT hs hm hm2 n (gS A B t c a s) (some (.int (gS A B t c a s))) (by omega) (by omega) (mono _ _ h2) (fun j j1 j2 => by
          have := mono _ _ (h3 j j1 j2)
          omega)
        refine ⟨r, r1, ?_⟩
        have e1 : dEq (.int (gS A B t c a s)) (.int s) = some (.bl false) := by rw [d_eqi]; simp [e]
        have step : sWhile (tvAnd (tB' (eOp (q2 dNis) (eV 7) (eC .non))) (tB' (eOp (q2 (i2 fLe)) (eV 7) (eV 6)))) (sSeq (sSet 8 (eCall m_with_spoils 3 (aCons (eCall m_demanded 3 (aCons (eCall m_held_back 2 (aCons (eV 0) (aCons (eV 1) aNil))) (aCons (eV 3) (aCons (eV 7) aNil)))) (aCons (eV 4) (aCons (eV 2) aNil))))) (sSeq (sIf (tB' (eOp (q2 dEq) (eV 8) (eV 7))) (sRet (eV 7)) sNext) (sSet 7 (eV 8)))) (n + 1) [some (.lst ((A ++ t :: B).map encT)), some (encT t), some d, some (.lst ((A ++ [t]).map encT)), some (.int cm), x5, some (.int lim), some (.int s), x] S
            = sWhile (tvAnd (tB' (eOp (q2 dNis) (eV 7) (eC .non))) (tB' (eOp (q2 (i2 fLe)) (eV 7) (eV 6)))) (sSeq (sSet 8 (eCall m_with_spoils 3 (aCons (eCall m_demanded 3 (aCons (eCall m_held_back 2 (aCons (eV 0) (aCons (eV 1) aNil))) (aCons (eV 3) (aCons (eV 7) aNil)))) (aCons (eV 4) (aCons (eV 2) aNil))))) (sSeq (sIf (tB' (eOp (q2 dEq) (eV 8) (eV 7))) (sRet (eV 7)) sNext) (sSet 7 (eV 8)))) n [some (.lst ((A ++ t :: B).map encT)), some (encT t), some d, some (.lst ((A ++ [t]).map encT)), some (.int cm), x5, some (.int lim), some (.int (gS A B t c a s)), some (.int (gS A B t c a s))] S := by
          generalize (A ++ t :: B).map encT = X at *
          generalize (A ++ [t]).map encT = Y at *
          generalize gS A B t c a s = z at *
          rw [sWhile]
          simp only [ap_fnK, List.map_cons, List.map_nil, List.length_cons, List.length_nil, Nat.reduceAdd, Nat.reduceSub, List.replicate, List.cons_append, List.nil_append, ap_next, ap_seq, ap_drop, ap_ret, ap_if, ap_name, ap_nil, ap_cons, ap_tup, ap_asg, ap_for, ap_V0, ap_V1, ap_V2, ap_V3, ap_V4, ap_V5, ap_V6, ap_V7, ap_V8, ap_V9, ap_V10, ap_C, ap_op, ap_un, ap_ar, ap_tB, ap_tand, ap_tor, ap_tnot, ap_tyes, ap_and, ap_or, ap_eif, ap_anil, ap_acons, ap_etup, ap_elst, ap_ait, ap_arng, ap_call, ap_callD, ap_meth, ap_meth0, ap_lc, ap_wipe0, ap_wipe, ap_fin, ap_noX, ap_some, Res.bind_ok, Res.bnd_ok, List.set_cons_succ, List.set_cons_zero, Option.bind_some, d_q2, d_i2, q_qA, s_lst, s_fix, s_tup, s_ktp, q_lst, q_tup, l_lst, l_fix, l_tup, d_lt, d_le, d_gt, d_ge, d_sub, d_add, d_eqi, d_nei, d_isn, d_nisn, n_non, n_int, n_str, x_max2, x_min2, decide_true, decide_false, if_true, ↓reduceIte, Bool.false_eq_true, Nat.reduceLeDiff, q1, Bool.not_false, hb, dm, ws, e1]
        rw [step]
        exact r2
    · refine ⟨none, fun j j1 j2 e => ?_, ?_⟩
      · have := h3 j j1 e
        omega
      · have q1 : decide (s ≤ lim) = false := decide_eq_false q
        refine ⟨[some (.lst ((A ++ t :: B).map encT)), some (encT t), some d, some (.lst ((A ++ [t]).map encT)), some (.int cm), x5, some (.int lim), some (.int s), x], ?_⟩
        generalize (A ++ t :: B).map encT = X at *
        generalize (A ++ [t]).map encT = Y at *
        simp only [sWhile]
        simp only [ap_fnK, List.map_cons, List.map_nil, List.length_cons, List.length_nil, Nat.reduceAdd, Nat.reduceSub, List.replicate, List.cons_append, List.nil_append, ap_next, ap_seq, ap_drop, ap_ret, ap_if, ap_name, ap_nil, ap_cons, ap_tup, ap_asg, ap_for, ap_V0, ap_V1, ap_V2, ap_V3, ap_V4, ap_V5, ap_V6, ap_V7, ap_V8, ap_V9, ap_V10, ap_C, ap_op, ap_un, ap_ar, ap_tB, ap_tand, ap_tor, ap_tnot, ap_tyes, ap_and, ap_or, ap_eif, ap_anil, ap_acons, ap_etup, ap_elst, ap_ait, ap_arng, ap_call, ap_callD, ap_meth, ap_meth0, ap_lc, ap_wipe0, ap_wipe, ap_fin, ap_noX, ap_some, Res.bind_ok, Res.bnd_ok, List.set_cons_succ, List.set_cons_zero, Option.bind_some, d_q2, d_i2, q_qA, s_lst, s_fix, s_tup, s_ktp, q_lst, q_tup, l_lst, l_fix, l_tup, d_lt, d_le, d_gt, d_ge, d_sub, d_add, d_eqi, d_nei, d_isn, d_nisn, n_non, n_int, n_str, x_max2, x_min2, decide_true, decide_false, if_true, ↓reduceIte, Bool.false_eq_true, Nat.reduceLeDiff, q1, Bool.not_false]
end
end Sm
set_option Elab.async false
set_option linter.all false
set_option maxRecDepth 100000
set_option maxHeartbeats 400000
open PySem PySem.Spec
namespace Sm
open L2 PySem.W
def optN (r : Option Int) : D := match r with | some k => .int k | none => .non
section
variable {A B L : List Tsk} {t : Tsk} {S : Sto}
theorem few_of (h : Pl (A ++ t :: B)) : A.length + B.length < 999 := by
  have few := h.row.few
  rw [List.length_append, List.length_cons] at few
  omega
theorem sub_A (h : Tame (A ++ t :: B)) : Tame A := h.sub fun x hx => by simp [hx]
theorem sub_U (h : Tame (A ++ t :: B)) : Tame (A ++ [t]) := h.sub fun y hy => by
  rcases List.mem_append.mp hy with h | h
  · simp [h]
  · simp at h; simp [h]
theorem urgent (h : Pl (A ++ t :: B)) : m_more_urgent [.lst ((A ++ t :: B).map encT), encT t] S = .ok (.lst (A.map encT)) S := by
  have := more_urgent (M := A ++ t :: B) (t := t) (S := S)
  have few := few_of h
  rw [if_pos (by rw [List.length_append, List.length_cons]; omega), (split_ord h.ord).1] at this
  exact this
theorem stretch {cm c a G : Int} {d : D} (hP : Pl (A ++ t :: B)) (hT : Tame (A ++ t :: B)) (hs : Spl cm d c a) (hm : IsMax ((A ++ [t]).map fun u => u.most) cm) (hG : IsMax ((A ++ t :: B).map fun u => u.gap) G) (hG2 : G ≤ 1000000000000) :
    ∃ r, LF (gS A B t c a) 1 (100 * G) r ∧ m_stretch [.lst ((A ++ t :: B).map encT), encT t, d] S = .ok (optN r) S := by
  have few := few_of hP
  have hU := sub_U hT
  obtain ⟨u, hu, eu⟩ := List.mem_map.mp hm.1
  have hmu := hU.most u hu
  have hm0 : 0 ≤ cm := by omega
  have hm2 : cm < 9223372036854775808 := by omega
  obtain ⟨v, hv, ev⟩ := List.mem_map.mp hG.1
  have hgv := hT.gap v hv
  have mu := urgent (S := S) hP
  obtain ⟨m1, x1, y1⟩ := max_ints (l := (A ++ [t]).map fun u => u.most) (by simp)
  have e1 := y1.uniq hm
  subst e1
  obtain ⟨m2, x2, y2⟩ := max_ints (l := (A ++ t :: B).map fun u => u.gap) (by simp)
  have e2 := y2.uniq hG
  subst e2
  have lc1 : ∀ x, lcGo (vName 5) tvYes (eUn (fldD ["Message"] "most") (eV 5)) [some (.lst ((A ++ t :: B).map encT)), some (encT t), some d, some (.lst ((A ++ [t]).map encT)), x, none, none, none, none] ((A ++ [t]).map encT) S = .ok (((A ++ [t]).map fun u => u.most).map D.int) S := fun x => by
    rw [List.map_map]
    refine lc_all (enc := encT) (f := D.int ∘ fun u => u.most) fun u hu => ⟨_, rfl, rfl, ?_⟩
    simp
  have lc2 : ∀ x, lcGo (vName 5) tvYes (eUn (fldD ["Message"] "gap") (eV 5)) [some (.lst ((A ++ t :: B).map encT)), some (encT t), some d, some (.lst ((A ++ [t]).map encT)), x, none, none, none, none] ((A ++ t :: B).map encT) S = .ok (((A ++ t :: B).map fun u => u.gap).map D.int) S := fun x => by
    rw [List.map_map]
    refine lc_all (enc := encT) (f := D.int ∘ fun u => u.gap) fun u hu => ⟨_, rfl, rfl, ?_⟩
    simp
  have ll1 : (((A ++ [t]).map fun u => u.most).map D.int).length ≤ 16777216 := by rw [List.length_map, List.length_map, List.length_append]; simp; omega
  have ll2 : (((A ++ t :: B).map fun u => u.gap).map D.int).length ≤ 16777216 := by rw [List.length_map, List.length_map, List.length_append, List.length_cons]; omega
  have fm : fMul 100 m2 = some (.int (100 * m2)) := fMul_ok (by omega) (by omega)
  obtain ⟨r, r1, r2⟩ := stretch_go (S := S) (x5 := none) (lim := 100 * m2) hP hT hs hm0 hm2 fuel 1 none (by
    have : fuel = 1000000000000000 := rfl
    omega) (by omega) (gS_one hU (hs.c0 hm0).1 (hs.c0 hm0).2) (fun j h _ => h)
  refine ⟨r, r1, ?_⟩
  have app : dAdd (.lst (A.map encT)) (.lst [encT t]) = some (.lst ((A ++ [t]).map encT)) := by
    rw [d_addl, if_pos (by rw [List.length_map]; simp; omega), List.map_append]; rfl
  have n1 : ([encT t] : List D).length ≤ 16777216 := by simp
  unfold m_stretch
  refine fnT_rt ?_ (by cases r <;> rfl)
  generalize ((A ++ t :: B).map fun u => u.gap).map D.int = Z1 at *
  generalize ((A ++ [t]).map fun u => u.most).map D.int = Z2 at *
  generalize (A ++ t :: B).map encT = X at *
  generalize (A ++ [t]).map encT = Y at *
  generalize A.map encT = Y2 at *
  cases r with
  | some k =>
    simp only at r2
    simp only [ap_fnK, List.map_cons, List.map_nil, List.length_cons, List.length_nil, Nat.reduceAdd, Nat.reduceSub, List.replicate, List.cons_append, List.nil_append, ap_next, ap_seq, ap_drop, ap_ret, ap_if, ap_name, ap_nil, ap_cons, ap_tup, ap_asg, ap_for, ap_V0, ap_V1, ap_V2, ap_V3, ap_V4, ap_V5, ap_V6, ap_V7, ap_V8, ap_V9, ap_V10, ap_C, ap_op, ap_un, ap_ar, ap_tB, ap_tand, ap_tor, ap_tnot, ap_tyes, ap_and, ap_or, ap_eif, ap_anil, ap_acons, ap_etup, ap_elst, ap_ait, ap_arng, ap_call, ap_callD, ap_meth, ap_meth0, ap_lc, ap_wipe0, ap_wipe, ap_fin, ap_noX, ap_some, Res.bind_ok, Res.bnd_ok, List.set_cons_succ, List.set_cons_zero, Option.bind_some, d_q2, d_i2, q_qA, s_lst, s_fix, s_tup, s_ktp, q_lst, q_tup, l_lst, l_fix, l_tup, d_lt, d_le, d_gt, d_ge, d_sub, d_add, d_eqi, d_nei, d_isn, d_nisn, n_non, n_int, n_str, x_max2, x_min2, decide_true, decide_false, if_true, ↓reduceIte, Bool.false_eq_true, Nat.reduceLeDiff, mu, n1, app, lc1, ll1, x1, lc2, ll2, x2, fm, r2, optN]
  | none =>
    obtain ⟨env', r2⟩ := r2
    simp only [ap_fnK, List.map_cons, List.map_nil, List.length_cons, List.length_nil, Nat.reduceAdd, Nat.reduceSub, List.replicate, List.cons_append, List.nil_append, ap_next, ap_seq, ap_drop, ap_ret, ap_if, ap_name, ap_nil, ap_cons, ap_tup, ap_asg, ap_for, ap_V0, ap_V1, ap_V2, ap_V3, ap_V4, ap_V5, ap_V6, ap_V7, ap_V8, ap_V9, ap_V10, ap_C, ap_op, ap_un, ap_ar, ap_tB, ap_tand, ap_tor, ap_tnot, ap_tyes, ap_and, ap_or, ap_eif, ap_anil, ap_acons, ap_etup, ap_elst, ap_ait, ap_arng, ap_call, ap_callD, ap_meth, ap_meth0, ap_lc, ap_wipe0, ap_wipe, ap_fin, ap_noX, ap_some, Res.bind_ok, Res.bnd_ok, List.set_cons_succ, List.set_cons_zero, Option.bind_some, d_q2, d_i2, q_qA, s_lst, s_fix, s_tup, s_ktp, q_lst, q_tup, l_lst, l_fix, l_tup, d_lt, d_le, d_gt, d_ge, d_sub, d_add, d_eqi, d_nei, d_isn, d_nisn, n_non, n_int, n_str, x_max2, x_min2, decide_true, decide_false, if_true, ↓reduceIte, Bool.false_eq_true, Nat.reduceLeDiff, mu, n1, app, lc1, ll1, x1, lc2, ll2, x2, fm, r2, optN]
/-! ## the begins -/
def gB (first : Int) (A : List Tsk) (t : Tsk) (c a x : Int) : Int := sp (dem first (A.map tk) (x + 1) + t.most) c a - t.most
theorem gB_mono {first first' c a : Int} (hA : Tame A) (hc : 0 ≤ c) (ha : c < a) (hf : first ≤ first') : ∀ x y, x ≤ y → gB first A t c a x ≤ gB first' A t c a y := fun x y e => by
  have := sp_mono (x := dem first (A.map tk) (x + 1) + t.most) (y := dem first' (A.map tk) (y + 1) + t.most) hc ha (by
    have := dem_mono0 (first := first) (first' := first') (t := x + 1) (s := y + 1) hA.tkOk hf (by omega)
    omega)
  unfold gB
  omega
theorem gB_nonneg {first c a x : Int} (hA : Tame A) (hc : 0 ≤ c) (ha : c < a) (hf : 0 ≤ first) (hm : 0 ≤ t.most) (hx : 0 ≤ x) : 0 ≤ gB first A t c a x := by
  have h1 := dem_ge (first := first) (x := x + 1) hA.tkOk (by omega)
  have := sp_ge (y := dem first (A.map tk) (x + 1) + t.most) hc ha (by omega)
  unfold gB
  omega
theorem begin_go {first cm c a b u : Int} {d : D} {x6 : Option D} (hA : Tame A) (hl : A.length < 1000) (hs : Spl cm d c a) (hm : 0 ≤ cm) (hm2 : cm < 9223372036854775808) (hu : gB first A t c a u ≤ u) : ∀ (n : Nat) (s : Int) (x7 x8 : Option D), (u - s).toNat < n → b ≤ s → s ≤ u → s ≤ gB first A t c a s → (∀ j, b ≤ j → gB first A t c a j = j → s ≤ j) →
    ∃ k, b ≤ k ∧ k ≤ u ∧ gB first A t c a k = k ∧ (∀ j, b ≤ j → gB first A t c a j = j → k ≤ j) ∧ sWhile (tB' (eC (.bl true))) (sSeq (sSet 7 (eCall m_demanded 3 (aCons (eV 0) (aCons (eV 1) (aCons (eOp (q2 dAdd) (eV 4) (eC (.int 1))) aNil))))) (sSeq (sSet 8 (eOp (q2 (i2 fSub)) (eCall m_with_spoils 3 (aCons (eOp (q2 dAdd) (eV 7) (eUn (fldD ["Message"] "most") (eV 2))) (aCons (eV 5) (aCons (eV 3) aNil)))) (eUn (fldD ["Message"] "most") (eV 2)))) (sSeq (sIf (tB' (eOp (q2 dEq) (eV 8) (eV 4))) (sRet (eV 4)) sNext) (sSet 4 (eV 8))))) n [some (.int first), some (.lst (A.map encT)), some (encT t), some d, some (.int s), some (.int cm), x6, x7, x8] S = .ok (.rt (.int k)) S
  | 0, _, _, _, h, _, _, _, _ => absurd h (by omega)
  | n + 1, s, x7, x8, hn, hb, hsu, hg, hj => by
    have dm := demanded (S := S) (first := first) (w := s + 1) hA (by omega)
    have ws := with_spoils (S := S) (y := dem first (A.map tk) (s + 1) + t.most) hs hm hm2
    have mono := gB_mono (t := t) (first := first) (first' := first) hA (hs.c0 hm).1 (hs.c0 hm).2 (Int.le_refl _)
    have eg : sp (dem first (A.map tk) (s + 1) + t.most) c a - t.most = gB first A t c a s := rfl
    by_cases e : gB first A t c a s = s
    · refine ⟨s, hb, hsu, e, hj, ?_⟩
      have e1 : dEq (.int (sp (dem first (A.map tk) (s + 1) + t.most) c a - t.most)) (.int s) = some (.bl true) := by rw [eg, e, d_eqi]; simp
      generalize A.map encT = X at *
      simp only [sWhile]
      simp only [ap_fnK, List.map_cons, List.map_nil, List.length_cons, List.length_nil, Nat.reduceAdd, Nat.reduceSub, List.replicate, List.cons_append, List.nil_append, ap_next, ap_seq, ap_drop, ap_ret, ap_if, ap_name, ap_nil, ap_cons, ap_tup, ap_asg, ap_for, ap_V0, ap_V1, ap_V2, ap_V3, ap_V4, ap_V5, ap_V6, ap_V7, ap_V8, ap_V9, ap_V10, ap_C, ap_op, ap_un, ap_ar, ap_tB, ap_tand, ap_tor, ap_tnot, ap_tyes, ap_and, ap_or, ap_eif, ap_anil, ap_acons, ap_etup, ap_elst, ap_ait, ap_arng, ap_call, ap_callD, ap_meth, ap_meth0, ap_lc, ap_wipe0, ap_wipe, ap_fin, ap_noX, ap_some, Res.bind_ok, Res.bnd_ok, List.set_cons_succ, List.set_cons_zero, Option.bind_some, d_q2, d_i2, q_qA, s_lst, s_fix, s_tup, s_ktp, q_lst, q_tup, l_lst, l_fix, l_tup, d_lt, d_le, d_gt, d_ge, d_sub, d_add, d_eqi, d_nei, d_isn, d_nisn, n_non, n_int, n_str, x_max2, x_min2, decide_true, decide_false, if_true, ↓reduceIte, Bool.false_eq_true, Nat.reduceLeDiff, dm, f_most, ws, e1]
    · have h1 : gB first A t c a s ≤ u := Int.le_trans (mono s u hsu) hu
      obtain ⟨k, k1, k2, k3, k4, k5⟩ := begin_go (x6 := x6) (b := b) hA hl hs hm hm2 hu n (gB first A t c a s) (some (.int (dem first (A.map tk) (s + 1)))) (some (.int (gB first A t c a s))) (by omega) (by omega) h1 (mono s _ hg) (fun j j1 j2 => by
        have := mono s j (hj j j1 j2)
        omega)
      refine ⟨k, k1, k2, k3, k4, ?_⟩
      rw [← k5]
      have e1 : dEq (.int (gB first A t c a s)) (.int s) = some (.bl false) := by rw [d_eqi]; simp [e]
      generalize A.map encT = X at *
      rw [sWhile]
      simp only [ap_fnK, List.map_cons, List.map_nil, List.length_cons, List.length_nil, Nat.reduceAdd, Nat.reduceSub, List.replicate, List.cons_append, List.nil_append, ap_next, ap_seq, ap_drop, ap_ret, ap_if, ap_name, ap_nil, ap_cons, ap_tup, ap_asg, ap_for, ap_V0, ap_V1, ap_V2, ap_V3, ap_V4, ap_V5, ap_V6, ap_V7, ap_V8, ap_V9, ap_V10, ap_C, ap_op, ap_un, ap_ar, ap_tB, ap_tand, ap_tor, ap_tnot, ap_tyes, ap_and, ap_or, ap_eif, ap_anil, ap_acons, ap_etup, ap_elst, ap_ait, ap_arng, ap_call, ap_callD, ap_meth, ap_meth0, ap_lc, ap_wipe0, ap_wipe, ap_fin, ap_noX, ap_some, Res.bind_ok, Res.bnd_ok, List.set_cons_succ, List.set_cons_zero, Option.bind_some, d_q2, d_i2, q_qA, s_lst, s_fix, s_tup, s_ktp, q_lst, q_tup, l_lst, l_fix, l_tup, d_lt, d_le, d_gt, d_ge, d_sub, d_add, d_eqi, d_nei, d_isn, d_nisn, n_non, n_int, n_str, x_max2, x_min2, decide_true, decide_false, if_true, ↓reduceIte, Bool.false_eq_true, Nat.reduceLeDiff, dm, f_most, ws, eg, e1]
theorem max_swap {l : List Int} {x m n : Int} (h1 : IsMax (x :: l) m) (h2 : IsMax (l ++ [x]) n) : m = n := by
  have a := h2.2 m (by
    rcases List.mem_cons.mp h1.1 with h | h
    · simp [h]
    · simp [h])
  have b := h1.2 n (by
    rcases List.mem_append.mp h2.1 with h | h
    · simp [h]
    · simp at h; simp [h])
  omega
theorem least_begin {first cm c a b u : Int} {d : D} (hA : Tame A) (hl : A.length < 1000) (hs : Spl cm d c a) (hm : IsMax ((A ++ [t]).map fun u => u.most) cm) (hm0 : 0 ≤ cm) (hm2 : cm < 9223372036854775808) (hu : gB first A t c a u ≤ u) (hb : b ≤ u) (hg : b ≤ gB first A t c a b) (hfu : (u - b).toNat < 1000000000000000) :
    ∃ k, b ≤ k ∧ k ≤ u ∧ gB first A t c a k = k ∧ (∀ j, b ≤ j → gB first A t c a j = j → k ≤ j) ∧ m_least_begin [.int first, .lst (A.map encT), encT t, d, .int b] S = .ok (.int k) S := by
  obtain ⟨m1, x1, y1⟩ := max_ints (l := t.most :: A.map fun u => u.most) (by simp)
  have e1 : m1 = cm := max_swap y1 (by rw [List.map_append] at hm; exact hm)
  subst e1
  have lc1 : ∀ x, lcGo (vName 6) tvYes (eUn (fldD ["Message"] "most") (eV 6)) [some (.int first), some (.lst (A.map encT)), some (encT t), some d, some (.int b), x, none, none, none] (A.map encT) S = .ok ((A.map fun u => u.most).map D.int) S := fun x => by
    rw [List.map_map]
    refine lc_all (enc := encT) (f := D.int ∘ fun u => u.most) fun u hu => ⟨_, rfl, rfl, ?_⟩
    simp
  have ll1 : ((A.map fun u => u.most).map D.int).length ≤ 16777216 := by rw [List.length_map, List.length_map]; omega
  have ll2 : 0 + 1 + ((A.map fun u => u.most).map D.int).length ≤ 16777216 := by rw [List.length_map, List.length_map]; omega
  obtain ⟨k, k1, k2, k3, k4, k5⟩ := begin_go (S := S) (x6 := none) (b := b) hA hl hs hm0 hm2 hu fuel b none none hfu (Int.le_refl _) hb hg (fun j h _ => h)
  refine ⟨k, k1, k2, k3, k4, ?_⟩
  have n1 : ([D.int t.most] : List D).length ≤ 16777216 := by simp
  unfold m_least_begin
  refine fnT_rt ?_ rfl
  simp only [List.map_cons] at x1
  generalize (A.map fun u => u.most).map D.int = Z at *
  generalize A.map encT = X at *
  simp only [ap_fnK, List.map_cons, List.map_nil, List.length_cons, List.length_nil, Nat.reduceAdd, Nat.reduceSub, List.replicate, List.cons_append, List.nil_append, ap_next, ap_seq, ap_drop, ap_ret, ap_if, ap_name, ap_nil, ap_cons, ap_tup, ap_asg, ap_for, ap_V0, ap_V1, ap_V2, ap_V3, ap_V4, ap_V5, ap_V6, ap_V7, ap_V8, ap_V9, ap_V10, ap_C, ap_op, ap_un, ap_ar, ap_tB, ap_tand, ap_tor, ap_tnot, ap_tyes, ap_and, ap_or, ap_eif, ap_anil, ap_acons, ap_etup, ap_elst, ap_ait, ap_arng, ap_call, ap_callD, ap_meth, ap_meth0, ap_lc, ap_wipe0, ap_wipe, ap_fin, ap_noX, ap_some, Res.bind_ok, Res.bnd_ok, List.set_cons_succ, List.set_cons_zero, Option.bind_some, d_q2, d_i2, q_qA, s_lst, s_fix, s_tup, s_ktp, q_lst, q_tup, l_lst, l_fix, l_tup, d_lt, d_le, d_gt, d_ge, d_sub, d_add, d_eqi, d_nei, d_isn, d_nisn, n_non, n_int, n_str, x_max2, x_min2, decide_true, decide_false, if_true, ↓reduceIte, Bool.false_eq_true, Nat.reduceLeDiff, f_most, n1, lc1, ll1, d_addl, ll2, x1, k5]
end
end Sm
set_option Elab.async false
set_option linter.all false
set_option maxRecDepth 100000
set_option maxHeartbeats 400000
open PySem PySem.Spec
namespace Sm
open L2 PySem.W
section
variable {A B L : List Tsk} {t : Tsk} {S : Sto}
/-- the q-th begin -/
def Bg (A B : List Tsk) (t : Tsk) (c a : Int) (q : Nat) (k : Int) : Prop := 0 ≤ k ∧ gB (heldB B + q * t.most) A t c a k = k ∧ ∀ j, 0 ≤ j → gB (heldB B + q * t.most) A t c a j = j → k ≤ j
theorem Bg.uniq {c a k l : Int} {q : Nat} (x : Bg A B t c a q k) (y : Bg A B t c a q l) : k = l := by
  have := x.2.2 l y.1 y.2.1
  have := y.2.2 k x.1 x.2.1
  omega
/-- the greatest of the first n -/
def toldF (t : Tsk) (f : Nat → Int) : Nat → Int
  | 0 => 0
  | n + 1 => max (toldF t f n) (t.wait + f n - n * t.gap + t.most)
theorem toldF_congr {f g : Nat → Int} : ∀ {n : Nat}, (∀ q, q < n → f q = g q) → toldF t f n = toldF t g n
  | 0, _ => rfl
  | n + 1, h => by
    unfold toldF
    rw [toldF_congr fun q hq => h q (by omega), h n (by omega)]
theorem toldF_le {f : Nat → Int} {n : Nat} : ∀ {m : Nat}, toldF t f n ≤ toldF t f (n + m)
  | 0 => Int.le_refl _
  | m + 1 => by
    have := toldF_le (f := f) (n := n) (m := m)
    show _ ≤ max (toldF t f (n + m)) _
    omega
theorem toldF_due {f : Nat → Int} {u : Tsk} (h1 : u.wait = t.wait) (h2 : u.gap = t.gap) (h3 : u.most = t.most) : ∀ {n : Nat}, toldF u f n = toldF t f n
  | 0 => rfl
  | n + 1 => by
    unfold toldF
    rw [toldF_due h1 h2 h3, h1, h2, h3]
/-- the greatest of all, as the stretch tells: nothing of the due -/
def BB (A B : List Tsk) (t : Tsk) (c a G : Int) (res : Option Int) : Prop := ∃ r, LF (gS A B t c a) 1 (100 * G) r ∧ match r with
  | none => res = none
  | some T => ∃ f : Nat → Int, (∀ q, q < (up (T + t.wait) t.gap).toNat → Bg A B t c a q (f q)) ∧ res = some (toldF t f (up (T + t.wait) t.gap).toNat)
theorem BB.uniq {c a G : Int} {x y : Option Int} (hx : BB A B t c a G x) (hy : BB A B t c a G y) : x = y := by
  obtain ⟨r, r1, r2⟩ := hx
  obtain ⟨s, s1, s2⟩ := hy
  have e := r1.uniq s1
  subst e
  cases r with
  | none => rw [show x = none from r2, show y = none from s2]
  | some T =>
    obtain ⟨f, f1, f2⟩ := r2
    obtain ⟨g, g1, g2⟩ := s2
    rw [f2, g2, toldF_congr fun q hq => (f1 q hq).uniq (g1 q hq)]
def fin' (due : Int) : Option Int → Option Int
  | some b => if b ≤ due then some b else none
  | none => none
/-- the stretch lets each begin end -/
theorem begin_top {c a T : Int} {q : Nat} (hT : Tame (A ++ t :: B)) (hc : 0 ≤ c) (ha : c < a) (hfix : gS A B t c a T = T) (h1 : 1 ≤ T) (hq : (q : Int) < up (T + t.wait) t.gap) : t.most ≤ T ∧ gB (heldB B + q * t.most) A t c a (T - t.most) ≤ T - t.most := by
  have hU := sub_U hT
  have hA := sub_A hT
  have hm := hT.most t (by simp); have hg := hT.gap t (by simp); have hw := hT.wait t (by simp)
  have d1 := dem_self (x := T) (first := heldB B) hU h1 heldB_nonneg
  have hT2 : t.most ≤ T := by
    have := sp_ge (y := dem (heldB B) ((A ++ [t]).map tk) T) hc ha (by omega)
    unfold gS at hfix
    omega
  refine ⟨hT2, ?_⟩
  have e : dem (heldB B) ((A ++ [t]).map tk) T = dem (heldB B) (A.map tk) T + t.most * up (T + t.wait) t.gap := by
    rw [List.map_append]
    exact dem_snoc
  have m1 : t.most * ((q : Int) + 1) ≤ t.most * up (T + t.wait) t.gap := Int.mul_le_mul_of_nonneg_left (by omega) (by omega)
  rw [Int.mul_add] at m1
  have m2 : (q : Int) * t.most = t.most * q := Int.mul_comm _ _
  have d2 : dem (heldB B + q * t.most) (A.map tk) (T - t.most + 1) ≤ dem (heldB B + q * t.most) (A.map tk) T := dem_mono hA.tkOk (by omega)
  have d3 : dem (heldB B + q * t.most) (A.map tk) T = dem (heldB B) (A.map tk) T + q * t.most := by unfold dem; omega
  have s1 := sp_mono (x := dem (heldB B + q * t.most) (A.map tk) (T - t.most + 1) + t.most) (y := dem (heldB B) ((A ++ [t]).map tk) T) hc ha (by omega)
  unfold gS at hfix
  unfold gB
  omega
theorem comings_n {T : Int} (hg : 0 < t.gap) (hw : 0 ≤ t.wait) (h1 : 1 ≤ T) : 0 < up (T + t.wait) t.gap := up_pos hg (by omega)
theorem first_mono {q : Nat} (hm : 0 ≤ t.most) : heldB B + (q : Int) * t.most ≤ heldB B + ((q + 1 : Nat) : Int) * t.most := by
  have : ((q + 1 : Nat) : Int) * t.most = q * t.most + t.most := by
    rw [Int.natCast_add, Int.add_mul]; omega
  omega
/-- the turns of the program: from the q-th on -/
theorem bound_go {cm c a T : Int} {d : D} {a0 a1 a5 : Option D} (hP : Pl (A ++ t :: B)) (hT : Tame (A ++ t :: B)) (hs : Spl cm d c a) (hm : IsMax ((A ++ [t]).map fun u => u.most) cm) (hm0 : 0 ≤ cm) (hm2 : cm < 9223372036854775808)
    (hfix : gS A B t c a T = T) (h1 : 1 ≤ T) (hT3 : T ≤ 100000000000000) : ∀ (n q : Nat) (b told : Int) (f : Nat → Int) (x10 : Option D), (n + q : Nat) = (up (T + t.wait) t.gap).toNat → (∀ i, i < q → Bg A B t c a i (f i)) → told = toldF t f q → told ≤ t.due → 0 ≤ b → b ≤ T - t.most → b ≤ gB (heldB B + q * t.most) A t c a b → (∀ j, 0 ≤ j → gB (heldB B + q * t.most) A t c a j = j → b ≤ j) →
    ∃ f' : Nat → Int, (∀ i, i < n + q → Bg A B t c a i (f' i)) ∧
      if toldF t f' (n + q) ≤ t.due then ∃ c8 c10, forGo (vName 10) (sSeq (sSet 8 (eCall m_least_begin 5 (aCons (eOp (q2 dAdd) (eV 6) (eOp (q2 (i2 fMul)) (eV 10) (eUn (fldD ["Message"] "most") (eV 3)))) (aCons (eV 7) (aCons (eV 3) (aCons (eV 2) (aCons (eV 8) aNil))))))) (sSeq (sSet 9 (eAr (qA dMax2) (aCons (eV 9) (aCons (eOp (q2 dAdd) (eOp (q2 (i2 fSub)) (eOp (q2 dAdd) (eUn (fldD ["Message"] "wait") (eV 3)) (eV 8)) (eOp (q2 (i2 fMul)) (eV 10) (eUn (fldD ["Message"] "gap") (eV 3)))) (eUn (fldD ["Message"] "most") (eV 3))) aNil)))) (sIf (tB' (eOp (q2 (i2 fGt)) (eV 9) (eUn (fldD ["Message"] "due") (eV 3)))) (sRet (eC .non)) sNext))) ((List.range n).map fun i => D.int ((q + i : Nat) : Int)) [a0, a1, some d, some (encT t), some (.lst ((A ++ t :: B).map encT)), a5, some (.int (heldB B)), some (.lst (A.map encT)), some (.int b), some (.int told), x10] S
          = .ok (.nx [a0, a1, some d, some (encT t), some (.lst ((A ++ t :: B).map encT)), a5, some (.int (heldB B)), some (.lst (A.map encT)), c8, some (.int (toldF t f' (n + q))), c10]) S
      else forGo (vName 10) (sSeq (sSet 8 (eCall m_least_begin 5 (aCons (eOp (q2 dAdd) (eV 6) (eOp (q2 (i2 fMul)) (eV 10) (eUn (fldD ["Message"] "most") (eV 3)))) (aCons (eV 7) (aCons (eV 3) (aCons (eV 2) (aCons (eV 8) aNil))))))) (sSeq (sSet 9 (eAr (qA dMax2) (aCons (eV 9) (aCons (eOp (q2 dAdd) (eOp (q2 (i2 fSub)) (eOp (q2 dAdd) (eUn (fldD ["Message"] "wait") (eV 3)) (eV 8)) (eOp (q2 (i2 fMul)) (eV 10) (eUn (fldD ["Message"] "gap") (eV 3)))) (eUn (fldD ["Message"] "most") (eV 3))) aNil)))) (sIf (tB' (eOp (q2 (i2 fGt)) (eV 9) (eUn (fldD ["Message"] "due") (eV 3)))) (sRet (eC .non)) sNext))) ((List.range n).map fun i => D.int ((q + i : Nat) : Int)) [a0, a1, some d, some (encT t), some (.lst ((A ++ t :: B).map encT)), a5, some (.int (heldB B)), some (.lst (A.map encT)), some (.int b), some (.int told), x10] S = .ok (.rt .non) S
  | 0, q, b, told, f, x10, hn, hf, ht, htd, hb, hbT, hg, hj => by
    refine ⟨f, fun i hi => hf i (by omega), ?_⟩
    rw [if_pos (by rw [Nat.zero_add, ← ht]; exact htd)]
    refine ⟨some (.int b), x10, ?_⟩
    rw [Nat.zero_add, ← ht]
    rfl
  | n + 1, q, b, told, f, x10, hn, hf, ht, htd, hb, hbT, hg, hj => by
    have hA := sub_A hT
    have hmt := hT.most t (by simp); have hgt := hT.gap t (by simp); have hwt := hT.wait t (by simp)
    have few := few_of hP
    have hqn : (q : Int) < up (T + t.wait) t.gap := by omega
    obtain ⟨hT2, top⟩ := begin_top hT (hs.c0 hm0).1 (hs.c0 hm0).2 hfix h1 hqn
    have hq0 : (0 : Int) ≤ q := by omega
    have hfp : 0 ≤ heldB B + q * t.most := by
      have := heldB_nonneg (B := B)
      have := Int.mul_nonneg hq0 (show 0 ≤ t.most by omega)
      omega
    obtain ⟨k, k1, k2, k3, k4, k5⟩ := least_begin (S := S) hA (by omega) hs hm hm0 hm2 top hbT hg (by omega)
    have bg : Bg A B t c a q k := ⟨by omega, k3, fun j j1 j2 => k4 j (hj j j1 j2) j2⟩
    have hqb : (q : Int) < 9223372036854775808 := by
      have : up (T + t.wait) t.gap ≤ T + t.wait := up_le (by omega) (by
        have := Int.mul_le_mul_of_nonneg_right (show (1 : Int) ≤ t.gap by omega) (show 0 ≤ T + t.wait by omega)
        omega)
      omega
    have fm1 : fMul (q : Int) t.most = some (.int (q * t.most)) := fMul_ok (by omega) (by omega)
    have fm2 : fMul (q : Int) t.gap = some (.int (q * t.gap)) := fMul_ok (by omega) (by omega)
    let f2 : Nat → Int := fun i => if i = q then k else f i
    have f2q : f2 q = k := if_pos rfl
    have f2o : ∀ i, i < q → f2 i = f i := fun i hi => if_neg (by omega)
    have told2 : toldF t f2 (q + 1) = max told (t.wait + k - q * t.gap + t.most) := by
      show max (toldF t f2 q) (t.wait + f2 q - q * t.gap + t.most) = _
      rw [toldF_congr f2o, f2q, ht]
    have hf2 : ∀ i, i < q + 1 → Bg A B t c a i (f2 i) := fun i hi => by
      by_cases e : i = q
      · subst e; rw [f2q]; exact bg
      · rw [f2o i (by omega)]; exact hf i (by omega)
    have mx : dMax2 [.int told, .int (t.wait + k - q * t.gap + t.most)] = some (.int (toldF t f2 (q + 1))) := by
      rw [told2]
      exact congrArg (fun n => some (D.int n)) (show (if t.wait + k - q * t.gap + t.most > told then t.wait + k - q * t.gap + t.most else told) = max told (t.wait + k - q * t.gap + t.most) by split <;> omega)
    have el : ((List.range (n + 1)).map fun i => D.int ((q + i : Nat) : Int)) = .int (q : Int) :: ((List.range n).map fun i => D.int ((q + 1 + i : Nat) : Int)) := by
      rw [List.range_succ_eq_map, List.map_cons, List.map_map, Nat.add_zero]
      refine congrArg (List.cons (D.int (q : Int))) ?_
      apply List.map_congr_left
      intro i _
      have en : q + (i + 1) = q + 1 + i := by omega
      show D.int ((q + (i + 1) : Nat) : Int) = _
      rw [en]
    have en : n + 1 + q = n + (q + 1) := by omega
    rw [el, en]
    by_cases due : toldF t f2 (q + 1) ≤ t.due
    · have hgk := gB_mono (t := t) (c := c) (a := a) hA (hs.c0 hm0).1 (hs.c0 hm0).2 (first_mono (B := B) (t := t) (q := q) (by omega))
      obtain ⟨f', f1, r⟩ := bound_go (a0 := a0) (a1 := a1) (a5 := a5) hP hT hs hm hm0 hm2 hfix h1 hT3 n (q + 1) k (toldF t f2 (q + 1)) f2 (some (.int q)) (by omega) hf2 rfl due (by omega) k2 (by
        have := hgk k k (Int.le_refl _)
        omega) (fun j j1 j2 => by
        have h3 := hgk j j (Int.le_refl _)
        obtain ⟨l, l1, l2, l3⟩ := fix_of (f := gB (heldB B + q * t.most) A t c a) (s := 0) (u := j) (fun x y _ e => gB_mono hA (hs.c0 hm0).1 (hs.c0 hm0).2 (Int.le_refl _) x y e) (gB_nonneg hA (hs.c0 hm0).1 (hs.c0 hm0).2 hfp (by omega) (Int.le_refl _)) j1 (by omega)
        have := bg.2.2 l l1 l3
        omega)
      refine ⟨f', f1, ?_⟩
      have d1 : decide (t.due < toldF t f2 (q + 1)) = false := decide_eq_false (by omega)
      have step : (sSeq (sSet 8 (eCall m_least_begin 5 (aCons (eOp (q2 dAdd) (eV 6) (eOp (q2 (i2 fMul)) (eV 10) (eUn (fldD ["Message"] "most") (eV 3)))) (aCons (eV 7) (aCons (eV 3) (aCons (eV 2) (aCons (eV 8) aNil))))))) (sSeq (sSet 9 (eAr (qA dMax2) (aCons (eV 9) (aCons (eOp (q2 dAdd) (eOp (q2 (i2 fSub)) (eOp (q2 dAdd) (eUn (fldD ["Message"] "wait") (eV 3)) (eV 8)) (eOp (q2 (i2 fMul)) (eV 10) (eUn (fldD ["Message"] "gap") (eV 3)))) (eUn (fldD ["Message"] "most") (eV 3))) aNil)))) (sIf (tB' (eOp (q2 (i2 fGt)) (eV 9) (eUn (fldD ["Message"] "due") (eV 3)))) (sRet (eC .non)) sNext))) [a0, a1, some d, some (encT t), some (.lst ((A ++ t :: B).map encT)), a5, some (.int (heldB B)), some (.lst (A.map encT)), some (.int b), some (.int told), some (.int q)] S
          = .ok (.nx [a0, a1, some d, some (encT t), some (.lst ((A ++ t :: B).map encT)), a5, some (.int (heldB B)), some (.lst (A.map encT)), some (.int k), some (.int (toldF t f2 (q + 1))), some (.int q)]) S := by
        generalize (A ++ t :: B).map encT = X at *
        generalize A.map encT = Y at *
        generalize toldF t f2 (q + 1) = tf at *
        simp only [ap_fnK, List.map_cons, List.map_nil, List.length_cons, List.length_nil, Nat.reduceAdd, Nat.reduceSub, List.replicate, List.cons_append, List.nil_append, ap_next, ap_seq, ap_drop, ap_ret, ap_if, ap_name, ap_nil, ap_cons, ap_tup, ap_asg, ap_for, ap_V0, ap_V1, ap_V2, ap_V3, ap_V4, ap_V5, ap_V6, ap_V7, ap_V8, ap_V9, ap_V10, ap_C, ap_op, ap_un, ap_ar, ap_tB, ap_tand, ap_tor, ap_tnot, ap_tyes, ap_and, ap_or, ap_eif, ap_anil, ap_acons, ap_etup, ap_elst, ap_ait, ap_arng, ap_call, ap_callD, ap_meth, ap_meth0, ap_lc, ap_wipe0, ap_wipe, ap_fin, ap_noX, ap_some, Res.bind_ok, Res.bnd_ok, List.set_cons_succ, List.set_cons_zero, Option.bind_some, d_q2, d_i2, q_qA, s_lst, s_fix, s_tup, s_ktp, q_lst, q_tup, l_lst, l_fix, l_tup, d_lt, d_le, d_gt, d_ge, d_sub, d_add, d_eqi, d_nei, d_isn, d_nisn, n_non, n_int, n_str, x_max2, x_min2, decide_true, decide_false, if_true, ↓reduceIte, Bool.false_eq_true, Nat.reduceLeDiff, f_most, fm1, k5, f_wait, f_gap, fm2, mx, f_due, d1]
      generalize sSeq (sSet 8 _) _ = BODY at *
      split at r
      · rename_i hc
        rw [if_pos hc]
        obtain ⟨c8, c10, r⟩ := r
        refine ⟨c8, c10, ?_⟩
        rw [← r]
        simp only [forGo, ap_name, List.set_cons_succ, List.set_cons_zero, step, Res.bind_ok]
      · rename_i hc
        rw [if_neg hc, ← r]
        simp only [forGo, ap_name, List.set_cons_succ, List.set_cons_zero, step, Res.bind_ok]
    · -- beyond the due: the others are there all the same
      have all : ∀ i, i < n + (q + 1) → ∃ l, Bg A B t c a i l := fun i hi => by
        obtain ⟨_, top2⟩ := begin_top (q := i) hT (hs.c0 hm0).1 (hs.c0 hm0).2 hfix h1 (by omega)
        have hfi : 0 ≤ heldB B + i * t.most := by
          have := heldB_nonneg (B := B)
          have := Int.mul_nonneg (show (0 : Int) ≤ i by omega) (show 0 ≤ t.most by omega)
          omega
        obtain ⟨l, l1, l2, l3, l4, _⟩ := least_begin (S := S) (b := 0) hA (by omega) hs hm hm0 hm2 top2 (by omega) (gB_nonneg hA (hs.c0 hm0).1 (hs.c0 hm0).2 hfi (by omega) (Int.le_refl _)) (by omega)
        exact ⟨l, l1, l3, l4⟩
      let f3 : Nat → Int := fun i => if h : i < n + (q + 1) then (all i h).choose else 0
      have f3b : ∀ i, i < n + (q + 1) → Bg A B t c a i (f3 i) := fun i hi => by
        show Bg A B t c a i (if h : i < n + (q + 1) then (all i h).choose else 0)
        rw [dif_pos hi]
        exact (all i hi).choose_spec
      have same : toldF t f3 (q + 1) = toldF t f2 (q + 1) := toldF_congr fun i hi => (f3b i (by omega)).uniq (hf2 i hi)
      have le := toldF_le (t := t) (f := f3) (n := q + 1) (m := n)
      have en2 : q + 1 + n = n + (q + 1) := by omega
      rw [en2] at le
      refine ⟨f3, f3b, ?_⟩
      rw [if_neg (by omega)]
      have d1 : decide (t.due < toldF t f2 (q + 1)) = true := decide_eq_true (by omega)
      have step : (sSeq (sSet 8 (eCall m_least_begin 5 (aCons (eOp (q2 dAdd) (eV 6) (eOp (q2 (i2 fMul)) (eV 10) (eUn (fldD ["Message"] "most") (eV 3)))) (aCons (eV 7) (aCons (eV 3) (aCons (eV 2) (aCons (eV 8) aNil))))))) (sSeq (sSet 9 (eAr (qA dMax2) (aCons (eV 9) (aCons (eOp (q2 dAdd) (eOp (q2 (i2 fSub)) (eOp (q2 dAdd) (eUn (fldD ["Message"] "wait") (eV 3)) (eV 8)) (eOp (q2 (i2 fMul)) (eV 10) (eUn (fldD ["Message"] "gap") (eV 3)))) (eUn (fldD ["Message"] "most") (eV 3))) aNil)))) (sIf (tB' (eOp (q2 (i2 fGt)) (eV 9) (eUn (fldD ["Message"] "due") (eV 3)))) (sRet (eC .non)) sNext))) [a0, a1, some d, some (encT t), some (.lst ((A ++ t :: B).map encT)), a5, some (.int (heldB B)), some (.lst (A.map encT)), some (.int b), some (.int told), some (.int q)] S
          = .ok (.rt .non) S := by
        generalize (A ++ t :: B).map encT = X at *
        generalize A.map encT = Y at *
        generalize toldF t f2 (q + 1) = tf at *
        simp only [ap_fnK, List.map_cons, List.map_nil, List.length_cons, List.length_nil, Nat.reduceAdd, Nat.reduceSub, List.replicate, List.cons_append, List.nil_append, ap_next, ap_seq, ap_drop, ap_ret, ap_if, ap_name, ap_nil, ap_cons, ap_tup, ap_asg, ap_for, ap_V0, ap_V1, ap_V2, ap_V3, ap_V4, ap_V5, ap_V6, ap_V7, ap_V8, ap_V9, ap_V10, ap_C, ap_op, ap_un, ap_ar, ap_tB, ap_tand, ap_tor, ap_tnot, ap_tyes, ap_and, ap_or, ap_eif, ap_anil, ap_acons, ap_etup, ap_elst, ap_ait, ap_arng, ap_call, ap_callD, ap_meth, ap_meth0, ap_lc, ap_wipe0, ap_wipe, ap_fin, ap_noX, ap_some, Res.bind_ok, Res.bnd_ok, List.set_cons_succ, List.set_cons_zero, Option.bind_some, d_q2, d_i2, q_qA, s_lst, s_fix, s_tup, s_ktp, q_lst, q_tup, l_lst, l_fix, l_tup, d_lt, d_le, d_gt, d_ge, d_sub, d_add, d_eqi, d_nei, d_isn, d_nisn, n_non, n_int, n_str, x_max2, x_min2, decide_true, decide_false, if_true, ↓reduceIte, Bool.false_eq_true, Nat.reduceLeDiff, f_most, fm1, k5, f_wait, f_gap, fm2, mx, f_due, d1]
      generalize sSeq (sSet 8 _) _ = BODY at *
      simp only [forGo, ap_name, List.set_cons_succ, List.set_cons_zero, step, Res.bind_ok]
theorem rng1_nat {v : Int} (h0 : 0 ≤ v) (h : v < 4611686018427387904) : dRng1 [.int v] = some ((List.range v.toNat).map fun i => D.int ((0 + i : Nat) : Int)) := by
  show (if -4611686018427387904 ≤ v ∧ v < 4611686018427387904 then some (upto 0 v.toNat) else none) = _
  rw [if_pos ⟨by omega, h⟩]
  rfl
theorem bus_bound {cm c a G : Int} {d : D} (hP : Pl (A ++ t :: B)) (hT : Tame (A ++ t :: B)) (hs : Spl cm d c a) (hm : IsMax ((A ++ [t]).map fun u => u.most) cm) (hG : IsMax ((A ++ t :: B).map fun u => u.gap) G) (hG2 : G ≤ 1000000000000) (hf : Flat S) :
    ∃ res, BB A B t c a G res ∧ m_bus_bound [busD (A ++ t :: B), .str t.name, d] S = .ok (optN (fin' t.due res)) S := by
  have hU := sub_U hT
  have hA := sub_A hT
  have few := few_of hP
  have hmt := hT.most t (by simp); have hgt := hT.gap t (by simp); have hwt := hT.wait t (by simp)
  obtain ⟨u, hu, eu⟩ := List.mem_map.mp hm.1
  have hmu := hU.most u hu
  have hm0 : 0 ≤ cm := by omega
  have hm2 : cm < 9223372036854775808 := by omega
  have bm := Bus_message (t := t) hP (by simp) hf
  have bs := Bus_messages hP hf
  have ic : isC "Bus" "message" (busD (A ++ t :: B)) S = true := isC_B (by decide)
  have ic2 : isC "Bus" "messages" (busD (A ++ t :: B)) S = true := isC_B (by decide)
  obtain ⟨r, r1, r2⟩ := stretch (S := S) hP hT hs hm hG hG2
  cases r with
  | none =>
    refine ⟨none, ⟨none, r1, rfl⟩, ?_⟩
    unfold m_bus_bound
    refine fnT_rt ?_ rfl
    generalize busD (A ++ t :: B) = P at *
    generalize (A ++ t :: B).map encT = X at *
    simp only [ap_fnK, List.map_cons, List.map_nil, List.length_cons, List.length_nil, Nat.reduceAdd, Nat.reduceSub, List.replicate, List.cons_append, List.nil_append, ap_next, ap_seq, ap_drop, ap_ret, ap_if, ap_name, ap_nil, ap_cons, ap_tup, ap_asg, ap_for, ap_V0, ap_V1, ap_V2, ap_V3, ap_V4, ap_V5, ap_V6, ap_V7, ap_V8, ap_V9, ap_V10, ap_C, ap_op, ap_un, ap_ar, ap_tB, ap_tand, ap_tor, ap_tnot, ap_tyes, ap_and, ap_or, ap_eif, ap_anil, ap_acons, ap_etup, ap_elst, ap_ait, ap_arng, ap_call, ap_callD, ap_meth, ap_meth0, ap_lc, ap_wipe0, ap_wipe, ap_fin, ap_noX, ap_some, Res.bind_ok, Res.bnd_ok, List.set_cons_succ, List.set_cons_zero, Option.bind_some, d_q2, d_i2, q_qA, s_lst, s_fix, s_tup, s_ktp, q_lst, q_tup, l_lst, l_fix, l_tup, d_lt, d_le, d_gt, d_ge, d_sub, d_add, d_eqi, d_nei, d_isn, d_nisn, n_non, n_int, n_str, x_max2, x_min2, decide_true, decide_false, if_true, ↓reduceIte, Bool.false_eq_true, Nat.reduceLeDiff, ic, bm, ic2, bs, r2, optN, fin']
  | some T =>
    have hT1 := r1.1
    have hT2 := r1.2.1
    have hfix := r1.2.2.1
    obtain ⟨v, hv, ev⟩ := List.mem_map.mp hG.1
    have hgv := hT.gap v hv
    have hdue : 1 ≤ t.due := (hP.row.good t (by simp)).due
    have un := comings_n (t := t) (T := T) (by omega) (by omega) hT1
    have ub : up (T + t.wait) t.gap < 4611686018427387904 := by
      have : up (T + t.wait) t.gap ≤ T + t.wait := up_le (by omega) (by
        have := Int.mul_le_mul_of_nonneg_right (show (1 : Int) ≤ t.gap by omega) (show 0 ≤ T + t.wait by omega)
        omega)
      omega
    have cn := comings' (t := t) (w := T) (S := S) (by omega) (big_lim (by omega) (by omega))
    have rg := rng1_nat (v := up (T + t.wait) t.gap) (by omega) ub
    have hb := held_back (t := t) (S := S) (L := A ++ t :: B) (by rw [List.length_append, List.length_cons]; omega)
    rw [(split_ord hP.ord).2] at hb
    have mu := urgent (S := S) hP
    have hn0 := heldB_nonneg (B := B)
    obtain ⟨hmT, _⟩ := begin_top (q := 0) hT (hs.c0 hm0).1 (hs.c0 hm0).2 hfix hT1 (by omega)
    obtain ⟨f, f1, go⟩ := bound_go (S := S) (a0 := some (busD (A ++ t :: B))) (a1 := some (.str t.name)) (a5 := some (.int T)) hP hT hs hm hm0 hm2 hfix hT1 (by omega) (up (T + t.wait) t.gap).toNat 0 0 0 (fun _ => 0) none (by omega) (fun i hi => absurd hi (by omega)) rfl (by omega) (Int.le_refl _) (by omega) (gB_nonneg hA (hs.c0 hm0).1 (hs.c0 hm0).2 (by simp; omega) (by omega) (Int.le_refl _)) (fun j j1 _ => j1)
    rw [Nat.add_zero] at f1 go
    refine ⟨some (toldF t f (up (T + t.wait) t.gap).toNat), ⟨some T, r1, f, f1, rfl⟩, ?_⟩
    generalize hZ : ((List.range (up (T + t.wait) t.gap).toNat).map fun i => D.int ((0 + i : Nat) : Int)) = Z at *
    generalize hN : (up (T + t.wait) t.gap).toNat = N at *
    unfold m_bus_bound
    refine fnT_rt ?_ rfl
    generalize hBD : busD (A ++ t :: B) = P at *
    generalize (A ++ t :: B).map encT = X at *
    generalize A.map encT = Y at *
    generalize up (T + t.wait) t.gap = un0 at *
    split at go
    · rename_i hc
      obtain ⟨c8, c10, go⟩ := go
      have e : fin' t.due (some (toldF t f N)) = some (toldF t f N) := if_pos hc
      rw [e]
      generalize sSeq (sSet 8 (eCall m_least_begin _ _)) _ = BODY at *
      generalize toldF t f N = tf at *
      simp only [ap_fnK, List.map_cons, List.map_nil, List.length_cons, List.length_nil, Nat.reduceAdd, Nat.reduceSub, List.replicate, List.cons_append, List.nil_append, ap_next, ap_seq, ap_drop, ap_ret, ap_if, ap_name, ap_nil, ap_cons, ap_tup, ap_asg, ap_for, ap_V0, ap_V1, ap_V2, ap_V3, ap_V4, ap_V5, ap_V6, ap_V7, ap_V8, ap_V9, ap_V10, ap_C, ap_op, ap_un, ap_ar, ap_tB, ap_tand, ap_tor, ap_tnot, ap_tyes, ap_and, ap_or, ap_eif, ap_anil, ap_acons, ap_etup, ap_elst, ap_ait, ap_arng, ap_call, ap_callD, ap_meth, ap_meth0, ap_lc, ap_wipe0, ap_wipe, ap_fin, ap_noX, ap_some, Res.bind_ok, Res.bnd_ok, List.set_cons_succ, List.set_cons_zero, Option.bind_some, d_q2, d_i2, q_qA, s_lst, s_fix, s_tup, s_ktp, q_lst, q_tup, l_lst, l_fix, l_tup, d_lt, d_le, d_gt, d_ge, d_sub, d_add, d_eqi, d_nei, d_isn, d_nisn, n_non, n_int, n_str, x_max2, x_min2, decide_true, decide_false, if_true, ↓reduceIte, Bool.false_eq_true, Nat.reduceLeDiff, ic, bm, ic2, bs, r2, optN, hb, mu, cn, rg, go]
    · rename_i hc
      have e : fin' t.due (some (toldF t f N)) = none := if_neg hc
      rw [e]
      generalize sSeq (sSet 8 (eCall m_least_begin _ _)) _ = BODY at *
      simp only [ap_fnK, List.map_cons, List.map_nil, List.length_cons, List.length_nil, Nat.reduceAdd, Nat.reduceSub, List.replicate, List.cons_append, List.nil_append, ap_next, ap_seq, ap_drop, ap_ret, ap_if, ap_name, ap_nil, ap_cons, ap_tup, ap_asg, ap_for, ap_V0, ap_V1, ap_V2, ap_V3, ap_V4, ap_V5, ap_V6, ap_V7, ap_V8, ap_V9, ap_V10, ap_C, ap_op, ap_un, ap_ar, ap_tB, ap_tand, ap_tor, ap_tnot, ap_tyes, ap_and, ap_or, ap_eif, ap_anil, ap_acons, ap_etup, ap_elst, ap_ait, ap_arng, ap_call, ap_callD, ap_meth, ap_meth0, ap_lc, ap_wipe0, ap_wipe, ap_fin, ap_noX, ap_some, Res.bind_ok, Res.bnd_ok, List.set_cons_succ, List.set_cons_zero, Option.bind_some, d_q2, d_i2, q_qA, s_lst, s_fix, s_tup, s_ktp, q_lst, q_tup, l_lst, l_fix, l_tup, d_lt, d_le, d_gt, d_ge, d_sub, d_add, d_eqi, d_nei, d_isn, d_nisn, n_non, n_int, n_str, x_max2, x_min2, decide_true, decide_false, if_true, ↓reduceIte, Bool.false_eq_true, Nat.reduceLeDiff, ic, bm, ic2, bs, r2, optN, hb, mu, cn, rg, go]
end
end Sm
set_option Elab.async false
set_option linter.all false
set_option maxRecDepth 100000
set_option maxHeartbeats 400000
open PySem PySem.Spec
namespace Sm
open L2 PySem.W
theorem cut_pre {X Y : List D} {k : Int} (h : k = (X.length : Nat)) : cutD (X ++ Y) none (some k) = X := by
  subst h
  unfold cutD
  rw [HT.sIx_nat, HT.sIx_none, List.length_append, Nat.min_eq_left (by omega), List.drop_zero, Nat.sub_zero, List.take_left' rfl]
theorem cut_post {X Y : List D} {k : Int} (h : k = (X.length : Nat)) : cutD (X ++ Y) (some k) none = Y := by
  subst h
  unfold cutD
  rw [HT.sIx_nat, HT.sIx_none, List.length_append, Nat.min_eq_left (by omega), List.drop_left' rfl, List.take_of_length_le (by omega)]
@[simp] theorem sl_lst' {ds : List D} {lo hi : Option Int} : altS slT slL (.lst ds) lo hi = some (.lst (cutD ds lo hi)) := (rfl)
@[simp] theorem sl_tup' {ds : List D} {lo hi : Option Int} : altS slT slL (.tup ds) lo hi = some (.tup (cutD ds lo hi)) := (rfl)
section
variable {env : Env} {S : Sto}
@[simp] theorem ap_esl {f : SlV} {e : EV} {l h : OV} : eSl f e l h env S = (e env S).bnd (tg fun d S1 => (l env S1).bnd (tg fun lo S2 => (h env S2).bnd (tg fun hi S3 => optR (f d lo hi) S3))) := (rfl)
@[simp] theorem ap_onone : oNone env S = .ok none S := (rfl)
@[simp] theorem ap_osome {e : EV} : oSome e env S = (e env S).bnd (tg fun d S1 => match d with | .int i => (.ok (some i) S1 : Res (Option Int)) | _ => .bad) := (rfl)
@[simp] theorem ap_maxDf {a ak : AV} : eMaxDf a ak env S = (a env S).bnd (tg fun ds S1 => (ak env S1).bnd (tg fun es S2 => optR (dMaxDf ds es) S2)) := (rfl)
@[simp] theorem ap_orT {a b : EV} : eOrT a b env S = (a env S).bnd (tg fun d S1 => match d with
  | .non => b env S1
  | .int i => if i = 0 then b env S1 else .ok (.int i) S1
  | _ => .bad) := (rfl)
@[simp] theorem ap_V11 {q0 q1 q2 q3 q4 q5 q6 q7 q8 q9 q10 : Option D} {d : D} {r : Env} : eV 11 (q0 :: q1 :: q2 :: q3 :: q4 :: q5 :: q6 :: q7 :: q8 :: q9 :: q10 :: some d :: r) S = .ok d S := (rfl)
@[simp] theorem ap_V12 {q0 q1 q2 q3 q4 q5 q6 q7 q8 q9 q10 q11 : Option D} {d : D} {r : Env} : eV 12 (q0 :: q1 :: q2 :: q3 :: q4 :: q5 :: q6 :: q7 :: q8 :: q9 :: q10 :: q11 :: some d :: r) S = .ok d S := (rfl)
@[simp] theorem ap_V13 {q0 q1 q2 q3 q4 q5 q6 q7 q8 q9 q10 q11 q12 : Option D} {d : D} {r : Env} : eV 13 (q0 :: q1 :: q2 :: q3 :: q4 :: q5 :: q6 :: q7 :: q8 :: q9 :: q10 :: q11 :: q12 :: some d :: r) S = .ok d S := (rfl)
@[simp] theorem ap_par3 {i j l : Nat} {a : AV} : sPar3 i j l a env S = (a env S).bnd (tg fun ds S1 => match ds with | [x, y, z] => .ok (.nx (((env.set i (some x)).set j (some y)).set l (some z))) S1 | _ => .bad) := (rfl)
end
section
variable {A B L : List Tsk} {t : Tsk} {S : Sto}
theorem r_0 : dIx (encR t) (.int 0) = some (.str t.name) := ix_tup (n := 0) rfl
theorem r_1 : dIx (encR t) (.int 1) = some (.int t.rank) := ix_tup (n := 1) rfl
theorem r_2 : dIx (encR t) (.int 2) = some (.int t.gap) := ix_tup (n := 2) rfl
theorem r_3 : dIx (encR t) (.int 3) = some (.int t.most) := ix_tup (n := 3) rfl
theorem r_4 : dIx (encR t) (.int 4) = some (.int t.due) := ix_tup (n := 4) rfl
theorem r_5 : dIx (encR t) (.int 5) = some (.int t.wait) := ix_tup (n := 5) rfl
theorem law_times {x g : Int} (h : 0 < g) (h2 : g < 9223372036854775808) : m__law_times [.int x, .int g] S = .ok (.int (up x g)) S := by
  have fd : fDiv (0 - x) g = some (.int ((0 - x) / g)) := if_pos ⟨h, big_lim (by omega) (by omega)⟩
  have e : up x g = 0 - (0 - x) / g := by unfold up; rw [Int.zero_sub, Int.zero_sub]
  rw [e]
  unfold m__law_times
  refine fnT_rt ?_ rfl
  simp only [ap_fnK, List.map_cons, List.map_nil, List.length_cons, List.length_nil, Nat.reduceAdd, Nat.reduceSub, List.replicate, List.cons_append, List.nil_append, ap_next, ap_seq, ap_drop, ap_ret, ap_if, ap_name, ap_nil, ap_cons, ap_tup, ap_asg, ap_for, ap_V0, ap_V1, ap_V2, ap_V3, ap_V4, ap_V5, ap_V6, ap_V7, ap_V8, ap_V9, ap_V10, ap_C, ap_op, ap_un, ap_ar, ap_tB, ap_tand, ap_tor, ap_tnot, ap_tyes, ap_and, ap_or, ap_eif, ap_anil, ap_acons, ap_etup, ap_elst, ap_ait, ap_arng, ap_call, ap_callD, ap_meth, ap_meth0, ap_lc, ap_wipe0, ap_wipe, ap_fin, ap_noX, ap_some, Res.bind_ok, Res.bnd_ok, List.set_cons_succ, List.set_cons_zero, Option.bind_some, d_q2, d_i2, q_qA, s_lst, s_fix, s_tup, s_ktp, q_lst, q_tup, l_lst, l_fix, l_tup, d_lt, d_le, d_gt, d_ge, d_sub, d_add, d_eqi, d_nei, d_isn, d_nisn, n_non, n_int, n_str, x_max2, x_min2, decide_true, decide_false, if_true, ↓reduceIte, Bool.false_eq_true, Nat.reduceLeDiff, fd]
theorem max_def (h : ∀ t ∈ B, 1 ≤ t.most) : dMaxDf [.lst ((B.map fun u => u.most - 1).map D.int)] [.int 0] = some (.int (heldB B)) := by
  show ((D.ints ((B.map fun u => u.most - 1).map D.int)).map fun ns => match ns with | [] => D.int 0 | n :: r => .int (r.foldl max n)) = _
  rw [ints_map, Option.map_some]
  cases B with
  | nil => rfl
  | cons b B =>
    have hb := h b (by simp)
    show some (D.int ((B.map fun u => u.most - 1).foldl max (b.most - 1))) = some (.int ((B.map fun u => u.most - 1).foldl max (max 0 (b.most - 1))))
    rw [show max 0 (b.most - 1) = b.most - 1 by omega]
def hS (A B : List Tsk) (t : Tsk) (c a x : Int) : Int := dem (heldB B) ((A ++ [t]).map tk) x + c * up x a
def hB (A B : List Tsk) (t : Tsk) (c a : Int) (q : Nat) (x : Int) : Int := dem (heldB B + q * t.most) (A.map tk) (x + 1) + c * up (x + t.most) a
theorem hS_mono {c a : Int} (hT : Tame (A ++ [t])) (hc : 0 ≤ c) (ha : c < a) {x y : Int} (e : x ≤ y) : hS A B t c a x ≤ hS A B t c a y := by
  have h1 := dem_mono (first := heldB B) hT.tkOk e
  have h2 := Int.mul_le_mul_of_nonneg_left (up_mono (g := a) (by omega) e) hc
  unfold hS
  omega
theorem hB_mono {c a : Int} {q : Nat} (hA : Tame A) (hc : 0 ≤ c) (ha : c < a) {x y : Int} (e : x ≤ y) : hB A B t c a q x ≤ hB A B t c a q y := by
  have h1 := dem_mono (first := heldB B + q * t.most) hA.tkOk (show x + 1 ≤ y + 1 by omega)
  have h2 := Int.mul_le_mul_of_nonneg_left (up_mono (g := a) (show 0 < a by omega) (show x + t.most ≤ y + t.most by omega)) hc
  unfold hB
  omega
theorem LF.law {c a lim : Int} {r : Option Int} (hU : Tame (A ++ [t])) (hc : 0 ≤ c) (ha : c < a) (h : LF (gS A B t c a) 1 lim r) : LF (hS A B t c a) 1 lim r := by
  refine LF.of (fun x y _ e => gS_mono hU hc ha x y e) (gS_one hU hc ha) (fun x hx e => ?_) (fun x hx e => sp_least hc ha (by unfold hS at e; omega)) h
  have d1 := dem_self (x := x) (first := heldB B) hU hx heldB_nonneg
  have hm := hU.most t (by simp)
  have f := sp_fix (y := dem (heldB B) ((A ++ [t]).map tk) x) hc ha (by omega)
  unfold gS at e
  rw [e] at f
  unfold hS
  omega
/-- the law's begin -/
theorem Bg.law {c a k : Int} {q : Nat} (hA : Tame A) (hm : 1 ≤ t.most) (hc : 0 ≤ c) (ha : c < a) (h : Bg A B t c a q k) : 0 ≤ k ∧ hB A B t c a q k = k ∧ ∀ j, 0 ≤ j → hB A B t c a q j = j → k ≤ j := by
  have hf : 0 ≤ heldB B + q * t.most := by
    have := heldB_nonneg (B := B)
    have := Int.mul_nonneg (show (0 : Int) ≤ q by omega) (show 0 ≤ t.most by omega)
    omega
  have gf : ∀ x, 0 ≤ x → gB (heldB B + q * t.most) A t c a x = x → hB A B t c a q x = x := fun x hx e => by
    have d := dem_ge (first := heldB B + q * t.most) (x := x + 1) hA.tkOk (by omega)
    have f := sp_fix (y := dem (heldB B + q * t.most) (A.map tk) (x + 1) + t.most) hc ha (by omega)
    unfold gB at e
    rw [show sp (dem (heldB B + q * t.most) (A.map tk) (x + 1) + t.most) c a = x + t.most by omega] at f
    unfold hB
    omega
  refine ⟨h.1, gf k h.1 h.2.1, fun j h1 e => ?_⟩
  have : gB (heldB B + q * t.most) A t c a j ≤ j := by
    have := sp_least (y := dem (heldB B + q * t.most) (A.map tk) (j + 1) + t.most) (x := j + t.most) hc ha (by unfold hB at e; omega)
    unfold gB
    omega
  obtain ⟨l, l1, l2, l3⟩ := fix_of (f := gB (heldB B + q * t.most) A t c a) (s := 0) (u := j) (fun x y _ e => gB_mono hA hc ha (Int.le_refl _) x y e) (gB_nonneg hA hc ha hf (by omega) (Int.le_refl _)) h1 this
  have := h.2.2 l l1 l3
  omega
theorem or1 {cm c a : Int} {d : D} (h : Spl cm d c a) (hm : 0 ≤ cm) {e : Env} {x y : Option D} : (match d with | .non => (Res.ok (D.int 1) S : Res D) | .int i => if i = 0 then .ok (.int 1) S else .ok (.int i) S | _ => .bad) = .ok (.int a) S := by
  cases h with
  | no => rfl
  | yes h => rename_i a; exact if_neg (by omega)
theorem lc_gap {env : Env} {l : List Tsk} (he : 7 < env.length) : lcGo (vName 7) tvYes (eOp (q2 dIx) (eV 7) (eC (.int 2))) env (l.map encR) S = .ok ((l.map fun u => u.gap).map D.int) S := by
  rw [List.map_map]
  refine lc_all (enc := encR) (f := D.int ∘ fun u => u.gap) fun u hu => ⟨_, rfl, rfl, ?_⟩
  have e7 : eV 7 (env.set 7 (some (encR u))) S = .ok (encR u) S := by
    rw [ap_V, List.getElem?_set_self he]
  simp only [ap_fnK, List.map_cons, List.map_nil, List.length_cons, List.length_nil, Nat.reduceAdd, Nat.reduceSub, List.replicate, List.cons_append, List.nil_append, ap_next, ap_seq, ap_drop, ap_ret, ap_if, ap_name, ap_nil, ap_cons, ap_tup, ap_asg, ap_for, ap_V0, ap_V1, ap_V2, ap_V3, ap_V4, ap_V5, ap_V6, ap_V7, ap_V8, ap_V9, ap_V10, ap_C, ap_op, ap_un, ap_ar, ap_tB, ap_tand, ap_tor, ap_tnot, ap_tyes, ap_and, ap_or, ap_eif, ap_anil, ap_acons, ap_etup, ap_elst, ap_ait, ap_arng, ap_call, ap_callD, ap_meth, ap_meth0, ap_lc, ap_wipe0, ap_wipe, ap_fin, ap_noX, ap_some, Res.bind_ok, Res.bnd_ok, List.set_cons_succ, List.set_cons_zero, Option.bind_some, d_q2, d_i2, q_qA, s_lst, s_fix, s_tup, s_ktp, q_lst, q_tup, l_lst, l_fix, l_tup, d_lt, d_le, d_gt, d_ge, d_sub, d_add, d_eqi, d_nei, d_isn, d_nisn, n_non, n_int, n_str, x_max2, x_min2, decide_true, decide_false, if_true, ↓reduceIte, Bool.false_eq_true, Nat.reduceLeDiff, e7, r_2]
  rfl
theorem lc_most {env : Env} {l : List Tsk} (he : 7 < env.length) : lcGo (vName 7) tvYes (eOp (q2 dIx) (eV 7) (eC (.int 3))) env (l.map encR) S = .ok ((l.map fun u => u.most).map D.int) S := by
  rw [List.map_map]
  refine lc_all (enc := encR) (f := D.int ∘ fun u => u.most) fun u hu => ⟨_, rfl, rfl, ?_⟩
  have e7 : eV 7 (env.set 7 (some (encR u))) S = .ok (encR u) S := by
    rw [ap_V, List.getElem?_set_self he]
  simp only [ap_fnK, List.map_cons, List.map_nil, List.length_cons, List.length_nil, Nat.reduceAdd, Nat.reduceSub, List.replicate, List.cons_append, List.nil_append, ap_next, ap_seq, ap_drop, ap_ret, ap_if, ap_name, ap_nil, ap_cons, ap_tup, ap_asg, ap_for, ap_V0, ap_V1, ap_V2, ap_V3, ap_V4, ap_V5, ap_V6, ap_V7, ap_V8, ap_V9, ap_V10, ap_C, ap_op, ap_un, ap_ar, ap_tB, ap_tand, ap_tor, ap_tnot, ap_tyes, ap_and, ap_or, ap_eif, ap_anil, ap_acons, ap_etup, ap_elst, ap_ait, ap_arng, ap_call, ap_callD, ap_meth, ap_meth0, ap_lc, ap_wipe0, ap_wipe, ap_fin, ap_noX, ap_some, Res.bind_ok, Res.bnd_ok, List.set_cons_succ, List.set_cons_zero, Option.bind_some, d_q2, d_i2, q_qA, s_lst, s_fix, s_tup, s_ktp, q_lst, q_tup, l_lst, l_fix, l_tup, d_lt, d_le, d_gt, d_ge, d_sub, d_add, d_eqi, d_nei, d_isn, d_nisn, n_non, n_int, n_str, x_max2, x_min2, decide_true, decide_false, if_true, ↓reduceIte, Bool.false_eq_true, Nat.reduceLeDiff, e7, r_3]
  rfl
theorem lc_most1 {env : Env} {l : List Tsk} (he : 7 < env.length) : lcGo (vName 7) tvYes (eOp (q2 (i2 fSub)) (eOp (q2 dIx) (eV 7) (eC (.int 3))) (eC (.int 1))) env (l.map encR) S = .ok ((l.map fun u => u.most - 1).map D.int) S := by
  rw [List.map_map]
  refine lc_all (enc := encR) (f := D.int ∘ fun u => u.most - 1) fun u hu => ⟨_, rfl, rfl, ?_⟩
  have e7 : eV 7 (env.set 7 (some (encR u))) S = .ok (encR u) S := by
    rw [ap_V, List.getElem?_set_self he]
  simp only [ap_fnK, List.map_cons, List.map_nil, List.length_cons, List.length_nil, Nat.reduceAdd, Nat.reduceSub, List.replicate, List.cons_append, List.nil_append, ap_next, ap_seq, ap_drop, ap_ret, ap_if, ap_name, ap_nil, ap_cons, ap_tup, ap_asg, ap_for, ap_V0, ap_V1, ap_V2, ap_V3, ap_V4, ap_V5, ap_V6, ap_V7, ap_V8, ap_V9, ap_V10, ap_C, ap_op, ap_un, ap_ar, ap_tB, ap_tand, ap_tor, ap_tnot, ap_tyes, ap_and, ap_or, ap_eif, ap_anil, ap_acons, ap_etup, ap_elst, ap_ait, ap_arng, ap_call, ap_callD, ap_meth, ap_meth0, ap_lc, ap_wipe0, ap_wipe, ap_fin, ap_noX, ap_some, Res.bind_ok, Res.bnd_ok, List.set_cons_succ, List.set_cons_zero, Option.bind_some, d_q2, d_i2, q_qA, s_lst, s_fix, s_tup, s_ktp, q_lst, q_tup, l_lst, l_fix, l_tup, d_lt, d_le, d_gt, d_ge, d_sub, d_add, d_eqi, d_nei, d_isn, d_nisn, n_non, n_int, n_str, x_max2, x_min2, decide_true, decide_false, if_true, ↓reduceIte, Bool.false_eq_true, Nat.reduceLeDiff, e7, r_3]
  rfl
end
end Sm
set_option Elab.async false
set_option linter.all false
set_option maxRecDepth 100000
set_option maxHeartbeats 400000
open PySem PySem.Spec
namespace Sm
open L2 PySem.W
section
variable {A B L : List Tsk} {t : Tsk} {S : Sto}
theorem orT1 {cm c a : Int} {d x0 x1 : Option D} {dd : D} {r : Env} (h : Spl cm dd c a) (hm : 0 ≤ cm) : eOrT (eV 2) (eC (.int 1)) (x0 :: x1 :: some dd :: r) S = .ok (.int a) S := by
  cases h with
  | no => rfl
  | yes h =>
    simp only [ap_orT, ap_V2, Res.bnd_ok]
    rw [if_neg (by omega)]
theorem sum_law {env : Env} {s : Int} {l : List Tsk} (hT : Tame l) (hl : l.length ≤ 16777216) (he : 8 < env.length) (h8 : env[8]? = some (some (.int s))) :
    lcGo (vName 7) tvYes (eOp (q2 (i2 fMul)) (eOp (q2 dIx) (eV 7) (eC (.int 3))) (eCall m__law_times 2 (aCons (eOp (q2 dAdd) (eV 8) (eOp (q2 dIx) (eV 7) (eC (.int 5)))) (aCons (eOp (q2 dIx) (eV 7) (eC (.int 2))) aNil)))) env (l.map encR) S
      = .ok ((l.map fun u => u.most * up (s + u.wait) u.gap).map D.int) S := by
  rw [List.map_map]
  refine lc_all (enc := encR) (f := D.int ∘ fun u => u.most * up (s + u.wait) u.gap) fun u hu => ⟨_, rfl, rfl, ?_⟩
  have hg := hT.gap u hu
  have hm := hT.most u hu
  have e7 : eV 7 (env.set 7 (some (encR u))) S = .ok (encR u) S := by
    rw [ap_V, List.getElem?_set_self (by omega)]
  have e8 : eV 8 (env.set 7 (some (encR u))) S = .ok (.int s) S := by
    rw [ap_V, List.getElem?_set_ne (by omega), h8]
  have lt := law_times (x := s + u.wait) (g := u.gap) (S := S) (by omega) (by omega)
  have m1 : fMul u.most (up (s + u.wait) u.gap) = some (.int (u.most * up (s + u.wait) u.gap)) := fMul_ok (by omega) (by omega)
  simp only [ap_fnK, List.map_cons, List.map_nil, List.length_cons, List.length_nil, Nat.reduceAdd, Nat.reduceSub, List.replicate, List.cons_append, List.nil_append, ap_next, ap_seq, ap_drop, ap_ret, ap_if, ap_name, ap_nil, ap_cons, ap_tup, ap_asg, ap_for, ap_V0, ap_V1, ap_V2, ap_V3, ap_V4, ap_V5, ap_V6, ap_V7, ap_V8, ap_V9, ap_V10, ap_C, ap_op, ap_un, ap_ar, ap_tB, ap_tand, ap_tor, ap_tnot, ap_tyes, ap_and, ap_or, ap_eif, ap_anil, ap_acons, ap_etup, ap_elst, ap_ait, ap_arng, ap_call, ap_callD, ap_meth, ap_meth0, ap_lc, ap_wipe0, ap_wipe, ap_fin, ap_noX, ap_some, Res.bind_ok, Res.bnd_ok, List.set_cons_succ, List.set_cons_zero, Option.bind_some, d_q2, d_i2, q_qA, s_lst, s_fix, s_tup, s_ktp, q_lst, q_tup, l_lst, l_fix, l_tup, d_lt, d_le, d_gt, d_ge, d_sub, d_add, d_eqi, d_nei, d_isn, d_nisn, n_non, n_int, n_str, x_max2, x_min2, decide_true, decide_false, if_true, ↓reduceIte, Bool.false_eq_true, Nat.reduceLeDiff, e7, e8, r_2, r_3, r_5, lt, m1]
  rfl
theorem sum_law2 {env : Env} {s : Int} {l : List Tsk} (hT : Tame l) (hl : l.length ≤ 16777216) (he : 12 < env.length) (h8 : env[12]? = some (some (.int s))) :
    lcGo (vName 7) tvYes (eOp (q2 (i2 fMul)) (eOp (q2 dIx) (eV 7) (eC (.int 3))) (eOp (q2 dAdd) (eOp (q2 (i2 fDiv)) (eOp (q2 dAdd) (eV 12) (eOp (q2 dIx) (eV 7) (eC (.int 5)))) (eOp (q2 dIx) (eV 7) (eC (.int 2)))) (eC (.int 1)))) env (l.map encR) S
      = .ok ((l.map fun u => u.most * up (s + 1 + u.wait) u.gap).map D.int) S := by
  rw [List.map_map]
  refine lc_all (enc := encR) (f := D.int ∘ fun u => u.most * up (s + 1 + u.wait) u.gap) fun u hu => ⟨_, rfl, rfl, ?_⟩
  have hg := hT.gap u hu
  have hm := hT.most u hu
  have e7 : eV 7 (env.set 7 (some (encR u))) S = .ok (encR u) S := by
    rw [ap_V, List.getElem?_set_self (by omega)]
  have e8 : eV 12 (env.set 7 (some (encR u))) S = .ok (.int s) S := by
    rw [ap_V, List.getElem?_set_ne (by omega), h8]
  have fd : fDiv (s + u.wait) u.gap = some (.int ((s + u.wait) / u.gap)) := if_pos ⟨by omega, big_lim (by omega) (by omega)⟩
  have m1 : fMul u.most ((s + u.wait) / u.gap + 1) = some (.int (u.most * ((s + u.wait) / u.gap + 1))) := fMul_ok (by omega) (by omega)
  have e : up (s + 1 + u.wait) u.gap = (s + u.wait) / u.gap + 1 := by
    rw [show s + 1 + u.wait = (s + u.wait) + 1 by omega]
    exact up_one (by omega)
  show _ = Res.ok (D.int (u.most * up (s + 1 + u.wait) u.gap)) S
  rw [e]
  simp only [ap_fnK, List.map_cons, List.map_nil, List.length_cons, List.length_nil, Nat.reduceAdd, Nat.reduceSub, List.replicate, List.cons_append, List.nil_append, ap_next, ap_seq, ap_drop, ap_ret, ap_if, ap_name, ap_nil, ap_cons, ap_tup, ap_asg, ap_for, ap_V0, ap_V1, ap_V2, ap_V3, ap_V4, ap_V5, ap_V6, ap_V7, ap_V8, ap_V9, ap_V10, ap_C, ap_op, ap_un, ap_ar, ap_tB, ap_tand, ap_tor, ap_tnot, ap_tyes, ap_and, ap_or, ap_eif, ap_anil, ap_acons, ap_etup, ap_elst, ap_ait, ap_arng, ap_call, ap_callD, ap_meth, ap_meth0, ap_lc, ap_wipe0, ap_wipe, ap_fin, ap_noX, ap_some, Res.bind_ok, Res.bnd_ok, List.set_cons_succ, List.set_cons_zero, Option.bind_some, d_q2, d_i2, q_qA, s_lst, s_fix, s_tup, s_ktp, q_lst, q_tup, l_lst, l_fix, l_tup, d_lt, d_le, d_gt, d_ge, d_sub, d_add, d_eqi, d_nei, d_isn, d_nisn, n_non, n_int, n_str, x_max2, x_min2, decide_true, decide_false, if_true, ↓reduceIte, Bool.false_eq_true, Nat.reduceLeDiff, e7, e8, r_2, r_3, r_5, fd, m1]
/-- the first loop -/
theorem law_go {cm c a G : Int} {d : D} {x4 x7 x10 x11 x12 : Option D} (hP : Pl (A ++ t :: B)) (hT : Tame (A ++ t :: B)) (hs : Spl cm d c a) (hm : 0 ≤ cm) (hm2 : cm < 1000000000000000) (ha2 : a < 1000000000000000) (hG : IsMax ((A ++ t :: B).map fun u => u.gap) G) (hG2 : G ≤ 1000000000000) : ∀ (n : Nat) (k s : Int), (100 * G + 1 - s).toNat + 1 < n → k < s → 1 ≤ s → s ≤ hS A B t c a s → (∀ j, 1 ≤ j → hS A B t c a j = j → s ≤ j) →
    ∃ r, LF (hS A B t c a) 1 (100 * G) r ∧ match r with
      | none => sWhile (tB' (eOp (q2 (i2 fGt)) (eV 9) (eV 8))) (sSeq (sSet 8 (eV 9)) (sSeq (sIf (tB' (eOp (q2 (i2 fGt)) (eV 8) (eOp (q2 (i2 fMul)) (eC (.int 100)) (eAr (qA dMaxL) (aCons (eLc [7] (aIt dSeq (eV 0)) (vName 7) tvYes (eOp (q2 dIx) (eV 7) (eC (.int 2)))) aNil))))) (sRet (eC .non)) sNext) (sSeq (sSet 9 (eOp (q2 dAdd) (eV 6) (eOp (q2 (i2 fMul)) (eV 5) (eCall m__law_times 2 (aCons (eV 8) (aCons (eOrT (eV 2) (eC (.int 1))) aNil)))))) (sSet 9 (eOp (q2 dAdd) (eV 9) (eAr (qA dSum) (aCons (eLc [7] (aIt dSeq (eSl (altS slT slL) (eV 0) oNone (oSome (eOp (q2 dAdd) (eV 1) (eC (.int 1)))))) (vName 7) tvYes (eOp (q2 (i2 fMul)) (eOp (q2 dIx) (eV 7) (eC (.int 3))) (eCall m__law_times 2 (aCons (eOp (q2 dAdd) (eV 8) (eOp (q2 dIx) (eV 7) (eC (.int 5)))) (aCons (eOp (q2 dIx) (eV 7) (eC (.int 2))) aNil))))) aNil))))))) n [some (.lst ((A ++ t :: B).map encR)), some (.int (A.length : Nat)), some d, some (encR t), x4, some (.int c), some (.int (heldB B)), x7, some (.int k), some (.int s), x10, x11, x12] S = .ok (.rt .non) S
      | some T => sWhile (tB' (eOp (q2 (i2 fGt)) (eV 9) (eV 8))) (sSeq (sSet 8 (eV 9)) (sSeq (sIf (tB' (eOp (q2 (i2 fGt)) (eV 8) (eOp (q2 (i2 fMul)) (eC (.int 100)) (eAr (qA dMaxL) (aCons (eLc [7] (aIt dSeq (eV 0)) (vName 7) tvYes (eOp (q2 dIx) (eV 7) (eC (.int 2)))) aNil))))) (sRet (eC .non)) sNext) (sSeq (sSet 9 (eOp (q2 dAdd) (eV 6) (eOp (q2 (i2 fMul)) (eV 5) (eCall m__law_times 2 (aCons (eV 8) (aCons (eOrT (eV 2) (eC (.int 1))) aNil)))))) (sSet 9 (eOp (q2 dAdd) (eV 9) (eAr (qA dSum) (aCons (eLc [7] (aIt dSeq (eSl (altS slT slL) (eV 0) oNone (oSome (eOp (q2 dAdd) (eV 1) (eC (.int 1)))))) (vName 7) tvYes (eOp (q2 (i2 fMul)) (eOp (q2 dIx) (eV 7) (eC (.int 3))) (eCall m__law_times 2 (aCons (eOp (q2 dAdd) (eV 8) (eOp (q2 dIx) (eV 7) (eC (.int 5)))) (aCons (eOp (q2 dIx) (eV 7) (eC (.int 2))) aNil))))) aNil))))))) n [some (.lst ((A ++ t :: B).map encR)), some (.int (A.length : Nat)), some d, some (encR t), x4, some (.int c), some (.int (heldB B)), x7, some (.int k), some (.int s), x10, x11, x12] S
          = .ok (.nx [some (.lst ((A ++ t :: B).map encR)), some (.int (A.length : Nat)), some d, some (encR t), x4, some (.int c), some (.int (heldB B)), x7, some (.int T), some (.int T), x10, x11, x12]) S
  | 0, _, _, h, _, _, _, _ => absurd h (by omega)
  | n + 1, k, s, hn, hk, h1, h2, h3 => by
    have few := few_of hP
    have hU := sub_U hT
    have hmono : ∀ {x y}, x ≤ y → hS A B t c a x ≤ hS A B t c a y := fun {x y} e => hS_mono hU (hs.c0 hm).1 (hs.c0 hm).2 e
    obtain ⟨m1, x1, y1⟩ := max_ints (l := (A ++ t :: B).map fun u => u.gap) (by simp)
    have e1 := y1.uniq hG
    subst e1
    obtain ⟨v, hv, ev⟩ := List.mem_map.mp hG.1
    have hgv := hT.gap v hv
    have fm : fMul 100 m1 = some (.int (100 * m1)) := fMul_ok (by omega) (by omega)
    have c1 : decide (k < s) = true := decide_eq_true hk
    have lg := lc_gap (S := S) (l := A ++ t :: B) (env := [some (.lst ((A ++ t :: B).map encR)), some (.int (A.length : Nat)), some d, some (encR t), x4, some (.int c), some (.int (heldB B)), none, some (.int s), some (.int s), x10, x11, x12]) (by simp)
    have ll1 : (((A ++ t :: B).map fun u => u.gap).map D.int).length ≤ 16777216 := by rw [List.length_map, List.length_map, List.length_append, List.length_cons]; omega
    by_cases q : s ≤ 100 * m1
    · have d1 : decide (100 * m1 < s) = false := decide_eq_false (by omega)
      have ca := hs.c0 hm
      have o1 : ∀ x9, eOrT (eV 2) (eC (.int 1)) [some (.lst ((A ++ t :: B).map encR)), some (.int (A.length : Nat)), some d, some (encR t), x4, some (.int c), some (.int (heldB B)), x7, some (.int s), x9, x10, x11, x12] S = .ok (.int a) S := fun x9 => orT1 (d := none) hs hm
      have lt := law_times (x := s) (g := a) (S := S) (by omega) (by omega)
      have cc : c < 1000000000000000 := by
        cases hs with
        | no => omega
        | yes h => exact hm2
      have fm2 : fMul c (up s a) = some (.int (c * up s a)) := fMul_ok (by omega) (by omega)
      have cp : cutD ((A ++ t :: B).map encR) none (some ((A.length : Nat) + 1)) = (A ++ [t]).map encR := by
        rw [show A ++ t :: B = (A ++ [t]) ++ B by simp, List.map_append]
        exact cut_pre (by simp)
      have ls : ∀ x9, lcGo (vName 7) tvYes (eOp (q2 (i2 fMul)) (eOp (q2 dIx) (eV 7) (eC (.int 3))) (eCall m__law_times 2 (aCons (eOp (q2 dAdd) (eV 8) (eOp (q2 dIx) (eV 7) (eC (.int 5)))) (aCons (eOp (q2 dIx) (eV 7) (eC (.int 2))) aNil)))) [some (.lst ((A ++ t :: B).map encR)), some (.int (A.length : Nat)), some d, some (encR t), x4, some (.int c), some (.int (heldB B)), none, some (.int s), x9, x10, x11, x12] ((A ++ [t]).map encR) S
          = .ok (((A ++ [t]).map fun u => u.most * up (s + u.wait) u.gap).map D.int) S := fun x9 => sum_law hU (by rw [List.length_append]; simp; omega) (by simp) rfl
      have ll2 : (((A ++ [t]).map fun u => u.most * up (s + u.wait) u.gap).map D.int).length ≤ 16777216 := by rw [List.length_map, List.length_map, List.length_append]; simp; omega
      have sm := sum_map ((A ++ [t]).map fun u => u.most * up (s + u.wait) u.gap)
      have ed : heldB B + c * up s a + sumI ((A ++ [t]).map fun u => u.most * up (s + u.wait) u.gap) = hS A B t c a s := by
        unfold hS dem
        rw [List.map_map]
        show heldB B + c * up s a + sumI _ = heldB B + sumI ((A ++ [t]).map fun u => u.most * up (s + u.wait) u.gap) + c * up s a
        omega
      have step : sWhile (tB' (eOp (q2 (i2 fGt)) (eV 9) (eV 8))) (sSeq (sSet 8 (eV 9)) (sSeq (sIf (tB' (eOp (q2 (i2 fGt)) (eV 8) (eOp (q2 (i2 fMul)) (eC (.int 100)) (eAr (qA dMaxL) (aCons (eLc [7] (aIt dSeq (eV 0)) (vName 7) tvYes (eOp (q2 dIx) (eV 7) (eC (.int 2)))) aNil))))) (sRet (eC .non)) sNext) (sSeq (sSet 9 (eOp (q2 dAdd) (eV 6) (eOp (q2 (i2 fMul)) (eV 5) (eCall m__law_times 2 (aCons (eV 8) (aCons (eOrT (eV 2) (eC (.int 1))) aNil)))))) (sSet 9 (eOp (q2 dAdd) (eV 9) (eAr (qA dSum) (aCons (eLc [7] (aIt dSeq (eSl (altS slT slL) (eV 0) oNone (oSome (eOp (q2 dAdd) (eV 1) (eC (.int 1)))))) (vName 7) tvYes (eOp (q2 (i2 fMul)) (eOp (q2 dIx) (eV 7) (eC (.int 3))) (eCall m__law_times 2 (aCons (eOp (q2 dAdd) (eV 8) (eOp (q2 dIx) (eV 7) (eC (.int 5)))) (aCons (eOp (q2 dIx) (eV 7) (eC (.int 2))) aNil))))) aNil))))))) (n + 1) [some (.lst ((A ++ t :: B).map encR)), some (.int (A.length : Nat)), some d, some (encR t), x4, some (.int c), some (.int (heldB B)), x7, some (.int k), some (.int s), x10, x11, x12] S
          = sWhile (tB' (eOp (q2 (i2 fGt)) (eV 9) (eV 8))) (sSeq (sSet 8 (eV 9)) (sSeq (sIf (tB' (eOp (q2 (i2 fGt)) (eV 8) (eOp (q2 (i2 fMul)) (eC (.int 100)) (eAr (qA dMaxL) (aCons (eLc [7] (aIt dSeq (eV 0)) (vName 7) tvYes (eOp (q2 dIx) (eV 7) (eC (.int 2)))) aNil))))) (sRet (eC .non)) sNext) (sSeq (sSet 9 (eOp (q2 dAdd) (eV 6) (eOp (q2 (i2 fMul)) (eV 5) (eCall m__law_times 2 (aCons (eV 8) (aCons (eOrT (eV 2) (eC (.int 1))) aNil)))))) (sSet 9 (eOp (q2 dAdd) (eV 9) (eAr (qA dSum) (aCons (eLc [7] (aIt dSeq (eSl (altS slT slL) (eV 0) oNone (oSome (eOp (q2 dAdd) (eV 1) (eC (.int 1)))))) (vName 7) tvYes (eOp (q2 (i2 fMul)) (eOp (q2 dIx) (eV 7) (eC (.int 3))) (eCall m__law_times 2 (aCons (eOp (q2 dAdd) (eV 8) (eOp (q2 dIx) (eV 7) (eC (.int 5)))) (aCons (eOp (q2 dIx) (eV 7) (eC (.int 2))) aNil))))) aNil))))))) n [some (.lst ((A ++ t :: B).map encR)), some (.int (A.length : Nat)), some d, some (encR t), x4, some (.int c), some (.int (heldB B)), x7, some (.int s), some (.int (hS A B t c a s)), x10, x11, x12] S := by
        rw [← ed]
        generalize ((A ++ [t]).map fun u => u.most * up (s + u.wait) u.gap).map D.int = Z1 at *
        generalize ((A ++ t :: B).map fun u => u.gap).map D.int = Z2 at *
        generalize (A ++ t :: B).map encR = X at *
        generalize (A ++ [t]).map encR = Y at *
        generalize hTT : encR t = TT at *
        rw [sWhile]
        simp only [ap_fnK, List.map_cons, List.map_nil, List.length_cons, List.length_nil, Nat.reduceAdd, Nat.reduceSub, List.replicate, List.cons_append, List.nil_append, ap_next, ap_seq, ap_drop, ap_ret, ap_if, ap_name, ap_nil, ap_cons, ap_tup, ap_asg, ap_for, ap_V0, ap_V1, ap_V2, ap_V3, ap_V4, ap_V5, ap_V6, ap_V7, ap_V8, ap_V9, ap_V10, ap_C, ap_op, ap_un, ap_ar, ap_tB, ap_tand, ap_tor, ap_tnot, ap_tyes, ap_and, ap_or, ap_eif, ap_anil, ap_acons, ap_etup, ap_elst, ap_ait, ap_arng, ap_call, ap_callD, ap_meth, ap_meth0, ap_lc, ap_wipe0, ap_wipe, ap_fin, ap_noX, ap_some, Res.bind_ok, Res.bnd_ok, List.set_cons_succ, List.set_cons_zero, Option.bind_some, d_q2, d_i2, q_qA, s_lst, s_fix, s_tup, s_ktp, q_lst, q_tup, l_lst, l_fix, l_tup, d_lt, d_le, d_gt, d_ge, d_sub, d_add, d_eqi, d_nei, d_isn, d_nisn, n_non, n_int, n_str, x_max2, x_min2, decide_true, decide_false, if_true, ↓reduceIte, Bool.false_eq_true, Nat.reduceLeDiff, ap_esl, ap_onone, ap_osome, ap_maxDf, ap_par3, ap_V11, ap_V12, ap_V13, sl_lst', sl_tup', c1, lg, ll1, x1, fm, d1, o1, lt, fm2, cp, ls, ll2, sm]
      rw [step]
      by_cases e : hS A B t c a s = s
      · refine ⟨some s, ⟨h1, q, e, h3⟩, ?_⟩
        obtain ⟨m, rfl⟩ : ∃ m, n = m + 1 := ⟨n - 1, by omega⟩
        have c2 : decide (s < s) = false := decide_eq_false (by omega)
        rw [e]
        generalize (A ++ t :: B).map encR = X at *
        generalize hTT : encR t = TT at *
        simp only []
        rw [sWhile]
        simp only [ap_fnK, List.map_cons, List.map_nil, List.length_cons, List.length_nil, Nat.reduceAdd, Nat.reduceSub, List.replicate, List.cons_append, List.nil_append, ap_next, ap_seq, ap_drop, ap_ret, ap_if, ap_name, ap_nil, ap_cons, ap_tup, ap_asg, ap_for, ap_V0, ap_V1, ap_V2, ap_V3, ap_V4, ap_V5, ap_V6, ap_V7, ap_V8, ap_V9, ap_V10, ap_C, ap_op, ap_un, ap_ar, ap_tB, ap_tand, ap_tor, ap_tnot, ap_tyes, ap_and, ap_or, ap_eif, ap_anil, ap_acons, ap_etup, ap_elst, ap_ait, ap_arng, ap_call, ap_callD, ap_meth, ap_meth0, ap_lc, ap_wipe0, ap_wipe, ap_fin, ap_noX, ap_some, Res.bind_ok, Res.bnd_ok, List.set_cons_succ, List.set_cons_zero, Option.bind_some, d_q2, d_i2, q_qA, s_lst, s_fix, s_tup, s_ktp, q_lst, q_tup, l_lst, l_fix, l_tup, d_lt, d_le, d_gt, d_ge, d_sub, d_add, d_eqi, d_nei, d_isn, d_nisn, n_non, n_int, n_str, x_max2, x_min2, decide_true, decide_false, if_true, ↓reduceIte, Bool.false_eq_true, Nat.reduceLeDiff, ap_esl, ap_onone, ap_osome, ap_maxDf, ap_par3, ap_V11, ap_V12, ap_V13, sl_lst', sl_tup', c2]
      · have := hmono h2
        obtain ⟨r, r1, r2⟩ := law_go (x4 := x4) (x7 := x7) (x10 := x10) (x11 := x11) (x12 := x12) hP hT hs hm hm2 ha2 hG hG2 n s (hS A B t c a s) (by omega) (by omega) (by omega) (by omega) (fun j j1 j2 => by
          have := hmono (h3 j j1 j2)
          omega)
        exact ⟨r, r1, r2⟩
    · have d1 : decide (100 * m1 < s) = true := decide_eq_true (by omega)
      refine ⟨none, fun j j1 j2 e => ?_, ?_⟩
      · have := h3 j j1 e
        omega
      · generalize ((A ++ t :: B).map fun u => u.gap).map D.int = Z2 at *
        generalize (A ++ t :: B).map encR = X at *
        generalize hTT : encR t = TT at *
        simp only []
        rw [sWhile]
        simp only [ap_fnK, List.map_cons, List.map_nil, List.length_cons, List.length_nil, Nat.reduceAdd, Nat.reduceSub, List.replicate, List.cons_append, List.nil_append, ap_next, ap_seq, ap_drop, ap_ret, ap_if, ap_name, ap_nil, ap_cons, ap_tup, ap_asg, ap_for, ap_V0, ap_V1, ap_V2, ap_V3, ap_V4, ap_V5, ap_V6, ap_V7, ap_V8, ap_V9, ap_V10, ap_C, ap_op, ap_un, ap_ar, ap_tB, ap_tand, ap_tor, ap_tnot, ap_tyes, ap_and, ap_or, ap_eif, ap_anil, ap_acons, ap_etup, ap_elst, ap_ait, ap_arng, ap_call, ap_callD, ap_meth, ap_meth0, ap_lc, ap_wipe0, ap_wipe, ap_fin, ap_noX, ap_some, Res.bind_ok, Res.bnd_ok, List.set_cons_succ, List.set_cons_zero, Option.bind_some, d_q2, d_i2, q_qA, s_lst, s_fix, s_tup, s_ktp, q_lst, q_tup, l_lst, l_fix, l_tup, d_lt, d_le, d_gt, d_ge, d_sub, d_add, d_eqi, d_nei, d_isn, d_nisn, n_non, n_int, n_str, x_max2, x_min2, decide_true, decide_false, if_true, ↓reduceIte, Bool.false_eq_true, Nat.reduceLeDiff, ap_esl, ap_onone, ap_osome, ap_maxDf, ap_par3, ap_V11, ap_V12, ap_V13, sl_lst', sl_tup', c1, lg, ll1, x1, fm, d1]
/-- a begin -/
theorem law_begin {cm c a u : Int} {d : D} {q : Nat} {x0 x1 x7 x8 x10 : Option D} (hA : Tame A) (hl : A.length < 1000) (ht : t.most ≤ 1000000000000000) (hs : Spl cm d c a) (hm : 0 ≤ cm) (hm2 : cm < 1000000000000000) (ha2 : a < 1000000000000000) (hq : (q : Int) < 9223372036854775808) (hu : hB A B t c a q u = u) (hmin : ∀ j, 0 ≤ j → hB A B t c a q j = j → u ≤ j) : ∀ (n : Nat) (k s : Int), (u - s).toNat + 1 < n → k < s → 0 ≤ s → s ≤ u → s ≤ hB A B t c a q s →
    sWhile (tB' (eOp (q2 (i2 fGt)) (eV 9) (eV 12))) (sSeq (sSet 12 (eV 9)) (sSeq (sSet 9 (eOp (q2 dAdd) (eOp (q2 dAdd) (eV 6) (eOp (q2 (i2 fMul)) (eV 11) (eOp (q2 dIx) (eV 3) (eC (.int 3))))) (eOp (q2 (i2 fMul)) (eV 5) (eCall m__law_times 2 (aCons (eOp (q2 dAdd) (eV 12) (eOp (q2 dIx) (eV 3) (eC (.int 3)))) (aCons (eOrT (eV 2) (eC (.int 1))) aNil)))))) (sSet 9 (eOp (q2 dAdd) (eV 9) (eAr (qA dSum) (aCons (eLc [7] (aIt dSeq (eV 4)) (vName 7) tvYes (eOp (q2 (i2 fMul)) (eOp (q2 dIx) (eV 7) (eC (.int 3))) (eOp (q2 dAdd) (eOp (q2 (i2 fDiv)) (eOp (q2 dAdd) (eV 12) (eOp (q2 dIx) (eV 7) (eC (.int 5)))) (eOp (q2 dIx) (eV 7) (eC (.int 2)))) (eC (.int 1))))) aNil)))))) n [x0, x1, some d, some (encR t), some (.lst (A.map encR)), some (.int c), some (.int (heldB B)), x7, x8, some (.int s), x10, some (.int q), some (.int k)] S
      = .ok (.nx [x0, x1, some d, some (encR t), some (.lst (A.map encR)), some (.int c), some (.int (heldB B)), x7, x8, some (.int u), x10, some (.int q), some (.int u)]) S
  | 0, _, _, h, _, _, _, _ => absurd h (by omega)
  | n + 1, k, s, hn, hk, h0, hsu, h2 => by
    have ca := hs.c0 hm
    have hmono : ∀ {x y}, x ≤ y → hB A B t c a q x ≤ hB A B t c a q y := fun {x y} e => hB_mono hA ca.1 ca.2 e
    have c1 : decide (k < s) = true := decide_eq_true hk
    have o1 : ∀ x9, eOrT (eV 2) (eC (.int 1)) [x0, x1, some d, some (encR t), some (.lst (A.map encR)), some (.int c), some (.int (heldB B)), x7, x8, x9, x10, some (.int q), some (.int s)] S = .ok (.int a) S := fun x9 => orT1 (d := none) hs hm
    have lt := law_times (x := s + t.most) (g := a) (S := S) (by omega) (by omega)
    have cc : c < 1000000000000000 := by
      cases hs with
      | no => omega
      | yes h => exact hm2
    have fm1 : fMul (q : Int) t.most = some (.int (q * t.most)) := fMul_ok (by omega) (by omega)
    have fm2 : fMul c (up (s + t.most) a) = some (.int (c * up (s + t.most) a)) := fMul_ok (by omega) (by omega)
    have ls : ∀ x9, lcGo (vName 7) tvYes (eOp (q2 (i2 fMul)) (eOp (q2 dIx) (eV 7) (eC (.int 3))) (eOp (q2 dAdd) (eOp (q2 (i2 fDiv)) (eOp (q2 dAdd) (eV 12) (eOp (q2 dIx) (eV 7) (eC (.int 5)))) (eOp (q2 dIx) (eV 7) (eC (.int 2)))) (eC (.int 1)))) [x0, x1, some d, some (encR t), some (.lst (A.map encR)), some (.int c), some (.int (heldB B)), none, x8, x9, x10, some (.int q), some (.int s)] (A.map encR) S
        = .ok ((A.map fun u => u.most * up (s + 1 + u.wait) u.gap).map D.int) S := fun x9 => sum_law2 hA (by omega) (by simp) rfl
    have ll2 : ((A.map fun u => u.most * up (s + 1 + u.wait) u.gap).map D.int).length ≤ 16777216 := by rw [List.length_map, List.length_map]; omega
    have sm := sum_map (A.map fun u => u.most * up (s + 1 + u.wait) u.gap)
    have ed : heldB B + q * t.most + c * up (s + t.most) a + sumI (A.map fun u => u.most * up (s + 1 + u.wait) u.gap) = hB A B t c a q s := by
      unfold hB dem
      rw [List.map_map]
      show heldB B + q * t.most + c * up (s + t.most) a + sumI _ = heldB B + q * t.most + sumI (A.map fun u => u.most * up (s + 1 + u.wait) u.gap) + c * up (s + t.most) a
      omega
    have step : sWhile (tB' (eOp (q2 (i2 fGt)) (eV 9) (eV 12))) (sSeq (sSet 12 (eV 9)) (sSeq (sSet 9 (eOp (q2 dAdd) (eOp (q2 dAdd) (eV 6) (eOp (q2 (i2 fMul)) (eV 11) (eOp (q2 dIx) (eV 3) (eC (.int 3))))) (eOp (q2 (i2 fMul)) (eV 5) (eCall m__law_times 2 (aCons (eOp (q2 dAdd) (eV 12) (eOp (q2 dIx) (eV 3) (eC (.int 3)))) (aCons (eOrT (eV 2) (eC (.int 1))) aNil)))))) (sSet 9 (eOp (q2 dAdd) (eV 9) (eAr (qA dSum) (aCons (eLc [7] (aIt dSeq (eV 4)) (vName 7) tvYes (eOp (q2 (i2 fMul)) (eOp (q2 dIx) (eV 7) (eC (.int 3))) (eOp (q2 dAdd) (eOp (q2 (i2 fDiv)) (eOp (q2 dAdd) (eV 12) (eOp (q2 dIx) (eV 7) (eC (.int 5)))) (eOp (q2 dIx) (eV 7) (eC (.int 2)))) (eC (.int 1))))) aNil)))))) (n + 1) [x0, x1, some d, some (encR t), some (.lst (A.map encR)), some (.int c), some (.int (heldB B)), x7, x8, some (.int s), x10, some (.int q), some (.int k)] S
        = sWhile (tB' (eOp (q2 (i2 fGt)) (eV 9) (eV 12))) (sSeq (sSet 12 (eV 9)) (sSeq (sSet 9 (eOp (q2 dAdd) (eOp (q2 dAdd) (eV 6) (eOp (q2 (i2 fMul)) (eV 11) (eOp (q2 dIx) (eV 3) (eC (.int 3))))) (eOp (q2 (i2 fMul)) (eV 5) (eCall m__law_times 2 (aCons (eOp (q2 dAdd) (eV 12) (eOp (q2 dIx) (eV 3) (eC (.int 3)))) (aCons (eOrT (eV 2) (eC (.int 1))) aNil)))))) (sSet 9 (eOp (q2 dAdd) (eV 9) (eAr (qA dSum) (aCons (eLc [7] (aIt dSeq (eV 4)) (vName 7) tvYes (eOp (q2 (i2 fMul)) (eOp (q2 dIx) (eV 7) (eC (.int 3))) (eOp (q2 dAdd) (eOp (q2 (i2 fDiv)) (eOp (q2 dAdd) (eV 12) (eOp (q2 dIx) (eV 7) (eC (.int 5)))) (eOp (q2 dIx) (eV 7) (eC (.int 2)))) (eC (.int 1))))) aNil)))))) n [x0, x1, some d, some (encR t), some (.lst (A.map encR)), some (.int c), some (.int (heldB B)), x7, x8, some (.int (hB A B t c a q s)), x10, some (.int q), some (.int s)] S := by
      rw [← ed]
      generalize (A.map fun u => u.most * up (s + 1 + u.wait) u.gap).map D.int = Z1 at *
      generalize A.map encR = X at *
      have r3 := r_3 (t := t)
      generalize hTT : encR t = TT at *
      rw [sWhile]
      simp only [ap_fnK, List.map_cons, List.map_nil, List.length_cons, List.length_nil, Nat.reduceAdd, Nat.reduceSub, List.replicate, List.cons_append, List.nil_append, ap_next, ap_seq, ap_drop, ap_ret, ap_if, ap_name, ap_nil, ap_cons, ap_tup, ap_asg, ap_for, ap_V0, ap_V1, ap_V2, ap_V3, ap_V4, ap_V5, ap_V6, ap_V7, ap_V8, ap_V9, ap_V10, ap_C, ap_op, ap_un, ap_ar, ap_tB, ap_tand, ap_tor, ap_tnot, ap_tyes, ap_and, ap_or, ap_eif, ap_anil, ap_acons, ap_etup, ap_elst, ap_ait, ap_arng, ap_call, ap_callD, ap_meth, ap_meth0, ap_lc, ap_wipe0, ap_wipe, ap_fin, ap_noX, ap_some, Res.bind_ok, Res.bnd_ok, List.set_cons_succ, List.set_cons_zero, Option.bind_some, d_q2, d_i2, q_qA, s_lst, s_fix, s_tup, s_ktp, q_lst, q_tup, l_lst, l_fix, l_tup, d_lt, d_le, d_gt, d_ge, d_sub, d_add, d_eqi, d_nei, d_isn, d_nisn, n_non, n_int, n_str, x_max2, x_min2, decide_true, decide_false, if_true, ↓reduceIte, Bool.false_eq_true, Nat.reduceLeDiff, ap_esl, ap_onone, ap_osome, ap_maxDf, ap_par3, ap_V11, ap_V12, ap_V13, sl_lst', sl_tup', c1, r3, fm1, o1, lt, fm2, ls, ll2, sm]
    rw [step]
    by_cases e : hB A B t c a q s = s
    · have := hmin s h0 e
      have es : s = u := by omega
      subst es
      obtain ⟨m, rfl⟩ : ∃ m, n = m + 1 := ⟨n - 1, by omega⟩
      have c2 : decide (s < s) = false := decide_eq_false (by omega)
      rw [e]
      generalize A.map encR = X at *
      generalize hTT : encR t = TT at *
      rw [sWhile]
      simp only [ap_fnK, List.map_cons, List.map_nil, List.length_cons, List.length_nil, Nat.reduceAdd, Nat.reduceSub, List.replicate, List.cons_append, List.nil_append, ap_next, ap_seq, ap_drop, ap_ret, ap_if, ap_name, ap_nil, ap_cons, ap_tup, ap_asg, ap_for, ap_V0, ap_V1, ap_V2, ap_V3, ap_V4, ap_V5, ap_V6, ap_V7, ap_V8, ap_V9, ap_V10, ap_C, ap_op, ap_un, ap_ar, ap_tB, ap_tand, ap_tor, ap_tnot, ap_tyes, ap_and, ap_or, ap_eif, ap_anil, ap_acons, ap_etup, ap_elst, ap_ait, ap_arng, ap_call, ap_callD, ap_meth, ap_meth0, ap_lc, ap_wipe0, ap_wipe, ap_fin, ap_noX, ap_some, Res.bind_ok, Res.bnd_ok, List.set_cons_succ, List.set_cons_zero, Option.bind_some, d_q2, d_i2, q_qA, s_lst, s_fix, s_tup, s_ktp, q_lst, q_tup, l_lst, l_fix, l_tup, d_lt, d_le, d_gt, d_ge, d_sub, d_add, d_eqi, d_nei, d_isn, d_nisn, n_non, n_int, n_str, x_max2, x_min2, decide_true, decide_false, if_true, ↓reduceIte, Bool.false_eq_true, Nat.reduceLeDiff, ap_esl, ap_onone, ap_osome, ap_maxDf, ap_par3, ap_V11, ap_V12, ap_V13, sl_lst', sl_tup', c2]
    · have h4 := hmono hsu
      have h5 := hmono h2
      exact law_begin hA hl ht hs hm hm2 ha2 hq hu hmin n s (hB A B t c a q s) (by omega) (by omega) (by omega) (by omega) (by omega)
end
end Sm
set_option Elab.async false
set_option linter.all false
set_option maxRecDepth 100000
set_option maxHeartbeats 400000
open PySem PySem.Spec
namespace Sm
open L2 PySem.W
section
variable {A B L : List Tsk} {t : Tsk} {S : Sto}
theorem law_fors {cm c a T : Int} {d : D} {x0 x1 x7 x8 : Option D} {f : Nat → Int} {N : Nat} (hA : Tame A) (hl : A.length < 1000) (ht1 : 1 ≤ t.most) (ht : t.most ≤ 1000000000000000) (hg : t.gap < 1000000000000000) (hs : Spl cm d c a) (hm : 0 ≤ cm) (hm2 : cm < 1000000000000000) (ha2 : a < 1000000000000000) (hN : (N : Int) < 9223372036854775808) (hT3 : T ≤ 100000000000000)
    (hf : ∀ i, i < N → Bg A B t c a i (f i) ∧ f i ≤ T) : ∀ (n q : Nat) (x9 x11 x12 : Option D), n + q = N →
    ∃ y9 y11 y12, forGo (vName 11) (sSeq (sAsg (eTup (aCons (eUn unNeg (eC (.int 1))) (aCons (eC (.int 0)) aNil))) (vTup 2 (vCons (vName 12) (vCons (vName 9) vNil)))) (sSeq (sWhile (tB' (eOp (q2 (i2 fGt)) (eV 9) (eV 12))) (sSeq (sSet 12 (eV 9)) (sSeq (sSet 9 (eOp (q2 dAdd) (eOp (q2 dAdd) (eV 6) (eOp (q2 (i2 fMul)) (eV 11) (eOp (q2 dIx) (eV 3) (eC (.int 3))))) (eOp (q2 (i2 fMul)) (eV 5) (eCall m__law_times 2 (aCons (eOp (q2 dAdd) (eV 12) (eOp (q2 dIx) (eV 3) (eC (.int 3)))) (aCons (eOrT (eV 2) (eC (.int 1))) aNil)))))) (sSet 9 (eOp (q2 dAdd) (eV 9) (eAr (qA dSum) (aCons (eLc [7] (aIt dSeq (eV 4)) (vName 7) tvYes (eOp (q2 (i2 fMul)) (eOp (q2 dIx) (eV 7) (eC (.int 3))) (eOp (q2 dAdd) (eOp (q2 (i2 fDiv)) (eOp (q2 dAdd) (eV 12) (eOp (q2 dIx) (eV 7) (eC (.int 5)))) (eOp (q2 dIx) (eV 7) (eC (.int 2)))) (eC (.int 1))))) aNil)))))) fuel) (sSet 10 (eAr (qA dMax2) (aCons (eV 10) (aCons (eOp (q2 (i2 fSub)) (eOp (q2 dAdd) (eOp (q2 dAdd) (eOp (q2 dIx) (eV 3) (eC (.int 5))) (eV 12)) (eOp (q2 dIx) (eV 3) (eC (.int 3)))) (eOp (q2 (i2 fMul)) (eV 11) (eOp (q2 dIx) (eV 3) (eC (.int 2))))) aNil)))))) ((List.range n).map fun i => D.int ((q + i : Nat) : Int)) [x0, x1, some d, some (encR t), some (.lst (A.map encR)), some (.int c), some (.int (heldB B)), x7, x8, x9, some (.int (toldF t f q)), x11, x12] S
      = .ok (.nx [x0, x1, some d, some (encR t), some (.lst (A.map encR)), some (.int c), some (.int (heldB B)), x7, x8, y9, some (.int (toldF t f N)), y11, y12]) S
  | 0, q, x9, x11, x12, h => ⟨x9, x11, x12, by rw [← h, Nat.zero_add]; rfl⟩
  | n + 1, q, x9, x11, x12, h => by
    obtain ⟨y9, y11, y12, ih⟩ := law_fors (x0 := x0) (x1 := x1) (x7 := x7) (x8 := x8) hA hl ht1 ht hg hs hm hm2 ha2 hN hT3 hf n (q + 1) (some (.int (f q))) (some (.int q)) (some (.int (f q))) (by omega)
    refine ⟨y9, y11, y12, ?_⟩
    obtain ⟨b1, b2⟩ := hf q (by omega)
    have ca := hs.c0 hm
    obtain ⟨l0, l1, l2⟩ := b1.law hA ht1 ca.1 ca.2
    have hfp : 0 ≤ heldB B + q * t.most := by
      have := heldB_nonneg (B := B)
      have := Int.mul_nonneg (show (0 : Int) ≤ q by omega) (show 0 ≤ t.most by omega)
      omega
    have h0 : 0 ≤ hB A B t c a q 0 := by
      have h1 := dem_ge (first := heldB B + q * t.most) (x := 0 + 1) hA.tkOk (by omega)
      have h2 := Int.mul_nonneg ca.1 (up_nonneg (x := 0 + t.most) (g := a) (by omega) (by omega))
      unfold hB
      omega
    have go := law_begin (S := S) (x0 := x0) (x1 := x1) (x7 := x7) (x8 := x8) (x10 := some (.int (toldF t f q))) hA hl ht hs hm hm2 ha2 (by omega) l1 l2 fuel (-1) 0 (by
      have : fuel = 1000000000000000 := rfl
      omega) (by omega) (Int.le_refl _) l0 h0
    have fm2 : fMul (q : Int) t.gap = some (.int (q * t.gap)) := fMul_ok (by omega) (by omega)
    have mx : dMax2 [.int (toldF t f q), .int (t.wait + f q + t.most - q * t.gap)] = some (.int (toldF t f (q + 1))) := by
      exact congrArg (fun n => some (D.int n)) (show (if t.wait + f q + t.most - q * t.gap > toldF t f q then t.wait + f q + t.most - q * t.gap else toldF t f q) = max (toldF t f q) (t.wait + f q - q * t.gap + t.most) by split <;> omega)
    have el : ((List.range (n + 1)).map fun i => D.int ((q + i : Nat) : Int)) = .int (q : Int) :: ((List.range n).map fun i => D.int ((q + 1 + i : Nat) : Int)) := by
      rw [List.range_succ_eq_map, List.map_cons, List.map_map, Nat.add_zero]
      refine congrArg (List.cons (D.int (q : Int))) ?_
      apply List.map_congr_left
      intro i _
      have en : q + (i + 1) = q + 1 + i := by omega
      show D.int ((q + (i + 1) : Nat) : Int) = _
      rw [en]
    rw [el, ← ih]
    have step : (sSeq (sAsg (eTup (aCons (eUn unNeg (eC (.int 1))) (aCons (eC (.int 0)) aNil))) (vTup 2 (vCons (vName 12) (vCons (vName 9) vNil)))) (sSeq (sWhile (tB' (eOp (q2 (i2 fGt)) (eV 9) (eV 12))) (sSeq (sSet 12 (eV 9)) (sSeq (sSet 9 (eOp (q2 dAdd) (eOp (q2 dAdd) (eV 6) (eOp (q2 (i2 fMul)) (eV 11) (eOp (q2 dIx) (eV 3) (eC (.int 3))))) (eOp (q2 (i2 fMul)) (eV 5) (eCall m__law_times 2 (aCons (eOp (q2 dAdd) (eV 12) (eOp (q2 dIx) (eV 3) (eC (.int 3)))) (aCons (eOrT (eV 2) (eC (.int 1))) aNil)))))) (sSet 9 (eOp (q2 dAdd) (eV 9) (eAr (qA dSum) (aCons (eLc [7] (aIt dSeq (eV 4)) (vName 7) tvYes (eOp (q2 (i2 fMul)) (eOp (q2 dIx) (eV 7) (eC (.int 3))) (eOp (q2 dAdd) (eOp (q2 (i2 fDiv)) (eOp (q2 dAdd) (eV 12) (eOp (q2 dIx) (eV 7) (eC (.int 5)))) (eOp (q2 dIx) (eV 7) (eC (.int 2)))) (eC (.int 1))))) aNil)))))) fuel) (sSet 10 (eAr (qA dMax2) (aCons (eV 10) (aCons (eOp (q2 (i2 fSub)) (eOp (q2 dAdd) (eOp (q2 dAdd) (eOp (q2 dIx) (eV 3) (eC (.int 5))) (eV 12)) (eOp (q2 dIx) (eV 3) (eC (.int 3)))) (eOp (q2 (i2 fMul)) (eV 11) (eOp (q2 dIx) (eV 3) (eC (.int 2))))) aNil)))))) [x0, x1, some d, some (encR t), some (.lst (A.map encR)), some (.int c), some (.int (heldB B)), x7, x8, x9, some (.int (toldF t f q)), some (.int q), x12] S
        = .ok (.nx [x0, x1, some d, some (encR t), some (.lst (A.map encR)), some (.int c), some (.int (heldB B)), x7, x8, some (.int (f q)), some (.int (toldF t f (q + 1))), some (.int q), some (.int (f q))]) S := by
      generalize A.map encR = X at *
      have r3 := r_3 (t := t)
      have r2 := r_2 (t := t)
      have r5 := r_5 (t := t)
      generalize hTT : encR t = TT at *
      generalize toldF t f (q + 1) = tf1 at *
      generalize toldF t f q = tf at *
      simp only [ap_fnK, List.map_cons, List.map_nil, List.length_cons, List.length_nil, Nat.reduceAdd, Nat.reduceSub, List.replicate, List.cons_append, List.nil_append, ap_next, ap_seq, ap_drop, ap_ret, ap_if, ap_name, ap_nil, ap_cons, ap_tup, ap_asg, ap_for, ap_V0, ap_V1, ap_V2, ap_V3, ap_V4, ap_V5, ap_V6, ap_V7, ap_V8, ap_V9, ap_V10, ap_C, ap_op, ap_un, ap_ar, ap_tB, ap_tand, ap_tor, ap_tnot, ap_tyes, ap_and, ap_or, ap_eif, ap_anil, ap_acons, ap_etup, ap_elst, ap_ait, ap_arng, ap_call, ap_callD, ap_meth, ap_meth0, ap_lc, ap_wipe0, ap_wipe, ap_fin, ap_noX, ap_some, Res.bind_ok, Res.bnd_ok, List.set_cons_succ, List.set_cons_zero, Option.bind_some, d_q2, d_i2, q_qA, s_lst, s_fix, s_tup, s_ktp, q_lst, q_tup, l_lst, l_fix, l_tup, d_lt, d_le, d_gt, d_ge, d_sub, d_add, d_eqi, d_nei, d_isn, d_nisn, n_non, n_int, n_str, x_max2, x_min2, decide_true, decide_false, if_true, ↓reduceIte, Bool.false_eq_true, Nat.reduceLeDiff, ap_esl, ap_onone, ap_osome, ap_maxDf, ap_par3, ap_V11, ap_V12, ap_V13, sl_lst', sl_tup', go, r3, fm2, r5, r2, mx, d_neg]
    generalize sSeq (sAsg _ _) _ = BODY at *
    generalize A.map encR = X at *
    generalize hTT : encR t = TT at *
    simp only [forGo, ap_name, List.set_cons_succ, List.set_cons_zero, step, Res.bind_ok]
theorem law_bound {cm c a G : Int} {d : D} {res : Option Int} (hP : Pl (A ++ t :: B)) (hT : Tame (A ++ t :: B)) (hs : Spl cm d c a) (hm : IsMax ((A ++ [t]).map fun u => u.most) cm) (hm2 : cm < 1000000000000000) (ha2 : a < 1000000000000000) (hG : IsMax ((A ++ t :: B).map fun u => u.gap) G) (hG2 : G ≤ 1000000000000) (hb : BB A B t c a G res) :
    m__law_bus_bound [.lst ((A ++ t :: B).map encR), .int (A.length : Nat), d] S = .ok (optN (fin' t.due res)) S := by
  have few := few_of hP
  have hU := sub_U hT
  have hA := sub_A hT
  have hmt := hT.most t (by simp); have hgt := hT.gap t (by simp); have hwt := hT.wait t (by simp)
  obtain ⟨u, hu, eu⟩ := List.mem_map.mp hm.1
  have hmu := hU.most u hu
  have hm0 : 0 ≤ cm := by omega
  have ca := hs.c0 hm0
  obtain ⟨v, hv, ev⟩ := List.mem_map.mp hG.1
  have hgv := hT.gap v hv
  obtain ⟨r, r1, r2⟩ := hb
  have own : dIx (.lst ((A ++ t :: B).map encR)) (.int (A.length : Nat)) = some (encR t) := ix_lst (by
    rw [List.map_append, List.map_cons, List.getElem?_append_right (by simp)]
    simp)
  have cp0 : cutD ((A ++ t :: B).map encR) none (some (A.length : Nat)) = A.map encR := by
    rw [List.map_append]
    exact cut_pre (by simp)
  have cp : cutD ((A ++ t :: B).map encR) none (some ((A.length : Nat) + 1)) = (A ++ [t]).map encR := by
    rw [show A ++ t :: B = (A ++ [t]) ++ B by simp, List.map_append]
    exact cut_pre (by simp)
  have cq : cutD ((A ++ t :: B).map encR) (some ((A.length : Nat) + 1)) none = B.map encR := by
    rw [show A ++ t :: B = (A ++ [t]) ++ B by simp, List.map_append]
    exact cut_post (by simp)
  have lb : ∀ x6 x8 x9 x10 x11 x12, lcGo (vName 7) tvYes (eOp (q2 (i2 fSub)) (eOp (q2 dIx) (eV 7) (eC (.int 3))) (eC (.int 1))) [some (.lst ((A ++ t :: B).map encR)), some (.int (A.length : Nat)), some d, some (encR t), some (.lst (A.map encR)), some (.int 0), x6, none, x8, x9, x10, x11, x12] (B.map encR) S = .ok ((B.map fun u => u.most - 1).map D.int) S := fun x6 x8 x9 x10 x11 x12 => lc_most1 (by simp)
  have llb : ((B.map fun u => u.most - 1).map D.int).length ≤ 16777216 := by rw [List.length_map, List.length_map]; omega
  have mb := max_def (B := B) fun u hu => (hT.most u (by simp [hu])).1
  have lm : ∀ x6 x8 x9 x10 x11 x12, lcGo (vName 7) tvYes (eOp (q2 dIx) (eV 7) (eC (.int 3))) [some (.lst ((A ++ t :: B).map encR)), some (.int (A.length : Nat)), some d, some (encR t), some (.lst (A.map encR)), some (.int 0), x6, none, x8, x9, x10, x11, x12] ((A ++ [t]).map encR) S = .ok (((A ++ [t]).map fun u => u.most).map D.int) S := fun x6 x8 x9 x10 x11 x12 => lc_most (by simp)
  have llm : (((A ++ [t]).map fun u => u.most).map D.int).length ≤ 16777216 := by rw [List.length_map, List.length_map, List.length_append]; simp; omega
  obtain ⟨m1, x1, y1⟩ := max_ints (l := (A ++ [t]).map fun u => u.most) (by simp)
  have e1 := y1.uniq hm
  subst e1
  -- the cost
  have cost : (sIf (tB' (eOp (q2 dNis) (eV 2) (eC .non))) (sSet 5 (eAr (qA dMaxL) (aCons (eLc [7] (aIt dSeq (eSl (altS slT slL) (eV 0) oNone (oSome (eOp (q2 dAdd) (eV 1) (eC (.int 1)))))) (vName 7) tvYes (eOp (q2 dIx) (eV 7) (eC (.int 3)))) aNil))) sNext) [some (.lst ((A ++ t :: B).map encR)), some (.int (A.length : Nat)), some d, some (encR t), some (.lst (A.map encR)), some (.int 0), some (.int (heldB B)), none, none, none, none, none, none] S
      = .ok (.nx [some (.lst ((A ++ t :: B).map encR)), some (.int (A.length : Nat)), some d, some (encR t), some (.lst (A.map encR)), some (.int c), some (.int (heldB B)), none, none, none, none, none, none]) S := by
    generalize ((A ++ [t]).map fun u => u.most).map D.int = Z1 at *
    generalize (A ++ t :: B).map encR = X at *
    generalize (A ++ [t]).map encR = Y at *
    generalize A.map encR = Y2 at *
    generalize hTT : encR t = TT at *
    cases hs with
    | no => simp only [ap_fnK, List.map_cons, List.map_nil, List.length_cons, List.length_nil, Nat.reduceAdd, Nat.reduceSub, List.replicate, List.cons_append, List.nil_append, ap_next, ap_seq, ap_drop, ap_ret, ap_if, ap_name, ap_nil, ap_cons, ap_tup, ap_asg, ap_for, ap_V0, ap_V1, ap_V2, ap_V3, ap_V4, ap_V5, ap_V6, ap_V7, ap_V8, ap_V9, ap_V10, ap_C, ap_op, ap_un, ap_ar, ap_tB, ap_tand, ap_tor, ap_tnot, ap_tyes, ap_and, ap_or, ap_eif, ap_anil, ap_acons, ap_etup, ap_elst, ap_ait, ap_arng, ap_call, ap_callD, ap_meth, ap_meth0, ap_lc, ap_wipe0, ap_wipe, ap_fin, ap_noX, ap_some, Res.bind_ok, Res.bnd_ok, List.set_cons_succ, List.set_cons_zero, Option.bind_some, d_q2, d_i2, q_qA, s_lst, s_fix, s_tup, s_ktp, q_lst, q_tup, l_lst, l_fix, l_tup, d_lt, d_le, d_gt, d_ge, d_sub, d_add, d_eqi, d_nei, d_isn, d_nisn, n_non, n_int, n_str, x_max2, x_min2, decide_true, decide_false, if_true, ↓reduceIte, Bool.false_eq_true, Nat.reduceLeDiff, ap_esl, ap_onone, ap_osome, ap_maxDf, ap_par3, ap_V11, ap_V12, ap_V13, sl_lst', sl_tup', Bool.not_true]
    | yes h h2 => simp only [ap_fnK, List.map_cons, List.map_nil, List.length_cons, List.length_nil, Nat.reduceAdd, Nat.reduceSub, List.replicate, List.cons_append, List.nil_append, ap_next, ap_seq, ap_drop, ap_ret, ap_if, ap_name, ap_nil, ap_cons, ap_tup, ap_asg, ap_for, ap_V0, ap_V1, ap_V2, ap_V3, ap_V4, ap_V5, ap_V6, ap_V7, ap_V8, ap_V9, ap_V10, ap_C, ap_op, ap_un, ap_ar, ap_tB, ap_tand, ap_tor, ap_tnot, ap_tyes, ap_and, ap_or, ap_eif, ap_anil, ap_acons, ap_etup, ap_elst, ap_ait, ap_arng, ap_call, ap_callD, ap_meth, ap_meth0, ap_lc, ap_wipe0, ap_wipe, ap_fin, ap_noX, ap_some, Res.bind_ok, Res.bnd_ok, List.set_cons_succ, List.set_cons_zero, Option.bind_some, d_q2, d_i2, q_qA, s_lst, s_fix, s_tup, s_ktp, q_lst, q_tup, l_lst, l_fix, l_tup, d_lt, d_le, d_gt, d_ge, d_sub, d_add, d_eqi, d_nei, d_isn, d_nisn, n_non, n_int, n_str, x_max2, x_min2, decide_true, decide_false, if_true, ↓reduceIte, Bool.false_eq_true, Nat.reduceLeDiff, ap_esl, ap_onone, ap_osome, ap_maxDf, ap_par3, ap_V11, ap_V12, ap_V13, sl_lst', sl_tup', Bool.not_false, cp, lm, llm, x1]
  have h1 := hS_mono (B := B) (t := t) (c := c) (a := a) hU ca.1 ca.2 (show (1 : Int) ≤ 1 by omega)
  have h1' : 1 ≤ hS A B t c a 1 := by
    have d1 := dem_self (x := 1) (first := heldB B) hU (Int.le_refl _) heldB_nonneg
    have d2 := Int.mul_nonneg ca.1 (up_nonneg (x := 1) (g := a) (by omega) (by omega))
    unfold hS
    omega
  obtain ⟨r', r1', go1⟩ := law_go (S := S) (x4 := some (.lst (A.map encR))) (x7 := none) (x10 := some (.int 0)) (x11 := none) (x12 := none) hP hT hs hm0 hm2 ha2 hG hG2 fuel 0 1 (by
    have : fuel = 1000000000000000 := rfl
    omega) (by omega) (Int.le_refl _) h1' (fun j j1 _ => j1)
  have er : r' = r := r1'.uniq (r1.law hU ca.1 ca.2)
  subst er
  have r4 := r_4 (t := t)
  have r5 := r_5 (t := t)
  have r2' := r_2 (t := t)
  unfold m__law_bus_bound
  refine fnT_rt ?_ rfl
  cases r' with
  | none =>
    have er : res = none := r2
    subst er
    simp only at go1
    generalize (B.map fun u => u.most - 1).map D.int = Z2 at *
    generalize ((A ++ [t]).map fun u => u.most).map D.int = Z1 at *
    generalize (A ++ t :: B).map encR = X at *
    generalize (A ++ [t]).map encR = Y at *
    generalize A.map encR = Y2 at *
    generalize hTT : encR t = TT at *
    generalize sIf (tB' (eOp (q2 dNis) (eV 2) (eC .non))) _ _ = COST at *
    generalize sWhile (tB' (eOp (q2 (i2 fGt)) (eV 9) (eV 8))) _ _ = LOOP at *
    generalize sFor _ _ _ = LOOP2 at *
    simp only [ap_fnK, List.map_cons, List.map_nil, List.length_cons, List.length_nil, Nat.reduceAdd, Nat.reduceSub, List.replicate, List.cons_append, List.nil_append, ap_next, ap_seq, ap_drop, ap_ret, ap_if, ap_name, ap_nil, ap_cons, ap_tup, ap_asg, ap_for, ap_V0, ap_V1, ap_V2, ap_V3, ap_V4, ap_V5, ap_V6, ap_V7, ap_V8, ap_V9, ap_V10, ap_C, ap_op, ap_un, ap_ar, ap_tB, ap_tand, ap_tor, ap_tnot, ap_tyes, ap_and, ap_or, ap_eif, ap_anil, ap_acons, ap_etup, ap_elst, ap_ait, ap_arng, ap_call, ap_callD, ap_meth, ap_meth0, ap_lc, ap_wipe0, ap_wipe, ap_fin, ap_noX, ap_some, Res.bind_ok, Res.bnd_ok, List.set_cons_succ, List.set_cons_zero, Option.bind_some, d_q2, d_i2, q_qA, s_lst, s_fix, s_tup, s_ktp, q_lst, q_tup, l_lst, l_fix, l_tup, d_lt, d_le, d_gt, d_ge, d_sub, d_add, d_eqi, d_nei, d_isn, d_nisn, n_non, n_int, n_str, x_max2, x_min2, decide_true, decide_false, if_true, ↓reduceIte, Bool.false_eq_true, Nat.reduceLeDiff, ap_esl, ap_onone, ap_osome, ap_maxDf, ap_par3, ap_V11, ap_V12, ap_V13, sl_lst', sl_tup', own, cp0, cq, lb, llb, mb, cost, go1, optN, fin']
  | some T =>
    obtain ⟨f, f1, er⟩ := r2
    have hT1 := r1.1
    have hT2 := r1.2.1
    have hfix := r1.2.2.1
    have un := comings_n (t := t) (T := T) (by omega) (by omega) hT1
    have ub : up (T + t.wait) t.gap < 4611686018427387904 := by
      have : up (T + t.wait) t.gap ≤ T + t.wait := up_le (by omega) (by
        have := Int.mul_le_mul_of_nonneg_right (show (1 : Int) ≤ t.gap by omega) (show 0 ≤ T + t.wait by omega)
        omega)
      omega
    have cn := law_times (x := T + t.wait) (g := t.gap) (S := S) (by omega) (by omega)
    have rg := rng1_nat (v := up (T + t.wait) t.gap) (by omega) ub
    have ff : ∀ i, i < (up (T + t.wait) t.gap).toNat → Bg A B t c a i (f i) ∧ f i ≤ T := fun i hi => by
      refine ⟨f1 i hi, ?_⟩
      obtain ⟨tm, top⟩ := begin_top (q := i) hT ca.1 ca.2 hfix hT1 (by omega)
      have hfp : 0 ≤ heldB B + i * t.most := by
        have := heldB_nonneg (B := B)
        have := Int.mul_nonneg (show (0 : Int) ≤ i by omega) (show 0 ≤ t.most by omega)
        omega
      obtain ⟨l, l1, l2, l3⟩ := fix_of (f := gB (heldB B + i * t.most) A t c a) (s := 0) (u := T - t.most) (fun x y _ e => gB_mono hA ca.1 ca.2 (Int.le_refl _) x y e) (gB_nonneg hA ca.1 ca.2 hfp (by omega) (Int.le_refl _)) (by omega) top
      have := (f1 i hi).2.2 l l1 l3
      omega
    obtain ⟨y9, y11, y12, go2⟩ := law_fors (S := S) (d := d) (x0 := some (.lst ((A ++ t :: B).map encR))) (x1 := some (.int (A.length : Nat))) (x7 := none) (x8 := some (.int T)) hA (by omega) hmt.1 (by omega) (by omega) hs hm0 hm2 ha2 (by omega) (by omega) ff (up (T + t.wait) t.gap).toNat 0 (some (.int T)) none none rfl
    subst er
    have e0 : toldF t f 0 = 0 := rfl
    rw [e0] at go2
    generalize hZ : ((List.range (up (T + t.wait) t.gap).toNat).map fun i => D.int ((0 + i : Nat) : Int)) = Z at *
    generalize hN : (up (T + t.wait) t.gap).toNat = N at *
    simp only at go1
    generalize (B.map fun u => u.most - 1).map D.int = Z2 at *
    generalize ((A ++ [t]).map fun u => u.most).map D.int = Z1 at *
    generalize (A ++ t :: B).map encR = X at *
    generalize (A ++ [t]).map encR = Y at *
    generalize A.map encR = Y2 at *
    generalize hTT : encR t = TT at *
    generalize up (T + t.wait) t.gap = un0 at *
    generalize sIf (tB' (eOp (q2 dNis) (eV 2) (eC .non))) _ _ = COST at *
    generalize sWhile (tB' (eOp (q2 (i2 fGt)) (eV 9) (eV 8))) _ _ = LOOP at *
    generalize sSeq (sAsg (eTup (aCons (eUn unNeg _) _)) _) _ = BODY at *
    by_cases h : toldF t f N ≤ t.due
    · have e : fin' t.due (some (toldF t f N)) = some (toldF t f N) := if_pos h
      have d1 : decide (toldF t f N ≤ t.due) = true := decide_eq_true h
      rw [e]
      generalize toldF t f N = tf at *
      simp only [ap_fnK, List.map_cons, List.map_nil, List.length_cons, List.length_nil, Nat.reduceAdd, Nat.reduceSub, List.replicate, List.cons_append, List.nil_append, ap_next, ap_seq, ap_drop, ap_ret, ap_if, ap_name, ap_nil, ap_cons, ap_tup, ap_asg, ap_for, ap_V0, ap_V1, ap_V2, ap_V3, ap_V4, ap_V5, ap_V6, ap_V7, ap_V8, ap_V9, ap_V10, ap_C, ap_op, ap_un, ap_ar, ap_tB, ap_tand, ap_tor, ap_tnot, ap_tyes, ap_and, ap_or, ap_eif, ap_anil, ap_acons, ap_etup, ap_elst, ap_ait, ap_arng, ap_call, ap_callD, ap_meth, ap_meth0, ap_lc, ap_wipe0, ap_wipe, ap_fin, ap_noX, ap_some, Res.bind_ok, Res.bnd_ok, List.set_cons_succ, List.set_cons_zero, Option.bind_some, d_q2, d_i2, q_qA, s_lst, s_fix, s_tup, s_ktp, q_lst, q_tup, l_lst, l_fix, l_tup, d_lt, d_le, d_gt, d_ge, d_sub, d_add, d_eqi, d_nei, d_isn, d_nisn, n_non, n_int, n_str, x_max2, x_min2, decide_true, decide_false, if_true, ↓reduceIte, Bool.false_eq_true, Nat.reduceLeDiff, ap_esl, ap_onone, ap_osome, ap_maxDf, ap_par3, ap_V11, ap_V12, ap_V13, sl_lst', sl_tup', own, cp0, cq, lb, llb, mb, cost, go1, r5, r2', r4, cn, rg, go2, d1, optN]
    · have e : fin' t.due (some (toldF t f N)) = none := if_neg h
      have d1 : decide (toldF t f N ≤ t.due) = false := decide_eq_false h
      rw [e]
      generalize toldF t f N = tf at *
      simp only [ap_fnK, List.map_cons, List.map_nil, List.length_cons, List.length_nil, Nat.reduceAdd, Nat.reduceSub, List.replicate, List.cons_append, List.nil_append, ap_next, ap_seq, ap_drop, ap_ret, ap_if, ap_name, ap_nil, ap_cons, ap_tup, ap_asg, ap_for, ap_V0, ap_V1, ap_V2, ap_V3, ap_V4, ap_V5, ap_V6, ap_V7, ap_V8, ap_V9, ap_V10, ap_C, ap_op, ap_un, ap_ar, ap_tB, ap_tand, ap_tor, ap_tnot, ap_tyes, ap_and, ap_or, ap_eif, ap_anil, ap_acons, ap_etup, ap_elst, ap_ait, ap_arng, ap_call, ap_callD, ap_meth, ap_meth0, ap_lc, ap_wipe0, ap_wipe, ap_fin, ap_noX, ap_some, Res.bind_ok, Res.bnd_ok, List.set_cons_succ, List.set_cons_zero, Option.bind_some, d_q2, d_i2, q_qA, s_lst, s_fix, s_tup, s_ktp, q_lst, q_tup, l_lst, l_fix, l_tup, d_lt, d_le, d_gt, d_ge, d_sub, d_add, d_eqi, d_nei, d_isn, d_nisn, n_non, n_int, n_str, x_max2, x_min2, decide_true, decide_false, if_true, ↓reduceIte, Bool.false_eq_true, Nat.reduceLeDiff, ap_esl, ap_onone, ap_osome, ap_maxDf, ap_par3, ap_V11, ap_V12, ap_V13, sl_lst', sl_tup', own, cp0, cq, lb, llb, mb, cost, go1, r5, r2', r4, cn, rg, go2, d1, optN]
end
end Sm
set_option Elab.async false
set_option linter.all false
set_option maxRecDepth 100000
set_option maxHeartbeats 400000
open PySem PySem.Spec
namespace Sm
open L2 PySem.W
/-! ## the law's draws -/
structure QT (p : Nat) (b : Int) (S : Sto) : Prop where
  tape : Tape p b S
  flat : Flat S
theorem lim_tape {cells : List Int} {a l : Int} : (tapeM cells a l).lim = 0 := by
  have h : Ds.lim (cells.map D.int) = 0 := lims fun _ _ => rfl
  simp [tapeM, MO.lim, Ds.lim, D.lim, h]
section
variable {p n : Nat} {b c : Int} {S : Sto} {m : MO}
theorem QT.lt (h : QT p b S) : p < S.length := by
  obtain ⟨cells, a, l, h1, _⟩ := h.tape
  exact (List.getElem?_eq_some_iff.mp h1).1
theorem QT.mono (h : QT p b S) (hc : b ≤ c) : QT p c S := ⟨h.tape.mono hc, h.flat⟩
theorem drawT (h : QT p b S) (hb : b < 1000000000000) {many : Int} (h4 : 0 < many) (h5 : many < 1073741824) :
    ∃ (r : Int) (S' : Sto), m__law_draw [.hnd p, .int many] S = .ok (.int r) S' ∧ 0 ≤ r ∧ r < many ∧ QT p (b + 1) S' ∧ Off p S S' := by
  obtain ⟨r, S', e, r0, r1, hp, ho⟩ := tdraw h.tape (by omega) h4 h5
  refine ⟨r, S', e, r0, r1, ⟨hp, fun o hm => ?_⟩, ho⟩
  obtain ⟨i, hi, e⟩ := List.mem_iff_getElem.mp hm
  by_cases q : i = p
  · obtain ⟨cells, a, l, h1, _⟩ := hp
    rw [← q, List.getElem?_eq_getElem hi, e] at h1
    cases h1
    exact lim_tape
  · have := ho.2 i q
    rw [List.getElem?_eq_getElem hi, e] at this
    exact h.flat o (List.mem_of_getElem? this.symm)
theorem QT.app (h : QT p b S) (hm : m.lim = 0) : QT p b (S ++ [m]) := by
  obtain ⟨⟨cells, a, l, h1, h2⟩, h3⟩ := h
  refine ⟨⟨cells, a, l, ?_, h2⟩, flat_app h3 (by simp [hm])⟩
  rw [List.getElem?_append_left (List.getElem?_eq_some_iff.mp h1).1]
  exact h1
theorem QT.set (h : QT p b S) (hm : m.lim = 0) (hn : n ≠ p) : QT p b (S.set n m) := by
  obtain ⟨⟨cells, a, l, h1, h2⟩, h3⟩ := h
  refine ⟨⟨cells, a, l, ?_, h2⟩, fun o ho => ?_⟩
  · rw [List.getElem?_set_ne hn]; exact h1
  · rcases List.mem_or_eq_of_mem_set ho with h | h
    · exact h3 o h
    · rw [h]; exact hm
theorem QT.take (h : QT p b S) (hn : p < n) : QT p b (S.take n) := by
  obtain ⟨⟨cells, a, l, h1, h2⟩, h3⟩ := h
  refine ⟨⟨cells, a, l, ?_, h2⟩, fun o ho => h3 o (List.mem_of_mem_take ho)⟩
  rw [List.getElem?_take_of_lt hn]; exact h1
end
theorem cut_take {S : Sto} {d : D} {n : Nat} (h : Flat S) (hd : d.lim = 0) (hn : n ≤ S.length) : cutR n (.ok d S) = .ok d (S.take n) := by
  have e : S = S.take n ++ S.drop n := (List.take_append_drop n S).symm
  have hf : Flat (S.take n) := fun o ho => h o (List.mem_of_mem_take ho)
  have := cut_app (l := S.drop n) hf hd
  rw [← e] at this
  rwa [List.length_take, Nat.min_eq_left hn] at this
/-- nothing but the thing at p, of the first, is another; behind them more -/
def Offs (p : Nat) (S S' : Sto) : Prop := S.length ≤ S'.length ∧ ∀ i, i ≠ p → i < S.length → S'[i]? = S[i]?
theorem Offs.refl {p : Nat} {S : Sto} : Offs p S S := ⟨Nat.le_refl _, fun _ _ _ => rfl⟩
theorem Off.offs {p : Nat} {S S' : Sto} (h : Off p S S') : Offs p S S' := ⟨by rw [h.1]; exact Nat.le_refl _, fun i hi _ => h.2 i hi⟩
theorem Offs.trans {p : Nat} {A B C : Sto} (x : Offs p A B) (y : Offs p B C) : Offs p A C := ⟨Nat.le_trans x.1 y.1, fun i h l => (y.2 i h (Nat.lt_of_lt_of_le l x.1)).trans (x.2 i h l)⟩
theorem Offs.app {p : Nat} {S l : Sto} : Offs p S (S ++ l) := ⟨by simp, fun i _ h => List.getElem?_append_left h⟩
theorem Offs.set {p n : Nat} {S S' : Sto} {m : MO} (h : Offs p S S') (hn : S.length ≤ n) : Offs p S (S'.set n m) := ⟨by rw [List.length_set]; exact h.1, fun i hi l => by rw [List.getElem?_set_ne (by omega)]; exact h.2 i hi l⟩
theorem Offs.take {p : Nat} {S S' : Sto} (h : Offs p S S') : Off p S (S'.take S.length) := by
  refine ⟨by rw [List.length_take]; exact Nat.min_eq_left h.1, fun i hi => ?_⟩
  by_cases q : i < S.length
  · rw [List.getElem?_take_of_lt q, h.2 i hi q]
  · rw [List.getElem?_eq_none (by rw [List.length_take]; omega), List.getElem?_eq_none (by omega)]
/-! ## letters and names -/
theorem letter_get {i : Nat} (h : i < 26) : letters.cps.toList[i]? = some (97 + i) := by
  have : ∀ j : Fin 26, letters.cps.toList[j.val]? = some (97 + j.val) := by decide
  exact this ⟨i, h⟩
def lt (i : Nat) : Str := ⟨#[97 + i]⟩
theorem ix_lit {i : Int} (h0 : 0 ≤ i) (h : i < 26) : dIx (.str "abcdefghijklmnopqrstuvwxyz") (.int i) = some (.str (lt i.toNat)) := by
  show dIx (.str letters) (.int i) = _
  have hi : i.toNat < 26 := by omega
  have e : ixS (.str letters) (.int i) = some (.str (lt i.toNat)) := by
    have hl : letters.length ≤ 16777216 := by decide
    show (if letters.length ≤ 16777216 then (L2.atI letters.cps.toList i).map fun k => D.str ⟨#[k]⟩ else none) = _
    rw [if_pos hl]
    have ea : L2.atI letters.cps.toList i = some (97 + i.toNat) := by
      unfold L2.atI
      have hlen : letters.cps.toList.length = 26 := by decide
      have : L2.ixN letters.cps.toList.length i = some i.toNat := by
        rw [hlen]
        obtain ⟨n, rfl⟩ := Int.eq_ofNat_of_zero_le h0
        exact ixN_nat (by omega)
      rw [this]
      exact letter_get hi
    rw [ea]; rfl
  show alt2 ixT (alt2 ixL ixS) _ _ = _
  have e0 : ixT (.str letters) (.int i) = none := rfl
  have e1 : ixL (.str letters) (.int i) = none := rfl
  unfold alt2
  rw [e0]
  simp only [e1, e]
theorem mem_letter {i : Nat} (h : i < 26) : 97 + i ∈ letters.cps.toList := List.mem_of_getElem? (letter_get h)
theorem cps_app {a b : Str} : (a ++ b).cps.toList = a.cps.toList ++ b.cps.toList := by
  show (a.cps ++ b.cps).toList = _
  simp
theorem str_ext {a b : Str} (h : a.cps.toList = b.cps.toList) : a = b := by
  cases a; cases b
  simp at h
  congr
theorem joinL_nil : ∀ {l : List (List Nat)}, TL.joinL [] l = l.flatten
  | [] => rfl
  | [p] => by simp [TL.joinL]
  | p :: q :: r => by
    show p ++ ([] ++ TL.joinL [] (q :: r)) = _
    rw [joinL_nil]; simp
theorem join_cps {l : List Str} : (Txt.join "" l).cps.toList = (l.map fun s => s.cps.toList).flatten := by
  have e := (congrArg TL.tl (TL.join_eq "" l)).trans (TL.tl_join "" l)
  have e2 : TL.tl "" = [] := rfl
  rw [e2, joinL_nil] at e
  exact e
theorem letters_of {ys : List D} (h : ∀ y ∈ ys, ∃ i, i < 26 ∧ y = .str (lt i)) : ∃ l : List Nat, ys = (l.map lt).map D.str ∧ ∀ i ∈ l, i < 26 := by
  induction ys with
  | nil => exact ⟨[], rfl, by simp⟩
  | cons y ys ih =>
    obtain ⟨i, hi, rfl⟩ := h y (by simp)
    obtain ⟨l, rfl, hl⟩ := ih fun z hz => h z (by simp [hz])
    exact ⟨i :: l, rfl, fun j hj => by
      rcases List.mem_cons.mp hj with rfl | hj
      · exact hi
      · exact hl j hj⟩
theorem strs_map (l : List Str) : Ds.strs (l.map D.str) = some l := by
  induction l with
  | nil => rfl
  | cons a l ih => show (Ds.strs (l.map D.str)).map _ = _; rw [ih]; rfl
theorem tail_cps {l : List Nat} : (Txt.join "" (l.map lt)).cps.toList = l.map (97 + ·) := by
  rw [join_cps, List.map_map]
  induction l with
  | nil => rfl
  | cons i l ih => rw [List.map_cons, List.flatten_cons, ih]; rfl
theorem join_lts {l : List Nat} (hl : l.length ≤ 1000) : dJoin "" (.lst ((l.map lt).map D.str)) = some (.str (Txt.join "" (l.map lt))) := by
  unfold dJoin
  show (some ((l.map lt).map D.str)).bind _ = _
  rw [Option.bind_some, strs_map, Option.bind_some]
  have e : ((l.map lt).map fun s => s.length).sum = l.length := by
    rw [List.map_map]
    clear hl
    induction l with
    | nil => rfl
    | cons i l ih => rw [List.map_cons, List.sum_cons, ih, List.length_cons]; show 1 + _ = _; omega
  have e0 : ("" : Str).length = 0 := rfl
  rw [e, e0, if_pos (by omega)]
theorem range_upto {w : Int} (h0 : 0 ≤ w) (h : w < 4611686018427387904) : dRng1 [.int w] = some ((List.range w.toNat).map fun i => .int (0 + (i : Nat))) := by
  show (if -4611686018427387904 ≤ w ∧ w < 4611686018427387904 then some (upto 0 w.toNat) else none) = _
  rw [if_pos ⟨by omega, by omega⟩]; rfl
/-! ## a pick -/
theorem law_pick {p : Nat} {b : Int} {S : Sto} {ds : List D} (h : QT p b S) (hb : b < 100000000000) (h0 : 0 < ds.length) (h1 : ds.length < 1000000) : ∃ (d : D) (S' : Sto), m__law_pick [.hnd p, .lst ds] S = .ok d S' ∧ d ∈ ds ∧ QT p (b + 1) S' ∧ Off p S S' := by
  obtain ⟨r, S1, e, r0, r1, q1, o1⟩ := drawT h (by omega) (many := (ds.length : Nat)) (by omega) (by omega)
  obtain ⟨n, rfl⟩ := Int.eq_ofNat_of_zero_le r0
  have hn : n < ds.length := by omega
  refine ⟨ds[n], S1, ?_, List.getElem_mem hn, q1, o1⟩
  have ix : dIx (.lst ds) (.int (n : Int)) = some ds[n] := ix_lst (List.getElem?_eq_getElem hn)
  unfold m__law_pick
  refine fnT_rt ?_ o1.1
  simp only [ap_fnK, List.map_cons, List.map_nil, List.length_cons, List.length_nil, Nat.reduceAdd, Nat.reduceSub, List.replicate, List.cons_append, List.nil_append, ap_next, ap_seq, ap_drop, ap_ret, ap_if, ap_name, ap_nil, ap_cons, ap_tup, ap_asg, ap_for, ap_V0, ap_V1, ap_V2, ap_V3, ap_V4, ap_V5, ap_V6, ap_V7, ap_V8, ap_V9, ap_V10, ap_C, ap_op, ap_un, ap_ar, ap_tB, ap_tand, ap_tor, ap_tnot, ap_tyes, ap_and, ap_or, ap_eif, ap_anil, ap_acons, ap_etup, ap_elst, ap_ait, ap_arng, ap_call, ap_callD, ap_meth, ap_meth0, ap_lc, ap_wipe0, ap_wipe, ap_fin, ap_noX, ap_some, Res.bind_ok, Res.bnd_ok, List.set_cons_succ, List.set_cons_zero, Option.bind_some, d_q2, d_i2, q_qA, s_lst, s_fix, s_tup, s_ktp, q_lst, q_tup, l_lst, l_fix, l_tup, d_lt, d_le, d_gt, d_ge, d_sub, d_add, d_eqi, d_nei, d_isn, d_nisn, n_non, n_int, n_str, x_max2, x_min2, decide_true, decide_false, if_true, ↓reduceIte, Bool.false_eq_true, Nat.reduceLeDiff, e, ix]
/-! ## a list that grows -/
theorem ap_bm {T : String} {f : MV} {o : EV} {a : AV} {env : Env} {S : Sto} : eBm T f o a env S = (o env S).bnd (tg fun x S1 => if isTy T x S1 = true then (a env S1).bnd (tg fun ds S2 => noX (f x ds S2)) else .bad) := (rfl)
theorem ap_lsth {a : AV} {env : Env} {S : Sto} : eLstH a env S = (a env S).bnd (tg fun ds S1 => if ds.length ≤ 16777216 then .ok (.hnd S1.length) (S1 ++ [.lst ds]) else .bad) := (rfl)
theorem isTy_lst {n : Nat} {S : Sto} {ds : List D} (h : S[n]? = some (.lst ds)) : isTy "list" (.hnd n) S = true := by
  unfold isTy; simp only [h]; rfl
theorem app_lst {n : Nat} {S : Sto} {ds : List D} {y : D} (h : S[n]? = some (.lst ds)) (hl : ds.length < 16777216) : mLst lApp (.hnd n) [y] S = .ok .non (S.set n (.lst (ds ++ [y]))) := by
  have e : lApp ds [y] = some (.non, ds ++ [y]) := if_pos hl
  simp only [mLst, h, e]
theorem pop_at {n : Nat} {S : Sto} {ds : List D} {j : Int} {x : D} (h : S[n]? = some (.lst ds)) (j0 : 0 ≤ j) (j1 : j < 1000000) (hx : ds[j.toNat]? = some x) : mLst lPopAt (.hnd n) [.int j] S = .ok x (S.set n (.lst (ds.eraseIdx j.toNat))) := by
  have hlt := (List.getElem?_eq_some_iff.mp hx).1
  have e : lPopAt ds [.int j] = some (x, ds.eraseIdx j.toNat) := by
    show (if -9223372036854775808 ≤ j ∧ j < 9223372036854775808 then (seqIndex? j ds.length).bind fun k => (ds[k]?).map fun y => (y, ds.eraseIdx k) else none) = _
    have e2 : seqIndex? j ds.length = some j.toNat := by
      unfold seqIndex?
      simp only [if_neg (show ¬ j < 0 by omega)]
      rw [if_pos (by simp; omega)]
    rw [if_pos ⟨by omega, by omega⟩, e2, Option.bind_some, hx]
    rfl
  simp only [mLst, h, e]
theorem frz_lst {n : Nat} {S : Sto} {ds : List D} (h : S[n]? = some (.lst ds)) : frzD (.hnd n) S = .ok (.lst ds) (S.set n .dead) := by
  show frzM n S = _
  unfold frzM
  rw [h]
end Sm
set_option Elab.async false
set_option linter.all false
set_option maxRecDepth 100000
set_option maxHeartbeats 400000
open PySem PySem.Spec
namespace Sm
open L2 PySem.W
@[simp] theorem ap_par' {i j : Nat} {a : AV} {env : Env} {S : Sto} : sPar i j a env S = (a env S).bnd (tg fun ds S1 => match ds with | [x, y] => .ok (.nx ((env.set i (some x)).set j (some y))) S1 | _ => .bad) := (rfl)
theorem cut_cps {z : Str} {lo hi : Option Int} : (cutS z lo hi).cps.toList = (z.cps.toList.drop (HT.sIx z.length 0 lo)).take (HT.sIx z.length z.length hi - HT.sIx z.length 0 lo) := by
  unfold cutS
  rw [List.toList_toArray]
theorem cut_sub {z : Str} {lo hi : Option Int} {x : Nat} (h : x ∈ (cutS z lo hi).cps.toList) : x ∈ z.cps.toList := by
  rw [cut_cps] at h
  exact List.mem_of_mem_drop (List.mem_of_mem_take h)
theorem cut_le {z : Str} {lo hi : Option Int} : (cutS z lo hi).length ≤ z.length := by
  rw [len_cps, len_cps, cut_cps, List.length_take, List.length_drop]
  omega
theorem cut_to {z : Str} {k : Int} {n : Nat} (e : k = (n : Nat)) (h : n ≤ z.length) : (cutS z none (some k)).length = n := by
  subst e
  rw [len_cps, cut_cps, List.length_take, List.length_drop, HT.sIx_nat, HT.sIx_none, ← len_cps]
  omega
theorem cut_from {z : Str} {k : Int} {n : Nat} (e : k = (n : Nat)) (h : n ≤ z.length) : (cutS z (some k) none).length = z.length - n := by
  subst e
  rw [len_cps, cut_cps, List.length_take, List.length_drop, HT.sIx_nat, HT.sIx_none, ← len_cps]
  omega
theorem sl_str' {z : Str} {lo hi : Option Int} (h : z.length ≤ 16777216) : slS (.str z) lo hi = some (.str (cutS z lo hi)) := if_pos h
theorem coprime_unlike {f v : Int} {i j : Nat} (hv : v = 3 ∨ v = 5 ∨ v = 7 ∨ v = 9 ∨ v = 11 ∨ v = 15 ∨ v = 17 ∨ v = 25) (hij : i < j) (hj : j < 26) : (f + v * (i : Int)) % 26 ≠ (f + v * (j : Int)) % 26 := by
  rcases hv with rfl | rfl | rfl | rfl | rfl | rfl | rfl | rfl <;> omega
theorem law_names {p : Nat} {b : Int} {S : Sto} (h : QT p b S) (hb : b < 10000000000) {w : Int} (hw0 : 0 ≤ w) (hw : w ≤ 26) :
    ∃ (nm : List Str) (S' : Sto), m__law_names [.hnd p, .int w] S = .ok (.lst (nm.map D.str)) S' ∧ nm.length = w.toNat ∧ (∀ x ∈ nm, Nm x) ∧ nm.Pairwise (· ≠ ·) ∧ QT p (b + 20) S' ∧ Off p S S' := by
  obtain ⟨r0, S1, e0, a0, b0, q1, o1⟩ := drawT h (by omega) (many := 12) (by omega) (by omega)
  obtain ⟨ys, S2, lg, yl, ⟨qq2, o2⟩, yp⟩ := lcGo_inv (g := vName 4) (t := tvYes) (e := eOp (q2 dIx) (eV 2) (eCall m__law_draw 2 (aCons (eV 0) (aCons (eC (.int 26)) aNil))))
    (env := [some (.hnd p), some (.int w), some (.str "abcdefghijklmnopqrstuvwxyz"), none, none, none, none, none, none, none, none]) (fun k S' => QT p (b + 1 + k) S' ∧ Off p S1 S') (fun _ _ y => ∃ i, i < 26 ∧ y = .str (lt i))
    ((List.range (1 + r0).toNat).map fun i => D.int (0 + (i : Nat))) 0 S1 ⟨by simpa using q1, .refl⟩ (fun k d S' hk ⟨hq, ho⟩ => by
      have kl := (List.getElem?_eq_some_iff.mp hk).1
      simp at kl
      obtain ⟨r, S'', e, r1, r2, q', o'⟩ := drawT hq (by omega) (many := 26) (by omega) (by omega)
      refine ⟨_, .str (lt r.toNat), S'', rfl, rfl, ?_, ⟨q'.mono (by omega), ho.trans o'⟩, r.toNat, by omega, rfl⟩
      have il := ix_lit r1 r2
      simp [e, il])
  obtain ⟨l, rfl, hl⟩ := letters_of (ys := ys) fun y hy => by
    obtain ⟨k, hk, e⟩ := List.mem_iff_getElem.mp hy
    have hk2 : k < ((List.range (1 + r0).toNat).map fun i => D.int (0 + (i : Nat))).length := by rw [← yl]; exact hk
    exact yp k _ y (List.getElem?_eq_getElem hk2) (by rw [List.getElem?_eq_getElem hk, e])
  have ll : 1 ≤ l.length ∧ l.length ≤ 12 := by simp at yl; omega
  have q2' : QT p (b + 13) S2 := qq2.mono (by simp; omega)
  have jn := join_lts (l := l) (by omega)
  have tc := tail_cps (l := l)
  generalize Txt.join "" (l.map lt) = base at jn tc
  have bl : base.length = l.length := by rw [len_cps, tc, List.length_map]
  obtain ⟨r5, S3, e5, a5, b5, q3, o3⟩ := drawT q2' (by omega) (many := (base.length : Nat)) (by omega) (by omega)
  obtain ⟨r6, S4, e6, a6, b6, q4, o4⟩ := drawT q3 (by omega) (many := 26) (by omega) (by omega)
  obtain ⟨dv, S5, e7, hv0, q5, o5⟩ := law_pick (ds := [.int 3, .int 5, .int 7, .int 9, .int 11, .int 15, .int 17, .int 25]) q4 (by omega) (by simp) (by simp)
  obtain ⟨v, rfl, hv⟩ : ∃ v : Int, dv = .int v ∧ (v = 3 ∨ v = 5 ∨ v = 7 ∨ v = 9 ∨ v = 11 ∨ v = 15 ∨ v = 17 ∨ v = 25) := by
    simp only [List.mem_cons, List.not_mem_nil, or_false] at hv0
    rcases hv0 with rfl | rfl | rfl | rfl | rfl | rfl | rfl | rfl <;> exact ⟨_, rfl, by omega⟩
  obtain ⟨r8, S6, e8, a8, b8, q6, o6⟩ := drawT q5 (by omega) (many := 2) (by omega) (by omega)
  obtain ⟨s, rfl⟩ := Int.eq_ofNat_of_zero_le a5
  have hs : s < l.length := by omega
  let le : Nat → Str := fun i => lt ((r6 + v * (i : Int)) % 26).toNat
  let pre : Str := cutS base none (some (s : Int))
  let aft : Str := cutS base (some ((s : Int) + 1)) none
  let beh : Nat → Str := fun i => if r8 = 0 then aft else cutS aft none (some ((i : Int) % 4))
  let nm : Nat → Str := fun i => pre ++ le i ++ beh i
  have lpre : pre.length = s := cut_to rfl (by omega)
  have laft : aft.length = l.length - (s + 1) := by rw [← bl]; exact cut_from (by omega) (by omega)
  have lbeh : ∀ i, (beh i).length ≤ l.length - (s + 1) := fun i => by
    show (if r8 = 0 then aft else cutS aft none (some ((i : Int) % 4))).length ≤ _
    split
    · omega
    · exact Nat.le_trans cut_le (by omega)
  have lel : ∀ i, (le i).length = 1 := fun i => rfl
  have off6 : Off p S S6 := ((((o1.trans o2).trans o3).trans o4).trans o5).trans o6
  have rg := range_upto (w := 1 + r0) (by omega) (by omega)
  have rg2 := range_upto (w := w) hw0 (by omega)
  obtain ⟨env', S7, go, x4, x10, rfl, rfl⟩ := forGo_inv (g := vName 4) (b := (sSeq (sSet 10 (eIf (tB' (eOp (q2 dEq) (eV 8) (eC (.int 0)))) (eSl slS (eV 3) (oSome (eOp (q2 dAdd) (eV 5) (eC (.int 1)))) oNone) (eSl slS (eSl slS (eV 3) (oSome (eOp (q2 dAdd) (eV 5) (eC (.int 1)))) oNone) oNone (oSome (eOp (q2 (i2 fMod)) (eV 4) (eC (.int 4))))))) (sDrop (eBm "list" (mLst lApp) (eV 9) (aCons (eOp (q2 dAdd) (eOp (q2 dAdd) (eSl slS (eV 3) oNone (oSome (eV 5))) (eOp (q2 dIx) (eV 2) (eOp (q2 (i2 fMod)) (eOp (q2 dAdd) (eV 6) (eOp (q2 (i2 fMul)) (eV 7) (eV 4))) (eC (.int 26))))) (eV 10)) aNil)))))
    (fun k env S' => ∃ x4 x10, env = [some (.hnd p), some (.int w), some (.str "abcdefghijklmnopqrstuvwxyz"), some (.str base), x4, some (.int s), some (.int r6), some (.int v), some (.int r8), some (.hnd S6.length), x10] ∧ S' = S6 ++ [.lst ((List.range k).map fun i => .str (nm i))])
    ((List.range w.toNat).map fun i => D.int (0 + (i : Nat))) 0 [some (.hnd p), some (.int w), some (.str "abcdefghijklmnopqrstuvwxyz"), some (.str base), none, some (.int s), some (.int r6), some (.int v), some (.int r8), some (.hnd S6.length), none] (S6 ++ [.lst []]) ⟨none, none, rfl, rfl⟩ (fun k d env S' hk ⟨x4, x10, ee, es⟩ => by
      have kl := (List.getElem?_eq_some_iff.mp hk).1
      simp at kl
      have kd : d = .int (k : Int) := by
        rw [List.getElem?_map] at hk
        obtain ⟨i, hi, e⟩ := Option.map_eq_some_iff.mp hk
        have : i = k := by
          obtain ⟨h1, h2⟩ := List.getElem?_eq_some_iff.mp hi
          simpa using h2.symm
        rw [← e, this, Int.zero_add]
      subst kd ee es
      rw [Nat.zero_add]
      refine ⟨_, [some (.hnd p), some (.int w), some (.str "abcdefghijklmnopqrstuvwxyz"), some (.str base), some (.int k), some (.int s), some (.int r6), some (.int v), some (.int r8), some (.hnd S6.length), some (.str (beh k))], S6 ++ [.lst ((List.range (k + 1)).map fun i => .str (nm i))], rfl, ?_, some (.int k), some (.str (beh k)), rfl, rfl⟩
      have s1 : slS (.str base) (some ((s : Int) + 1)) none = some (.str aft) := sl_str' (by omega)
      have s2 : slS (.str aft) none (some ((k : Int) % 4)) = some (.str (cutS aft none (some ((k : Int) % 4)))) := sl_str' (by omega)
      have s3 : slS (.str base) none (some (s : Int)) = some (.str pre) := sl_str' (by omega)
      have m1 : fMul v (k : Int) = some (.int (v * (k : Int))) := fMul_ok (by omega) (by omega)
      have m2 : fMod (r6 + v * (k : Int)) 26 = some (.int ((r6 + v * (k : Int)) % 26)) := fMod_ok (by omega)
      have m3 : fMod (k : Int) 4 = some (.int ((k : Int) % 4)) := fMod_ok (by omega)
      have il := ix_lit (i := (r6 + v * (k : Int)) % 26) (Int.emod_nonneg _ (by omega)) (Int.emod_lt_of_pos _ (by omega))
      have c1 : pre.length + (lt ((r6 + v * (k : Int)) % 26).toNat).length ≤ 16777216 := by
        have := lel k
        change pre.length + (le k).length ≤ _
        omega
      have c2 : (pre ++ lt ((r6 + v * (k : Int)) % 26).toNat).length + (beh k).length ≤ 16777216 := by
        have h1 := lel k
        have h2 := lbeh k
        have h3 : (pre ++ le k).length = pre.length + (le k).length := by rw [len_cps, cps_app, List.length_append, ← len_cps, ← len_cps]
        change (pre ++ le k).length + _ ≤ _
        omega
      have gl : (S6 ++ [.lst ((List.range k).map fun i => D.str (nm i))])[S6.length]? = some (.lst ((List.range k).map fun i => D.str (nm i))) := by simp
      have ty := isTy_lst gl
      have ap := app_lst (y := .str (nm k)) gl (by simp; omega)
      have e1 : (S6 ++ [MO.lst ((List.range k).map fun i => D.str (nm i))]).set S6.length (MO.lst ((List.range k).map (fun i => D.str (nm i)) ++ [D.str (nm k)])) = S6 ++ [MO.lst ((List.range (k + 1)).map fun i => D.str (nm i))] := by
        rw [set_last, List.range_succ, List.map_append]; rfl
      rw [e1] at ap
      have d8 : dEq (.int r8) (.int 0) = some (.bl (decide (r8 = 0))) := d_eqi
      have hbk : (if decide (r8 = 0) = true then aft else cutS aft none (some ((k : Int) % 4))) = beh k := by
        show _ = if r8 = 0 then aft else cutS aft none (some ((k : Int) % 4))
        by_cases q : r8 = 0
        · simp [q]
        · simp [q]
      generalize hAA : (S6 ++ [MO.lst ((List.range k).map fun i => D.str (nm i))]) = AA at *
      generalize hBB : (S6 ++ [MO.lst ((List.range (k + 1)).map fun i => D.str (nm i))]) = BB at *
      have enm : pre ++ lt ((r6 + v * (k : Int)) % 26).toNat ++ beh k = nm k := rfl
      by_cases q : r8 = 0
      · have db : decide (r8 = 0) = true := decide_eq_true q
        have hb' : aft = beh k := by rw [← hbk, db]; rfl
        rw [← hb'] at c2 enm
        rw [← hb']
        simp only [ap_fnK, List.map_cons, List.map_nil, List.length_cons, List.length_nil, Nat.reduceAdd, Nat.reduceSub, List.replicate, List.cons_append, List.nil_append, ap_next, ap_seq, ap_drop, ap_ret, ap_if, ap_name, ap_nil, ap_cons, ap_tup, ap_asg, ap_for, ap_V0, ap_V1, ap_V2, ap_V3, ap_V4, ap_V5, ap_V6, ap_V7, ap_V8, ap_V9, ap_V10, ap_C, ap_op, ap_un, ap_ar, ap_tB, ap_tand, ap_tor, ap_tnot, ap_tyes, ap_and, ap_or, ap_eif, ap_anil, ap_acons, ap_etup, ap_elst, ap_ait, ap_arng, ap_call, ap_callD, ap_meth, ap_meth0, ap_lc, ap_wipe0, ap_wipe, ap_fin, ap_noX, ap_some, Res.bind_ok, Res.bnd_ok, List.set_cons_succ, List.set_cons_zero, Option.bind_some, d_q2, d_i2, q_qA, s_lst, s_fix, s_tup, s_ktp, q_lst, q_tup, l_lst, l_fix, l_tup, d_lt, d_le, d_gt, d_ge, d_sub, d_add, d_eqi, d_nei, d_isn, d_nisn, n_non, n_int, n_str, x_max2, x_min2, decide_true, decide_false, if_true, ↓reduceIte, Bool.false_eq_true, Nat.reduceLeDiff, ap_esl, ap_onone, ap_osome, ap_maxDf, ap_par3, ap_V11, ap_V12, ap_V13, sl_lst', sl_tup', ap_bm, d8, db, s1, s3, m1, m2, il, d_adds, c1, c2, enm, ty, ap]
      · have db : decide (r8 = 0) = false := decide_eq_false q
        have hb' : cutS aft none (some ((k : Int) % 4)) = beh k := by rw [← hbk, db]; rfl
        simp only [ap_fnK, List.map_cons, List.map_nil, List.length_cons, List.length_nil, Nat.reduceAdd, Nat.reduceSub, List.replicate, List.cons_append, List.nil_append, ap_next, ap_seq, ap_drop, ap_ret, ap_if, ap_name, ap_nil, ap_cons, ap_tup, ap_asg, ap_for, ap_V0, ap_V1, ap_V2, ap_V3, ap_V4, ap_V5, ap_V6, ap_V7, ap_V8, ap_V9, ap_V10, ap_C, ap_op, ap_un, ap_ar, ap_tB, ap_tand, ap_tor, ap_tnot, ap_tyes, ap_and, ap_or, ap_eif, ap_anil, ap_acons, ap_etup, ap_elst, ap_ait, ap_arng, ap_call, ap_callD, ap_meth, ap_meth0, ap_lc, ap_wipe0, ap_wipe, ap_fin, ap_noX, ap_some, Res.bind_ok, Res.bnd_ok, List.set_cons_succ, List.set_cons_zero, Option.bind_some, d_q2, d_i2, q_qA, s_lst, s_fix, s_tup, s_ktp, q_lst, q_tup, l_lst, l_fix, l_tup, d_lt, d_le, d_gt, d_ge, d_sub, d_add, d_eqi, d_nei, d_isn, d_nisn, n_non, n_int, n_str, x_max2, x_min2, decide_true, decide_false, if_true, ↓reduceIte, Bool.false_eq_true, Nat.reduceLeDiff, ap_esl, ap_onone, ap_osome, ap_maxDf, ap_par3, ap_V11, ap_V12, ap_V13, sl_lst', sl_tup', ap_bm, d8, db, s1, s2, s3, m1, m2, m3, hb', il, d_adds, c1, c2, enm, ty, ap])
  have len2 : ((List.range w.toNat).map fun i => D.int (0 + (i : Nat))).length = w.toNat := by simp
  rw [Nat.zero_add, len2] at go
  refine ⟨(List.range w.toNat).map nm, S6, ?_, by simp, fun x hx => ?_, ?_, q6.mono (by omega), off6⟩
  · have l1 : ((l.map lt).map D.str).length ≤ 16777216 := by rw [List.length_map, List.length_map]; omega
    have em : ((List.range w.toNat).map nm).map D.str = (List.range w.toNat).map fun i => D.str (nm i) := by rw [List.map_map]; rfl
    have gl : (S6 ++ [.lst ((List.range w.toNat).map fun i => D.str (nm i))])[S6.length]? = some (.lst ((List.range w.toNat).map fun i => D.str (nm i))) := by simp
    have fz := frz_lst gl
    rw [set_last] at fz
    have lb : dLen [.str base] = some (.int (base.length : Nat)) := if_pos (by omega)
    rw [em]
    unfold m__law_names
    rw [ap_fnT]
    have cut : ∀ {r : Res D} {d : D}, d.lim = 0 → r = .ok d (S6 ++ [.dead]) → cutR S.length r = .ok d S6 := fun {r d} hl e => by
      rw [e, ← off6.1]; exact cut_app q6.flat hl
    refine cut (lims fun _ _ => rfl) ?_
    generalize (l.map lt).map D.str = X at *
    generalize hY : (List.range w.toNat).map (fun i => D.str (nm i)) = Y at *
    generalize (List.range w.toNat).map (fun i => D.int (0 + (i : Nat))) = U at *
    generalize (List.range (1 + r0).toNat).map (fun i => D.int (0 + (i : Nat))) = V at *
    generalize sSeq (sSet 10 _) _ = BODY at *
    simp only [ap_fnK, List.map_cons, List.map_nil, List.length_cons, List.length_nil, Nat.reduceAdd, Nat.reduceSub, List.replicate, List.cons_append, List.nil_append, ap_next, ap_seq, ap_drop, ap_ret, ap_if, ap_name, ap_nil, ap_cons, ap_tup, ap_asg, ap_for, ap_V0, ap_V1, ap_V2, ap_V3, ap_V4, ap_V5, ap_V6, ap_V7, ap_V8, ap_V9, ap_V10, ap_C, ap_op, ap_un, ap_ar, ap_tB, ap_tand, ap_tor, ap_tnot, ap_tyes, ap_and, ap_or, ap_eif, ap_anil, ap_acons, ap_etup, ap_elst, ap_ait, ap_arng, ap_call, ap_callD, ap_meth, ap_meth0, ap_lc, ap_wipe0, ap_wipe, ap_fin, ap_noX, ap_some, Res.bind_ok, Res.bnd_ok, List.set_cons_succ, List.set_cons_zero, Option.bind_some, d_q2, d_i2, q_qA, s_lst, s_fix, s_tup, s_ktp, q_lst, q_tup, l_lst, l_fix, l_tup, d_lt, d_le, d_gt, d_ge, d_sub, d_add, d_eqi, d_nei, d_isn, d_nisn, n_non, n_int, n_str, x_max2, x_min2, decide_true, decide_false, if_true, ↓reduceIte, Bool.false_eq_true, Nat.reduceLeDiff, ap_esl, ap_onone, ap_osome, ap_maxDf, ap_par3, ap_V11, ap_V12, ap_V13, sl_lst', sl_tup', eJoin, e0, rg, lg, l1, jn, lb, e5, ap_par', e6, e7, e8, ap_lsth, rg2, go, sFrz, eFrz, fz]
  · obtain ⟨i, hi, rfl⟩ := List.mem_map.mp hx
    have il : ((r6 + v * (i : Int)) % 26).toNat < 26 := by
      have := Int.emod_nonneg (r6 + v * (i : Int)) (show (26 : Int) ≠ 0 by omega)
      have := Int.emod_lt_of_pos (r6 + v * (i : Int)) (show (0 : Int) < 26 by omega)
      omega
    have ce : (nm i).cps.toList = pre.cps.toList ++ [97 + ((r6 + v * (i : Int)) % 26).toNat] ++ (beh i).cps.toList := by
      show (pre ++ le i ++ beh i).cps.toList = _
      rw [cps_app, cps_app]; rfl
    have lz : (nm i).length = s + 1 + (beh i).length := by
      rw [len_cps, ce, List.length_append, List.length_append, ← len_cps, lpre, ← len_cps]
      rfl
    have hb1 := lbeh i
    refine ⟨by omega, by omega, fun z hz => ?_⟩
    rw [ce] at hz
    have : z = 97 + ((r6 + v * (i : Int)) % 26).toNat ∨ z ∈ base.cps.toList := by
      rcases List.mem_append.mp hz with h | h
      · rcases List.mem_append.mp h with h | h
        · exact .inr (cut_sub h)
        · exact .inl (List.mem_singleton.mp h)
      · right
        change z ∈ (if r8 = 0 then aft else cutS aft none (some ((i : Int) % 4))).cps.toList at h
        split at h
        · exact cut_sub h
        · exact cut_sub (cut_sub h)
    rcases this with rfl | hz
    · exact mem_letter il
    · rw [tc] at hz
      obtain ⟨j, hj, rfl⟩ := List.mem_map.mp hz
      exact mem_letter (hl j hj)
  · refine List.pairwise_map.mpr ?_
    refine (List.pairwise_lt_range (n := w.toNat)).imp_of_mem fun {i j} hi hj hij he => ?_
    have hj' : j < w.toNat := List.mem_range.mp hj
    have ne := coprime_unlike (f := r6) hv hij (by omega)
    have := Int.emod_nonneg (r6 + v * (i : Int)) (show (26 : Int) ≠ 0 by omega)
    have := Int.emod_nonneg (r6 + v * (j : Int)) (show (26 : Int) ≠ 0 by omega)
    have hc := congrArg (fun s : Str => s.cps.toList) he
    have hc2 : pre.cps.toList ++ ([97 + ((r6 + v * (i : Int)) % 26).toNat] ++ (beh i).cps.toList) = pre.cps.toList ++ ([97 + ((r6 + v * (j : Int)) % 26).toNat] ++ (beh j).cps.toList) := by
      have e1 : ∀ k, (nm k).cps.toList = pre.cps.toList ++ ([97 + ((r6 + v * (k : Int)) % 26).toNat] ++ (beh k).cps.toList) := fun k => by
        show (pre ++ le k ++ beh k).cps.toList = _
        rw [cps_app, cps_app, List.append_assoc]; rfl
      rw [← e1, ← e1]
      exact hc
    have e3 := List.append_cancel_left hc2
    simp at e3
    omega
end Sm
set_option Elab.async false
set_option linter.all false
set_option maxRecDepth 100000
set_option maxHeartbeats 400000
open PySem PySem.Spec
namespace Sm
open L2 PySem.W
/-! ## things, before they have ranks -/
def encU (t : Tsk) : D := .tup [.str t.name, .int t.gap, .int t.most, .int t.due, .int t.wait, .tup []]
def pyU (t : Tsk) : PyData := .tuple [.str t.name, .int t.gap, .int t.most, .int t.due, .int t.wait, .tuple []]
structure Th (t : Tsk) : Prop where
  name : Nm t.name
  gap : 1 ≤ t.gap ∧ t.gap ≤ 1000000000000
  most : 1 ≤ t.most ∧ t.most ≤ 100000000000000
  due : 1 ≤ t.due ∧ t.due ≤ t.gap
  wait : 0 ≤ t.wait ∧ t.wait ≤ 1000000000000
theorem Th.ranked {t : Tsk} (h : Th t) (r : Int) : Th { t with rank := r } := ⟨h.name, h.gap, h.most, h.due, h.wait⟩
theorem py_U {t : Tsk} : (encU t).py = some (pyU t) := rfl
theorem py_mapU : ∀ l : List Tsk, Ds.py (l.map encU) = some (l.map pyU)
  | [] => rfl
  | x :: l => by
    show (match D.py (encU x), Ds.py (l.map encU) with | some p, some ps => some (p :: ps) | _, _ => none) = _
    rw [py_U, py_mapU l]; rfl
theorem depth_le {n : Nat} : ∀ {l : List PyData}, (∀ x ∈ l, x.depth ≤ n) → PyData.depthAll l ≤ n
  | [], _ => Nat.zero_le _
  | x :: l, h => by
    have h1 := h x (by simp)
    have h2 := depth_le (l := l) fun y hy => h y (by simp [hy])
    show max x.depth (PyData.depthAll l) ≤ n
    omega
theorem lay_all : ∀ {l : List PyData}, (∀ x ∈ l, x.canLay0 = true) → PyData.canLayAll0 l = true
  | [], _ => rfl
  | x :: l, h => by
    show (x.canLay0 && PyData.canLayAll0 l) = true
    rw [h x (by simp), lay_all fun y hy => h y (by simp [hy])]; rfl
theorem strOk_nm {s : Str} (h : Nm s) : PyData.strOk s = true := by
  have hl : ∀ z ∈ letters.cps.toList, z < 0x110000 := by decide
  show s.cps.all (· < 0x110000) = true
  rw [← Array.all_toList, List.all_eq_true]
  intro z hz
  simpa using hl z (h.2.2 z hz)
theorem depth_U {t : Tsk} : (pyU t).depth ≤ 3 := by
  show PyData.depthAll [.str t.name, .int t.gap, .int t.most, .int t.due, .int t.wait, .tuple []] + 1 ≤ 3
  have : PyData.depthAll [.str t.name, .int t.gap, .int t.most, .int t.due, .int t.wait, .tuple []] ≤ 2 := depth_le (by
    intro y hy
    simp only [List.mem_cons, List.not_mem_nil, or_false] at hy
    rcases hy with rfl | rfl | rfl | rfl | rfl | rfl <;> exact Nat.le_of_ble_eq_true rfl)
  omega
theorem lay_U {t : Tsk} (h : Th t) : (pyU t).canLay0 = true := by
  have := strOk_nm h.name
  show (PyData.strOk t.name && (true && (true && (true && (true && (PyData.canLay0 (.tuple []) && true)))))) = true
  rw [this]; rfl
theorem neU {l : List Tsk} (h : ∀ t ∈ l, Th t) : eqP true (.lst (l.map encU)) (.lst []) = some (.bl (!l.isEmpty)) := by
  have e1 : D.py (.lst (l.map encU)) = some (.list (l.map pyU)) := by
    show (Ds.py (l.map encU)).map PyData.list = _
    rw [py_mapU]; rfl
  have e2 : D.py (.lst []) = some (.list []) := rfl
  unfold eqP
  rw [e1, e2]
  have l1 : SeqAt.shaped (.list (l.map pyU)) = true := by
    unfold SeqAt.shaped
    have d0 : (PyData.list (l.map pyU)).depth ≤ 64 := by
      show PyData.depthAll (l.map pyU) + 1 ≤ 64
      have : PyData.depthAll (l.map pyU) ≤ 3 := depth_le fun y hy => by
        obtain ⟨x, _, rfl⟩ := List.mem_map.mp hy
        exact depth_U
      omega
    have c0 : (PyData.list (l.map pyU)).canLay0 = true := lay_all fun y hy => by
      obtain ⟨x, hx, rfl⟩ := List.mem_map.mp hy
      exact lay_U (h x hx)
    rw [c0]; simpa using d0
  have l2 : SeqAt.shaped (.list []) = true := by decide
  show (if SeqAt.shaped (PyData.list (l.map pyU)) = true ∧ SeqAt.shaped (PyData.list []) = true then some (D.bl (true ^^ PyData.eqv (.list (l.map pyU)) (.list []))) else none) = _
  rw [if_pos ⟨l1, l2⟩]
  cases l with
  | nil => rfl
  | cons c cs => rfl
theorem erase_map {α β : Type} {f : α → β} : ∀ {l : List α} {k : Nat}, (l.map f).eraseIdx k = (l.eraseIdx k).map f
  | [], _ => rfl
  | _ :: _, 0 => rfl
  | x :: l, k + 1 => by
    show f x :: (l.map f).eraseIdx k = f x :: (l.eraseIdx k).map f
    rw [erase_map]
theorem perm_erase {α : Type} : ∀ {l : List α} {k : Nat} {x : α}, l[k]? = some x → (x :: l.eraseIdx k).Perm l
  | [], k, x, h => by simp at h
  | y :: l, 0, x, h => by
    simp at h
    subst h
    exact .refl _
  | y :: l, k + 1, x, h => by
    have ih := perm_erase (l := l) (k := k) (x := x) (by simpa using h)
    show (x :: y :: l.eraseIdx k).Perm (y :: l)
    exact (List.Perm.swap _ _ _).trans (ih.cons y)
def Nu (L : List Tsk) : Prop := L.Pairwise fun a b => a.name ≠ b.name
/-- rows with ranks -/
structure RW (rs : List Tsk) : Prop where
  th : ∀ t ∈ rs, Th t ∧ 1 ≤ t.rank
  nu : Nu rs
  ord : rs.Pairwise fun a b => a.rank < b.rank
@[simp] theorem ap_eqH {n : Bool} {i : Nat} {S : Sto} {ds : List D} {q : D} (h : S[i]? = some (.lst ds)) : eqH n (.hnd i) q S = optR (eqP n (.lst ds) q) S := by
  unfold eqH; simp only [h]
theorem len_h {i : Nat} {S : Sto} {ds : List D} (h : S[i]? = some (.lst ds)) : lenH [.hnd i] S = .ok (.int ds.length) S := by
  unfold lenH; simp only [h]
theorem add_row {t : Tsk} {l : Int} : dAdd (.tup [.str t.name, .int l]) (.tup [.int t.gap, .int t.most, .int t.due, .int t.wait, .tup []]) = some (encR { t with rank := l }) := rfl
theorem tail_U {t : Tsk} : altS slT slL (encU t) (some 1) none = some (.tup [.int t.gap, .int t.most, .int t.due, .int t.wait, .tup []]) := rfl
theorem u_0 {t : Tsk} : dIx (encU t) (.int 0) = some (.str t.name) := ix_tup (n := 0) rfl
theorem lim_Us {l : List Tsk} : (MO.lst (l.map encU)).lim = 0 := lims fun _ _ => rfl
theorem lim_Rs {l : List Tsk} : (MO.lst (l.map encR)).lim = 0 := lims fun _ _ => rfl
theorem ranked_go {p i : Nat} {S0 : Sto} {x1 : Option D} (hp : i ≠ p) (hp2 : i + 1 ≠ p) (hlen : S0.length = i) : ∀ (n : Nat) (ls R : List Tsk) (lev b : Int) (S : Sto) (x5 : Option D), ls.length < n → b + 2 * ls.length < 10000000000 → QT p b S → S[i]? = some (.lst (ls.map encU)) → S[i + 1]? = some (.lst (R.map encR)) → Offs p S0 S → (∀ t ∈ ls, Th t) → (∀ t ∈ R, Th t ∧ 1 ≤ t.rank) → Nu (R ++ ls) → (R.Pairwise fun a b => a.rank < b.rank) → (∀ t ∈ R, t.rank ≤ lev) → 0 ≤ lev → (R ++ ls).length < 1000 →
    ∃ (R' : List Tsk) (S' : Sto) (lev' : Int) (x5' : Option D), sWhile (tB' (eOp (eqH true) (eV 2) (eLst aNil))) (sSeq (sSet 4 (eOp (q2 dAdd) (eOp (q2 dAdd) (eV 4) (eC (.int 1))) (eCall m__law_draw 2 (aCons (eV 0) (aCons (eC (.int 3)) aNil))))) (sSeq (sSet 5 (eBm "list" (mLst lPopAt) (eV 2) (aCons (eCall m__law_draw 2 (aCons (eV 0) (aCons (eAr lenH (aCons (eV 2) aNil)) aNil))) aNil))) (sDrop (eBm "list" (mLst lApp) (eV 3) (aCons (eOp (q2 dAdd) (eTup (aCons (eOp (q2 dIx) (eV 5) (eC (.int 0))) (aCons (eV 4) aNil))) (eSl (altS slT slL) (eV 5) (oSome (eC (.int 1))) oNone)) aNil))))) n [some (.hnd p), x1, some (.hnd i), some (.hnd (i + 1)), some (.int lev), x5] S
      = .ok (.nx [some (.hnd p), x1, some (.hnd i), some (.hnd (i + 1)), some (.int lev'), x5']) S' ∧ RW R' ∧ R'.length = (R ++ ls).length ∧ QT p (b + 2 * ls.length) S' ∧ S'[i]? = some (.lst []) ∧ S'[i + 1]? = some (.lst (R'.map encR)) ∧ Offs p S0 S'
  | 0, ls, _, _, _, _, _, h, _, _, _, _, _, _, _, _, _, _, _, _ => absurd h (by omega)
  | n + 1, [], R, lev, b, S, x5, hn, hb, q, g1, g2, off, hls, hR, nu, ord, hlev, lev0, hlen => by
    refine ⟨R, S, lev, x5, ?_, ⟨hR, by simpa using nu, ord⟩, by simp, by simpa using q, g1, g2, off⟩
    have e := neU (l := []) (by simp)
    have c := ap_eqH (n := true) (q := .lst []) g1
    rw [e] at c
    have z : (0 : Nat) ≤ 16777216 := by omega
    rw [sWhile]
    simp only [ap_fnK, List.map_cons, List.map_nil, List.length_cons, List.length_nil, Nat.reduceAdd, Nat.reduceSub, List.replicate, List.cons_append, List.nil_append, ap_next, ap_seq, ap_drop, ap_ret, ap_if, ap_name, ap_nil, ap_cons, ap_tup, ap_asg, ap_for, ap_V0, ap_V1, ap_V2, ap_V3, ap_V4, ap_V5, ap_V6, ap_V7, ap_V8, ap_V9, ap_V10, ap_C, ap_op, ap_un, ap_ar, ap_tB, ap_tand, ap_tor, ap_tnot, ap_tyes, ap_and, ap_or, ap_eif, ap_anil, ap_acons, ap_etup, ap_elst, ap_ait, ap_arng, ap_call, ap_callD, ap_meth, ap_meth0, ap_lc, ap_wipe0, ap_wipe, ap_fin, ap_noX, ap_some, Res.bind_ok, Res.bnd_ok, List.set_cons_succ, List.set_cons_zero, Option.bind_some, d_q2, d_i2, q_qA, s_lst, s_fix, s_tup, s_ktp, q_lst, q_tup, l_lst, l_fix, l_tup, d_lt, d_le, d_gt, d_ge, d_sub, d_add, d_eqi, d_nei, d_isn, d_nisn, n_non, n_int, n_str, x_max2, x_min2, decide_true, decide_false, if_true, ↓reduceIte, Bool.false_eq_true, Nat.reduceLeDiff, c, z, List.isEmpty_nil, Bool.not_true]
  | n + 1, u :: us, R, lev, b, S, x5, hn, hb, q, g1, g2, off, hls, hR, nu, ord, hlev, lev0, hln => by
    have e := neU hls
    have c := ap_eqH (n := true) (q := .lst []) g1
    rw [e] at c
    rw [List.length_cons] at hb hn
    rw [List.length_append, List.length_cons] at hln
    obtain ⟨r, S1, e1, r0, r1, q1, o1⟩ := drawT q (by omega) (many := 3) (by omega) (by omega)
    have g1a : S1[i]? = some (.lst ((u :: us).map encU)) := by rw [o1.2 i hp]; exact g1
    have g2a : S1[i + 1]? = some (.lst (R.map encR)) := by rw [o1.2 (i + 1) hp2]; exact g2
    have lh := len_h g1a
    obtain ⟨j, S2, e2, j0, j1, q2', o2⟩ := drawT q1 (by omega) (many := (((u :: us).map encU).length : Nat)) (by simp) (by simp; omega)
    have g1b : S2[i]? = some (.lst ((u :: us).map encU)) := by rw [o2.2 i hp]; exact g1a
    have g2b : S2[i + 1]? = some (.lst (R.map encR)) := by rw [o2.2 (i + 1) hp2]; exact g2a
    rw [List.length_map] at j1
    have hj : j.toNat < (u :: us).length := by omega
    obtain ⟨t, ht⟩ : ∃ t, (u :: us)[j.toNat]? = some t := ⟨_, List.getElem?_eq_getElem hj⟩
    have tm : t ∈ u :: us := List.mem_of_getElem? ht
    have ty1 := isTy_lst g1b
    have ty1a := isTy_lst g1a
    have pop := pop_at (x := encU t) g1b j0 (by rw [List.length_cons] at j1; omega) (by rw [List.getElem?_map, ht]; rfl)
    rw [erase_map] at pop
    generalize hS3 : S2.set i (.lst (((u :: us).eraseIdx j.toNat).map encU)) = S3 at pop
    have g1c : S3[i]? = some (.lst (((u :: us).eraseIdx j.toNat).map encU)) := by rw [← hS3]; exact List.getElem?_set_self (List.getElem?_eq_some_iff.mp g1b).1
    have g2c : S3[i + 1]? = some (.lst (R.map encR)) := by rw [← hS3, List.getElem?_set_ne (by omega)]; exact g2b
    have q3 : QT p (b + 2) S3 := by
      rw [← hS3]
      exact (q2'.set lim_Us hp).mono (by omega)
    have ty2 := isTy_lst g2c
    have app := app_lst (y := encR { t with rank := lev + 1 + r }) g2c (by rw [List.length_map]; omega)
    have em : R.map encR ++ [encR { t with rank := lev + 1 + r }] = (R ++ [{ t with rank := lev + 1 + r }]).map encR := by rw [List.map_append]; rfl
    rw [em] at app
    generalize hS4 : S3.set (i + 1) (.lst ((R ++ [{ t with rank := lev + 1 + r }]).map encR)) = S4 at app
    have g1d : S4[i]? = some (.lst (((u :: us).eraseIdx j.toNat).map encU)) := by rw [← hS4, List.getElem?_set_ne (by omega)]; exact g1c
    have g2d : S4[i + 1]? = some (.lst ((R ++ [{ t with rank := lev + 1 + r }]).map encR)) := by rw [← hS4]; exact List.getElem?_set_self (List.getElem?_eq_some_iff.mp g2c).1
    have q4 : QT p (b + 2) S4 := by
      rw [← hS4]
      exact q3.set lim_Rs hp2
    have off4 : Offs p S0 S4 := by
      rw [← hS4, ← hS3]
      exact ((off.trans (o1.trans o2).offs).set (by omega)).set (by omega)
    have le1 : ((u :: us).eraseIdx j.toNat).length = us.length := by rw [List.length_eraseIdx, if_pos hj, List.length_cons]; rfl
    have pe := perm_erase ht
    have nu2 : Nu ((R ++ [{ t with rank := lev + 1 + r }]) ++ (u :: us).eraseIdx j.toNat) := by
      have h1 : Nu (R ++ (t :: (u :: us).eraseIdx j.toNat)) := List.Pairwise.perm nu (List.Perm.append_left R pe.symm) fun h => Ne.symm h
      unfold Nu at h1 ⊢
      rw [List.append_assoc]
      rw [List.pairwise_append] at h1 ⊢
      obtain ⟨a1, a2, a3⟩ := h1
      rw [List.pairwise_cons] at a2
      refine ⟨a1, List.pairwise_cons.mpr ⟨fun y hy => a2.1 y hy, a2.2⟩, fun x hx y hy => ?_⟩
      rcases List.mem_cons.mp hy with rfl | hy
      · exact a3 x hx t (by simp)
      · exact a3 x hx y (List.mem_cons_of_mem _ hy)
    obtain ⟨R', S', lev', x5', go, rw', rl, q', z1, z2, off'⟩ := ranked_go (x1 := x1) hp hp2 hlen n ((u :: us).eraseIdx j.toNat) (R ++ [{ t with rank := lev + 1 + r }]) (lev + 1 + r) (b + 2) S4 (some (encU t)) (by omega) (by rw [le1]; omega) q4 g1d g2d off4
      (fun x hx => hls x (List.mem_of_mem_eraseIdx hx)) (fun x hx => by
        rcases List.mem_append.mp hx with h | h
        · exact hR x h
        · rw [List.mem_singleton.mp h]
          refine ⟨(hls t tm).ranked _, ?_⟩
          show 1 ≤ lev + 1 + r
          omega) nu2 (by
        refine List.pairwise_append.mpr ⟨ord, by simp, fun x hx y hy => ?_⟩
        rw [List.mem_singleton.mp hy]
        have := hlev x hx
        show x.rank < lev + 1 + r
        omega) (fun x hx => by
        rcases List.mem_append.mp hx with h | h
        · have := hlev x h
          omega
        · rw [List.mem_singleton.mp h]
          exact Int.le_refl _) (by omega) (by rw [List.length_append, List.length_append, le1]; simp; omega)
    refine ⟨R', S', lev', x5', ?_, rw', by rw [rl, List.length_append, List.length_append, List.length_append, le1, List.length_cons]; simp; omega, q'.mono (by rw [le1, List.length_cons]; omega), z1, z2, off'⟩
    have z : (0 : Nat) ≤ 16777216 := by omega
    have tl := tail_U (t := t)
    have u0 := u_0 (t := t)
    have ad := add_row (t := t) (l := lev + 1 + r)
    rw [← go]
    generalize encR { t with rank := lev + 1 + r } = ROW at *
    generalize hUU : encU t = UU at *
    generalize hXX : (u :: us).map encU = XX at *
    generalize ((u :: us).eraseIdx j.toNat).map encU = YY at *
    rw [sWhile]
    simp only [ap_fnK, List.map_cons, List.map_nil, List.length_cons, List.length_nil, Nat.reduceAdd, Nat.reduceSub, List.replicate, List.cons_append, List.nil_append, ap_next, ap_seq, ap_drop, ap_ret, ap_if, ap_name, ap_nil, ap_cons, ap_tup, ap_asg, ap_for, ap_V0, ap_V1, ap_V2, ap_V3, ap_V4, ap_V5, ap_V6, ap_V7, ap_V8, ap_V9, ap_V10, ap_C, ap_op, ap_un, ap_ar, ap_tB, ap_tand, ap_tor, ap_tnot, ap_tyes, ap_and, ap_or, ap_eif, ap_anil, ap_acons, ap_etup, ap_elst, ap_ait, ap_arng, ap_call, ap_callD, ap_meth, ap_meth0, ap_lc, ap_wipe0, ap_wipe, ap_fin, ap_noX, ap_some, Res.bind_ok, Res.bnd_ok, List.set_cons_succ, List.set_cons_zero, Option.bind_some, d_q2, d_i2, q_qA, s_lst, s_fix, s_tup, s_ktp, q_lst, q_tup, l_lst, l_fix, l_tup, d_lt, d_le, d_gt, d_ge, d_sub, d_add, d_eqi, d_nei, d_isn, d_nisn, n_non, n_int, n_str, x_max2, x_min2, decide_true, decide_false, if_true, ↓reduceIte, Bool.false_eq_true, Nat.reduceLeDiff, ap_esl, ap_onone, ap_osome, ap_maxDf, ap_par3, ap_V11, ap_V12, ap_V13, sl_lst', sl_tup', c, z, List.isEmpty_cons, Bool.not_false, e1, ap_bm, ty1a, lh, e2, pop, ty2, u0, tl, ad, app]
theorem law_ranked {p : Nat} {b : Int} {S : Sto} {us : List Tsk} (h : QT p b S) (hb : b < 1000000000) (hl : us.length < 1000) (hu : ∀ t ∈ us, Th t) (nu : Nu us) :
    ∃ (R : List Tsk) (S' : Sto), m__law_ranked [.hnd p, .lst (us.map encU)] S = .ok (.lst (R.map encR)) S' ∧ RW R ∧ R.length = us.length ∧ QT p (b + 2 * us.length) S' ∧ Off p S S' := by
  have hp := h.lt
  have q0 : QT p b (S ++ [.lst (us.map encU), .lst []]) := by
    have := (h.app (m := .lst (us.map encU)) lim_Us).app (m := .lst []) rfl
    rwa [List.append_assoc] at this
  obtain ⟨R, S1, lev', x5', go, rw', rl, q1, z1, z2, off⟩ := ranked_go (S0 := S) (x1 := some (.lst (us.map encU))) (i := S.length) (by omega) (by omega) rfl fuel us [] 0 b (S ++ [.lst (us.map encU), .lst []]) none (by
    have : fuel = 1000000000000000 := rfl
    omega) (by omega) q0 (by simp) (by simp) .app hu (by simp) (by simpa using nu) (by simp) (by simp) (Int.le_refl _) (by simpa using hl)
  have f3 := frz_lst z2
  have g2 : (S1.set (S.length + 1) .dead)[S.length]? = some (.lst []) := by rw [List.getElem?_set_ne (by omega)]; exact z1
  have f2 := frz_lst g2
  have q2' : QT p (b + 2 * us.length) ((S1.set (S.length + 1) .dead).set S.length .dead) := (q1.set rfl (by omega)).set rfl (by omega)
  have off2 : Offs p S ((S1.set (S.length + 1) .dead).set S.length .dead) := (off.set (by omega)).set (Nat.le_refl _)
  refine ⟨R, ((S1.set (S.length + 1) .dead).set S.length .dead).take S.length, ?_, rw', by simpa using rl, q2'.take hp, off2.take⟩
  unfold m__law_ranked
  rw [ap_fnT, ← cut_take q2'.flat (d := .lst (R.map encR)) (lims fun _ _ => rfl) off2.1]
  congr 1
  have al : aListH [.lst (us.map encU)] S = .ok (.hnd S.length) (S ++ [.lst (us.map encU)]) := rfl
  have z : (0 : Nat) ≤ 16777216 := by omega
  have e2 : (S ++ [MO.lst (us.map encU)]) ++ [MO.lst []] = S ++ [.lst (us.map encU), .lst []] := by simp
  have e3 : (S ++ [MO.lst (us.map encU)]).length = S.length + 1 := by simp
  generalize us.map encU = X at *
  generalize R.map encR = Y at *
  generalize sWhile _ _ _ = LOOP at *
  simp only [ap_fnK, List.map_cons, List.map_nil, List.length_cons, List.length_nil, Nat.reduceAdd, Nat.reduceSub, List.replicate, List.cons_append, List.nil_append, ap_next, ap_seq, ap_drop, ap_ret, ap_if, ap_name, ap_nil, ap_cons, ap_tup, ap_asg, ap_for, ap_V0, ap_V1, ap_V2, ap_V3, ap_V4, ap_V5, ap_V6, ap_V7, ap_V8, ap_V9, ap_V10, ap_C, ap_op, ap_un, ap_ar, ap_tB, ap_tand, ap_tor, ap_tnot, ap_tyes, ap_and, ap_or, ap_eif, ap_anil, ap_acons, ap_etup, ap_elst, ap_ait, ap_arng, ap_call, ap_callD, ap_meth, ap_meth0, ap_lc, ap_wipe0, ap_wipe, ap_fin, ap_noX, ap_some, Res.bind_ok, Res.bnd_ok, List.set_cons_succ, List.set_cons_zero, Option.bind_some, d_q2, d_i2, q_qA, s_lst, s_fix, s_tup, s_ktp, q_lst, q_tup, l_lst, l_fix, l_tup, d_lt, d_le, d_gt, d_ge, d_sub, d_add, d_eqi, d_nei, d_isn, d_nisn, n_non, n_int, n_str, x_max2, x_min2, decide_true, decide_false, if_true, ↓reduceIte, Bool.false_eq_true, Nat.reduceLeDiff, ap_esl, ap_onone, ap_osome, ap_maxDf, ap_par3, ap_V11, ap_V12, ap_V13, sl_lst', sl_tup', al, ap_lsth, z, e2, e3, go, sFrz, eFrz, f3, f2]
theorem p6 : fPow 10 6 = some (.int 1000000) := by simp [fPow]
theorem p9 : fPow 10 9 = some (.int 1000000000) := by simp [fPow]
theorem p10 : fPow 10 10 = some (.int 10000000000) := by simp [fPow]
theorem p11 : fPow 10 11 = some (.int 100000000000) := by simp [fPow]
theorem three_ints {r x y z : Int} (h0 : 0 ≤ r) (h : r < 3) : ∃ v : Int, (v = x ∨ v = y ∨ v = z) ∧ dIx (.lst [.int x, .int y, .int z]) (.int r) = some (.int v) := by
  have : r = 0 ∨ r = 1 ∨ r = 2 := by omega
  rcases this with rfl | rfl | rfl
  · exact ⟨x, .inl rfl, ix_lst (n := 0) rfl⟩
  · exact ⟨y, .inr (.inl rfl), ix_lst (n := 1) rfl⟩
  · exact ⟨z, .inr (.inr rfl), ix_lst (n := 2) rfl⟩
end Sm
set_option Elab.async false
set_option linter.all false
set_option maxRecDepth 100000
set_option maxHeartbeats 400000
open PySem PySem.Spec
namespace Sm
open L2 PySem.W
/-! ## what rows keep -/
section
variable {rs : List Tsk}
theorem RW.unl (h : RW rs) : Unl rs := (List.Pairwise.and h.nu h.ord).imp fun ⟨a, b⟩ => ⟨a, by omega⟩
theorem RW.pl (h : RW rs) (hl : rs.length < 1000) : Pl rs := ⟨⟨fun t ht => ⟨(h.th t ht).1.name, (h.th t ht).2, (h.th t ht).1.gap.1, (h.th t ht).1.most.1, (h.th t ht).1.due.1, (h.th t ht).1.due.2, (h.th t ht).1.wait.1⟩, h.unl, hl⟩, h.ord⟩
theorem RW.tame (h : RW rs) : Tame rs := ⟨fun t ht => ⟨(h.th t ht).1.gap.1, by have := (h.th t ht).1.gap.2; omega⟩, fun t ht => ⟨(h.th t ht).1.most.1, by have := (h.th t ht).1.most.2; omega⟩, fun t ht => ⟨(h.th t ht).1.wait.1, by have := (h.th t ht).1.wait.2; omega⟩⟩
theorem sorted_eq : ∀ {l m : List Tsk}, l.Perm m → (l.Pairwise fun a b => a.rank < b.rank) → (m.Pairwise fun a b => a.rank < b.rank) → l = m
  | [], m, h, _, _ => (List.Perm.nil_eq h)
  | x :: l, [], h, _, _ => absurd h.length_eq (by simp)
  | x :: l, y :: m, h, hl, hm => by
    rw [List.pairwise_cons] at hl hm
    have hx : x ∈ y :: m := h.mem_iff.mp (by simp)
    have hy : y ∈ x :: l := h.mem_iff.mpr (by simp)
    have e : x = y := by
      rcases List.mem_cons.mp hx with e | hx
      · exact e
      · rcases List.mem_cons.mp hy with e | hy
        · exact e.symm
        · have h1 := hm.1 x hx
          have h2 := hl.1 y hy
          omega
    subst e
    rw [sorted_eq (List.Perm.cons_inv h) hl.2 hm.2]
theorem byR_rev (h : RW rs) : byR rs.reverse = rs := by
  have u : Unl rs.reverse := (h.unl.perm (List.reverse_perm rs).symm fun ⟨a, b⟩ => ⟨Ne.symm a, Ne.symm b⟩)
  exact sorted_eq (byR_perm.trans (List.reverse_perm rs)) (byR_sorted u) h.ord
end
end Sm
set_option Elab.async false
set_option linter.all false
set_option maxRecDepth 100000
set_option maxHeartbeats 400000
open PySem PySem.Spec
namespace Sm
open L2 PySem.W
theorem rangeB : ∀ n : Nat, n ≤ 8 → sliceRange (sliceBounds none none (some (-1)) n).1 (sliceBounds none none (some (-1)) n).2.1 (sliceBounds none none (some (-1)) n).2.2 = (List.range n).reverse := by decide
theorem pick_rev {α : Type} {l : List α} (h : l.length ≤ 8) : pickN l none none (some (-1)) = l.reverse := by
  unfold pickN
  rw [rangeB _ h]
  match l, h with
  | [], _ => rfl
  | [_], _ => rfl
  | [_, _], _ => rfl
  | [_, _, _], _ => rfl
  | [_, _, _, _], _ => rfl
  | [_, _, _, _, _], _ => rfl
  | [_, _, _, _, _, _], _ => rfl
  | [_, _, _, _, _, _, _], _ => rfl
  | [_, _, _, _, _, _, _, _], _ => rfl
  | _ :: _ :: _ :: _ :: _ :: _ :: _ :: _ :: _ :: _, h => simp at h
@[simp] theorem ap_sl3 {e : EV} {l h : OV} {st : EV} {env : Env} {S : Sto} : eSl3 e l h st env S = (e env S).bnd (tg fun d S1 => (l env S1).bnd (tg fun lo S2 => (h env S2).bnd (tg fun hi S3 => (st env S3).bnd (tg fun k S4 => optR (stepD d lo hi k) S4)))) := (rfl)
@[simp] theorem ap_make {C : Str} {ev : List D → Sto → Res D} {n : Nat} {a : AV} {env : Env} {S : Sto} : eMake C ev n a env S = (a env S).bnd (tg fun ds S1 => if ds.length = n then mkI C ev ds S1 else .bad) := (rfl)
@[simp] theorem ap_callK {ev : List D → Sto → Res D} {n m : Nat} {a ak : AV} {env : Env} {S : Sto} : eCallK ev n m a ak env S = (a env S).bnd (tg fun ds S1 => (ak env S1).bnd (tg fun es S2 => if ds.length = n ∧ es.length = m then ev (ds ++ es) S2 else .bad)) := (rfl)
theorem get_mid {S l : Sto} {m : MO} : (S ++ m :: l)[S.length]? = some m := by simp
theorem set_mid {S l : Sto} {m m' : MO} : (S ++ m :: l).set S.length m' = S ++ m' :: l := by simp
theorem flat_mid {S l : Sto} {m m' : MO} (h : Flat (S ++ m :: l)) (hm : m'.lim = 0) : Flat (S ++ m' :: l) := fun o ho => by
  rcases List.mem_append.mp ho with h1 | h1
  · exact h o (by simp [h1])
  · rcases List.mem_cons.mp h1 with rfl | h1
    · exact hm
    · exact h o (by simp [h1])
section
variable {rs : List Tsk} {S : Sto}
theorem bus_go {x0 : Option D} : ∀ (us ms : List Tsk) (l : Sto) (x2 : Option D), (∀ t ∈ us, Good t) → Flat (S ++ .lst (ms.map encT) :: l) → ms.length + us.length < 1000 →
    ∃ (l' : Sto) (x2' : Option D), forGo (vName 2) (sDrop (eBm "list" (mLst lApp) (eV 1) (aCons (eFrzO (eMakeK "Message" kg_Message m_Message___init__ 1 5 (aCons (eOp (q2 dIx) (eV 2) (eC (.int 0))) aNil) (aCons (eOp (q2 dIx) (eV 2) (eC (.int 1))) (aCons (eOp (q2 dIx) (eV 2) (eC (.int 2))) (aCons (eOp (q2 dIx) (eV 2) (eC (.int 3))) (aCons (eOp (q2 dIx) (eV 2) (eC (.int 4))) (aCons (eOp (q2 dIx) (eV 2) (eC (.int 5))) aNil))))))) aNil))) (us.map encR) [x0, some (.hnd S.length), x2] (S ++ .lst (ms.map encT) :: l)
      = .ok (.nx [x0, some (.hnd S.length), x2']) (S ++ .lst ((ms ++ us).map encT) :: l') ∧ Flat (S ++ .lst ((ms ++ us).map encT) :: l')
  | [], ms, l, x2, _, hf, _ => ⟨l, x2, by rw [List.append_nil]; rfl, by rw [List.append_nil]; exact hf⟩
  | t :: us, ms, l, x2, hg, hf, hl => by
    have hf2 : Flat (S ++ .lst ((ms ++ [t]).map encT) :: (l ++ [.dead])) := by
      refine flat_mid (m := .lst (ms.map encT)) ?_ (lims fun _ _ => lim_T)
      have e : S ++ MO.lst (ms.map encT) :: (l ++ [.dead]) = (S ++ MO.lst (ms.map encT) :: l) ++ [.dead] := by simp
      rw [e]
      exact flat_app hf (by simp [MO.lim])
    obtain ⟨l', x2', ih, hf'⟩ := bus_go (x0 := x0) us (ms ++ [t]) (l ++ [.dead]) (some (encR t)) (fun u hu => hg u (by simp [hu])) hf2 (by rw [List.length_append]; simp at hl ⊢; omega)
    have ea : (ms ++ [t]) ++ us = ms ++ t :: us := by simp
    rw [ea] at ih hf'
    refine ⟨l', x2', ?_, hf'⟩
    rw [← ih]
    have mk := mk_Message (S := S ++ .lst (ms.map encT) :: l) (hg t (by simp))
    have e2 : (S ++ MO.lst (ms.map encT) :: l) ++ [MO.dead] = S ++ MO.lst (ms.map encT) :: (l ++ [.dead]) := by simp
    rw [e2] at mk
    have ty : isTy "list" (.hnd S.length) (S ++ MO.lst (ms.map encT) :: l) = true := isTy_lst get_mid
    have app := app_lst (n := S.length) (S := S ++ MO.lst (ms.map encT) :: (l ++ [.dead])) (y := encT t) get_mid (by rw [List.length_map]; omega)
    rw [set_mid] at app
    have em : ms.map encT ++ [encT t] = (ms ++ [t]).map encT := by rw [List.map_append]; rfl
    rw [em] at app
    have s0 := r_0 (t := t); have s1 := r_1 (t := t); have s2 := r_2 (t := t); have s3 := r_3 (t := t); have s4 := r_4 (t := t); have s5 := r_5 (t := t)
    rw [List.map_cons]
    generalize us.map encR = US at *
    generalize encR t = RR at *
    generalize encT t = TT at *
    generalize (ms ++ [t]).map encT = M2 at *
    generalize ms.map encT = M1 at *
    simp only [forGo, ap_name, List.set_cons_succ, List.set_cons_zero]
    simp only [ap_fnK, List.map_cons, List.map_nil, List.length_cons, List.length_nil, Nat.reduceAdd, Nat.reduceSub, List.replicate, List.cons_append, List.nil_append, ap_next, ap_seq, ap_drop, ap_ret, ap_if, ap_name, ap_nil, ap_cons, ap_tup, ap_asg, ap_for, ap_V0, ap_V1, ap_V2, ap_V3, ap_V4, ap_V5, ap_V6, ap_V7, ap_V8, ap_V9, ap_V10, ap_C, ap_op, ap_un, ap_ar, ap_tB, ap_tand, ap_tor, ap_tnot, ap_tyes, ap_and, ap_or, ap_eif, ap_anil, ap_acons, ap_etup, ap_elst, ap_ait, ap_arng, ap_call, ap_callD, ap_meth, ap_meth0, ap_lc, ap_wipe0, ap_wipe, ap_fin, ap_noX, ap_some, Res.bind_ok, Res.bnd_ok, List.set_cons_succ, List.set_cons_zero, Option.bind_some, d_q2, d_i2, q_qA, s_lst, s_fix, s_tup, s_ktp, q_lst, q_tup, l_lst, l_fix, l_tup, d_lt, d_le, d_gt, d_ge, d_sub, d_add, d_eqi, d_nei, d_isn, d_nisn, n_non, n_int, n_str, x_max2, x_min2, decide_true, decide_false, if_true, ↓reduceIte, Bool.false_eq_true, Nat.reduceLeDiff, ap_esl, ap_onone, ap_osome, ap_maxDf, ap_par3, ap_V11, ap_V12, ap_V13, sl_lst', sl_tup', ap_bm, ap_frzO, ap_makeK, s0, s1, s2, s3, s4, s5, mk, ty, app, and_self]
theorem law_bus (h : RW rs) (hl : rs.length ≤ 8) (hf : Flat S) : m__law_bus [.lst (rs.map encR)] S = .ok (busD rs) S := by
  have hp := h.pl (by omega)
  obtain ⟨l', x2', go, hf'⟩ := bus_go (S := S) (x0 := some (.lst (rs.map encR))) rs.reverse [] [] none (fun t ht => hp.row.good t (List.mem_reverse.mp ht)) (flat_app hf (by simp [MO.lim, Ds.lim])) (by simp; omega)
  rw [List.nil_append] at go hf'
  have fz := frz_lst (n := S.length) (S := S ++ .lst (rs.reverse.map encT) :: l') get_mid
  rw [set_mid] at fz
  have hf2 : Flat (S ++ MO.dead :: l') := flat_mid hf' rfl
  have mk := mk_Bus (L := rs.reverse) (S := S ++ MO.dead :: l') (hp.row.perm (List.reverse_perm rs)) hf2
  rw [byR_rev h] at mk
  have sd : stepD (.lst (rs.map encR)) none none (.int (-1)) = some (.lst (rs.reverse.map encR)) := by
    show some (D.lst (pickN (rs.map encR) none none (some (-1)))) = _
    rw [pick_rev (by rw [List.length_map]; exact hl), List.map_reverse]
  unfold m__law_bus
  rw [ap_fnT]
  refine cutFl hf (l := .dead :: l' ++ [.dead]) lim_B ?_
  have z : (0 : Nat) ≤ 16777216 := by omega
  have e3 : (S ++ MO.dead :: l') ++ [MO.dead] = S ++ (MO.dead :: l' ++ [.dead]) := by simp
  rw [e3] at mk
  simp only [List.map_nil] at go
  generalize busD rs = BD at *
  generalize rs.map encR = X at *
  generalize rs.reverse.map encR = Y at *
  generalize rs.reverse.map encT = Z at *
  generalize sDrop _ = BODY at *
  simp only [ap_fnK, List.map_cons, List.map_nil, List.length_cons, List.length_nil, Nat.reduceAdd, Nat.reduceSub, List.replicate, List.cons_append, List.nil_append, ap_next, ap_seq, ap_drop, ap_ret, ap_if, ap_name, ap_nil, ap_cons, ap_tup, ap_asg, ap_for, ap_V0, ap_V1, ap_V2, ap_V3, ap_V4, ap_V5, ap_V6, ap_V7, ap_V8, ap_V9, ap_V10, ap_C, ap_op, ap_un, ap_ar, ap_tB, ap_tand, ap_tor, ap_tnot, ap_tyes, ap_and, ap_or, ap_eif, ap_anil, ap_acons, ap_etup, ap_elst, ap_ait, ap_arng, ap_call, ap_callD, ap_meth, ap_meth0, ap_lc, ap_wipe0, ap_wipe, ap_fin, ap_noX, ap_some, Res.bind_ok, Res.bnd_ok, List.set_cons_succ, List.set_cons_zero, Option.bind_some, d_q2, d_i2, q_qA, s_lst, s_fix, s_tup, s_ktp, q_lst, q_tup, l_lst, l_fix, l_tup, d_lt, d_le, d_gt, d_ge, d_sub, d_add, d_eqi, d_nei, d_isn, d_nisn, n_non, n_int, n_str, x_max2, x_min2, decide_true, decide_false, if_true, ↓reduceIte, Bool.false_eq_true, Nat.reduceLeDiff, ap_esl, ap_onone, ap_osome, ap_maxDf, ap_par3, ap_V11, ap_V12, ap_V13, sl_lst', sl_tup', ap_lsth, z, ap_sl3, d_neg, sd, go, sFrz, eFrz, fz, ap_frzO, ap_make, mk]
end
theorem repr_opt {r : Option Int} (h : ∀ b, r = some b → 0 ≤ b ∧ b ≤ 1000000000000) : ∃ s, dRepr [optN r] = some (.str s) := by
  cases r with
  | none => exact ⟨"None", rfl⟩
  | some b =>
    obtain ⟨h0, h1⟩ := h b rfl
    refine ⟨toString b, if_pos ?_⟩
    by_cases z : b.natAbs = 0
    · rw [z]; decide
    · have : b.natAbs.log2 < 41 := (Nat.log2_lt z).mpr (by omega)
      omega
theorem toldF_nonneg {t : Tsk} {f : Nat → Int} : ∀ {n : Nat}, 0 ≤ toldF t f n
  | 0 => Int.le_refl _
  | n + 1 => by
    have := toldF_nonneg (t := t) (f := f) (n := n)
    show 0 ≤ max (toldF t f n) _
    omega
theorem BB.nonneg {A B : List Tsk} {t : Tsk} {c a G : Int} {b : Int} (h : BB A B t c a G (some b)) : 0 ≤ b := by
  obtain ⟨r, _, r2⟩ := h
  cases r with
  | none => cases r2
  | some T =>
    obtain ⟨f, _, e⟩ := r2
    cases e
    exact toldF_nonneg
theorem BB.due {A B : List Tsk} {t : Tsk} {c a G x : Int} {r : Option Int} (h : BB A B t c a G r) : BB A B { t with due := x } c a G r := by
  have e : gS A B { t with due := x } c a = gS A B t c a := by
    funext y
    unfold gS
    rw [List.map_append, List.map_append]
    rfl
  obtain ⟨s, s1, s2⟩ := h
  refine ⟨s, by rw [e]; exact s1, ?_⟩
  cases s with
  | none => exact s2
  | some T =>
    obtain ⟨f, f1, f2⟩ := s2
    refine ⟨f, f1, ?_⟩
    rw [f2]
    exact congrArg some (toldF_due (u := { t with due := x }) (t := t) rfl rfl rfl).symm
end Sm
set_option Elab.async false
set_option linter.all false
set_option maxRecDepth 100000
set_option maxHeartbeats 400000
open PySem PySem.Spec
namespace Sm
open L2 PySem.W
/-- spoils as the law draws them: none, or so far apart -/
def Sp (rs : List Tsk) (d : D) : Prop := d = .non ∨ ∃ far : Int, d = .int far ∧ (∀ t ∈ rs, t.most < far) ∧ far < 1000000000000000
theorem fin_some {due b y : Int} (h : fin' due (some b) = some y) : y = b ∧ b ≤ due := by
  change (if b ≤ due then some b else none) = some y at h
  by_cases q : b ≤ due
  · rw [if_pos q] at h
    cases h
    exact ⟨rfl, q⟩
  · rw [if_neg q] at h
    cases h
section
variable {A B : List Tsk} {t : Tsk} {S : Sto} {d : D}
theorem RW.changed {x : Int} (h : RW (A ++ t :: B)) (h1 : 1 ≤ x) (h2 : x ≤ t.gap) : RW (A ++ { t with due := x } :: B) := by
  refine ⟨fun u hu => ?_, ?_, ?_⟩
  · rcases List.mem_append.mp hu with hu | hu
    · exact h.th u (by simp [hu])
    · rcases List.mem_cons.mp hu with rfl | hu
      · obtain ⟨a, b⟩ := h.th t (by simp)
        exact ⟨⟨a.name, a.gap, a.most, ⟨h1, h2⟩, a.wait⟩, b⟩
      · exact h.th u (by simp [hu])
  · have := h.nu
    unfold Nu at this ⊢
    rw [List.pairwise_append] at this ⊢
    obtain ⟨a, b, c⟩ := this
    rw [List.pairwise_cons] at b ⊢
    refine ⟨a, ⟨b.1, b.2⟩, fun y hy z hz => ?_⟩
    rcases List.mem_cons.mp hz with rfl | hz
    · exact c y hy t (by simp)
    · exact c y hy z (by simp [hz])
  · have := h.ord
    rw [List.pairwise_append] at this ⊢
    obtain ⟨a, b, c⟩ := this
    rw [List.pairwise_cons] at b ⊢
    refine ⟨a, ⟨b.1, b.2⟩, fun y hy z hz => ?_⟩
    rcases List.mem_cons.mp hz with rfl | hz
    · exact c y hy t (by simp)
    · exact c y hy z (by simp [hz])
/-- the program's bound and the law's -/
theorem both (h : RW (A ++ t :: B)) (hl : (A ++ t :: B).length ≤ 8) (hd : Sp (A ++ t :: B) d) (hf : Flat S) :
    ∃ res : Option Int, (∀ b, res = some b → 0 ≤ b) ∧ m_bus_bound [busD (A ++ t :: B), .str t.name, d] S = .ok (optN (fin' t.due res)) S ∧ m__law_bus_bound [.lst ((A ++ t :: B).map encR), .int (A.length : Nat), d] S = .ok (optN (fin' t.due res)) S ∧
      ∀ x, 1 ≤ x → x ≤ t.gap → m_bus_bound [busD (A ++ { t with due := x } :: B), .str t.name, d] S = .ok (optN (fin' x res)) S := by
  have hT := h.tame
  have hP := h.pl (by omega)
  obtain ⟨cm, _, hm⟩ := max_ints (l := (A ++ [t]).map fun u => u.most) (by simp)
  obtain ⟨G, _, hG⟩ := max_ints (l := (A ++ t :: B).map fun u => u.gap) (by simp)
  obtain ⟨u, hu, eu⟩ := List.mem_map.mp hm.1
  have hu2 : u ∈ A ++ t :: B := by
    rcases List.mem_append.mp hu with h | h
    · simp [h]
    · simp at h; simp [h]
  have cm2 : cm < 1000000000000000 := by
    have := (h.th u hu2).1.most.2
    omega
  obtain ⟨v, hv, ev⟩ := List.mem_map.mp hG.1
  have hG2 : G ≤ 1000000000000 := by
    have := (h.th v hv).1.gap.2
    omega
  obtain ⟨c, a, hs, ha⟩ : ∃ c a, Spl cm d c a ∧ a < 1000000000000000 := by
    rcases hd with rfl | ⟨far, rfl, h1, h2⟩
    · exact ⟨0, 1, .no, by omega⟩
    · have := h1 u hu2
      exact ⟨cm, far, .yes (by omega) (by omega), h2⟩
  obtain ⟨res, bb, e1⟩ := bus_bound (S := S) hP hT hs hm hG hG2 hf
  refine ⟨res, fun b hb => ?_, e1, law_bound hP hT hs hm cm2 ha hG hG2 bb, fun x x1 x2 => ?_⟩
  · subst hb
    exact bb.nonneg
  · have h' := h.changed x1 x2
    have hl' : (A ++ { t with due := x } :: B).length ≤ 8 := by simpa using hl
    have hm' : IsMax ((A ++ [{ t with due := x }]).map fun u : Tsk => u.most) cm := by
      have e : (A ++ [{ t with due := x }]).map (fun u : Tsk => u.most) = (A ++ [t]).map fun u => u.most := by rw [List.map_append, List.map_append]; rfl
      rw [e]; exact hm
    have hG' : IsMax ((A ++ { t with due := x } :: B).map fun u : Tsk => u.gap) G := by
      have e : (A ++ { t with due := x } :: B).map (fun u : Tsk => u.gap) = (A ++ t :: B).map fun u => u.gap := by rw [List.map_append, List.map_append]; rfl
      rw [e]; exact hG
    obtain ⟨res2, bb2, e2⟩ := bus_bound (S := S) (h'.pl (by omega)) h'.tame hs hm' hG' hG2 hf
    have er := bb2.uniq bb.due
    subst er
    exact e2
theorem same_str {s : Str} : dNe (.str s) (.str s) = some (.bl false) := by
  show some (D.bl (xor true (decide (s = s)))) = _
  simp
end
end Sm
set_option Elab.async false
set_option linter.all false
set_option maxRecDepth 100000
set_option maxHeartbeats 400000
open PySem PySem.Spec
namespace Sm
open L2 PySem.W
section
variable {p : Nat} {b : Int} {S : Sto}
theorem row_step {i : Nat} {many wide late : Int} {nm : Str} {us : List Tsk} {x6 x7 x8 x9 x10 : Option D} (h : QT p b S) (hb : b < 100000000) (hw : 1 ≤ wide) (hw2 : wide ≤ 1000) (hl1 : 1 ≤ late) (hl2 : late ≤ 1000) (hn : Nm nm) (hp : i ≠ p) (g : S[i]? = some (.lst (us.map encU))) (hl : us.length < 1000) :
    ∃ (t : Tsk) (S' : Sto) (x6' x7' x8' x9' x10' : Option D), (sSeq (sSet 6 (eOp (q2 dAdd) (eC (.int 1)) (eCall m__law_draw 2 (aCons (eV 0) (aCons (eC (.int 4)) aNil))))) (sSeq (sSet 7 (eOp (q2 dAdd) (eV 2) (eCall m__law_draw 2 (aCons (eV 0) (aCons (eV 2) aNil))))) (sSeq (sSet 8 (eCall m__law_pick 2 (aCons (eV 0) (aCons (eLst (aCons (eOp (q2 dAdd) (eV 6) (eCall m__law_draw 2 (aCons (eV 0) (aCons (eV 2) aNil)))) (aCons (eV 7) (aCons (eOp (q2 dAdd) (eC (.int 1)) (eCall m__law_draw 2 (aCons (eV 0) (aCons (eC (.int 9)) aNil)))) aNil)))) aNil)))) (sSeq (sSet 9 (eCall m__law_pick 2 (aCons (eV 0) (aCons (eLst (aCons (eV 8) (aCons (eV 8) (aCons (eOp (q2 dAdd) (eC (.int 1)) (eCall m__law_draw 2 (aCons (eV 0) (aCons (eV 8) aNil)))) aNil)))) aNil)))) (sSeq (sSet 10 (eCall m__law_pick 2 (aCons (eV 0) (aCons (eLst (aCons (eC (.int 0)) (aCons (eCall m__law_draw 2 (aCons (eV 0) (aCons (eV 3) aNil))) (aCons (eCall m__law_draw 2 (aCons (eV 0) (aCons (eV 8) aNil))) aNil)))) aNil)))) (sDrop (eBm "list" (mLst lApp) (eV 4) (aCons (eTup (aCons (eV 5) (aCons (eV 8) (aCons (eV 6) (aCons (eV 9) (aCons (eV 10) (aCons (eTup aNil) aNil))))))) aNil)))))))) [some (.hnd p), some (.int many), some (.int wide), some (.int late), some (.hnd i), some (.str nm), x6, x7, x8, x9, x10] S
      = .ok (.nx [some (.hnd p), some (.int many), some (.int wide), some (.int late), some (.hnd i), some (.str nm), x6', x7', x8', x9', x10']) S' ∧ Th t ∧ t.name = nm ∧ QT p (b + 10) S' ∧ S'[i]? = some (.lst ((us ++ [t]).map encU)) ∧ S'.length = S.length ∧ ∀ j, j ≠ p → j ≠ i → S'[j]? = S[j]? := by
  obtain ⟨r1, S1, e1, a1, b1, q1, o1⟩ := drawT h (by omega) (many := 4) (by omega) (by omega)
  obtain ⟨r2, S2, e2, a2, b2, qq2, o2⟩ := drawT q1 (by omega) (many := wide) (by omega) (by omega)
  obtain ⟨r3, S3, e3, a3, b3, q3, o3⟩ := drawT qq2 (by omega) (many := wide) (by omega) (by omega)
  obtain ⟨r4, S4, e4, a4, b4, q4, o4⟩ := drawT q3 (by omega) (many := 9) (by omega) (by omega)
  obtain ⟨db, S5, e5, hd, q5, o5⟩ := law_pick (ds := [.int (1 + r1 + r3), .int (wide + r2), .int (1 + r4)]) q4 (by omega) (by simp) (by simp)
  obtain ⟨bt, rfl, bt1, bt2⟩ : ∃ bt : Int, db = .int bt ∧ 1 ≤ bt ∧ bt ≤ 3000 := by
    simp only [List.mem_cons, List.not_mem_nil, or_false] at hd
    rcases hd with rfl | rfl | rfl <;> exact ⟨_, rfl, by omega, by omega⟩
  obtain ⟨r6, S6, e6, a6, b6, q6, o6⟩ := drawT q5 (by omega) (many := bt) (by omega) (by omega)
  obtain ⟨dw, S7, e7, hd2, q7, o7⟩ := law_pick (ds := [.int bt, .int bt, .int (1 + r6)]) q6 (by omega) (by simp) (by simp)
  obtain ⟨ow, rfl, ow1, ow2⟩ : ∃ ow : Int, dw = .int ow ∧ 1 ≤ ow ∧ ow ≤ bt := by
    simp only [List.mem_cons, List.not_mem_nil, or_false] at hd2
    rcases hd2 with rfl | rfl | rfl <;> exact ⟨_, rfl, by omega, by omega⟩
  obtain ⟨r8, S8, e8, a8, b8, q8, o8⟩ := drawT q7 (by omega) (many := late) (by omega) (by omega)
  obtain ⟨r9, S9, e9, a9, b9, q9, o9⟩ := drawT q8 (by omega) (many := bt) (by omega) (by omega)
  obtain ⟨dl, S10, e10, hd3, q10, o10⟩ := law_pick (ds := [.int 0, .int r8, .int r9]) q9 (by omega) (by simp) (by simp)
  obtain ⟨lt, rfl, hlt⟩ : ∃ lt : Int, dl = .int lt ∧ 0 ≤ lt ∧ lt ≤ 1000000000000 := by
    simp only [List.mem_cons, List.not_mem_nil, or_false] at hd3
    rcases hd3 with rfl | rfl | rfl <;> exact ⟨_, rfl, by omega, by omega⟩
  have off : Off p S S10 := ((((((((o1.trans o2).trans o3).trans o4).trans o5).trans o6).trans o7).trans o8).trans o9).trans o10
  let t : Tsk := ⟨nm, 0, bt, 1 + r1, ow, lt⟩
  have g6 : S10[i]? = some (.lst (us.map encU)) := by rw [off.2 i hp]; exact g
  have ty := isTy_lst g6
  have app := app_lst (y := encU t) g6 (by rw [List.length_map]; omega)
  have em : us.map encU ++ [encU t] = (us ++ [t]).map encU := by rw [List.map_append]; rfl
  rw [em] at app
  have hi := (List.getElem?_eq_some_iff.mp g6).1
  refine ⟨t, S10.set i (.lst ((us ++ [t]).map encU)), some (.int (1 + r1)), some (.int (wide + r2)), some (.int bt), some (.int ow), some (.int lt), ?_, ⟨hn, ⟨bt1, by show bt ≤ _; omega⟩, ⟨by show 1 ≤ 1 + r1; omega, by show 1 + r1 ≤ _; omega⟩, ⟨ow1, ow2⟩, hlt⟩, rfl, (q10.set lim_Us hp).mono (by omega), List.getElem?_set_self hi, by rw [List.length_set]; exact off.1, fun j j1 j2 => by rw [List.getElem?_set_ne (Ne.symm j2), off.2 j j1]⟩
  have et : D.tup [.str nm, .int bt, .int (1 + r1), .int ow, .int lt, .tup []] = encU t := rfl
  generalize encU t = TT at *
  generalize (us ++ [t]).map encU = YY at *
  simp only [ap_fnK, List.map_cons, List.map_nil, List.length_cons, List.length_nil, Nat.reduceAdd, Nat.reduceSub, List.replicate, List.cons_append, List.nil_append, ap_next, ap_seq, ap_drop, ap_ret, ap_if, ap_name, ap_nil, ap_cons, ap_tup, ap_asg, ap_for, ap_V0, ap_V1, ap_V2, ap_V3, ap_V4, ap_V5, ap_V6, ap_V7, ap_V8, ap_V9, ap_V10, ap_C, ap_op, ap_un, ap_ar, ap_tB, ap_tand, ap_tor, ap_tnot, ap_tyes, ap_and, ap_or, ap_eif, ap_anil, ap_acons, ap_etup, ap_elst, ap_ait, ap_arng, ap_call, ap_callD, ap_meth, ap_meth0, ap_lc, ap_wipe0, ap_wipe, ap_fin, ap_noX, ap_some, Res.bind_ok, Res.bnd_ok, List.set_cons_succ, List.set_cons_zero, Option.bind_some, d_q2, d_i2, q_qA, s_lst, s_fix, s_tup, s_ktp, q_lst, q_tup, l_lst, l_fix, l_tup, d_lt, d_le, d_gt, d_ge, d_sub, d_add, d_eqi, d_nei, d_isn, d_nisn, n_non, n_int, n_str, x_max2, x_min2, decide_true, decide_false, if_true, ↓reduceIte, Bool.false_eq_true, Nat.reduceLeDiff, ap_esl, ap_onone, ap_osome, ap_maxDf, ap_par3, ap_V11, ap_V12, ap_V13, sl_lst', sl_tup', e1, e2, e3, e4, e5, e6, e7, e8, e9, e10, ap_bm, ty, et, app]
theorem law_rows (h : QT p b S) (hb : b < 1000000) {many wide late : Int} (hm : 1 ≤ many) (hm2 : many ≤ 8) (hw : 1 ≤ wide) (hw2 : wide ≤ 1000) (hl1 : 1 ≤ late) (hl2 : late ≤ 1000) :
    ∃ (R : List Tsk) (S' : Sto), m__law_rows [.hnd p, .int many, .int wide, .int late] S = .ok (.lst (R.map encR)) S' ∧ RW R ∧ R.length = many.toNat ∧ QT p (b + 200) S' ∧ Off p S S' := by
  have hp := h.lt
  have h0 : QT p b (S ++ [.lst []]) := h.app rfl
  obtain ⟨nm, S2, e2, nl, nok, npw, qq2, o2⟩ := law_names h0 (by omega) (w := many) (by omega) (by omega)
  have g2 : S2[S.length]? = some (.lst []) := by rw [o2.2 _ (by omega)]; simp
  have of2 : Offs p S S2 := Offs.trans .app o2.offs
  obtain ⟨env', S3, go, k, us, x5, x6, x7, x8, x9, x10, rfl, hk, hnm, hth, q3, g3, of3⟩ := forGo_inv (g := vName 5) (b := (sSeq (sSet 6 (eOp (q2 dAdd) (eC (.int 1)) (eCall m__law_draw 2 (aCons (eV 0) (aCons (eC (.int 4)) aNil))))) (sSeq (sSet 7 (eOp (q2 dAdd) (eV 2) (eCall m__law_draw 2 (aCons (eV 0) (aCons (eV 2) aNil))))) (sSeq (sSet 8 (eCall m__law_pick 2 (aCons (eV 0) (aCons (eLst (aCons (eOp (q2 dAdd) (eV 6) (eCall m__law_draw 2 (aCons (eV 0) (aCons (eV 2) aNil)))) (aCons (eV 7) (aCons (eOp (q2 dAdd) (eC (.int 1)) (eCall m__law_draw 2 (aCons (eV 0) (aCons (eC (.int 9)) aNil)))) aNil)))) aNil)))) (sSeq (sSet 9 (eCall m__law_pick 2 (aCons (eV 0) (aCons (eLst (aCons (eV 8) (aCons (eV 8) (aCons (eOp (q2 dAdd) (eC (.int 1)) (eCall m__law_draw 2 (aCons (eV 0) (aCons (eV 8) aNil)))) aNil)))) aNil)))) (sSeq (sSet 10 (eCall m__law_pick 2 (aCons (eV 0) (aCons (eLst (aCons (eC (.int 0)) (aCons (eCall m__law_draw 2 (aCons (eV 0) (aCons (eV 3) aNil))) (aCons (eCall m__law_draw 2 (aCons (eV 0) (aCons (eV 8) aNil))) aNil)))) aNil)))) (sDrop (eBm "list" (mLst lApp) (eV 4) (aCons (eTup (aCons (eV 5) (aCons (eV 8) (aCons (eV 6) (aCons (eV 9) (aCons (eV 10) (aCons (eTup aNil) aNil))))))) aNil)))))))))
    (fun k env S' => ∃ (k' : Nat) (us : List Tsk) (x5 x6 x7 x8 x9 x10 : Option D), env = [some (.hnd p), some (.int many), some (.int wide), some (.int late), some (.hnd S.length), x5, x6, x7, x8, x9, x10] ∧ k' = k ∧ us.map (fun t => t.name) = nm.take k ∧ (∀ t ∈ us, Th t) ∧ QT p (b + 20 + 10 * k) S' ∧ S'[S.length]? = some (.lst (us.map encU)) ∧ Offs p S S')
    (nm.map D.str) 0 [some (.hnd p), some (.int many), some (.int wide), some (.int late), some (.hnd S.length), none, none, none, none, none, none] S2 ⟨0, [], none, none, none, none, none, none, rfl, rfl, by simp, by simp, qq2.mono (by omega), g2, of2⟩ (fun k d env S' hk ⟨k', us, x5, x6, x7, x8, x9, x10, ee, ek, hnm, hth, q, g, of⟩ => by
      obtain ⟨x, hx, rfl⟩ : ∃ x, nm[k]? = some x ∧ d = .str x := by
        rw [List.getElem?_map] at hk
        obtain ⟨x, hx, e⟩ := Option.map_eq_some_iff.mp hk
        exact ⟨x, hx, e.symm⟩
      have hkl := (List.getElem?_eq_some_iff.mp hx).1
      rw [Nat.zero_add] at ek hnm q ⊢
      have ul : us.length = k := by
        have := congrArg List.length hnm
        rw [List.length_map, List.length_take] at this
        omega
      obtain ⟨t, S'', x6', x7', x8', x9', x10', go, ht, tn, q', g', l', of'⟩ := row_step (x6 := x6) (x7 := x7) (x8 := x8) (x9 := x9) (x10 := x10) (i := S.length) (many := many) (wide := wide) (late := late) (nm := x) q (by omega) hw hw2 hl1 hl2 (nok x (List.mem_of_getElem? hx)) (by omega) g (by omega)
      refine ⟨_, _, S'', rfl, ?_, k + 1, us ++ [t], some (.str x), x6', x7', x8', x9', x10', rfl, rfl, ?_, fun y hy => ?_, q'.mono (by omega), g', ⟨by rw [l']; exact of.1, fun j j1 j2 => by rw [of' j j1 (by omega)]; exact of.2 j j1 j2⟩⟩
      · rw [ee]
        exact go
      · rw [List.map_append, hnm, List.take_add_one, hx]
        simp [tn]
      · rcases List.mem_append.mp hy with h | h
        · exact hth y h
        · rw [List.mem_singleton.mp h]; exact ht)
  rw [Nat.zero_add, List.length_map] at hk hnm q3
  rw [List.take_length] at hnm
  have nu : Nu us := by
    have : (us.map fun t => t.name).Pairwise (· ≠ ·) := by rw [hnm]; exact npw
    exact List.pairwise_map.mp this
  have ul : us.length = nm.length := by rw [← hnm, List.length_map]
  have fz := frz_lst g3
  have q4 : QT p (b + 20 + 10 * nm.length) (S3.set S.length .dead) := q3.set rfl (by omega)
  obtain ⟨R, S5, e5, rw', rl, q5, o5⟩ := law_ranked q4 (by omega) (by omega) hth nu
  have of5 : Offs p S S5 := (of3.set (Nat.le_refl _)).trans o5.offs
  have rlen : R.length = many.toNat := by omega
  refine ⟨R, S5.take S.length, ?_, rw', rlen, (q5.mono (by omega)).take hp, of5.take⟩
  unfold m__law_rows
  rw [ap_fnT, ← cut_take q5.flat (d := .lst (R.map encR)) (lims fun _ _ => rfl) of5.1]
  congr 1
  have z : (0 : Nat) ≤ 16777216 := by omega
  generalize us.map encU = X at *
  generalize R.map encR = Y at *
  generalize nm.map D.str = N at *
  generalize sSeq (sSet 6 _) _ = BODY at *
  simp only [ap_fnK, List.map_cons, List.map_nil, List.length_cons, List.length_nil, Nat.reduceAdd, Nat.reduceSub, List.replicate, List.cons_append, List.nil_append, ap_next, ap_seq, ap_drop, ap_ret, ap_if, ap_name, ap_nil, ap_cons, ap_tup, ap_asg, ap_for, ap_V0, ap_V1, ap_V2, ap_V3, ap_V4, ap_V5, ap_V6, ap_V7, ap_V8, ap_V9, ap_V10, ap_C, ap_op, ap_un, ap_ar, ap_tB, ap_tand, ap_tor, ap_tnot, ap_tyes, ap_and, ap_or, ap_eif, ap_anil, ap_acons, ap_etup, ap_elst, ap_ait, ap_arng, ap_call, ap_callD, ap_meth, ap_meth0, ap_lc, ap_wipe0, ap_wipe, ap_fin, ap_noX, ap_some, Res.bind_ok, Res.bnd_ok, List.set_cons_succ, List.set_cons_zero, Option.bind_some, d_q2, d_i2, q_qA, s_lst, s_fix, s_tup, s_ktp, q_lst, q_tup, l_lst, l_fix, l_tup, d_lt, d_le, d_gt, d_ge, d_sub, d_add, d_eqi, d_nei, d_isn, d_nisn, n_non, n_int, n_str, x_max2, x_min2, decide_true, decide_false, if_true, ↓reduceIte, Bool.false_eq_true, Nat.reduceLeDiff, ap_esl, ap_onone, ap_osome, ap_maxDf, ap_par3, ap_V11, ap_V12, ap_V13, sl_lst', sl_tup', ap_lsth, z, e2, go, sFrz, eFrz, fz, e5]
end
end Sm
set_option Elab.async false
set_option linter.all false
set_option maxRecDepth 100000
set_option maxHeartbeats 400000
open PySem PySem.Spec
namespace Sm
open L2 PySem.W
@[simp] theorem ap_cutx {S : Sto} {C : Str} {ns : List Str} {ds : List D} : cutR S.length (.exc C ns ds S) = .exc C ns ds S := if_pos (Nat.le_refl _)
theorem try_exc {sv : SV} {hs : List ClV} {env : Env} {C : Str} {ns : List Str} {ds : List D} {S S' : Sto} (h : sv env S = .exc C ns ds S') : sTry sv hs env S = hGo hs C ns ds env S' := by unfold sTry; rw [h]
@[simp] theorem ap_callP {ev : List D → Sto → Res D} {n m : Nat} {pi : List Nat} {a ak : AV} {env : Env} {S : Sto} : eCallP ev n m pi a ak env S = (a env S).bnd (tg fun ds S1 => (ak env S1).bnd (tg fun es S2 => if ds.length = n ∧ es.length = m ∧ (pk pi es).length = pi.length then ev (ds ++ pk pi es) S2 else .bad)) := (rfl)
section
variable {L : List Tsk} {S : Sto} {z : Str}
theorem Bus_message_no (hz : ∀ t ∈ L, t.name ≠ z) : m_Bus_message [busD L, .str z] S = .exc "NoTask" ["name"] [.str z] S := by
  have k : lookK (nk L) (L.map encT) (.inr z) = none := by
    induction L with
    | nil => rfl
    | cons t L ih =>
      show (if (Sum.inr t.name : Key) = .inr z then some (encT t) else lookK (nk L) (L.map encT) (.inr z)) = none
      rw [if_neg (fun q => hz t (by simp) (Sum.inr.inj q))]
      exact ih fun u hu => hz u (by simp [hu])
  have d1 : dInS true (.str z) (.dic (nk L) (L.map encT)) S = .ok (.bl true) S := by
    simp [dInS, dicOf, DV.get, D.key, k]
  unfold m_Bus_message
  rw [ap_fnT]
  have ft : fldD ["Bus"] "_messages" (busD L) S = .ok (.dic (nk L) (L.map encT)) S := f_msgs
  generalize busD L = P at *
  generalize L.map encT = X at *
  simp only [ap_fnK, List.map_cons, List.map_nil, List.length_cons, List.length_nil, Nat.reduceAdd, Nat.reduceSub, List.replicate, List.cons_append, List.nil_append, ap_next, ap_seq, ap_drop, ap_ret, ap_if, ap_name, ap_nil, ap_cons, ap_tup, ap_asg, ap_for, ap_V0, ap_V1, ap_V2, ap_V3, ap_V4, ap_V5, ap_V6, ap_V7, ap_V8, ap_V9, ap_V10, ap_C, ap_op, ap_un, ap_ar, ap_tB, ap_tand, ap_tor, ap_tnot, ap_tyes, ap_and, ap_or, ap_eif, ap_anil, ap_acons, ap_etup, ap_elst, ap_ait, ap_arng, ap_call, ap_callD, ap_meth, ap_meth0, ap_lc, ap_wipe0, ap_wipe, ap_fin, ap_noX, ap_some, Res.bind_ok, Res.bnd_ok, List.set_cons_succ, List.set_cons_zero, Option.bind_some, d_q2, d_i2, q_qA, s_lst, s_fix, s_tup, s_ktp, q_lst, q_tup, l_lst, l_fix, l_tup, d_lt, d_le, d_gt, d_ge, d_sub, d_add, d_eqi, d_nei, d_isn, d_nisn, n_non, n_int, n_str, x_max2, x_min2, decide_true, decide_false, if_true, ↓reduceIte, Bool.false_eq_true, Nat.reduceLeDiff, ft, d1, ap_raise, bnd_exc, ap_cutx]
theorem bus_bound_no (hz : ∀ t ∈ L, t.name ≠ z) {d : D} : m_bus_bound [busD L, .str z, d] S = .exc "NoTask" ["name"] [.str z] S := by
  have pn := Bus_message_no (S := S) hz
  have ic : isC "Bus" "message" (busD L) S = true := isC_B (by decide)
  unfold m_bus_bound
  rw [ap_fnT]
  generalize busD L = P at *
  simp only [ap_fnK, List.map_cons, List.map_nil, List.length_cons, List.length_nil, Nat.reduceAdd, Nat.reduceSub, List.replicate, List.cons_append, List.nil_append, ap_next, ap_seq, ap_drop, ap_ret, ap_if, ap_name, ap_nil, ap_cons, ap_tup, ap_asg, ap_for, ap_V0, ap_V1, ap_V2, ap_V3, ap_V4, ap_V5, ap_V6, ap_V7, ap_V8, ap_V9, ap_V10, ap_C, ap_op, ap_un, ap_ar, ap_tB, ap_tand, ap_tor, ap_tnot, ap_tyes, ap_and, ap_or, ap_eif, ap_anil, ap_acons, ap_etup, ap_elst, ap_ait, ap_arng, ap_call, ap_callD, ap_meth, ap_meth0, ap_lc, ap_wipe0, ap_wipe, ap_fin, ap_noX, ap_some, Res.bind_ok, Res.bnd_ok, List.set_cons_succ, List.set_cons_zero, Option.bind_some, d_q2, d_i2, q_qA, s_lst, s_fix, s_tup, s_ktp, q_lst, q_tup, l_lst, l_fix, l_tup, d_lt, d_le, d_gt, d_ge, d_sub, d_add, d_eqi, d_nei, d_isn, d_nisn, n_non, n_int, n_str, x_max2, x_min2, decide_true, decide_false, if_true, ↓reduceIte, Bool.false_eq_true, Nat.reduceLeDiff, ic, pn, bnd_exc, ap_cutx]
theorem no_task (hz : ∀ t ∈ L, t.name ≠ z) : m__law_no_task [busD L, .str z] S = .ok (.bl true) S := by
  have bn := bus_bound_no (S := S) hz (d := .non)
  have nn : nons 1 = [.non] := rfl
  have body : (sDrop (eCallD m_bus_bound 2 (nons 1) (aCons (eV 0) (aCons (eV 1) aNil)))) [some (busD L), some (.str z), none] S = .exc "NoTask" ["name"] [.str z] S := by
    rw [nn]
    generalize busD L = P at *
    simp only [ap_fnK, List.map_cons, List.map_nil, List.length_cons, List.length_nil, Nat.reduceAdd, Nat.reduceSub, List.replicate, List.cons_append, List.nil_append, ap_next, ap_seq, ap_drop, ap_ret, ap_if, ap_name, ap_nil, ap_cons, ap_tup, ap_asg, ap_for, ap_V0, ap_V1, ap_V2, ap_V3, ap_V4, ap_V5, ap_V6, ap_V7, ap_V8, ap_V9, ap_V10, ap_C, ap_op, ap_un, ap_ar, ap_tB, ap_tand, ap_tor, ap_tnot, ap_tyes, ap_and, ap_or, ap_eif, ap_anil, ap_acons, ap_etup, ap_elst, ap_ait, ap_arng, ap_call, ap_callD, ap_meth, ap_meth0, ap_lc, ap_wipe0, ap_wipe, ap_fin, ap_noX, ap_some, Res.bind_ok, Res.bnd_ok, List.set_cons_succ, List.set_cons_zero, Option.bind_some, d_q2, d_i2, q_qA, s_lst, s_fix, s_tup, s_ktp, q_lst, q_tup, l_lst, l_fix, l_tup, d_lt, d_le, d_gt, d_ge, d_sub, d_add, d_eqi, d_nei, d_isn, d_nisn, n_non, n_int, n_str, x_max2, x_min2, decide_true, decide_false, if_true, ↓reduceIte, Bool.false_eq_true, Nat.reduceLeDiff, bn, bnd_exc]
  have te := try_exc (hs := [⟨"NoTask", ["BadTask"], 2, fun ns ds => (sRet (eOp (q2 (eqF false)) (eXf ns ds "name") (eV 1)))⟩]) body
  have hg : hGo [⟨"NoTask", ["BadTask"], 2, fun ns ds => (sRet (eOp (q2 (eqF false)) (eXf ns ds "name") (eV 1)))⟩] "NoTask" ["name"] [.str z] [some (busD L), some (.str z), none] S = .ok (.rt (.bl (xor false (decide (z = z))))) S := rfl
  rw [hg] at te
  have ez : xor false (decide (z = z)) = true := by simp
  rw [ez] at te
  unfold m__law_no_task
  refine fnT_rt ?_ rfl
  generalize sTry _ _ = T at *
  simp only [ap_fnK, List.map_cons, List.map_nil, List.length_cons, List.length_nil, Nat.reduceAdd, Nat.reduceSub, List.replicate, List.cons_append, List.nil_append, ap_next, ap_seq, ap_drop, ap_ret, ap_if, ap_name, ap_nil, ap_cons, ap_tup, ap_asg, ap_for, ap_V0, ap_V1, ap_V2, ap_V3, ap_V4, ap_V5, ap_V6, ap_V7, ap_V8, ap_V9, ap_V10, ap_C, ap_op, ap_un, ap_ar, ap_tB, ap_tand, ap_tor, ap_tnot, ap_tyes, ap_and, ap_or, ap_eif, ap_anil, ap_acons, ap_etup, ap_elst, ap_ait, ap_arng, ap_call, ap_callD, ap_meth, ap_meth0, ap_lc, ap_wipe0, ap_wipe, ap_fin, ap_noX, ap_some, Res.bind_ok, Res.bnd_ok, List.set_cons_succ, List.set_cons_zero, Option.bind_some, d_q2, d_i2, q_qA, s_lst, s_fix, s_tup, s_ktp, q_lst, q_tup, l_lst, l_fix, l_tup, d_lt, d_le, d_gt, d_ge, d_sub, d_add, d_eqi, d_nei, d_isn, d_nisn, n_non, n_int, n_str, x_max2, x_min2, decide_true, decide_false, if_true, ↓reduceIte, Bool.false_eq_true, Nat.reduceLeDiff, te]
end
theorem at_place {rs : List Tsk} {S : Sto} {d : D} {k : Nat} (h : RW rs) (hl : rs.length ≤ 8) (hd : Sp rs d) (hf : Flat S) (hk : k < rs.length) :
    ∃ (x : Option Int) (s : Str) (t : Tsk), dIx (.lst (rs.map encR)) (.int (k : Nat)) = some (encR t) ∧ m_bus_bound [busD rs, .str t.name, d] S = .ok (optN x) S ∧ m__law_bus_bound [.lst (rs.map encR), .int (k : Nat), d] S = .ok (optN x) S ∧ dRepr [optN x] = some (.str s) := by
  have sp : rs = rs.take k ++ rs[k] :: rs.drop (k + 1) := by
    rw [← List.drop_eq_getElem_cons hk, List.take_append_drop]
  have lk : (rs.take k).length = k := by rw [List.length_take]; omega
  have h' := h
  have hl' := hl
  have hd' := hd
  rw [sp] at h' hl' hd'
  obtain ⟨res, nn, e1, e2, _⟩ := both h' hl' hd' hf
  rw [← sp] at e1 e2
  rw [lk] at e2
  obtain ⟨s, hs⟩ := repr_opt (r := fin' rs[k].due res) fun y hy => by
    have th := (h.th rs[k] (List.getElem_mem hk)).1
    have hdg := th.due.2
    have hgap := th.gap
    cases res with
    | none => cases hy
    | some b =>
      have := nn b rfl
      obtain ⟨rfl, _⟩ := fin_some hy
      exact ⟨by omega, by omega⟩
  exact ⟨_, s, rs[k], ix_lst (by rw [List.getElem?_map, List.getElem?_eq_getElem hk]; rfl), e1, e2, hs⟩
theorem same_str2 {s : Str} : dNe (.str s) (.str s) = some (.bl false) := same_str
theorem same_opt {x : Option Int} : dNe (optN x) (optN x) = some (.bl false) := by
  cases x with
  | none => rfl
  | some b =>
    show dNe (.int b) (.int b) = _
    rw [d_nei, decide_eq_true rfl]; rfl
theorem lc_most10 {env : Env} {l : List Tsk} {S : Sto} (he : 10 < env.length) : lcGo (vName 10) tvYes (eOp (q2 dIx) (eV 10) (eC (.int 3))) env (l.map encR) S = .ok ((l.map fun u => u.most).map D.int) S := by
  rw [List.map_map]
  refine lc_all (enc := encR) (f := D.int ∘ fun u => u.most) fun u hu => ⟨_, rfl, rfl, ?_⟩
  have e7 : eV 10 (env.set 10 (some (encR u))) S = .ok (encR u) S := by
    rw [ap_V, List.getElem?_set_self he]
  simp only [ap_fnK, List.map_cons, List.map_nil, List.length_cons, List.length_nil, Nat.reduceAdd, Nat.reduceSub, List.replicate, List.cons_append, List.nil_append, ap_next, ap_seq, ap_drop, ap_ret, ap_if, ap_name, ap_nil, ap_cons, ap_tup, ap_asg, ap_for, ap_V0, ap_V1, ap_V2, ap_V3, ap_V4, ap_V5, ap_V6, ap_V7, ap_V8, ap_V9, ap_V10, ap_C, ap_op, ap_un, ap_ar, ap_tB, ap_tand, ap_tor, ap_tnot, ap_tyes, ap_and, ap_or, ap_eif, ap_anil, ap_acons, ap_etup, ap_elst, ap_ait, ap_arng, ap_call, ap_callD, ap_meth, ap_meth0, ap_lc, ap_wipe0, ap_wipe, ap_fin, ap_noX, ap_some, Res.bind_ok, Res.bnd_ok, List.set_cons_succ, List.set_cons_zero, Option.bind_some, d_q2, d_i2, q_qA, s_lst, s_fix, s_tup, s_ktp, q_lst, q_tup, l_lst, l_fix, l_tup, d_lt, d_le, d_gt, d_ge, d_sub, d_add, d_eqi, d_nei, d_isn, d_nisn, n_non, n_int, n_str, x_max2, x_min2, decide_true, decide_false, if_true, ↓reduceIte, Bool.false_eq_true, Nat.reduceLeDiff, e7, r_3]
  rfl
theorem places {rs : List Tsk} {S : Sto} {d : D} {a0 a1 a2 a3 a6 a8 a9 a10 : Option D} (h : RW rs) (hl : rs.length ≤ 8) (hd : Sp rs d) (hf : Flat S) :
    ∃ c8 c9, forGo (vName 8) (sSeq (sSet 9 (eCall m__law_bus_bound 3 (aCons (eV 4) (aCons (eV 8) (aCons (eV 7) aNil))))) (sIf (tB' (eOp (q2 dNe) (eAr (qA dRepr) (aCons (eCallK m_bus_bound 2 1 (aCons (eV 5) (aCons (eOp (q2 dIx) (eOp (q2 dIx) (eV 4) (eV 8)) (eC (.int 0))) aNil)) (aCons (eV 7) aNil)) aNil)) (eAr (qA dRepr) (aCons (eV 9) aNil)))) (sRet (eC (.bl false))) sNext)) ((List.range rs.length).map fun i => D.int (0 + (i : Nat))) [a0, a1, a2, a3, some (.lst (rs.map encR)), some (busD rs), a6, some d, a8, a9, a10] S
      = .ok (.nx [a0, a1, a2, a3, some (.lst (rs.map encR)), some (busD rs), a6, some d, c8, c9, a10]) S := by
  obtain ⟨env', S', go, c8, c9, rfl, rfl⟩ := forGo_inv (g := vName 8) (b := (sSeq (sSet 9 (eCall m__law_bus_bound 3 (aCons (eV 4) (aCons (eV 8) (aCons (eV 7) aNil))))) (sIf (tB' (eOp (q2 dNe) (eAr (qA dRepr) (aCons (eCallK m_bus_bound 2 1 (aCons (eV 5) (aCons (eOp (q2 dIx) (eOp (q2 dIx) (eV 4) (eV 8)) (eC (.int 0))) aNil)) (aCons (eV 7) aNil)) aNil)) (eAr (qA dRepr) (aCons (eV 9) aNil)))) (sRet (eC (.bl false))) sNext)))
    (fun k env S' => ∃ c8 c9, env = [a0, a1, a2, a3, some (.lst (rs.map encR)), some (busD rs), a6, some d, c8, c9, a10] ∧ S' = S)
    ((List.range rs.length).map fun i => D.int (0 + (i : Nat))) 0 [a0, a1, a2, a3, some (.lst (rs.map encR)), some (busD rs), a6, some d, a8, a9, a10] S ⟨a8, a9, rfl, rfl⟩ (fun k dd env S' hk ⟨c8, c9, ee, es⟩ => by
      have kl := (List.getElem?_eq_some_iff.mp hk).1
      simp at kl
      have kd : dd = .int (k : Int) := by
        rw [List.getElem?_map] at hk
        obtain ⟨i, hi, e⟩ := Option.map_eq_some_iff.mp hk
        have : i = k := by
          obtain ⟨h1, h2⟩ := List.getElem?_eq_some_iff.mp hi
          simpa using h2.symm
        rw [← e, this, Int.zero_add]
      subst kd ee es
      obtain ⟨x, s, t, ix, e1, e2, hs⟩ := at_place h hl hd hf kl
      have ss := same_str (s := s)
      have r0 := r_0 (t := t)
      refine ⟨_, [a0, a1, a2, a3, some (.lst (rs.map encR)), some (busD rs), a6, some d, some (.int (k : Int)), some (optN x), a10], S', rfl, ?_, some (.int (k : Int)), some (optN x), rfl, rfl⟩
      generalize rs.map encR = X at *
      generalize busD rs = BD at *
      generalize encR t = TT at *
      generalize optN x = ON at *
      simp only [ap_fnK, List.map_cons, List.map_nil, List.length_cons, List.length_nil, Nat.reduceAdd, Nat.reduceSub, List.replicate, List.cons_append, List.nil_append, ap_next, ap_seq, ap_drop, ap_ret, ap_if, ap_name, ap_nil, ap_cons, ap_tup, ap_asg, ap_for, ap_V0, ap_V1, ap_V2, ap_V3, ap_V4, ap_V5, ap_V6, ap_V7, ap_V8, ap_V9, ap_V10, ap_C, ap_op, ap_un, ap_ar, ap_tB, ap_tand, ap_tor, ap_tnot, ap_tyes, ap_and, ap_or, ap_eif, ap_anil, ap_acons, ap_etup, ap_elst, ap_ait, ap_arng, ap_call, ap_callD, ap_meth, ap_meth0, ap_lc, ap_wipe0, ap_wipe, ap_fin, ap_noX, ap_some, Res.bind_ok, Res.bnd_ok, List.set_cons_succ, List.set_cons_zero, Option.bind_some, d_q2, d_i2, q_qA, s_lst, s_fix, s_tup, s_ktp, q_lst, q_tup, l_lst, l_fix, l_tup, d_lt, d_le, d_gt, d_ge, d_sub, d_add, d_eqi, d_nei, d_isn, d_nisn, n_non, n_int, n_str, x_max2, x_min2, decide_true, decide_false, if_true, ↓reduceIte, Bool.false_eq_true, Nat.reduceLeDiff, ap_esl, ap_onone, ap_osome, ap_maxDf, ap_par3, ap_V11, ap_V12, ap_V13, sl_lst', sl_tup', e2, ix, r0, ap_callK, and_self, e1, hs, ss])
  exact ⟨c8, c9, go⟩
/-- with these spoils -/
theorem spoils_step {p : Nat} {b : Int} {rs : List Tsk} {S : Sto} {d : D} {a0 a2 a6 a8 a9 a10 : Option D} (q : QT p b S) (hb : b < 100000) (h : RW rs) (h1 : 1 ≤ rs.length) (hl : rs.length ≤ 8) (hd : Sp rs d) :
    ∃ (S' : Sto) (c8 c9 : Option D), (sSeq (sFor (aRng dRng1 (aCons (eV 3) aNil)) (vName 8) (sSeq (sSet 9 (eCall m__law_bus_bound 3 (aCons (eV 4) (aCons (eV 8) (aCons (eV 7) aNil))))) (sIf (tB' (eOp (q2 dNe) (eAr (qA dRepr) (aCons (eCallK m_bus_bound 2 1 (aCons (eV 5) (aCons (eOp (q2 dIx) (eOp (q2 dIx) (eV 4) (eV 8)) (eC (.int 0))) aNil)) (aCons (eV 7) aNil)) aNil)) (eAr (qA dRepr) (aCons (eV 9) aNil)))) (sRet (eC (.bl false))) sNext))) (sSeq (sSet 8 (eCall m__law_draw 2 (aCons (eV 1) (aCons (eV 3) aNil)))) (sSeq (sSet 9 (eCall m__law_bus_bound 3 (aCons (eV 4) (aCons (eV 8) (aCons (eV 7) aNil))))) (sIf (tB' (eOp (q2 dNe) (eAr (qA dRepr) (aCons (eCallP m_bus_bound 0 3 [2, 1, 0] aNil (aCons (eV 7) (aCons (eOp (q2 dIx) (eOp (q2 dIx) (eV 4) (eV 8)) (eC (.int 0))) (aCons (eV 5) aNil)))) aNil)) (eAr (qA dRepr) (aCons (eV 9) aNil)))) (sRet (eC (.bl false))) sNext)))) [a0, some (.hnd p), a2, some (.int (rs.length : Nat)), some (.lst (rs.map encR)), some (busD rs), a6, some d, a8, a9, a10] S
      = .ok (.nx [a0, some (.hnd p), a2, some (.int (rs.length : Nat)), some (.lst (rs.map encR)), some (busD rs), a6, some d, c8, c9, a10]) S' ∧ QT p (b + 1) S' ∧ S'.length = S.length := by
  obtain ⟨c8, c9, go⟩ := places (a0 := a0) (a1 := some (.hnd p)) (a2 := a2) (a3 := some (.int (rs.length : Nat))) (a6 := a6) (a8 := a8) (a9 := a9) (a10 := a10) h hl hd q.flat
  obtain ⟨r, S1, e1, r0, r1, q1, o1⟩ := drawT q (by omega) (many := (rs.length : Nat)) (by omega) (by omega)
  obtain ⟨n, rfl⟩ := Int.eq_ofNat_of_zero_le r0
  obtain ⟨x, s, t, ix, e2, e3, hs⟩ := at_place h hl hd q1.flat (k := n) (by omega)
  have ss := same_str (s := s)
  have rr0 := r_0 (t := t)
  refine ⟨S1, some (.int (n : Int)), some (optN x), ?_, q1, o1.1⟩
  have rg := range_upto (w := (rs.length : Nat)) (by omega) (by omega)
  rw [Int.toNat_natCast] at rg
  have pk3 : ∀ {x y z : D}, pk [2, 1, 0] [x, y, z] = [z, y, x] := fun {x y z} => rfl
  generalize rs.map encR = X at *
  generalize busD rs = BD at *
  generalize encR t = TT at *
  generalize optN x = ON at *
  generalize (List.range rs.length).map (fun i => D.int (0 + (i : Nat))) = U at *
  generalize sSeq (sSet 9 (eCall m__law_bus_bound _ _)) (sIf (tB' (eOp (q2 dNe) (eAr (qA dRepr) (aCons (eCallK _ _ _ _ _) _)) _)) _ _) = BODY at *
  simp only [ap_fnK, List.map_cons, List.map_nil, List.length_cons, List.length_nil, Nat.reduceAdd, Nat.reduceSub, List.replicate, List.cons_append, List.nil_append, ap_next, ap_seq, ap_drop, ap_ret, ap_if, ap_name, ap_nil, ap_cons, ap_tup, ap_asg, ap_for, ap_V0, ap_V1, ap_V2, ap_V3, ap_V4, ap_V5, ap_V6, ap_V7, ap_V8, ap_V9, ap_V10, ap_C, ap_op, ap_un, ap_ar, ap_tB, ap_tand, ap_tor, ap_tnot, ap_tyes, ap_and, ap_or, ap_eif, ap_anil, ap_acons, ap_etup, ap_elst, ap_ait, ap_arng, ap_call, ap_callD, ap_meth, ap_meth0, ap_lc, ap_wipe0, ap_wipe, ap_fin, ap_noX, ap_some, Res.bind_ok, Res.bnd_ok, List.set_cons_succ, List.set_cons_zero, Option.bind_some, d_q2, d_i2, q_qA, s_lst, s_fix, s_tup, s_ktp, q_lst, q_tup, l_lst, l_fix, l_tup, d_lt, d_le, d_gt, d_ge, d_sub, d_add, d_eqi, d_nei, d_isn, d_nisn, n_non, n_int, n_str, x_max2, x_min2, decide_true, decide_false, if_true, ↓reduceIte, Bool.false_eq_true, Nat.reduceLeDiff, ap_esl, ap_onone, ap_osome, ap_maxDf, ap_par3, ap_V11, ap_V12, ap_V13, sl_lst', sl_tup', rg, go, e1, e3, ix, rr0, ap_callP, pk3, and_self, e2, hs, ss]
/-- a turn -/
theorem turn_step {p : Nat} {b turn : Int} {S : Sto} (h : QT p b S) (hb : b < 90000) {a0 a3 a4 a5 a6 a7 a8 a9 a10 : Option D} :
    ∃ (S' : Sto) (c3 c4 c5 c6 c7 c8 c9 c10 : Option D), (sSeq (sSet 3 (eOp (q2 dAdd) (eC (.int 1)) (eCall m__law_draw 2 (aCons (eV 1) (aCons (eC (.int 8)) aNil))))) (sSeq (sSet 4 (eCall m__law_rows 4 (aCons (eV 1) (aCons (eV 3) (aCons (eOp (q2 dIx) (eLst (aCons (eC (.int 8)) (aCons (eC (.int 20)) (aCons (eC (.int 50)) aNil)))) (eCall m__law_draw 2 (aCons (eV 1) (aCons (eC (.int 3)) aNil)))) (aCons (eOp (q2 dIx) (eLst (aCons (eC (.int 4)) (aCons (eC (.int 30)) aNil))) (eCall m__law_draw 2 (aCons (eV 1) (aCons (eC (.int 2)) aNil)))) aNil)))))) (sSeq (sSet 5 (eCall m__law_bus 1 (aCons (eV 4) aNil))) (sSeq (sSet 6 (eOp (q2 dAdd) (eC (.int 1)) (eAr (qA dMaxL) (aCons (eLc [10] (aIt dSeq (eV 4)) (vName 10) tvYes (eOp (q2 dIx) (eV 10) (eC (.int 3)))) aNil)))) (sSeq (sFor (aIt dSeq (eTup (aCons (eC .non) (aCons (eOp (q2 dAdd) (eV 6) (eCall m__law_draw 2 (aCons (eV 1) (aCons (eC (.int 3)) aNil)))) (aCons (eOp (q2 dAdd) (eV 6) (eCall m__law_draw 2 (aCons (eV 1) (aCons (eC (.int 60)) aNil)))) aNil))))) (vName 7) (sSeq (sFor (aRng dRng1 (aCons (eV 3) aNil)) (vName 8) (sSeq (sSet 9 (eCall m__law_bus_bound 3 (aCons (eV 4) (aCons (eV 8) (aCons (eV 7) aNil))))) (sIf (tB' (eOp (q2 dNe) (eAr (qA dRepr) (aCons (eCallK m_bus_bound 2 1 (aCons (eV 5) (aCons (eOp (q2 dIx) (eOp (q2 dIx) (eV 4) (eV 8)) (eC (.int 0))) aNil)) (aCons (eV 7) aNil)) aNil)) (eAr (qA dRepr) (aCons (eV 9) aNil)))) (sRet (eC (.bl false))) sNext))) (sSeq (sSet 8 (eCall m__law_draw 2 (aCons (eV 1) (aCons (eV 3) aNil)))) (sSeq (sSet 9 (eCall m__law_bus_bound 3 (aCons (eV 4) (aCons (eV 8) (aCons (eV 7) aNil))))) (sIf (tB' (eOp (q2 dNe) (eAr (qA dRepr) (aCons (eCallP m_bus_bound 0 3 [2, 1, 0] aNil (aCons (eV 7) (aCons (eOp (q2 dIx) (eOp (q2 dIx) (eV 4) (eV 8)) (eC (.int 0))) (aCons (eV 5) aNil)))) aNil)) (eAr (qA dRepr) (aCons (eV 9) aNil)))) (sRet (eC (.bl false))) sNext))))) (sIf (tvOr (tB' (eOp (q2 dNe) (eCallD m_bus_bound 2 (nons 1) (aCons (eV 5) (aCons (eOp (q2 dIx) (eOp (q2 dIx) (eV 4) (eC (.int 0))) (eC (.int 0))) aNil))) (eCall m__law_bus_bound 3 (aCons (eV 4) (aCons (eC (.int 0)) (aCons (eC .non) aNil)))))) (tvNot (tB' (eCall m__law_no_task 2 (aCons (eV 5) (aCons (eC (.str "zzzzzzzzzzzzz")) aNil)))))) (sRet (eC (.bl false))) sNext)))))) [a0, some (.hnd p), some (.int turn), a3, a4, a5, a6, a7, a8, a9, a10] S
      = .ok (.nx [a0, some (.hnd p), some (.int turn), c3, c4, c5, c6, c7, c8, c9, c10]) S' ∧ QT p (b + 300) S' ∧ S'.length = S.length := by
  obtain ⟨r1, S1, e1, a1', b1, q1, o1⟩ := drawT h (by omega) (many := 8) (by omega) (by omega)
  obtain ⟨r2, S2, e2, a2', b2, qq2, o2⟩ := drawT q1 (by omega) (many := 3) (by omega) (by omega)
  obtain ⟨wide, hw, ix1⟩ := three_ints (x := 8) (y := 20) (z := 50) a2' b2
  obtain ⟨r3, S3, e3, a3', b3, q3, o3⟩ := drawT qq2 (by omega) (many := 2) (by omega) (by omega)
  obtain ⟨late, hlt, ix2⟩ : ∃ v : Int, (v = 4 ∨ v = 30) ∧ dIx (.lst [.int 4, .int 30]) (.int r3) = some (.int v) := by
    have : r3 = 0 ∨ r3 = 1 := by omega
    rcases this with rfl | rfl
    · exact ⟨4, .inl rfl, ix_lst (n := 0) rfl⟩
    · exact ⟨30, .inr rfl, ix_lst (n := 1) rfl⟩
  obtain ⟨rs, S4, e4, rw1, rl, q4, o4⟩ := law_rows q3 (by omega) (many := 1 + r1) (wide := wide) (late := late) (by omega) (by omega) (by omega) (by omega) (by omega) (by omega)
  have el : (1 + r1 : Int) = (rs.length : Nat) := by omega
  have hl : rs.length ≤ 8 := by omega
  have h1 : 1 ≤ rs.length := by omega
  have lb := law_bus (S := S4) rw1 hl q4.flat
  obtain ⟨mm, x1, y1⟩ := max_ints (l := rs.map fun u => u.most) (by
    intro e
    have := congrArg List.length e
    rw [List.length_map] at this
    simp at this
    rw [this] at h1
    simp at h1)
  obtain ⟨u, hu, eu⟩ := List.mem_map.mp y1.1
  have hmu := (rw1.th u hu).1.most
  obtain ⟨r5, S5, e5, a5', b5, q5, o5⟩ := drawT q4 (by omega) (many := 3) (by omega) (by omega)
  obtain ⟨r6, S6, e6, a6', b6, q6, o6⟩ := drawT q5 (by omega) (many := 60) (by omega) (by omega)
  have spf : ∀ v : Int, 0 ≤ v → v < 100 → Sp rs (.int (1 + mm + v)) := fun v v0 v1 => .inr ⟨_, rfl, fun t ht => by
    have := y1.2 t.most (List.mem_map.mpr ⟨t, ht, rfl⟩)
    omega, by omega⟩
  obtain ⟨S7, c8, c9, g7, q7, l7⟩ := spoils_step (a0 := a0) (a2 := some (.int turn)) (a6 := some (.int (1 + mm))) (a8 := a8) (a9 := a9) (a10 := a10) q6 (by omega) rw1 h1 hl (.inl rfl)
  obtain ⟨S8, d8, d9, g8, q8, l8⟩ := spoils_step (a0 := a0) (a2 := some (.int turn)) (a6 := some (.int (1 + mm))) (a8 := c8) (a9 := c9) (a10 := a10) q7 (by omega) rw1 h1 hl (spf r5 a5' (by omega))
  obtain ⟨S9, f8, f9, g9, q9, l9⟩ := spoils_step (a0 := a0) (a2 := some (.int turn)) (a6 := some (.int (1 + mm))) (a8 := d8) (a9 := d9) (a10 := a10) q8 (by omega) rw1 h1 hl (spf r6 a6' (by omega))
  obtain ⟨x, s, t, ix, e7, e8, hs⟩ := at_place rw1 hl (.inl rfl) q9.flat (k := 0) (by omega)
  have so := same_opt (x := x)
  have rr0 := r_0 (t := t)
  have nt := no_task (S := S9) (L := rs) (z := "zzzzzzzzzzzzz") fun t ht e => by
    have := (rw1.th t ht).1.name.2.1
    rw [e] at this
    exact absurd this (by decide)
  refine ⟨S9, some (.int (1 + r1)), some (.lst (rs.map encR)), some (busD rs), some (.int (1 + mm)), some (.int (1 + mm + r6)), f8, f9, a10, ?_, q9.mono (by omega), by rw [l9, l8, l7, o6.1, o5.1, o4.1, o3.1, o2.1, o1.1]⟩
  have lc : ∀ x6, lcGo (vName 10) tvYes (eOp (q2 dIx) (eV 10) (eC (.int 3))) [a0, some (.hnd p), some (.int turn), some (.int (1 + r1)), some (.lst (rs.map encR)), some (busD rs), x6, a7, a8, a9, none] (rs.map encR) S4 = .ok ((rs.map fun u => u.most).map D.int) S4 := fun x6 => lc_most10 (by simp)
  have ll : ((rs.map fun u => u.most).map D.int).length ≤ 16777216 := by rw [List.length_map, List.length_map]; omega
  have z3 : 0 + 1 + 1 + 1 ≤ 16777216 := by omega
  have nn : nons 1 = [.non] := rfl
  rw [← el] at g7 g8 g9
  change dIx _ (.int 0) = _ at ix
  change m__law_bus_bound [_, .int 0, _] _ = _ at e8
  have go3 : forGo (vName 7) (sSeq (sFor (aRng dRng1 (aCons (eV 3) aNil)) (vName 8) (sSeq (sSet 9 (eCall m__law_bus_bound 3 (aCons (eV 4) (aCons (eV 8) (aCons (eV 7) aNil))))) (sIf (tB' (eOp (q2 dNe) (eAr (qA dRepr) (aCons (eCallK m_bus_bound 2 1 (aCons (eV 5) (aCons (eOp (q2 dIx) (eOp (q2 dIx) (eV 4) (eV 8)) (eC (.int 0))) aNil)) (aCons (eV 7) aNil)) aNil)) (eAr (qA dRepr) (aCons (eV 9) aNil)))) (sRet (eC (.bl false))) sNext))) (sSeq (sSet 8 (eCall m__law_draw 2 (aCons (eV 1) (aCons (eV 3) aNil)))) (sSeq (sSet 9 (eCall m__law_bus_bound 3 (aCons (eV 4) (aCons (eV 8) (aCons (eV 7) aNil))))) (sIf (tB' (eOp (q2 dNe) (eAr (qA dRepr) (aCons (eCallP m_bus_bound 0 3 [2, 1, 0] aNil (aCons (eV 7) (aCons (eOp (q2 dIx) (eOp (q2 dIx) (eV 4) (eV 8)) (eC (.int 0))) (aCons (eV 5) aNil)))) aNil)) (eAr (qA dRepr) (aCons (eV 9) aNil)))) (sRet (eC (.bl false))) sNext)))) [.non, .int (1 + mm + r5), .int (1 + mm + r6)] [a0, some (.hnd p), some (.int turn), some (.int (1 + r1)), some (.lst (rs.map encR)), some (busD rs), some (.int (1 + mm)), a7, a8, a9, a10] S6
      = .ok (.nx [a0, some (.hnd p), some (.int turn), some (.int (1 + r1)), some (.lst (rs.map encR)), some (busD rs), some (.int (1 + mm)), some (.int (1 + mm + r6)), f8, f9, a10]) S9 := by
    generalize rs.map encR = X at *
    generalize busD rs = BD at *
    generalize sSeq (sFor (aRng dRng1 _) _ _) _ = BODY at *
    simp only [forGo, ap_name, List.set_cons_succ, List.set_cons_zero, g7, g8, g9, Res.bind_ok]
  generalize (rs.map fun u => u.most).map D.int = Z at *
  generalize rs.map encR = X at *
  generalize busD rs = BD at *
  generalize encR t = TT at *
  generalize optN x = ON at *
  generalize sSeq (sFor (aRng dRng1 _) _ _) _ = BODY at *
  simp only [ap_fnK, List.map_cons, List.map_nil, List.length_cons, List.length_nil, Nat.reduceAdd, Nat.reduceSub, List.replicate, List.cons_append, List.nil_append, ap_next, ap_seq, ap_drop, ap_ret, ap_if, ap_name, ap_nil, ap_cons, ap_tup, ap_asg, ap_for, ap_V0, ap_V1, ap_V2, ap_V3, ap_V4, ap_V5, ap_V6, ap_V7, ap_V8, ap_V9, ap_V10, ap_C, ap_op, ap_un, ap_ar, ap_tB, ap_tand, ap_tor, ap_tnot, ap_tyes, ap_and, ap_or, ap_eif, ap_anil, ap_acons, ap_etup, ap_elst, ap_ait, ap_arng, ap_call, ap_callD, ap_meth, ap_meth0, ap_lc, ap_wipe0, ap_wipe, ap_fin, ap_noX, ap_some, Res.bind_ok, Res.bnd_ok, List.set_cons_succ, List.set_cons_zero, Option.bind_some, d_q2, d_i2, q_qA, s_lst, s_fix, s_tup, s_ktp, q_lst, q_tup, l_lst, l_fix, l_tup, d_lt, d_le, d_gt, d_ge, d_sub, d_add, d_eqi, d_nei, d_isn, d_nisn, n_non, n_int, n_str, x_max2, x_min2, decide_true, decide_false, if_true, ↓reduceIte, Bool.false_eq_true, Nat.reduceLeDiff, ap_esl, ap_onone, ap_osome, ap_maxDf, ap_par3, ap_V11, ap_V12, ap_V13, sl_lst', sl_tup', e1, e2, ix1, e3, ix2, e4, lb, lc, ll, x1, e5, e6, z3, go3, nn, ix, rr0, e7, e8, so, nt, Bool.not_true]
theorem law_true {ns : List Int} (hn : ns.length ≤ 63) : ∃ S', m_law [.fix (ns.map D.int)] [] = .ok (.bl true) S' := by
  have e1 := tape_new (ns := ns) (S := []) hn
  have q0 : QT 0 0 [tapeM ns 0 0] := ⟨⟨ns, 0, 0, rfl, by omega, by omega, by omega⟩, fun o ho => by
    rw [List.mem_singleton.mp ho]; exact lim_tape⟩
  obtain ⟨env', S', go, c2, c3, c4, c5, c6, c7, c8, c9, c10, rfl, q, l1⟩ := forGo_inv (g := vName 2) (b := (sSeq (sSet 3 (eOp (q2 dAdd) (eC (.int 1)) (eCall m__law_draw 2 (aCons (eV 1) (aCons (eC (.int 8)) aNil))))) (sSeq (sSet 4 (eCall m__law_rows 4 (aCons (eV 1) (aCons (eV 3) (aCons (eOp (q2 dIx) (eLst (aCons (eC (.int 8)) (aCons (eC (.int 20)) (aCons (eC (.int 50)) aNil)))) (eCall m__law_draw 2 (aCons (eV 1) (aCons (eC (.int 3)) aNil)))) (aCons (eOp (q2 dIx) (eLst (aCons (eC (.int 4)) (aCons (eC (.int 30)) aNil))) (eCall m__law_draw 2 (aCons (eV 1) (aCons (eC (.int 2)) aNil)))) aNil)))))) (sSeq (sSet 5 (eCall m__law_bus 1 (aCons (eV 4) aNil))) (sSeq (sSet 6 (eOp (q2 dAdd) (eC (.int 1)) (eAr (qA dMaxL) (aCons (eLc [10] (aIt dSeq (eV 4)) (vName 10) tvYes (eOp (q2 dIx) (eV 10) (eC (.int 3)))) aNil)))) (sSeq (sFor (aIt dSeq (eTup (aCons (eC .non) (aCons (eOp (q2 dAdd) (eV 6) (eCall m__law_draw 2 (aCons (eV 1) (aCons (eC (.int 3)) aNil)))) (aCons (eOp (q2 dAdd) (eV 6) (eCall m__law_draw 2 (aCons (eV 1) (aCons (eC (.int 60)) aNil)))) aNil))))) (vName 7) (sSeq (sFor (aRng dRng1 (aCons (eV 3) aNil)) (vName 8) (sSeq (sSet 9 (eCall m__law_bus_bound 3 (aCons (eV 4) (aCons (eV 8) (aCons (eV 7) aNil))))) (sIf (tB' (eOp (q2 dNe) (eAr (qA dRepr) (aCons (eCallK m_bus_bound 2 1 (aCons (eV 5) (aCons (eOp (q2 dIx) (eOp (q2 dIx) (eV 4) (eV 8)) (eC (.int 0))) aNil)) (aCons (eV 7) aNil)) aNil)) (eAr (qA dRepr) (aCons (eV 9) aNil)))) (sRet (eC (.bl false))) sNext))) (sSeq (sSet 8 (eCall m__law_draw 2 (aCons (eV 1) (aCons (eV 3) aNil)))) (sSeq (sSet 9 (eCall m__law_bus_bound 3 (aCons (eV 4) (aCons (eV 8) (aCons (eV 7) aNil))))) (sIf (tB' (eOp (q2 dNe) (eAr (qA dRepr) (aCons (eCallP m_bus_bound 0 3 [2, 1, 0] aNil (aCons (eV 7) (aCons (eOp (q2 dIx) (eOp (q2 dIx) (eV 4) (eV 8)) (eC (.int 0))) (aCons (eV 5) aNil)))) aNil)) (eAr (qA dRepr) (aCons (eV 9) aNil)))) (sRet (eC (.bl false))) sNext))))) (sIf (tvOr (tB' (eOp (q2 dNe) (eCallD m_bus_bound 2 (nons 1) (aCons (eV 5) (aCons (eOp (q2 dIx) (eOp (q2 dIx) (eV 4) (eC (.int 0))) (eC (.int 0))) aNil))) (eCall m__law_bus_bound 3 (aCons (eV 4) (aCons (eC (.int 0)) (aCons (eC .non) aNil)))))) (tvNot (tB' (eCall m__law_no_task 2 (aCons (eV 5) (aCons (eC (.str "zzzzzzzzzzzzz")) aNil)))))) (sRet (eC (.bl false))) sNext)))))))
    (fun k env S' => ∃ c2 c3 c4 c5 c6 c7 c8 c9 c10, env = [some (.fix (ns.map D.int)), some (.hnd 0), c2, c3, c4, c5, c6, c7, c8, c9, c10] ∧ QT 0 (300 * k) S' ∧ S'.length = 1)
    [.int 0, .int 1, .int 2, .int 3] 0 [some (.fix (ns.map D.int)), some (.hnd 0), none, none, none, none, none, none, none, none, none] [tapeM ns 0 0] ⟨none, none, none, none, none, none, none, none, none, rfl, q0.mono (by omega), rfl⟩ (fun k dd env S' hk ⟨c2, c3, c4, c5, c6, c7, c8, c9, c10, ee, q, l1⟩ => by
      have kl := (List.getElem?_eq_some_iff.mp hk).1
      simp at kl
      obtain ⟨w, rfl⟩ : ∃ w : Int, dd = .int w := by
        have : k = 0 ∨ k = 1 ∨ k = 2 ∨ k = 3 := by omega
        rcases this with rfl | rfl | rfl | rfl <;> (simp at hk; exact ⟨_, hk.symm⟩)
      subst ee
      obtain ⟨S'', d3, d4, d5, d6, d7, d8, d9, d10, go, q', l'⟩ := turn_step (turn := w) (a0 := some (.fix (ns.map D.int))) (a3 := c3) (a4 := c4) (a5 := c5) (a6 := c6) (a7 := c7) (a8 := c8) (a9 := c9) (a10 := c10) q (by omega)
      exact ⟨_, _, S'', rfl, go, some (.int w), d3, d4, d5, d6, d7, d8, d9, d10, rfl, q'.mono (by omega), by rw [l']; exact l1⟩)
  refine ⟨S'.take 0, ?_⟩
  have rg : dRng1 [.int 4] = some [.int 0, .int 1, .int 2, .int 3] := rfl
  unfold m_law
  rw [ap_fnT]
  show cutR 0 _ = _
  rw [← cut_take (d := .bl true) q.flat rfl (Nat.zero_le _)]
  congr 1
  change m__law_tape _ [] = .ok (.hnd 0) [tapeM ns 0 0] at e1
  generalize ns.map D.int = N at *
  generalize sSeq (sSet 3 _) _ = BODY at *
  simp only [ap_fnK, List.map_cons, List.map_nil, List.length_cons, List.length_nil, Nat.reduceAdd, Nat.reduceSub, List.replicate, List.cons_append, List.nil_append, ap_next, ap_seq, ap_drop, ap_ret, ap_if, ap_name, ap_nil, ap_cons, ap_tup, ap_asg, ap_for, ap_V0, ap_V1, ap_V2, ap_V3, ap_V4, ap_V5, ap_V6, ap_V7, ap_V8, ap_V9, ap_V10, ap_C, ap_op, ap_un, ap_ar, ap_tB, ap_tand, ap_tor, ap_tnot, ap_tyes, ap_and, ap_or, ap_eif, ap_anil, ap_acons, ap_etup, ap_elst, ap_ait, ap_arng, ap_call, ap_callD, ap_meth, ap_meth0, ap_lc, ap_wipe0, ap_wipe, ap_fin, ap_noX, ap_some, Res.bind_ok, Res.bnd_ok, List.set_cons_succ, List.set_cons_zero, Option.bind_some, d_q2, d_i2, q_qA, s_lst, s_fix, s_tup, s_ktp, q_lst, q_tup, l_lst, l_fix, l_tup, d_lt, d_le, d_gt, d_ge, d_sub, d_add, d_eqi, d_nei, d_isn, d_nisn, n_non, n_int, n_str, x_max2, x_min2, decide_true, decide_false, if_true, ↓reduceIte, Bool.false_eq_true, Nat.reduceLeDiff, ap_esl, ap_onone, ap_osome, ap_maxDf, ap_par3, ap_V11, ap_V12, ap_V13, sl_lst', sl_tup', e1, rg, go]
end Sm
set_option Elab.async false
set_option linter.all false
set_option maxRecDepth 100000
set_option maxHeartbeats 400000
open PySem PySem.Spec
namespace Sm
open L2 PySem.W
theorem sound : Sound := fun ns h _ => law_true h
end Sm
theorem PySem.Challenge.cw_promptworks_k54_bounds_of_messages_holds : PySem.Challenge.rw_promptworks_k54_bounds_of_messages.Holds := by
  exact Sm.law_of Sm.sound
