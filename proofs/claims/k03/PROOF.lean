import PyProof.Rows.All
import Wide.All
import OpenK.AllK
import Wide.FinOn
import HandS.ForMost
import HandS.IsInst
import HandS.WideBits
import HandS.Zip
import HandS.Conv
import HandS.Style
import HandS.SetFor
import HandS.Strs
import PyProof.Draws
import PyProof.EnumMake
import PyProof.ReprRoads
import HandS.TryOnly
import HandS.WordsExc
import KE.BitLaws
import PySem.Challenge.RW_ledalong_k03_whole_rules_changed
section
set_option Elab.async false
set_option linter.all false
set_option maxRecDepth 100000
set_option maxHeartbeats 2100000
namespace E
open L2 PySem.Spec PyProof.Rows PySem
abbrev St := L2.St

/-! ### heaps seen without some addresses -/
def msk (av : List Addr) (H : Hp) : Hp := fun b => if b ∈ av then none else H b
def Ext (av : List Addr) (H H' : Hp) : Prop := ∀ b o, b ∉ av → H b = some o → H' b = some o
theorem Ext.refl {av : List Addr} (H : Hp) : Ext av H H := fun _ _ _ h => h
theorem Ext.trans {av : List Addr} {H H1 H2 : Hp} (a : Ext av H H1) (b : Ext av H1 H2) : Ext av H H2 := fun c o n h => b c o n (a c o n h)
theorem Ext.more {av aw : List Addr} {H H1 : Hp} (a : Ext av H H1) (h : ∀ p ∈ av, p ∈ aw) : Ext aw H H1 := fun c o n => a c o fun z => n (h c z)
theorem Ext.of_same {av : List Addr} {H H1 : Hp} (a : Same H H1) : Ext av H H1 := fun c o _ h => a c o h
theorem Ext.new {av : List Addr} {H : Hp} {p : Addr} {o : HO} (h : H p = none) : Ext av H (upd H p o) := fun b u _ q => by
  rw [upd_ne (ne_of_none q h)]; exact q
theorem msk_some {av : List Addr} {H : Hp} {b : Addr} {o : HO} (h : msk av H b = some o) : b ∉ av ∧ H b = some o := by
  unfold msk at h
  split at h
  · cases h
  · exact ⟨by assumption, h⟩
theorem msk_of {av : List Addr} {H : Hp} {b : Addr} {o : HO} (n : b ∉ av) (h : H b = some o) : msk av H b = some o := by
  unfold msk; rw [if_neg n]; exact h
theorem Ext.same {av aw : List Addr} {H H1 : Hp} (a : Ext av H H1) (h : ∀ p ∈ av, p ∈ aw) : Same (msk aw H) (msk aw H1) := fun b o q =>
  let ⟨n, z⟩ := msk_some q; msk_of n (a b o (fun y => n (h b y)) z)
theorem msk_less {av aw : List Addr} {H : Hp} (h : ∀ p ∈ av, p ∈ aw) : Same (msk aw H) (msk av H) := fun b o q =>
  let ⟨n, z⟩ := msk_some q; msk_of (fun y => n (h b y)) z
theorem msk_all {av : List Addr} {H : Hp} : Same (msk av H) H := fun b o q => (msk_some q).2

theorem sqT_same {K : PySem.W.Frag} {H H' : Hp} {a : Addr} {xs : List V} (e : Same H H') (h : SqT K H a xs) : SqT K H' a xs := by
  rcases h with (h | ⟨o, g⟩) | h
  · exact .inl (.inl (e _ _ h))
  · exact .inl (.inr ⟨o, e _ _ g⟩)
  · exact .inr h
/-- a plain object -/
def Pl (o : Obj) : Prop := o.dict = none ∧ o.slots = #[]
/-- a tuple that has no dict of its own -/
def TupN (K : PySem.W.Frag) (H : Hp) (a : Addr) : Prop := (∃ o u, H a = some (.frz o u) ∧ Pl o) ∨ ∃ o, K.lookup a = some o ∧ o.cls = .type "tuple" ∧ Pl o
theorem tupN_same {K : PySem.W.Frag} {H H' : Hp} {a : Addr} (e : Same H H') (h : TupN K H a) : TupN K H' a := by
  rcases h with ⟨o, u, h, z⟩ | h
  · exact .inl ⟨o, u, e _ _ h, z⟩
  · exact .inr h
mutual
/-- data at any depth, as it stands -/
inductive Dx (K : PySem.W.Frag) (H : Hp) : V → PyData → Prop
  | non : Dx K H .non .none
  | bl (b : Bool) : Dx K H (.bl b) (.bool b)
  | int (i : Int) : Dx K H (.int i) (.int i)
  | str (x : Str) : Dx K H (.str x) (.str x)
  | lst {a : Addr} {vs : List V} {ds : List PyData} : H a = some (.lst vs) → DxAll K H vs ds → Dx K H (.ref a) (.list ds)
  | tup {a : Addr} {vs : List V} {ds : List PyData} : SqT K H a vs → TupN K H a → DxAll K H vs ds → Dx K H (.ref a) (.tuple ds)
inductive DxAll (K : PySem.W.Frag) (H : Hp) : List V → List PyData → Prop
  | nil : DxAll K H [] []
  | cons {v : V} {vs : List V} {d : PyData} {ds : List PyData} : Dx K H v d → DxAll K H vs ds → DxAll K H (v :: vs) (d :: ds)
end
mutual
theorem dx_dp {K : PySem.W.Frag} {H : Hp} : ∀ (d : PyData) (v : V), Dx K H v d → Dp K H v d
  | .none, _, h => by cases h; exact .non
  | .bool _, _, h => by cases h; exact .bl _
  | .int _, _, h => by cases h; exact .int _
  | .str _, _, h => by cases h; exact .str _
  | .list ds, _, h => by
    cases h with
    | lst hs ha => exact .lst (.inl (.inl hs)) (dxs_dps ds _ ha)
  | .tuple ds, _, h => by
    cases h with
    | tup hs hn ha => exact .tup hs (dxs_dps ds _ ha)
  | .dict _, _, h => by cases h
theorem dxs_dps {K : PySem.W.Frag} {H : Hp} : ∀ (ds : List PyData) (vs : List V), DxAll K H vs ds → DpAll K H vs ds
  | [], _, h => by cases h; exact .nil
  | d :: ds, _, h => by
    cases h with
    | cons h1 h2 => exact .cons (dx_dp d _ h1) (dxs_dps ds _ h2)
end
mutual
theorem dp_same {K : PySem.W.Frag} {H H' : Hp} (e : Same H H') : ∀ (d : PyData) (v : V), Dx K H v d → Dx K H' v d
  | .none, _, h => by cases h; exact .non
  | .bool _, _, h => by cases h; exact .bl _
  | .int _, _, h => by cases h; exact .int _
  | .str _, _, h => by cases h; exact .str _
  | .list ds, _, h => by
    cases h with
    | lst hs ha => exact .lst (e _ _ hs) (dps_same e ds _ ha)
  | .tuple ds, _, h => by
    cases h with
    | tup hs hn ha => exact .tup (sqT_same e hs) (tupN_same e hn) (dps_same e ds _ ha)
  | .dict _, _, h => by cases h
theorem dps_same {K : PySem.W.Frag} {H H' : Hp} (e : Same H H') : ∀ (ds : List PyData) (vs : List V), DxAll K H vs ds → DxAll K H' vs ds
  | [], _, h => by cases h; exact .nil
  | d :: ds, _, h => by
    cases h with
    | cons h1 h2 => exact .cons (dp_same e d _ h1) (dps_same e ds _ h2)
end
theorem dps_get {K : PySem.W.Frag} {H : Hp} : ∀ {vs : List V} {ds : List PyData} {i : Nat} {d : PyData}, DxAll K H vs ds → ds[i]? = some d → ∃ v, vs[i]? = some v ∧ Dx K H v d
  | _, _, _, _, .nil, e => (by simp at e)
  | _, _, 0, _, .cons r _, e => (by simp at e; subst e; exact ⟨_, rfl, r⟩)
  | _, _, i + 1, _, .cons _ t, e => by
    obtain ⟨u, h1, h2⟩ := dps_get (i := i) t (by simpa using e)
    exact ⟨u, (by simpa using h1), h2⟩
theorem dps_getV {K : PySem.W.Frag} {H : Hp} : ∀ {vs : List V} {ds : List PyData} {i : Nat} {v : V}, DxAll K H vs ds → vs[i]? = some v → ∃ d, ds[i]? = some d ∧ Dx K H v d
  | _, _, _, _, .nil, e => (by simp at e)
  | _, _, 0, _, .cons r _, e => (by simp at e; subst e; exact ⟨_, rfl, r⟩)
  | _, _, i + 1, _, .cons _ t, e => by
    obtain ⟨u, h1, h2⟩ := dps_getV (i := i) t (by simpa using e)
    exact ⟨u, (by simpa using h1), h2⟩
theorem dps_len {K : PySem.W.Frag} {H : Hp} : ∀ {vs : List V} {ds : List PyData}, DxAll K H vs ds → vs.length = ds.length
  | _, _, .nil => rfl
  | _, _, .cons _ t => by simp [dps_len t]
theorem dps_app {K : PySem.W.Frag} {H : Hp} : ∀ {vs ws : List V} {ds es : List PyData}, DxAll K H vs ds → DxAll K H ws es → DxAll K H (vs ++ ws) (ds ++ es)
  | _, _, _, _, .nil, s => s
  | _, _, _, _, .cons r t, s => .cons r (dps_app t s)
theorem dps_one {K : PySem.W.Frag} {H : Hp} {v : V} {d : PyData} (h : Dx K H v d) : DxAll K H [v] [d] := .cons h .nil
theorem dps_rev {K : PySem.W.Frag} {H : Hp} : ∀ {vs : List V} {ds : List PyData}, DxAll K H vs ds → DxAll K H vs.reverse ds.reverse
  | _, _, .nil => .nil
  | _, _, .cons r t => by
    rw [List.reverse_cons]; rw [List.reverse_cons]
    exact dps_app (dps_rev t) (dps_one r)

/-! ### what is drawn from -/
structure Fd where
  c : Addr
  cells : List Int
  place : Int
  rest : Int
  turn : Int
def feedO (S : Fd) : HO := .dK [(.inr "cells", .ref S.c), (.inr "place", .int S.place), (.inr "rest", .int S.rest), (.inr "turn", .int S.turn)]
def FeedAt (av : List Addr) (q : Addr) (S : Fd) (H : Hp) : Prop := q ∈ av ∧ S.c ∉ av ∧ H q = some (feedO S) ∧ H S.c = some (.lst (S.cells.map V.int))
theorem FeedAt.less {av aw : List Addr} {q : Addr} {S : Fd} {H : Hp} (f : FeedAt aw q S H) (h : ∀ p ∈ av, p ∈ aw) (hq : q ∈ av) : FeedAt av q S H :=
  let ⟨_, n, r⟩ := f; ⟨hq, fun z => n (h _ z), r⟩

/-! ### answers -/
structure Xn where
  cls : Str
  fs : List PyData
inductive R (α : Type) where
  | ok (a : α) (S : Fd)
  | ex (x : Xn) (S : Fd)
  | bad
abbrev M (α : Type) := Fd → R α
def R.post {α : Type} (r : R α) (k : α → Fd → Prop) (x : Xn → Fd → Prop) : Prop := match r with
  | .ok a S => k a S
  | .ex e S => x e S
  | .bad => False
def M.bind {α β : Type} (m : M α) (f : α → M β) : M β := fun S => match m S with
  | .ok a S' => f a S'
  | .ex e S' => .ex e S'
  | .bad => .bad
instance : Monad M where
  pure a := fun S => .ok a S
  bind := M.bind
def bad {α : Type} : M α := fun _ => .bad
def lift {α : Type} (o : Option α) : M α := match o with
  | some a => pure a
  | none => bad
theorem R.post_imp {α : Type} {r : R α} {k k' : α → Fd → Prop} {x x' : Xn → Fd → Prop} (h : r.post k x) (hk : ∀ a S, k a S → k' a S) (hx : ∀ e S, x e S → x' e S) : r.post k' x' := by
  cases r with
  | ok a S => exact hk a S h
  | ex e S => exact hx e S h
  | bad => exact h
theorem post_bind {α β : Type} {m : M α} {f : α → M β} {S : Fd} {k : β → Fd → Prop} {x : Xn → Fd → Prop} (h : ((m >>= f) S).post k x) : (m S).post (fun a S' => (f a S').post k x) x := by
  have h' : (M.bind m f S).post k x := h
  unfold M.bind at h'
  cases e : m S with
  | ok a S' => rw [e] at h'; exact h'
  | ex a S' => rw [e] at h'; exact h'
  | bad => rw [e] at h'; exact h'
theorem post_lift {α : Type} {o : Option α} {S : Fd} {k : α → Fd → Prop} {x : Xn → Fd → Prop} (h : (lift o S).post k x) : ∃ a, o = some a ∧ k a S := by
  cases o with
  | none => exact False.elim h
  | some a => exact ⟨a, rfl, h⟩

/-! ### slots -/
inductive Sl where
  | im (d : PyData)
  | ow (l : List PyData)
  | fd
abbrev En := List (Option Sl)
def SlOk (K : PySem.W.Frag) (av : List Addr) (q : Addr) (H : Hp) (s : Sl) (v : V) : Prop := match s with
  | .im d => Dx K (msk av H) v d
  | .ow l => ∃ p vs, v = .ref p ∧ p ∈ av ∧ p ≠ q ∧ H p = some (.lst vs) ∧ DxAll K (msk av H) vs l
  | .fd => v = .ref q
structure At (K : PySem.W.Frag) (av : List Addr) (q : Addr) (ρ : En) (S : Fd) (σ : E.St) (H : Hp) : Prop where
  len : σ.length = ρ.length
  slot : ∀ (i : Nat) (s : Sl), ρ[i]? = some (some s) → ∃ v, σ[i]? = some (some v) ∧ SlOk K av q H s v
  inj : ∀ (i j : Nat) (l l' : List PyData) (v : V), ρ[i]? = some (some (Sl.ow l)) → ρ[j]? = some (some (Sl.ow l')) → σ[i]? = some (some v) → σ[j]? = some (some v) → i = j
  feed : FeedAt av q S H
  trk : ∀ p ∈ av, ∃ o, H p = some o
theorem SlOk.ext {K : PySem.W.Frag} {av : List Addr} {q : Addr} {H H1 : Hp} {s : Sl} {v : V} (h : SlOk K av q H s v) (hq : q ∈ av) (e : Ext [q] H H1) : SlOk K av q H1 s v := by
  have sm : Same (msk av H) (msk av H1) := e.same fun p hp => by rw [List.mem_singleton.mp hp]; exact hq
  cases s with
  | im d => exact dp_same sm d v h
  | ow l =>
    obtain ⟨p, vs, rfl, hp, hne, ho, ha⟩ := h
    exact ⟨p, vs, rfl, hp, hne, e p _ (by simpa using hne) ho, dps_same sm l vs ha⟩
  | fd => exact h
theorem FeedAt.trk1 {av : List Addr} {q : Addr} {S : Fd} {H H1 : Hp} (f : FeedAt av q S H1) (t : ∀ p ∈ av, ∃ o, H p = some o) (e : Ext [q] H H1) : ∀ p ∈ av, ∃ o, H1 p = some o := fun p hp => by
  by_cases z : p = q
  · obtain ⟨_, _, h, _⟩ := f
    rw [z]; exact ⟨_, h⟩
  · obtain ⟨o, h⟩ := t p hp
    exact ⟨o, e p o (by simpa using z) h⟩
section
variable {K : PySem.W.Frag} {av : List Addr} {q : Addr} {ρ : En} {S S1 : Fd} {σ : E.St} {H H1 : Hp}
theorem At.ext (A : At K av q ρ S σ H) (e : Ext [q] H H1) (f : FeedAt av q S1 H1) : At K av q ρ S1 σ H1 :=
  ⟨A.len, fun i s h => let ⟨v, h1, h2⟩ := A.slot i s h; ⟨v, h1, h2.ext f.1 e⟩, A.inj, f, f.trk1 A.trk e⟩
theorem ext_dp (hq : q ∈ av) (e : Ext [q] H H1) {v : V} {d : PyData} (h : Dx K (msk av H) v d) : Dx K (msk av H1) v d :=
  dp_same (e.same fun p hp => by rw [List.mem_singleton.mp hp]; exact hq) d v h
theorem ext_dps (hq : q ∈ av) (e : Ext [q] H H1) {v : List V} {d : List PyData} (h : DxAll K (msk av H) v d) : DxAll K (msk av H1) v d :=
  dps_same (e.same fun p hp => by rw [List.mem_singleton.mp hp]; exact hq) d v h
theorem feed_same (f : FeedAt av q S H) (e : Same H H1) : FeedAt av q S H1 := let ⟨h, n, a, b⟩ := f; ⟨h, n, e _ _ a, e _ _ b⟩
theorem not_av {p : Addr} (t : ∀ p ∈ av, ∃ o, H p = some o) (n : H p = none) : p ∉ av := fun z => by
  obtain ⟨o, h⟩ := t p z
  rw [n] at h; cases h
theorem same_new {p : Addr} {o : HO} (h : H p = none) : Same H (upd H p o) := fun b u q => by rw [upd_ne (ne_of_none q h)]; exact q
theorem msk_same (e : Same H H1) : Same (msk av H) (msk av H1) := fun b o q => let ⟨n, z⟩ := msk_some q; msk_of n (e b o z)

/-! ### readings by data -/
def noX : Xn → Fd → Prop := fun _ _ => False
/-- an answer r, wanted: Q of what it is at any later heap -/
def wE (K : PySem.W.Frag) (av : List Addr) (q : Addr) (H : Hp) (r : R PyData) (Q : VK) : Prop :=
  r.post (fun d S' => ∀ v H', Ext [q] H H' → FeedAt av q S' H' → Dx K (msk av H') v d → Q v H') noX
def tE (K : PySem.W.Frag) (f : En → M PyData) : TE := fun σ H Q => ∃ av q ρ S, At K av q ρ S σ H ∧ wE K av q H (f ρ S) Q
def PD (X : Cx) (e : Expr) (f : En → M PyData) : Prop := PE X e (tE X.K f)
theorem PE_imp {X : Cx} {e : Expr} {t t' : TE} (h : PE X e t) (i : ∀ σ H Q, t' σ H Q → t σ H Q) : PE X e t' := ⟨fun pins s σ H Q I q => h.run pins s σ H Q I (i σ H Q q)⟩
/-- f first, then what wants its answer -/
theorem tE_step {f : En → M PyData} {α : Type} {g : PyData → M α} {k : α → Fd → Prop} {Q : VK} (A : At K av q ρ S σ H)
    (p : ((f ρ >>= g) S).post k noX) (h : ∀ x S1 v H1, (g x S1).post k noX → Ext [q] H H1 → At K av q ρ S1 σ H1 → Dx K (msk av H1) v x → Q v H1) : tE K f σ H Q :=
  ⟨av, q, ρ, S, A, R.post_imp (post_bind p) (fun x S1 hx v H1 e1 f1 d1 => h x S1 v H1 hx e1 (A.ext e1 f1) d1) fun _ _ z => z⟩
/-- a test -/
def tD (K : PySem.W.Frag) (f : En → M Bool) : TT := fun σ H Q => ∃ av q ρ S, At K av q ρ S σ H ∧
  (f ρ S).post (fun b S' => ∀ H', Ext [q] H H' → FeedAt av q S' H' → Q b H') noX
def PB (X : Cx) (e : Expr) (f : En → M Bool) : Prop := PT X e (tD X.K f)
theorem PT_imp {X : Cx} {e : Expr} {t t' : TT} (h : PT X e t) (i : ∀ σ H Q, t' σ H Q → t σ H Q) : PT X e t' := ⟨fun pins s σ H Q I q => h.run pins s σ H Q I (i σ H Q q)⟩
theorem tD_step {f : En → M Bool} {α : Type} {g : Bool → M α} {k : α → Fd → Prop} {Q : Bool → Hp → Prop} (A : At K av q ρ S σ H)
    (p : ((f ρ >>= g) S).post k noX) (h : ∀ x S1 H1, (g x S1).post k noX → Ext [q] H H1 → At K av q ρ S1 σ H1 → Q x H1) : tD K f σ H Q :=
  ⟨av, q, ρ, S, A, R.post_imp (post_bind p) (fun x S1 hx H1 e1 f1 => h x S1 H1 hx e1 (A.ext e1 f1)) fun _ _ z => z⟩

/-! ### arguments -/
inductive Ag where
  | d (x : PyData)
  | fd
def AgOk (K : PySem.W.Frag) (av : List Addr) (q : Addr) (H : Hp) (a : Ag) (v : V) : Prop := match a with
  | .d x => Dx K (msk av H) v x
  | .fd => v = .ref q
inductive AgsOk (K : PySem.W.Frag) (av : List Addr) (q : Addr) (H : Hp) : List Ag → List V → Prop
  | nil : AgsOk K av q H [] []
  | cons {a : Ag} {v : V} {as : List Ag} {vs : List V} : AgOk K av q H a v → AgsOk K av q H as vs → AgsOk K av q H (a :: as) (v :: vs)
theorem AgOk.ext {a : Ag} {v : V} (h : AgOk K av q H a v) (hq : q ∈ av) (e : Ext [q] H H1) : AgOk K av q H1 a v := by
  cases a with
  | d x => exact ext_dp hq e h
  | fd => exact h
theorem AgsOk.ext {as : List Ag} {vs : List V} (h : AgsOk K av q H as vs) (hq : q ∈ av) (e : Ext [q] H H1) : AgsOk K av q H1 as vs := by
  induction h with
  | nil => exact .nil
  | cons a _ ih => exact .cons (a.ext hq e) ih
theorem AgsOk.len {as : List Ag} {vs : List V} (h : AgsOk K av q H as vs) : vs.length = as.length := by
  induction h with
  | nil => rfl
  | cons a _ ih => simp [ih]
def tAg (K : PySem.W.Frag) (f : En → M (List Ag)) : TA := fun σ H Q => ∃ av q ρ S, At K av q ρ S σ H ∧
  (f ρ S).post (fun as S' => ∀ vs H', Ext [q] H H' → FeedAt av q S' H' → AgsOk K av q H' as vs → Q vs H') noX
def PG_A (X : Cx) (es : List Expr) (f : En → M (List Ag)) : Prop := PA X es (tAg X.K f)
theorem PA_imp {X : Cx} {e : List Expr} {t t' : TA} (h : PA X e t) (i : ∀ σ H Q, t' σ H Q → t σ H Q) : PA X e t' := ⟨fun pos pins s σ H Q I q => h.run pos pins s σ H Q I (i σ H Q q)⟩
theorem tAg_step {f : En → M (List Ag)} {α : Type} {g : List Ag → M α} {k : α → Fd → Prop} {Q : List V → Hp → Prop} (A : At K av q ρ S σ H)
    (p : ((f ρ >>= g) S).post k noX) (h : ∀ x S1 vs H1, (g x S1).post k noX → Ext [q] H H1 → At K av q ρ S1 σ H1 → AgsOk K av q H1 x vs → Q vs H1) : tAg K f σ H Q :=
  ⟨av, q, ρ, S, A, R.post_imp (post_bind p) (fun x S1 hx v H1 e1 f1 d1 => h x S1 v H1 hx e1 (A.ext e1 f1) d1) fun _ _ z => z⟩
theorem ret_val {d : PyData} {k : PyData → Fd → Prop} {v : V} {S1 : Fd} {Q : VK} {av : List Addr} {q : Addr} {H H1 : Hp} (f : FeedAt av q S1 H1)
    (p : ((pure d : M PyData) S1).post (fun d S' => ∀ v H', Ext [q] H H' → FeedAt av q S' H' → Dx K (msk av H') v d → Q v H') noX) (e : Ext [q] H H1) (h : Dx K (msk av H1) v d) : Q v H1 := p v H1 e f h
end
end E
end

section
set_option Elab.async false
set_option linter.all false
set_option maxRecDepth 100000
set_option maxHeartbeats 2100000
namespace E
open L2 PySem.Spec PyProof.Rows PySem
section
variable {X : Cx}

/-! ### names, constants -/
def getD (i : Nat) (ρ : En) : M PyData := match ρ[i]? with
  | some (some (.im d)) => pure d
  | _ => bad
def getF (i : Nat) (ρ : En) : M Unit := match ρ[i]? with
  | some (some .fd) => pure ()
  | _ => bad
theorem getD_post {i : Nat} {ρ : En} {S : Fd} {k : PyData → Fd → Prop} {x : Xn → Fd → Prop} (h : (getD i ρ S).post k x) : ∃ d, ρ[i]? = some (some (.im d)) ∧ k d S := by
  unfold getD at h
  cases e : ρ[i]? with
  | none => rw [e] at h; exact False.elim h
  | some o =>
    rw [e] at h
    cases o with
    | none => exact False.elim h
    | some s =>
      cases s with
      | im d => exact ⟨d, rfl, h⟩
      | ow l => exact False.elim h
      | fd => exact False.elim h
theorem getF_post {i : Nat} {ρ : En} {S : Fd} {k : Unit → Fd → Prop} {x : Xn → Fd → Prop} (h : (getF i ρ S).post k x) : ρ[i]? = some (some .fd) ∧ k () S := by
  unfold getF at h
  cases e : ρ[i]? with
  | none => rw [e] at h; exact False.elim h
  | some o =>
    rw [e] at h
    cases o with
    | none => exact False.elim h
    | some s =>
      cases s with
      | im d => exact False.elim h
      | ow l => exact False.elim h
      | fd => exact ⟨rfl, h⟩
theorem d_var {x : Str} {pos : Pos} (i : Nat) (hN : X.N[i]? = some x := by rfl) (hv : Vis X.env.scope x := by first | exact Or.inl rfl | exact Or.inr (Or.inl rfl) | exact Or.inr (Or.inr rfl)) (hd : (x == ("__debug__" : Str)) = false := by decide)
    (hcd : (x == ("__classdict__" : Str)) = false := by decide) : PD X (.Name x pos) (getD i) := PE_imp (pe_var hN hv hd hcd) fun σ H Q ⟨av, q, ρ, S, A, p⟩ => by
  obtain ⟨d, e, k⟩ := getD_post p
  obtain ⟨v, h1, h2⟩ := A.slot i _ e
  exact ⟨v, h1, k v H (Ext.refl H) A.feed h2⟩
def cD (d : PyData) : En → M PyData := fun _ => pure d
theorem tC_of {K : PySem.W.Frag} {v : V} {d : PyData} (h : ∀ H, Dx K H v d) (σ : E.St) (H : Hp) (Q : VK) (t : tE K (cD d) σ H Q) : tC v σ H Q := by
  obtain ⟨av, q, ρ, S, A, p⟩ := t
  exact p v H (Ext.refl H) A.feed (h _)
theorem d_int {i j pos} : PD X (.Constant (.int i) j pos) (cD (.int i)) := PE_imp pe_int (tC_of fun _ => .int i)
theorem d_bl {b j pos} : PD X (.Constant (.bool b) j pos) (cD (.bool b)) := PE_imp pe_bl (tC_of fun _ => .bl b)
theorem d_non {j pos} : PD X (.Constant .none j pos) (cD .none) := PE_imp pe_non (tC_of fun _ => .non)
theorem d_str {x j pos} : PD X (.Constant (.str x) j pos) (cD (.str x)) := PE_imp pe_str (tC_of fun _ => .str x)

/-! ### operators -/
def OpD (K : PySem.W.Frag) (r : R2) (g : PyData → PyData → Option PyData) : Prop := ∀ (av : List Addr) (H : Hp) (x y d : PyData) (v w : V) (Q : VK), (∀ p ∈ av, ∃ o, H p = some o) → g x y = some d →
  Dx K (msk av H) v x → Dx K (msk av H) w y → (∀ u H', Same H H' → Dx K (msk av H') u d → Q u H') → r v w H Q
def cBin (g : PyData → PyData → Option PyData) (fa fb : En → M PyData) : En → M PyData := fun ρ => fa ρ >>= fun x => fb ρ >>= fun y => lift (g x y)
theorem tOp_of {K : PySem.W.Frag} {r : R2} {g : PyData → PyData → Option PyData} (hg : OpD K r g) {fa fb : En → M PyData} (σ : E.St) (H : Hp) (Q : VK) (t : tE K (cBin g fa fb) σ H Q) : tOp r (tE K fa) (tE K fb) σ H Q := by
  obtain ⟨av, q, ρ, S, A, p⟩ := t
  refine tE_step A p fun x S1 v H1 p1 e1 A1 d1 => ?_
  refine tE_step A1 p1 fun y S2 w H2 p2 e2 A2 d2 => ?_
  obtain ⟨d, hd, k⟩ := post_lift p2
  exact hg av H2 x y d v w Q A2.trk hd (ext_dp A.feed.1 e2 d1) d2 fun u H' sm du => k u H' ((e1.trans e2).trans (Ext.of_same sm)) (feed_same A2.feed sm) du
theorem d_bin {op : Operator} {r : R2} {g : PyData → PyData → Option PyData} {a b : Expr} {fa fb : En → M PyData} {pos : Pos} (ho : OpR X (binaryOp op) r) (hg : OpD X.K r g) (ha : PD X a fa) (hb : PD X b fb) : PD X (.BinOp a op b pos) (cBin g fa fb) :=
  PE_imp (pe_op ho ha hb) (tOp_of hg)
theorem d_cmp {op : CmpOp} {r : R2} {g : PyData → PyData → Option PyData} {a b : Expr} {fa fb : En → M PyData} {pos : Pos} (ho : OpR X (compareOp op) r) (hg : OpD X.K r g) (ha : PD X a fa) (hb : PD X b fb) (hm : behindInMarks op b = false := by rfl) : PD X (.Compare a [op] [b] pos) (cBin g fa fb) :=
  PE_imp (pe_cmpR ho ha hb hm) (tOp_of hg)
theorem d_ix {r : R2} {g : PyData → PyData → Option PyData} {a b : Expr} {fa fb : En → M PyData} {pos : Pos} (ho : IxR X r) (hg : OpD X.K r g) (ha : PD X a fa) (hb : PD X b fb) (hs : PlainIx b := by exact fun _ _ => rfl) : PD X (.Subscript a b pos) (cBin g fa fb) :=
  PE_imp (pe_ix ho ha hb hs) (tOp_of hg)
def int2 (f : Int → Int → PyData) (x y : PyData) : Option PyData := match x, y with
  | .int i, .int j => some (f i j)
  | _, _ => none
def int2C (C : Int → Int → Bool) (f : Int → Int → PyData) (x y : PyData) : Option PyData := match x, y with
  | .int i, .int j => if C i j then some (f i j) else none
  | _, _ => none
theorem opD_int {K : PySem.W.Frag} {f : Int → Int → PyData} {fv : Int → Int → V} (h : ∀ i j H, Dx K H (fv i j) (f i j)) : OpD K (rI0 fv) (int2 f) := fun av H x y d v w Q _ hd hx hy k => by
  unfold int2 at hd
  split at hd
  · cases hx; cases hy; cases hd
    exact ⟨_, _, rfl, rfl, k _ H (Same.refl H) (h _ _ _)⟩
  · cases hd
theorem opD_intC {K : PySem.W.Frag} {C : Int → Int → Bool} {Cp : Int → Int → Prop} {f : Int → Int → PyData} {fv : Int → Int → V} (hC : ∀ i j, C i j = true → Cp i j) (h : ∀ i j H, Dx K H (fv i j) (f i j)) : OpD K (rI Cp fv) (int2C C f) := fun av H x y d v w Q _ hd hx hy k => by
  unfold int2C at hd
  split at hd
  · split at hd
    · rename_i hc
      cases hx; cases hy; cases hd
      exact ⟨_, _, rfl, rfl, hC _ _ hc, k _ H (Same.refl H) (h _ _ _)⟩
    · cases hd
  · cases hd
def gAdd := int2 fun i j => .int (i + j)
def gSub := int2 fun i j => .int (i - j)
def gMul := int2C (fun i j => decide ((-(2 ^ 64) < i ∧ i < 2 ^ 64) ∨ (-(2 ^ 64) < j ∧ j < 2 ^ 64))) fun i j => .int (i * j)
def gMod := int2C (fun i j => decide (j ≠ 0)) fun i j => .int (i.fmod j)
def gDiv := int2C (fun i j => decide (j ≠ 0 ∧ j.natAbs < 1073741824)) fun i j => .int (i.fdiv j)
def gShr := int2C (fun i j => decide (0 ≤ j)) fun i j => .int (i / 2 ^ j.toNat)
def gAnd := int2 fun i j => .int (Builtin.bitAnd i j)
def gPow := int2C (fun i j => decide (0 ≤ j ∧ j ≤ 1000000 ∧ i.natAbs < 2 ^ 64)) fun i j => .int (i ^ j.toNat)
def gLt := int2 fun i j => .bool (decide (i < j))
def gLe := int2 fun i j => .bool (decide (i ≤ j))
def gGt := int2 fun i j => .bool (decide (j < i))
def gGe := int2 fun i j => .bool (decide (j ≤ i))
variable {a b c : Expr} {fa fb : En → M PyData} {pos : Pos}
theorem d_add (ha : PD X a fa) (hb : PD X b fb) : PD X (.BinOp a .Add b pos) (cBin gAdd fa fb) := d_bin op_add (opD_int fun _ _ _ => .int _) ha hb
theorem d_sub (ha : PD X a fa) (hb : PD X b fb) : PD X (.BinOp a .Sub b pos) (cBin gSub fa fb) := d_bin op_sub (opD_int fun _ _ _ => .int _) ha hb
theorem d_mul (ha : PD X a fa) (hb : PD X b fb) : PD X (.BinOp a .Mult b pos) (cBin gMul fa fb) := d_bin op_mul (opD_intC (fun _ _ h => by simpa [CMul] using h) fun _ _ _ => .int _) ha hb
theorem d_mod (ha : PD X a fa) (hb : PD X b fb) : PD X (.BinOp a .Mod b pos) (cBin gMod fa fb) := d_bin op_modN (opD_intC (fun _ _ h => by simpa using h) fun _ _ _ => .int _) ha hb
theorem d_div (ha : PD X a fa) (hb : PD X b fb) : PD X (.BinOp a .FloorDiv b pos) (cBin gDiv fa fb) := d_bin op_fdivN (opD_intC (fun _ _ h => by simpa [CDivN] using h) fun _ _ _ => .int _) ha hb
theorem d_shr (ha : PD X a fa) (hb : PD X b fb) : PD X (.BinOp a .RShift b pos) (cBin gShr fa fb) := d_bin op_shr (opD_intC (fun _ _ h => by simpa using h) fun _ _ _ => .int _) ha hb
theorem d_band (ha : PD X a fa) (hb : PD X b fb) : PD X (.BinOp a .BitAnd b pos) (cBin gAnd fa fb) := d_bin op_and (opD_int fun _ _ _ => .int _) ha hb
theorem d_pow (ha : PD X a fa) (hb : PD X b fb) : PD X (.BinOp a .Pow b pos) (cBin gPow fa fb) := d_bin op_pow (opD_intC (fun _ _ h => by simpa [CPow] using h) fun _ _ _ => .int _) ha hb
theorem d_lt (ha : PD X a fa) (hb : PD X b fb) (hm : behindInMarks .Lt b = false := by exact nomark _) : PD X (.Compare a [.Lt] [b] pos) (cBin gLt fa fb) := d_cmp op_lt (opD_int fun _ _ _ => .bl _) ha hb hm
theorem d_le (ha : PD X a fa) (hb : PD X b fb) (hm : behindInMarks .LtE b = false := by exact nomark _) : PD X (.Compare a [.LtE] [b] pos) (cBin gLe fa fb) := d_cmp op_le (opD_int fun _ _ _ => .bl _) ha hb hm
theorem d_gt (ha : PD X a fa) (hb : PD X b fb) (hm : behindInMarks .Gt b = false := by exact nomark _) : PD X (.Compare a [.Gt] [b] pos) (cBin gGt fa fb) := d_cmp op_gt (opD_int fun _ _ _ => .bl _) ha hb hm
theorem d_ge (ha : PD X a fa) (hb : PD X b fb) (hm : behindInMarks .GtE b = false := by exact nomark _) : PD X (.Compare a [.GtE] [b] pos) (cBin gGe fa fb) := d_cmp op_ge (opD_int fun _ _ _ => .bl _) ha hb hm
/-- == of scalars of one kind, or with None -/
def gEq (x y : PyData) : Option PyData := match x, y with
  | .int i, .int j => some (.bool (decide (i = j)))
  | .str i, .str j => some (.bool (decide (i = j)))
  | .bool i, .bool j => some (.bool (decide (i = j)))
  | _, _ => none
def gNe (x y : PyData) : Option PyData := match x, y with
  | .int i, .int j => some (.bool (!decide (i = j)))
  | .str i, .str j => some (.bool (!decide (i = j)))
  | .bool i, .bool j => some (.bool (!decide (i = j)))
  | _, _ => none
theorem opD_eq {K : PySem.W.Frag} : OpD K rEq gEq := fun av H x y d v w Q _ hd hx hy k => by
  unfold gEq at hd
  split at hd
  · cases hx; cases hy; cases hd
    refine ⟨rfl, ?_⟩
    rename_i i j
    have e : decide (V.int i = V.int j) = decide (i = j) := by simp
    rw [e]; exact k _ H (Same.refl H) (.bl _)
  · cases hx; cases hy; cases hd
    refine ⟨rfl, ?_⟩
    rename_i i j
    have e : decide (V.str i = V.str j) = decide (i = j) := by simp
    rw [e]; exact k _ H (Same.refl H) (.bl _)
  · cases hx; cases hy; cases hd
    refine ⟨rfl, ?_⟩
    rename_i i j
    have e : decide (V.bl i = V.bl j) = decide (i = j) := by simp
    rw [e]; exact k _ H (Same.refl H) (.bl _)
  · cases hd
theorem d_eq (ha : PD X a fa) (hb : PD X b fb) (hm : behindInMarks .Eq b = false := by exact nomark _) : PD X (.Compare a [.Eq] [b] pos) (cBin gEq fa fb) := d_cmp op_eq opD_eq ha hb hm
def isNon (x : PyData) : Bool := match x with
  | .none => true
  | _ => false
def gIsN (x y : PyData) : Option PyData := match y with
  | .none => some (.bool (isNon x))
  | _ => none
def gNotN (x y : PyData) : Option PyData := match y with
  | .none => some (.bool (!(isNon x)))
  | _ => none
theorem dp_isN {K : PySem.W.Frag} {H : Hp} {x : PyData} {v : V} (h : Dx K H v x) : decide (v = .non) = (isNon x) := by
  cases h <;> simp [isNon]
theorem d_isN (ha : PD X a fa) (hb : PD X b fb) (hm : behindInMarks .Is b = false := by exact nomark _) : PD X (.Compare a [.Is] [b] pos) (cBin gIsN fa fb) := d_cmp op_isN (fun av H x y d v w Q _ hd hx hy k => by
  unfold gIsN at hd
  split at hd
  · cases hy; cases hd
    refine ⟨rfl, ?_⟩
    rw [dp_isN hx]; exact k _ H (Same.refl H) (.bl _)
  · cases hd) ha hb hm
theorem d_notN (ha : PD X a fa) (hb : PD X b fb) (hm : behindInMarks .IsNot b = false := by exact nomark _) : PD X (.Compare a [.IsNot] [b] pos) (cBin gNotN fa fb) := d_cmp op_notN (fun av H x y d v w Q _ hd hx hy k => by
  unfold gNotN at hd
  split at hd
  · cases hy; cases hd
    refine ⟨rfl, ?_⟩
    rw [dp_isN hx]; exact k _ H (Same.refl H) (.bl _)
  · cases hd) ha hb hm
/-! an item -/
def gIx (x y : PyData) : Option PyData := match x, y with
  | .tuple ds, .int i => atI ds i
  | .list ds, .int i => atI ds i
  | _, _ => none
theorem atI_dp {K : PySem.W.Frag} {H : Hp} {vs : List V} {ds : List PyData} {i : Int} {d : PyData} (h : DxAll K H vs ds) (e : atI ds i = some d) : ∃ v, atI vs i = some v ∧ Dx K H v d := by
  unfold atI at e ⊢
  rw [dps_len h]
  cases q : ixN ds.length i with
  | none => (rw [q] at e; cases e)
  | some j =>
    rw [q] at e
    obtain ⟨v, h1, h2⟩ := dps_get h e
    exact ⟨v, h1, h2⟩
theorem opD_ix {K : PySem.W.Frag} : OpD K (rIx K) gIx := fun av H x y d v w Q _ hd hx hy k => by
  unfold gIx at hd
  split at hd
  · cases hy
    cases hx with
    | tup hs hn ha =>
      obtain ⟨v, h1, h2⟩ := atI_dp ha hd
      exact .inr (.inl ⟨_, _, _, v, rfl, rfl, sqT_same msk_all hs, h1, k v H (Same.refl H) h2⟩)
  · cases hy
    cases hx with
    | lst hs ha =>
      obtain ⟨v, h1, h2⟩ := atI_dp ha hd
      exact .inl ⟨_, _, _, v, rfl, rfl, SqL.of (msk_some hs).2, h1, k v H (Same.refl H) h2⟩
  · cases hd
theorem d_at (ha : PD X a fa) (hb : PD X b fb) (hs : PlainIx b := by exact fun _ _ => rfl) : PD X (.Subscript a b pos) (cBin gIx fa fb) := d_ix ix_seq opD_ix ha hb hs
theorem d_neg (ha : PD X a fa) : PD X (.UnaryOp .USub a pos) (fun ρ => fa ρ >>= fun x => lift (match x with | .int i => some (.int (-i)) | _ => none)) := PE_imp (pe_un un_neg ha) fun σ H Q ⟨av, q, ρ, S, A, p⟩ => by
  refine tE_step A p fun x S1 v H1 p1 e1 A1 d1 => ?_
  obtain ⟨d, hd, k⟩ := post_lift p1
  split at hd
  · cases d1; cases hd
    exact ⟨_, rfl, k _ H1 e1 A1.feed (.int _)⟩
  · cases hd

/-! ### truth -/
def asB (x : PyData) : M Bool := match x with
  | .bool b => pure b
  | _ => bad
def cB (f : En → M PyData) : En → M Bool := fun ρ => f ρ >>= asB
theorem b_val (ha : PD X a fa) (he : ∀ whole, isTrue a X.env whole = (do let v ← whole; standAt a.pos; holding [v] (truthy v)) := by intro _; rfl) : PB X a (cB fa) := PT_imp (pt_val ha he) fun σ H Q ⟨av, q, ρ, S, A, p⟩ => by
  refine tE_step A p fun x S1 v H1 p1 e1 A1 d1 => ?_
  unfold asB at p1
  split at p1
  · cases d1
    exact ⟨_, rfl, p1 H1 e1 A1.feed⟩
  · exact False.elim p1
variable {ga gb : En → M Bool} {rest : List Expr}
def cNotB (g : En → M Bool) : En → M Bool := fun ρ => g ρ >>= fun b => pure (!b)
theorem b_not (ha : PB X a ga) : PB X (.UnaryOp .Not a pos) (cNotB ga) := PT_imp (pt_not ha) fun σ H Q ⟨av, q, ρ, S, A, p⟩ => by
  refine tD_step A p fun x S1 H1 p1 e1 A1 => ?_
  exact p1 H1 e1 A1.feed
def PWB (X : Cx) (e : Expr) (f : En → M Bool) : Prop := PW X e (tD X.K f)
theorem PW_imp {e : Expr} {t t' : TT} (h : PW X e t) (i : ∀ σ H Q, t' σ H Q → t σ H Q) : PW X e t' := ⟨fun w pins s σ H Q I q => h.run w pins s σ H Q I (i σ H Q q)⟩
def cAndB (g h : En → M Bool) : En → M Bool := fun ρ => g ρ >>= fun b => if b then h ρ else pure false
def cOrB (g h : En → M Bool) : En → M Bool := fun ρ => g ρ >>= fun b => if b then pure true else h ρ
theorem w_and1 (ha : PB X a ga) : PWB X (.BoolOp .And [a] pos) ga := pw_and1 ha
theorem w_or1 (ha : PB X a ga) : PWB X (.BoolOp .Or [a] pos) ga := pw_or1 ha
theorem w_and (ha : PB X a ga) (hb : PWB X (.BoolOp .And (b :: rest) pos) gb) : PWB X (.BoolOp .And (a :: b :: rest) pos) (cAndB ga gb) := PW_imp (pw_and ha hb) fun σ H Q ⟨av, q, ρ, S, A, p⟩ => by
  refine tD_step A p fun x S1 H1 p1 e1 A1 => ?_
  cases x with
  | true => exact iteT ⟨av, q, ρ, S1, A1, R.post_imp p1 (fun b S2 k H' e f => k H' (e1.trans e) f) fun _ _ z => z⟩
  | false => exact iteF (p1 H1 e1 A1.feed)
theorem w_or (ha : PB X a ga) (hb : PWB X (.BoolOp .Or (b :: rest) pos) gb) : PWB X (.BoolOp .Or (a :: b :: rest) pos) (cOrB ga gb) := PW_imp (pw_or ha hb) fun σ H Q ⟨av, q, ρ, S, A, p⟩ => by
  refine tD_step A p fun x S1 H1 p1 e1 A1 => ?_
  cases x with
  | true => exact iteT (p1 H1 e1 A1.feed)
  | false => exact iteF ⟨av, q, ρ, S1, A1, R.post_imp p1 (fun b S2 k H' e f => k H' (e1.trans e) f) fun _ _ z => z⟩
theorem b_w (h : PWB X a ga) : PB X a ga := h.pt
/-- and, or, not as values: all but the last True or False -/
def cAnd (f h : En → M PyData) : En → M PyData := fun ρ => cB f ρ >>= fun b => if b then h ρ else pure (.bool false)
def cOr (f h : En → M PyData) : En → M PyData := fun ρ => cB f ρ >>= fun b => if b then pure (.bool true) else h ρ
def cNot (f : En → M PyData) : En → M PyData := fun ρ => cB f ρ >>= fun b => pure (.bool (!b))
theorem cB_step {K : PySem.W.Frag} {av : List Addr} {q : Addr} {ρ : En} {S : Fd} {σ : E.St} {H : Hp} {f : En → M PyData} {α : Type} {g : Bool → M α} {k : α → Fd → Prop} {Q : VK} (A : At K av q ρ S σ H)
    (p : ((cB f ρ >>= g) S).post k noX) (h : ∀ x S1 v H1, (g x S1).post k noX → Ext [q] H H1 → At K av q ρ S1 σ H1 → v = V.bl x → Q v H1) : tE K f σ H Q := by
  have p' := post_bind (post_bind p)
  refine ⟨av, q, ρ, S, A, R.post_imp p' (fun x S1 hx v H1 e1 f1 d1 => ?_) fun _ _ z => z⟩
  unfold asB at hx
  split at hx
  · cases d1
    exact h _ S1 _ H1 hx e1 (A.ext e1 f1) rfl
  · exact False.elim hx
theorem d_and (ha : PD X a fa) (hb : PD X (.BoolOp .And (b :: rest) pos) fb) : PD X (.BoolOp .And (a :: b :: rest) pos) (cAnd fa fb) := PE_imp (pe_and ha hb) fun σ H Q ⟨av, q, ρ, S, A, p⟩ => by
  refine cB_step A p fun x S1 v H1 p1 e1 A1 ev => ⟨x, ev, ?_⟩
  cases x with
  | true => exact iteT ⟨av, q, ρ, S1, A1, R.post_imp p1 (fun b S2 k v H' e f => k v H' (e1.trans e) f) fun _ _ z => z⟩
  | false => exact iteF (p1 _ H1 e1 A1.feed (.bl false))
theorem d_or (ha : PD X a fa) (hb : PD X (.BoolOp .Or (b :: rest) pos) fb) : PD X (.BoolOp .Or (a :: b :: rest) pos) (cOr fa fb) := PE_imp (pe_or ha hb) fun σ H Q ⟨av, q, ρ, S, A, p⟩ => by
  refine cB_step A p fun x S1 v H1 p1 e1 A1 ev => ⟨x, ev, ?_⟩
  cases x with
  | true => exact iteT (p1 _ H1 e1 A1.feed (.bl true))
  | false => exact iteF ⟨av, q, ρ, S1, A1, R.post_imp p1 (fun b S2 k v H' e f => k v H' (e1.trans e) f) fun _ _ z => z⟩
theorem d_one {op} (h : PD X a fa) : PD X (.BoolOp op [a] pos) fa := pe_one h
theorem d_not (ha : PD X a fa) : PD X (.UnaryOp .Not a pos) (cNot fa) := PE_imp (pe_not ha) fun σ H Q ⟨av, q, ρ, S, A, p⟩ =>
  cB_step A p fun x S1 v H1 p1 e1 A1 ev => ⟨x, ev, p1 _ H1 e1 A1.feed (.bl _)⟩
def cIf (g : En → M Bool) (f h : En → M PyData) : En → M PyData := fun ρ => g ρ >>= fun b => if b then f ρ else h ρ
theorem d_if (hc : PB X c ga) (ha : PD X a fa) (hb : PD X b fb) : PD X (.IfExp c a b pos) (cIf ga fa fb) := PE_imp (pe_ifExp hc ha hb) fun σ H Q ⟨av, q, ρ, S, A, p⟩ => by
  refine tD_step A p fun x S1 H1 p1 e1 A1 => ?_
  cases x with
  | true => exact iteT ⟨av, q, ρ, S1, A1, R.post_imp p1 (fun b S2 k v H' e f => k v H' (e1.trans e) f) fun _ _ z => z⟩
  | false => exact iteF ⟨av, q, ρ, S1, A1, R.post_imp p1 (fun b S2 k v H' e f => k v H' (e1.trans e) f) fun _ _ z => z⟩
end
end E
end

section
set_option Elab.async false
set_option linter.all false
set_option maxRecDepth 100000
set_option maxHeartbeats 2100000
namespace E
open L2 PySem.Spec PyProof.Rows PySem
section
variable {X : Cx}

/-! ### argument lists, displays -/
def aNil : En → M (List Ag) := fun _ => pure []
def aD (f : En → M PyData) (fs : En → M (List Ag)) : En → M (List Ag) := fun ρ => f ρ >>= fun x => fs ρ >>= fun r => pure (.d x :: r)
def aF (i : Nat) (fs : En → M (List Ag)) : En → M (List Ag) := fun ρ => getF i ρ >>= fun _ => fs ρ >>= fun r => pure (.fd :: r)
theorem a_nil : PG_A X [] aNil := PA_imp pa_nil fun σ H Q ⟨av, q, ρ, S, A, p⟩ => p [] H (Ext.refl H) A.feed .nil
theorem a_d {e : Expr} {es : List Expr} {f : En → M PyData} {fs : En → M (List Ag)} (h : PD X e f) (hs : PG_A X es fs) (hst : starEach (e :: es) X.env = (false, eval e X.env) :: starEach es X.env := by rfl) : PG_A X (e :: es) (aD f fs) := PA_imp (pa_cons h hs hst) fun σ H Q ⟨av, q, ρ, S, A, p⟩ => by
  refine tE_step A p fun x S1 v H1 p1 e1 A1 d1 => ?_
  refine tAg_step A1 p1 fun r S2 vs H2 p2 e2 A2 d2 => ?_
  exact p2 _ H2 (e1.trans e2) A2.feed (.cons (ext_dp A.feed.1 e2 d1) d2)
theorem a_f {x : Str} {pos : Pos} {es : List Expr} {fs : En → M (List Ag)} (i : Nat) (hs : PG_A X es fs) (hN : X.N[i]? = some x := by rfl) (hv : Vis X.env.scope x := by first | exact Or.inl rfl | exact Or.inr (Or.inl rfl) | exact Or.inr (Or.inr rfl)) (hd : (x == ("__debug__" : Str)) = false := by decide)
    (hcd : (x == ("__classdict__" : Str)) = false := by decide) (hst : starEach (.Name x pos :: es) X.env = (false, eval (.Name x pos) X.env) :: starEach es X.env := by rfl) : PG_A X (.Name x pos :: es) (aF i fs) := PA_imp (pa_cons (pe_var hN hv hd hcd) hs hst) fun σ H Q ⟨av, q, ρ, S, A, p⟩ => by
  obtain ⟨e, k⟩ := getF_post (post_bind p)
  obtain ⟨v, h1, h2⟩ := A.slot i _ e
  refine ⟨v, h1, tAg_step A k fun r S2 vs H2 p2 e2 A2 d2 => ?_⟩
  exact p2 _ H2 e2 A2.feed (.cons h2 d2)
def dats : List Ag → Option (List PyData)
  | [] => some []
  | .d x :: r => match dats r with
    | some xs => some (x :: xs)
    | none => none
  | .fd :: _ => none
theorem dats_ok {K : PySem.W.Frag} {av : List Addr} {q : Addr} {H : Hp} : ∀ {as : List Ag} {vs : List V} {ds : List PyData}, AgsOk K av q H as vs → dats as = some ds → DxAll K (msk av H) vs ds
  | [], _, _, h, e => by cases h; cases e; exact .nil
  | .d x :: r, _, _, h, e => by
    cases h with
    | cons a t =>
      unfold dats at e
      cases z : dats r with
      | none => rw [z] at e; cases e
      | some xs => rw [z] at e; cases e; exact .cons a (dats_ok t z)
  | .fd :: _, _, _, _, e => by cases e
def small (ds : List PyData) : Bool := decide (ds.length ≤ 16777216)
theorem small_ok {ds : List PyData} (h : small ds = true) : ds.length ≤ sizeLine := by
  rw [sizeLine_eq]; exact of_decide_eq_true h
def mkTup (as : List Ag) : Option PyData := (dats as).bind fun ds => if small ds then some (.tuple ds) else none
def mkLst (as : List Ag) : Option PyData := (dats as).bind fun ds => if small ds then some (.list ds) else none
def cTup (fs : En → M (List Ag)) : En → M PyData := fun ρ => fs ρ >>= fun as => lift (mkTup as)
def cLst (fs : En → M (List Ag)) : En → M PyData := fun ρ => fs ρ >>= fun as => lift (mkLst as)
theorem dp_newTup {K : PySem.W.Frag} {av : List Addr} {H : Hp} {p : Addr} {o : Obj} {vs : List V} {ds : List PyData} (t : ∀ p ∈ av, ∃ o, H p = some o) (n : H p = none) (ho : Pl o) (h : DxAll K (msk av H) vs ds) : Dx K (msk av (upd H p (.frz o (.tup vs)))) (.ref p) (.tuple ds) :=
  .tup (.inl (.inr ⟨o, msk_of (not_av t n) upd_same⟩)) (.inl ⟨o, _, msk_of (not_av t n) upd_same, ho⟩) (dps_same (msk_same (same_new n)) ds vs h)
def tTupF (t : TA) : TE := fun σ H Q => t σ H fun xs H1 => xs.length ≤ sizeLine ∧ ∀ p o, H1 p = none → Pl o → Q (.ref p) (upd H1 p (.frz o (.tup xs)))
theorem frz_ok {P : Program} {w : World} {H : Hp} {h : Heap} {xs : List V} {us : List Value} (hz : xs.length ≤ sizeLine) (r : Vals xs us) : ObjOk P w (upd H h.objs.size (.frz { cls := .type "tuple", data := .seq us.toArray } (.tup xs))) (h.push { cls := .type "tuple", data := .seq us.toArray }) h.objs.size (.frz { cls := .type "tuple", data := .seq us.toArray } (.tup xs)) :=
  ⟨Heap.get?_push_size _ rfl, hz, us, r, IsTup.new _ _⟩
theorem pe_tupF {es : List Expr} {t : TA} {x1} {pos : Pos} (h : PA X es t) : PE X (.Tuple es x1 pos) (tTupF t) := by
  refine ⟨fun pins s σ H Q I hq => wpAny_Tuple_spliced (thn (h.run pos pins s σ H _ I hq) fun us s1 ⟨xs, H1, I1, r, z, q⟩ => ⟨by rw [← r.length]; exact z, ?_⟩)⟩
  exact ⟨.ref s1.heap.objs.size, _, I1.laid (t' := s1.toks) (fun b u e => Heap.get?_push_of_some _ e) (Nat.le_refl _) (frz_ok z r), rfl, q _ _ (I1.hok.fresh (Nat.le_refl _)) ⟨rfl, rfl⟩⟩
theorem dp_newLst {K : PySem.W.Frag} {av : List Addr} {H : Hp} {p : Addr} {vs : List V} {ds : List PyData} (t : ∀ p ∈ av, ∃ o, H p = some o) (n : H p = none) (h : DxAll K (msk av H) vs ds) : Dx K (msk av (upd H p (.lst vs))) (.ref p) (.list ds) :=
  .lst (msk_of (not_av t n) upd_same) (dps_same (msk_same (same_new n)) ds vs h)
theorem d_tup {es : List Expr} {fs : En → M (List Ag)} {x1} {pos : Pos} (h : PG_A X es fs) : PD X (.Tuple es x1 pos) (cTup fs) := PE_imp (pe_tupF h) fun σ H Q ⟨av, q, ρ, S, A, p⟩ => by
  refine tAg_step A p fun as S1 vs H1 p1 e1 A1 d1 => ?_
  obtain ⟨d, hd, k⟩ := post_lift p1
  unfold mkTup at hd
  cases z : dats as with
  | none => rw [z] at hd; cases hd
  | some ds =>
    rw [z] at hd
    have hd' : (if small ds then some (PyData.tuple ds) else none) = some d := hd
    split at hd'
    · cases hd'
      have hz := dats_ok d1 z
      refine ⟨by rw [dps_len hz]; exact small_ok (by assumption), fun p o hp ho => ?_⟩
      exact k _ _ (e1.trans (Ext.new hp)) (feed_same A1.feed (same_new hp)) (dp_newTup A1.trk hp ho hz)
    · cases hd'
theorem d_lst {es : List Expr} {fs : En → M (List Ag)} {pos : Pos} (h : PG_A X es fs) : PD X (.List es pos) (cLst fs) := PE_imp (pe_lst h) fun σ H Q ⟨av, q, ρ, S, A, p⟩ => by
  refine tAg_step A p fun as S1 vs H1 p1 e1 A1 d1 => ?_
  obtain ⟨d, hd, k⟩ := post_lift p1
  unfold mkLst at hd
  cases z : dats as with
  | none => rw [z] at hd; cases hd
  | some ds =>
    rw [z] at hd
    have hd' : (if small ds then some (PyData.list ds) else none) = some d := hd
    split at hd'
    · cases hd'
      have hz := dats_ok d1 z
      refine ⟨by rw [dps_len hz]; exact small_ok (by assumption), fun p hp => ?_⟩
      exact k _ _ (e1.trans (Ext.new hp)) (feed_same A1.feed (same_new hp)) (dp_newLst A1.trk hp hz)
    · cases hd'

/-! ### calls of built-ins by values -/
def CallD (K : PySem.W.Frag) (r : List V → Hp → VK → Prop) (g : List PyData → Option PyData) : Prop := ∀ (av : List Addr) (H : Hp) (ds : List PyData) (d : PyData) (vs : List V) (Q : VK), (∀ p ∈ av, ∃ o, H p = some o) → g ds = some d →
  DxAll K (msk av H) vs ds → (∀ u H', Same H H' → Dx K (msk av H') u d → Q u H') → r vs H Q
def cCall (g : List PyData → Option PyData) (fs : En → M (List Ag)) : En → M PyData := fun ρ => fs ρ >>= fun as => lift ((dats as).bind g)
theorem tCB_of {K : PySem.W.Frag} {r : List V → Hp → VK → Prop} {g : List PyData → Option PyData} (hg : CallD K r g) {fs : En → M (List Ag)} (σ : E.St) (H : Hp) (Q : VK) (t : tE K (cCall g fs) σ H Q) : tCB r (tAg K fs) σ H Q := by
  obtain ⟨av, q, ρ, S, A, p⟩ := t
  refine tAg_step A p fun as S1 vs H1 p1 e1 A1 d1 => ?_
  obtain ⟨d, hd, k⟩ := post_lift p1
  cases z : dats as with
  | none => rw [z] at hd; cases hd
  | some ds =>
    rw [z] at hd
    exact hg av H1 ds d vs Q A1.trk hd (dats_ok d1 z) fun u H' sm du => k u H' (e1.trans (Ext.of_same sm)) (feed_same A1.feed sm) du
theorem d_callB {id : String} {x : Str} {p pos : Pos} {e : Expr} {es : List Expr} {r : List V → Hp → VK → Prop} {g : List PyData → Option PyData} {fs : En → M (List Ag)} (hc : CallR X (.builtin id) r) (hgd : CallD X.K r g) (hm : X.mg x = none) (ha : PG_A X (e :: es) fs)
    (hg : Gl X x := by rfl) (hv : bootBuiltins x = some (.builtin id) := by decide +kernel) (hn : x ≠ "__name__" := by decide) (hdb : (x == ("__debug__" : Str)) = false := by decide)
    (he : starEach (e :: es) X.env = (false, eval e X.env) :: starEach es X.env := by rfl) (hpl : (backTo pos (starEach es X.env)).any (·.1) = false := by rfl) : PD X (.Call (.Name x p) (e :: es) [] pos) (cCall g fs) :=
  PE_imp (pe_callB hc hg hm hv ha hn hdb he hpl) (tCB_of hgd)
theorem d_callTy {id : String} {x : Str} {p pos : Pos} {e : Expr} {es : List Expr} {r : List V → Hp → VK → Prop} {g : List PyData → Option PyData} {fs : En → M (List Ag)} (hc : CallR X (.type id) r) (hgd : CallD X.K r g) (hm : X.mg x = none) (ha : PG_A X (e :: es) fs)
    (hg : Gl X x := by rfl) (hv : bootBuiltins x = some (.type id) := by decide +kernel) (hn : x ≠ "__name__" := by decide) (hdb : (x == ("__debug__" : Str)) = false := by decide)
    (he : starEach (e :: es) X.env = (false, eval e X.env) :: starEach es X.env := by rfl) (hpl : (backTo pos (starEach es X.env)).any (·.1) = false := by rfl) : PD X (.Call (.Name x p) (e :: es) [] pos) (cCall g fs) :=
  PE_imp (pe_callTy hc hg hm hv ha hn hdb he hpl) (tCB_of hgd)
def gLen (ds : List PyData) : Option PyData := match ds with
  | [.tuple xs] => some (.int xs.length)
  | [.list xs] => some (.int xs.length)
  | _ => none
theorem callD_len {K : PySem.W.Frag} : CallD K (fun xs H Q => ∃ p ys, xs = [.ref p] ∧ (SqL K H p ys ∨ SqT K H p ys) ∧ Q (.int ys.length) H) gLen := fun av H ds d vs Q t hd ha k => by
  unfold gLen at hd
  split at hd
  · cases hd
    cases ha with
    | cons h1 h2 =>
      cases h2
      cases h1 with
      | tup hs hn hx =>
        refine ⟨_, _, rfl, .inr (sqT_same msk_all hs), ?_⟩
        rw [dps_len hx]; exact k _ H (Same.refl H) (.int _)
  · cases hd
    cases ha with
    | cons h1 h2 =>
      cases h2
      cases h1 with
      | lst hs hx =>
        refine ⟨_, _, rfl, .inl (SqL.of (msk_some hs).2), ?_⟩
        rw [dps_len hx]; exact k _ H (Same.refl H) (.int _)
  · cases hd
def gTupOf (ds : List PyData) : Option PyData := match ds with
  | [.tuple xs] => some (.tuple xs)
  | [.list xs] => some (.tuple xs)
  | _ => none
def rTupOf (K : PySem.W.Frag) : List V → Hp → VK → Prop := fun xs H Q => ∃ p ys, xs = [.ref p] ∧ ((SqL K H p ys ∧ ∀ l o, H l = none → Pl o → Q (.ref l) (upd H l (.frz o (.tup ys)))) ∨ (SqT K H p ys ∧ Q (.ref p) H))
theorem call_tupF : CallR X (.type "tuple") (rTupOf X.K) := fun pins s σ H xs us Q I rel ⟨p, ys, one, way⟩ => by
  subst one
  obtain ⟨u, rfl, isRef⟩ := rel.one
  cases isRef
  match way with
  | .inr ⟨isT, same⟩ =>
    obtain ⟨_, _, body, _⟩ := I.tuple isT
    exact call_tuple_same body ⟨.ref p, H, I, rfl, same⟩
  | .inl ⟨isL, fresh⟩ =>
    obtain ⟨items, reads, body, fits⟩ := I.list isL
    have count := reads.length
    refine call_tuple_list body.isList (fun h1 kept => ?_) (by rw [List.size_toArray]; omega)
    have after : Inv X pins σ H { s with heap := h1 } := I.kept (t' := s.toks) kept
    exact ⟨.ref h1.objs.size, _, after.laid (t' := s.toks) (fun _ _ => Heap.get?_push_of_some _) (Nat.le_refl _) (frz_ok fits reads), rfl, fresh _ _ (after.hok.fresh (Nat.le_refl _)) ⟨rfl, rfl⟩⟩
theorem callD_tupOf {K : PySem.W.Frag} : CallD K (rTupOf K) gTupOf := fun av H ds d vs Q t hd ha k => by
  unfold gTupOf at hd
  split at hd
  · cases hd
    cases ha with
    | cons h1 h2 =>
      cases h2
      have h1' := h1
      cases h1 with
      | tup hs hn hx => exact ⟨_, _, rfl, .inr ⟨sqT_same msk_all hs, k _ H (Same.refl H) h1'⟩⟩
  · cases hd
    cases ha with
    | cons h1 h2 =>
      cases h2
      cases h1 with
      | lst hs hx => exact ⟨_, _, rfl, .inl ⟨SqL.of (msk_some hs).2, fun l o hl ho => k _ _ (same_new hl) (dp_newTup t hl ho hx)⟩⟩
  · cases hd
def gListOf (ds : List PyData) : Option PyData := match ds with
  | [.tuple xs] => some (.list xs)
  | [.list xs] => some (.list xs)
  | _ => none
theorem callD_listOf {K : PySem.W.Frag} : CallD K (fun xs H Q => ∃ p ys, xs = [.ref p] ∧ (SqL K H p ys ∨ SqT K H p ys) ∧ ∀ l, H l = none → Q (.ref l) (upd H l (.lst ys))) gListOf := fun av H ds d vs Q t hd ha k => by
  unfold gListOf at hd
  split at hd
  · cases hd
    cases ha with
    | cons h1 h2 =>
      cases h2
      cases h1 with
      | tup hs hn hx => exact ⟨_, _, rfl, .inr (sqT_same msk_all hs), fun l hl => k _ _ (same_new hl) (dp_newLst t hl hx)⟩
  · cases hd
    cases ha with
    | cons h1 h2 =>
      cases h2
      cases h1 with
      | lst hs hx => exact ⟨_, _, rfl, .inl (SqL.of (msk_some hs).2), fun l hl => k _ _ (same_new hl) (dp_newLst t hl hx)⟩
  · cases hd
def boolsOf : List PyData → Option (List Bool)
  | [] => some []
  | .bool b :: r => (boolsOf r).map (b :: ·)
  | _ => none
def intsOf : List PyData → Option (List Int)
  | [] => some []
  | .int b :: r => (intsOf r).map (b :: ·)
  | _ => none
theorem bools_dp {K : PySem.W.Frag} {H : Hp} : ∀ {ds : List PyData} {vs : List V} {bs : List Bool}, DxAll K H vs ds → boolsOf ds = some bs → vs = bs.map V.bl
  | [], _, _, h, e => by cases h; cases e; rfl
  | d :: ds, _, bs, h, e => by
    cases h with
    | cons h1 h2 =>
      cases h1 <;> first | (unfold boolsOf at e; cases e; done) | skip
      rename_i b
      unfold boolsOf at e
      cases z : boolsOf ds with
      | none => rw [z] at e; cases e
      | some r => rw [z] at e; cases e; rw [bools_dp h2 z]; rfl
theorem ints_dp {K : PySem.W.Frag} {H : Hp} : ∀ {ds : List PyData} {vs : List V} {bs : List Int}, DxAll K H vs ds → intsOf ds = some bs → vs = bs.map V.int
  | [], _, _, h, e => by cases h; cases e; rfl
  | d :: ds, _, bs, h, e => by
    cases h with
    | cons h1 h2 =>
      cases h1 <;> first | (unfold intsOf at e; cases e; done) | skip
      rename_i b
      unfold intsOf at e
      cases z : intsOf ds with
      | none => rw [z] at e; cases e
      | some r => rw [z] at e; cases e; rw [ints_dp h2 z]; rfl
def gAll (ds : List PyData) : Option PyData := match ds with
  | [.list xs] => (boolsOf xs).map fun bs => .bool (bs.all id)
  | _ => none
def gAny (ds : List PyData) : Option PyData := match ds with
  | [.list xs] => (boolsOf xs).map fun bs => .bool (bs.any id)
  | _ => none
def gSum (ds : List PyData) : Option PyData := match ds with
  | [.list xs] => (intsOf xs).map fun bs => .int bs.sum
  | _ => none
theorem callD_all {K : PySem.W.Frag} : CallD K (rAll K) gAll := fun av H ds d vs Q t hd ha k => by
  unfold gAll at hd
  split at hd
  · rename_i xs
    cases z : boolsOf xs with
    | none => rw [z] at hd; cases hd
    | some bs =>
      rw [z] at hd; cases hd
      cases ha with
      | cons h1 h2 =>
        cases h2
        cases h1 with
        | lst hs hx => exact ⟨_, bs, rfl, by rw [← bools_dp hx z]; exact SqL.of (msk_some hs).2, k _ H (Same.refl H) (.bl _)⟩
  · cases hd
theorem callD_any {K : PySem.W.Frag} : CallD K (rAny K) gAny := fun av H ds d vs Q t hd ha k => by
  unfold gAny at hd
  split at hd
  · rename_i xs
    cases z : boolsOf xs with
    | none => rw [z] at hd; cases hd
    | some bs =>
      rw [z] at hd; cases hd
      cases ha with
      | cons h1 h2 =>
        cases h2
        cases h1 with
        | lst hs hx => exact ⟨_, bs, rfl, by rw [← bools_dp hx z]; exact SqL.of (msk_some hs).2, k _ H (Same.refl H) (.bl _)⟩
  · cases hd
theorem callD_sum {K : PySem.W.Frag} : CallD K (rSum K) gSum := fun av H ds d vs Q t hd ha k => by
  unfold gSum at hd
  split at hd
  · rename_i xs
    cases z : intsOf xs with
    | none => rw [z] at hd; cases hd
    | some bs =>
      rw [z] at hd; cases hd
      cases ha with
      | cons h1 h2 =>
        cases h2
        cases h1 with
        | lst hs hx => exact ⟨_, bs, rfl, by rw [← ints_dp hx z]; exact SqL.of (msk_some hs).2, k _ H (Same.refl H) (.int _)⟩
  · cases hd
def gInt1 (ds : List PyData) : Option PyData := match ds with
  | [.int i] => some (.int i)
  | _ => none
/-- isinstance(x, T) for a type by name -/
def tyNm (x : PyData) : String := match x with
  | .none => "NoneType"
  | .bool _ => "bool"
  | .int _ => "int"
  | .str _ => "str"
  | .list _ => "list"
  | .tuple _ => "tuple"
  | .dict _ => "dict"
theorem tyX_dp {K : PySem.W.Frag} {av : List Addr} {H : Hp} {v : V} {d : PyData} (h : Dx K (msk av H) v d) : TyX K H v (.type (tyNm d)) := by
  cases h with
  | non => exact .base .non
  | bl b => exact .base (.bl b)
  | int i => exact .base (.int i)
  | str x => exact .base (.str x)
  | lst hs _ => exact .base (.lst (msk_some hs).2)
  | tup hs hn _ =>
    rcases hs with (hs | ⟨o, hs⟩) | ⟨o, its, n, hl, hc, _⟩
    · exact .base (.tup (msk_some hs).2)
    · exact .fTuple (msk_some hs).2
    · exact .kTuple hl hc
def cIsi (T : String) (f : En → M PyData) : En → M PyData := fun ρ => f ρ >>= fun x => lift ((kitB (tyNm x) T).map PyData.bool)
theorem d_isi {T : String} {t : Str} {p p2 pos : Pos} {e : Expr} {f : En → M PyData} (hm : X.mg "isinstance" = none) (hmt : X.mg t = none) (ha : PD X e f) (hv : bootBuiltins t = some (.type T) := by decide +kernel) (hg : Gl X "isinstance" := by rfl) (hgt : Gl X t := by rfl)
    (hvi : bootBuiltins "isinstance" = some (.builtin "isinstance") := by decide +kernel) (hn : t ≠ "__name__" := by decide) (hdb : (t == ("__debug__" : Str)) = false := by decide)
    (he : starEach (e :: [Expr.Name t p2]) X.env = (false, eval e X.env) :: starEach [Expr.Name t p2] X.env := by rfl) (he2 : starEach [Expr.Name t p2] X.env = (false, eval (Expr.Name t p2) X.env) :: starEach [] X.env := by rfl) (hpl : (backTo pos (starEach [Expr.Name t p2] X.env)).any (·.1) = false := by rfl) :
    PD X (.Call (.Name "isinstance" p) [e, .Name t p2] [] pos) (cIsi T f) :=
  PE_imp (pe_callB call_isi hg hm hvi (pa_cons ha (pa_cons (pe_bltn (v := .ty T) hgt hmt hv rfl hn hdb) pa_nil he2) he) (by decide) (by decide) he hpl) fun σ H Q ⟨av, q, ρ, S, A, p⟩ => by
    refine tE_step A p fun x S1 v H1 p1 e1 A1 d1 => ?_
    obtain ⟨d, hd, k⟩ := post_lift p1
    cases z : kitB (tyNm x) T with
    | none => rw [z] at hd; cases hd
    | some b =>
      rw [z] at hd; cases hd
      exact ⟨v, .ty T, _, _, b, rfl, .ty T, tyX_dp d1, kit_ty z, k _ H1 e1 A1.feed (.bl b)⟩

/-! ### slices a[lo:hi] of lists; of tuples -/
def sIxD (n d : Nat) (o : Option PyData) : Option (Option Int) := match o with
  | none => some none
  | some (.int i) => some (some i)
  | _ => none

/-! ### calls of defs -/
abbrev Fn := List Ag → M PyData
def spD (K : PySem.W.Frag) (n : Nat) (F : Fn) : Sp := fun vs H Q _ => vs.length = n ∧ ∃ av q S as, AgsOk K av q H as vs ∧ (∀ p ∈ av, ∃ o, H p = some o) ∧ FeedAt av q S H ∧ wE K av q H (F as S) Q
def cFn (F : Fn) (fs : En → M (List Ag)) : En → M PyData := fun ρ => fs ρ >>= F
theorem ags_n {K : PySem.W.Frag} {av : List Addr} {q : Addr} {H : Hp} {as : List Ag} {vs : List V} {n : Nat} (h : AgsOk K av q H as vs) (e : as.length = n) : vs.length = n := by rw [h.len, e]
def argN (n : Nat) (F : Fn) : Fn := fun as => if as.length = n then F as else bad
theorem d_call {k n : Nat} {f : Addr} {fd : FuncData} {ps : List Str} {F : Fn} {x : Str} {p pos : Pos} {e : Expr} {es : List Expr} {fs : En → M (List Ag)} (G : FnOk X.prog X.w X.K X.mg X.base CX0 k f fd ps (spD X.K n F)) (hr : Room k X.A) (hm : X.mg x = some (.ref f)) (hk : PySem.W.keepIn X.K (.ref f) = true) (hb : Binds X.K fd ps [])
    (ha : PG_A X (e :: es) fs) (hg : Gl X x := by rfl) (hdb : (x == ("__debug__" : Str)) = false := by decide) (he : starEach (e :: es) X.env = (false, eval e X.env) :: starEach es X.env := by rfl) (hpl : (backTo pos (starEach es X.env)).any (·.1) = false := by rfl) :
    PD X (.Call (.Name x p) (e :: es) [] pos) (cFn (argN n F) fs) := PE_imp (pe_call G hr hg hm hk hb .nil pass0 ha hdb he hpl) fun σ H Q ⟨av, q, ρ, S, A, p⟩ => by
  refine tAg_step A p fun as S1 vs H1 p1 e1 A1 d1 => ?_
  unfold argN at p1
  split at p1
  · rw [List.append_nil]
    exact ⟨ags_n d1 (by assumption), av, q, S1, as, d1, A1.trk, A1.feed, R.post_imp p1 (fun b S2 k v H' e f => k v H' (e1.trans e) f) fun _ _ z => z⟩
  · exact False.elim p1
end
end E
end

section
set_option Elab.async false
set_option linter.all false
set_option maxRecDepth 100000
set_option maxHeartbeats 4100000
namespace E
open L2 PySem.Spec PyProof.Rows PySem
section
variable {K : PySem.W.Frag} {av av0 x0 : List Addr} {q : Addr} {ρ ρ' : En} {S S' : Fd} {σ σ' : E.St} {H H' H0 : Hp}
theorem At.set (A : At K av q ρ S σ H) {i : Nat} {d : PyData} {v : V} (h : Dx K (msk av H) v d) : At K av q (ρ.set i (some (.im d))) S (σ.set i (some v)) H where
  len := by simp [A.len]
  slot := fun j s e => by
    by_cases z : i = j
    · subst z
      have hl : i < ρ.length := by
        have := (List.getElem?_eq_some_iff.mp e).1
        simpa using this
      rw [List.getElem?_set_self hl] at e
      cases e
      exact ⟨v, by rw [List.getElem?_set_self (by rw [A.len]; exact hl)], h⟩
    · rw [List.getElem?_set_ne z] at e
      obtain ⟨w, h1, h2⟩ := A.slot j s e
      exact ⟨w, by rw [List.getElem?_set_ne z]; exact h1, h2⟩
  inj := fun a b l l' w e1 e2 e3 e4 => by
    have no : ∀ c m, (ρ.set i (some (.im d)))[c]? = some (some (Sl.ow m)) → i ≠ c ∧ ρ[c]? = some (some (Sl.ow m)) := fun c m e => by
      by_cases z : i = c
      · subst z
        have hl : i < ρ.length := by
          have := (List.getElem?_eq_some_iff.mp e).1
          simpa using this
        rw [List.getElem?_set_self hl] at e; cases e
      · rw [List.getElem?_set_ne z] at e; exact ⟨z, e⟩
    obtain ⟨n1, e1⟩ := no _ _ e1
    obtain ⟨n2, e2⟩ := no _ _ e2
    rw [List.getElem?_set_ne n1] at e3
    rw [List.getElem?_set_ne n2] at e4
    exact A.inj a b l l' w e1 e2 e3 e4
  feed := A.feed
  trk := A.trk
theorem At.off (A : At K av q ρ S σ H) (i : Nat) : At K av q (ρ.set i none) S (σ.set i none) H where
  len := by simp [A.len]
  slot := fun j s e => by
    by_cases z : i = j
    · subst z
      have hl : i < ρ.length := by
        have := (List.getElem?_eq_some_iff.mp e).1
        simpa using this
      rw [List.getElem?_set_self hl] at e; cases e
    · rw [List.getElem?_set_ne z] at e
      obtain ⟨w, h1, h2⟩ := A.slot j s e
      exact ⟨w, by rw [List.getElem?_set_ne z]; exact h1, h2⟩
  inj := fun a b l l' w e1 e2 e3 e4 => by
    have no : ∀ c m, (ρ.set i none)[c]? = some (some (Sl.ow m)) → i ≠ c ∧ ρ[c]? = some (some (Sl.ow m)) := fun c m e => by
      by_cases z : i = c
      · subst z
        have hl : i < ρ.length := by
          have := (List.getElem?_eq_some_iff.mp e).1
          simpa using this
        rw [List.getElem?_set_self hl] at e; cases e
      · rw [List.getElem?_set_ne z] at e; exact ⟨z, e⟩
    obtain ⟨n1, e1⟩ := no _ _ e1
    obtain ⟨n2, e2⟩ := no _ _ e2
    rw [List.getElem?_set_ne n1] at e3
    rw [List.getElem?_set_ne n2] at e4
    exact A.inj a b l l' w e1 e2 e3 e4
  feed := A.feed
  trk := A.trk
def wipeE (ρ : En) : List Nat → En
  | [] => ρ
  | v :: vs => (wipeE ρ vs).set v none
theorem At.wipe (A : At K av q ρ S σ H) : ∀ vs : List Nat, At K av q (wipeE ρ vs) S (L2.wipe σ vs) H
  | [] => A
  | v :: vs => (At.wipe A vs).off v

/-! ### what is walked -/
def Wk (K : PySem.W.Frag) (av : List Addr) (H : Hp) (J : It) (ds : List PyData) : Prop := ∀ (av' : List Addr) (H' : Hp), (∀ p ∈ av, p ∈ av') → (∀ p ∈ av', p ∉ av → H p = none) → Ext av H H' → (∀ p ∈ av', ∃ o, H' p = some o) → ∀ i : Nat,
  (∀ d, ds[i]? = some d → J.go i H' ∧ ∀ x H'', J.yld i H' x H'' → Same H' H'' ∧ Dx K (msk av' H'') x d) ∧ (ds.length ≤ i → J.stop i H')
theorem wk_same {av' : List Addr} (h1 : ∀ p ∈ av, p ∈ av') (h2 : ∀ p ∈ av', p ∉ av → H p = none) (e : Ext av H H') : Same (msk av H) (msk av' H') := fun b o h => by
  obtain ⟨n, z⟩ := msk_some h
  exact msk_of (fun y => by rw [h2 b y n] at z; cases z) (e b o n z)
theorem sqL_at {a : Addr} {vs : List V} (h : msk av H a = some (.lst vs)) : SqL K H a vs := SqL.of (msk_some h).2
theorem sqT_at {a : Addr} {vs : List V} (h : SqT K (msk av H) a vs) : SqT K H a vs := sqT_same msk_all h
theorem wk_list {a : Addr} {vs : List V} {ds : List PyData} (h : msk av H a = some (.lst vs)) (hd : DxAll K (msk av H) vs ds) : Wk K av H (Itl K a) ds := fun av' H' h1 h2 e t i => by
  have sm := wk_same h1 h2 e
  have hs : SqL K H' a vs := sqL_at (sm _ _ h)
  refine ⟨fun d hd' => ?_, fun hl => ⟨vs, hs, by rw [dps_len hd]; exact hl⟩⟩
  obtain ⟨v, hv, hdv⟩ := dps_get hd hd'
  refine ⟨⟨vs, v, hs, hv⟩, fun x H'' y => ?_⟩
  obtain ⟨e1, y⟩ := y
  subst e1
  have z := y vs hs
  rw [hv] at z; cases z
  exact ⟨Same.refl _, dp_same sm d v hdv⟩
theorem wk_tup {a : Addr} {vs : List V} {ds : List PyData} (h : SqT K (msk av H) a vs) (hd : DxAll K (msk av H) vs ds) : Wk K av H (Itt K a) ds := fun av' H' h1 h2 e t i => by
  have sm := wk_same h1 h2 e
  have hs : SqT K H' a vs := sqT_at (sqT_same sm h)
  refine ⟨fun d hd' => ?_, fun hl => ⟨vs, hs, by rw [dps_len hd]; exact hl⟩⟩
  obtain ⟨v, hv, hdv⟩ := dps_get hd hd'
  refine ⟨⟨vs, v, hs, hv⟩, fun x H'' y => ?_⟩
  obtain ⟨e1, y⟩ := y
  subst e1
  have z := y vs hs
  rw [hv] at z; cases z
  exact ⟨Same.refl _, dp_same sm d v hdv⟩
def rngD (lo : Int) (n : Nat) : List PyData := (List.range n).map fun (k : Nat) => .int (lo + k)
theorem wk_rng {lo : Int} {n : Nat} : Wk K av H (Itr lo n) (rngD lo n) := fun av' H' h1 h2 e t i => by
  refine ⟨fun d hd => ?_, fun hl => by show n ≤ i; simpa [rngD] using hl⟩
  have hi : i < n := by
    have := (List.getElem?_eq_some_iff.mp hd).1
    simpa [rngD] using this
  refine ⟨hi, fun x H'' y => ?_⟩
  obtain ⟨e1, e2⟩ := y
  subst e1 e2
  have z : rngD lo n = (List.range n).map fun (k : Nat) => PyData.int (lo + k) := rfl
  rw [z, List.getElem?_map, List.getElem?_range hi] at hd
  cases hd
  exact ⟨Same.refl _, .int _⟩
def rngC (lo c : Int) (n : Nat) : List PyData := (List.range n).map fun (k : Nat) => .int (lo + k * c)
theorem wk_rngC {lo c : Int} {n : Nat} : Wk K av H (Itc lo c n) (rngC lo c n) := fun av' H' h1 h2 e t i => by
  refine ⟨fun d hd => ?_, fun hl => by show n ≤ i; simpa [rngC] using hl⟩
  have hi : i < n := by
    have := (List.getElem?_eq_some_iff.mp hd).1
    simpa [rngC] using this
  refine ⟨hi, fun x H'' y => ?_⟩
  obtain ⟨e1, e2⟩ := y
  subst e1 e2
  have z : rngC lo c n = (List.range n).map fun (k : Nat) => PyData.int (lo + k * c) := rfl
  rw [z, List.getElem?_map, List.getElem?_range hi] at hd
  cases hd
  exact ⟨Same.refl _, .int _⟩
def tI (K : PySem.W.Frag) (f : En → M (List PyData)) : TI := fun σ H R => ∃ av q ρ S, At K av q ρ S σ H ∧
  (f ρ S).post (fun ds S' => ∀ J H', Ext [q] H H' → FeedAt av q S' H' → Wk K av H' J ds → R J H') noX
end
section
variable {X : Cx}
def PID (X : Cx) (tg iter : Expr) (f : En → M (List PyData)) : Prop := PI X tg iter (tI X.K f)
theorem PI_imp {tg iter : Expr} {t t' : TI} (h : PI X tg iter t) (i : ∀ σ H Q, t' σ H Q → t σ H Q) : PI X tg iter t' := ⟨fun pins s σ H R I q => h.run pins s σ H R I (i σ H R q)⟩
def asL (x : PyData) : M (List PyData) := match x with
  | .list ds => pure ds
  | _ => bad
def asT (x : PyData) : M (List PyData) := match x with
  | .tuple ds => pure ds
  | _ => bad
theorem i_list {tg e : Expr} {f : En → M PyData} (h : PD X e f) : PID X tg e (fun ρ => f ρ >>= asL) := PI_imp (pi_list h) fun σ H R ⟨av, q, ρ, S, A, p⟩ => by
  refine tE_step A p fun x S1 v H1 p1 e1 A1 d1 => ?_
  unfold asL at p1
  split at p1
  · cases d1 with
    | lst hs hx => exact ⟨_, rfl, ⟨_, sqL_at hs⟩, p1 _ H1 e1 A1.feed (wk_list hs hx)⟩
  · exact False.elim p1
theorem i_tup {tg e : Expr} {f : En → M PyData} (h : PD X e f) : PID X tg e (fun ρ => f ρ >>= asT) := PI_imp (pi_tup h) fun σ H R ⟨av, q, ρ, S, A, p⟩ => by
  refine tE_step A p fun x S1 v H1 p1 e1 A1 d1 => ?_
  unfold asT at p1
  split at p1
  · cases d1 with
    | tup hs hn hx => exact ⟨_, rfl, ⟨_, sqT_at hs⟩, p1 _ H1 e1 A1.feed (wk_tup hs hx)⟩
  · exact False.elim p1
def inRg (i : Int) : Bool := decide (-(2 ^ 62) ≤ i ∧ i < 2 ^ 62)
def rg1 (as : List Ag) : M (List PyData) := match as with
  | [.d (.int j)] => if inRg j then pure (rngD 0 j.toNat) else bad
  | _ => bad
def rg2 (as : List Ag) : M (List PyData) := match as with
  | [.d (.int i), .d (.int j)] => if inRg i && inRg j then pure (rngD i (j - i).toNat) else bad
  | _ => bad
def rg3 (as : List Ag) : M (List PyData) := match as with
  | [.d (.int i), .d (.int j), .d (.int c)] => if decide (c ≠ 0 ∧ c.natAbs < 1073741824 ∧ Builtin.Range.small i j c = true ∧ 0 ≤ Builtin.Range.rangeSize i j c) then pure (rngC i c (Builtin.Range.rangeSize i j c).toNat) else bad
  | _ => bad
theorem i_rg1 {tg a : Expr} {p pos : Pos} {fs : En → M (List Ag)} (hm : X.mg "range" = none) (ha : PG_A X [a] fs) (hg : Gl X "range" := by rfl) (hs : starEach [a] X.env = [(false, eval a X.env)] := by rfl) : PID X tg (.Call (.Name "range" p) [a] [] pos) (fun ρ => fs ρ >>= rg1) := PI_imp (pi_range1 hg hm ha hs) fun σ H R ⟨av, q, ρ, S, A, p⟩ => by
  refine tAg_step A p fun as S1 vs H1 p1 e1 A1 d1 => ?_
  unfold rg1 at p1
  split at p1
  · split at p1
    · rename_i hr
      cases d1 with
      | cons h1 h2 =>
        cases h2
        cases h1
        have hr' := of_decide_eq_true hr
        exact ⟨_, rfl, hr'.1, hr'.2, p1 _ H1 e1 A1.feed wk_rng⟩
    · exact False.elim p1
  · exact False.elim p1
theorem i_rg2 {tg a b : Expr} {p pos : Pos} {fs : En → M (List Ag)} (hm : X.mg "range" = none) (ha : PG_A X [a, b] fs) (hg : Gl X "range" := by rfl) (hs : starEach [a, b] X.env = [(false, eval a X.env), (false, eval b X.env)] := by rfl) (hs2 : starEach [b] X.env = [(false, eval b X.env)] := by rfl) :
    PID X tg (.Call (.Name "range" p) [a, b] [] pos) (fun ρ => fs ρ >>= rg2) := PI_imp (pi_range2 hg hm ha hs hs2) fun σ H R ⟨av, q, ρ, S, A, p⟩ => by
  refine tAg_step A p fun as S1 vs H1 p1 e1 A1 d1 => ?_
  unfold rg2 at p1
  split at p1
  · split at p1
    · rename_i hr
      rw [Bool.and_eq_true] at hr
      cases d1 with
      | cons h1 h2 =>
        cases h2 with
        | cons h3 h4 =>
          cases h4
          cases h1
          cases h3
          have hr1 := of_decide_eq_true hr.1
          have hr2 := of_decide_eq_true hr.2
          exact ⟨_, _, rfl, ⟨hr1.1, hr1.2, hr2.1, hr2.2⟩, p1 _ H1 e1 A1.feed wk_rng⟩
    · exact False.elim p1
  · exact False.elim p1
theorem i_rg3 {tg a b c : Expr} {p pos : Pos} {fs : En → M (List Ag)} (hm : X.mg "range" = none) (ha : PG_A X [a, b, c] fs) (hg : Gl X "range" := by rfl) (he : starEach [a, b, c] X.env = (false, eval a X.env) :: starEach [b, c] X.env := by rfl) (hpl : (backTo pos (starEach [b, c] X.env)).any (·.1) = false := by rfl) :
    PID X tg (.Call (.Name "range" p) [a, b, c] [] pos) (fun ρ => fs ρ >>= rg3) := PI_imp (pi_range3 hg hm ha he hpl) fun σ H R ⟨av, q, ρ, S, A, p⟩ => by
  refine tAg_step A p fun as S1 vs H1 p1 e1 A1 d1 => ?_
  unfold rg3 at p1
  split at p1
  · split at p1
    · rename_i hr
      have hr' := of_decide_eq_true hr
      cases d1 with
      | cons h1 h2 =>
        cases h2 with
        | cons h3 h4 =>
          cases h4 with
          | cons h5 h6 =>
            cases h6
            cases h1
            cases h3
            cases h5
            exact ⟨_, _, _, _, rfl, ⟨hr'.1, hr'.2.1, hr'.2.2.1, (Int.toNat_of_nonneg hr'.2.2.2).symm⟩, p1 _ H1 e1 A1.feed wk_rngC⟩
    · exact False.elim p1
  · exact False.elim p1

/-! ### targets -/
/-- own lists stay where they are -/
def OwSub (is : List Nat) (ρ ρ' : En) : Prop := ∀ (i : Nat) (l : List PyData), ρ'[i]? = some (some (Sl.ow l)) → i ∉ is ∧ ρ[i]? = some (some (Sl.ow l))
theorem owSub_set {ρ : En} {i : Nat} {d : PyData} : OwSub [i] ρ (ρ.set i (some (.im d))) := fun j l e => by
  by_cases z : i = j
  · subst z
    have hl : i < ρ.length := by
      have := (List.getElem?_eq_some_iff.mp e).1
      simpa using this
    rw [List.getElem?_set_self hl] at e; cases e
  · rw [List.getElem?_set_ne z] at e
    exact ⟨by simpa using fun y => z y.symm, e⟩
theorem OwSub.trans {is js : List Nat} {a b c : En} (h1 : OwSub is a b) (h2 : OwSub js b c) : OwSub (is ++ js) a c := fun i l e => by
  obtain ⟨n2, e2⟩ := h2 i l e
  obtain ⟨n1, e1⟩ := h1 i l e2
  exact ⟨by simp [n1, n2], e1⟩
def tGd (K : PySem.W.Frag) (is : List Nat) (b : PyData → En → Option En) : TG := fun v σ H Q => ∃ av q ρ S d, At K av q ρ S σ H ∧ Dx K (msk av H) v d ∧ ∃ ρ', b d ρ = some ρ' ∧
  ∀ σ', At K av q ρ' S σ' H → σ'.length = σ.length → (∀ j, j ∉ is → σ'[j]? = σ[j]?) → OwSub is ρ ρ' → Q σ' H
def PGD (X : Cx) (tg : Expr) (is : List Nat) (b : PyData → En → Option En) : Prop := PG X tg (tGd X.K is b)
def tGsd (K : PySem.W.Frag) (is : List Nat) (b : List PyData → En → Option En) : TGs := fun vs σ H Q => ∃ av q ρ S ds, At K av q ρ S σ H ∧ DxAll K (msk av H) vs ds ∧ ∃ ρ', b ds ρ = some ρ' ∧
  ∀ σ', At K av q ρ' S σ' H → σ'.length = σ.length → (∀ j, j ∉ is → σ'[j]? = σ[j]?) → OwSub is ρ ρ' → Q σ' H
def PGsD (X : Cx) (ts : List Expr) (is : List Nat) (b : List PyData → En → Option En) : Prop := PGs X ts (tGsd X.K is b)
theorem PG_imp {tg : Expr} {t t' : TG} (h : PG X tg t) (i : ∀ v σ H Q, t' v σ H Q → t v σ H Q) : PG X tg t' := ⟨fun pins s σ H v u Q I r q => h.run pins s σ H v u Q I r (i v σ H Q q)⟩
theorem PGs_imp {tg : List Expr} {t t' : TGs} (h : PGs X tg t) (i : ∀ v σ H Q, t' v σ H Q → t v σ H Q) : PGs X tg t' := ⟨fun pins s σ H v u Q I r q => h.run pins s σ H v u Q I r (i v σ H Q q)⟩
def bNm (i : Nat) (d : PyData) (ρ : En) : Option En := some (ρ.set i (some (.im d)))
theorem g_nm {x : Str} {pos : Pos} (i : Nat) (hN : X.N.Nodup) (hi : X.N[i]? = some x := by rfl) (hx : Loc X.env.scope x := by first | exact Or.inl rfl | exact Or.inr rfl) (hf : X.fn x = true ∨ X.env.scope.names.lookup x = some .local := by first | exact .inl rfl | exact .inr rfl | assumption) : PGD X (.Name x pos) [i] (bNm i) :=
  PG_imp (pg_name hN hi hx hf) fun v σ H Q ⟨av, q, ρ, S, d, A, hd, ρ', e, k⟩ => by
    cases e
    refine k _ (A.set hd) (by simp) (fun j hj => ?_) owSub_set
    rw [List.getElem?_set_ne (by simpa using fun z => hj (by simp [z]))]
def bsNil (ds : List PyData) (ρ : En) : Option En := match ds with
  | [] => some ρ
  | _ => none
def bsCons (b : PyData → En → Option En) (bs : List PyData → En → Option En) (ds : List PyData) (ρ : En) : Option En := match ds with
  | d :: r => (b d ρ).bind (bs r)
  | _ => none
theorem gs_nil : PGsD X [] [] bsNil := PGs_imp pgs_nil fun vs σ H Q ⟨av, q, ρ, S, ds, A, hd, ρ', e, k⟩ => by
  unfold bsNil at e
  split at e
  · cases hd; cases e
    exact ⟨rfl, k σ A rfl (fun _ _ => rfl) fun i l e => ⟨by simp, e⟩⟩
  · cases e
theorem gs_cons {e : Expr} {es : List Expr} {is js : List Nat} {b : PyData → En → Option En} {bs : List PyData → En → Option En} (h1 : PGD X e is b) (h2 : PGsD X es js bs)
    (hst : (assignEach (e :: es) X.env).map (·.2) = assign e X.env :: (assignEach es X.env).map (·.2) := by rfl) : PGsD X (e :: es) (is ++ js) (bsCons b bs) := PGs_imp (pgs_cons h1 h2 hst) fun vs σ H Q ⟨av, q, ρ, S, ds, A, hd, ρ', e, k⟩ => by
  cases ds with
  | nil => cases e
  | cons d r =>
    have e : (b d ρ).bind (bs r) = some ρ' := e
    cases hd with
    | cons r1 r2 =>
      cases z : b d ρ with
      | none => rw [z] at e; cases e
      | some ρ1 =>
        rw [z] at e
        refine ⟨_, _, rfl, av, q, ρ, S, d, A, r1, ρ1, z, fun σ1 A1 l1 o1 w1 => ?_⟩
        refine ⟨av, q, ρ1, S, r, A1, r2, ρ', e, fun σ2 A2 l2 o2 w2 => ?_⟩
        exact k σ2 A2 (l2.trans l1) (fun j hj => by
          rw [List.mem_append] at hj
          rw [o2 j fun z => hj (.inr z), o1 j fun z => hj (.inl z)]) (w1.trans w2)
def bTup (n : Nat) (bs : List PyData → En → Option En) (d : PyData) (ρ : En) : Option En := match d with
  | .tuple ds => if ds.length = n then bs ds ρ else none
  | _ => none
theorem g_tup {es : List Expr} {k : Nat} {n : Nat} {pos : Pos} {is : List Nat} {bs : List PyData → En → Option En} (hc : X.calm = true) (h : PGsD X es is bs)
    (hn : (assignEach es X.env).length = n := by rfl) (hst : (assignEach es X.env).findIdx? (·.1) = none := by rfl) : PGD X (.Tuple es k pos) is (bTup n bs) := PG_imp (pg_tup hc h hn hst) fun v σ H Q ⟨av, q, ρ, S, d, A, hd, ρ', e, k⟩ => by
  unfold bTup at e
  split at e
  · split at e
    · cases hd with
      | tup hs hn hx => exact ⟨_, _, rfl, sqT_at hs, by rw [dps_len hx]; assumption, av, q, ρ, S, _, A, hx, ρ', e, k⟩
    · cases e
  · cases e

/-! ### list comprehensions -/
theorem wipe_off : ∀ {vs is : List Nat} {σ σ' : E.St}, (∀ i ∈ is, i ∈ vs) → σ'.length = σ.length → (∀ j, j ∉ is → σ'[j]? = σ[j]?) → L2.wipe σ' vs = L2.wipe σ vs := fun {vs is σ σ'} h hl ho => by
  apply List.ext_getElem?
  intro j
  by_cases hj : j ∈ vs
  · have z : ∀ τ : E.St, τ.length = σ.length → (L2.wipe τ vs)[j]? = if j < σ.length then some none else none := fun τ ht => by
      have key : ∀ (ws : List Nat), j ∈ ws → (L2.wipe τ ws)[j]? = if j < τ.length then some none else none := fun ws => by
        induction ws with
        | nil => intro m; cases m
        | cons w ws ih =>
          intro m
          show ((L2.wipe τ ws).set w none)[j]? = _
          by_cases e : w = j
          · subst e
            by_cases hlt : w < τ.length
            · rw [List.getElem?_set_self (by rw [wipe_length]; exact hlt), if_pos hlt]
            · rw [if_neg hlt, List.getElem?_eq_none (by rw [List.length_set, wipe_length]; omega)]
          · rw [List.getElem?_set_ne e]
            exact ih (by
              rcases List.mem_cons.mp m with z | z
              · exact absurd z.symm e
              · exact z)
      rw [key vs hj, ht]
    rw [z σ' hl, z σ rfl]
  · rw [wipe_out hj, wipe_out hj]
    exact ho j fun z => hj (h j z)
theorem wipe_idem {vs : List Nat} {σ : E.St} : L2.wipe (L2.wipe σ vs) vs = L2.wipe σ vs := wipe_off (is := vs) (fun _ h => h) (wipe_length σ vs) fun j hj => wipe_out hj
def lcGo (vs : List Nat) (b : PyData → En → Option En) (t : En → M Bool) (fe : En → M PyData) (ρ : En) : List PyData → List PyData → M PyData
  | [], acc => pure (.list acc)
  | d :: ds, acc => match b d (wipeE ρ vs) with
    | none => bad
    | some ρ1 => t ρ1 >>= fun c => if c then fe ρ1 >>= fun y => if acc.length < 16777216 then lcGo vs b t fe ρ ds (acc ++ [y]) else bad else lcGo vs b t fe ρ ds acc
def cLc (fi : En → M (List PyData)) (vs : List Nat) (b : PyData → En → Option En) (t : En → M Bool) (fe : En → M PyData) : En → M PyData := fun ρ => fi ρ >>= fun ds => lcGo vs b t fe ρ ds []
def PTsD (X : Cx) (ifs : List Expr) (f : En → M Bool) : Prop := PTs X ifs (tD X.K f)
def yes : En → M Bool := fun _ => pure true
theorem t_nil : PTsD X [] yes := ⟨fun pins s σ H Q I ⟨av, q, ρ, S, A, p⟩ => pts_nil.run pins s σ H Q I (p H (Ext.refl H) A.feed)⟩
theorem t_one {c : Expr} {f : En → M Bool} (h : PB X c f) : PTsD X [c] f := pts_one h
/-- a list under way at D -/
theorem at_new {K : PySem.W.Frag} {av : List Addr} {q D : Addr} {ρ : En} {S : Fd} {σ : E.St} {H : Hp} (A : At K av q ρ S σ H) (hD : H D = none) : At K (D :: av) q ρ S σ (upd H D (.lst [])) where
  len := A.len
  slot := fun i s hs => by
    obtain ⟨v, h1, h2⟩ := A.slot i s hs
    have sm : Same (msk av H) (msk (D :: av) (upd H D (.lst []))) := fun b o z => by
      obtain ⟨n, z⟩ := msk_some z
      have nb : b ≠ D := ne_of_none z hD
      exact msk_of (by simp [n, nb]) (same_new hD b o z)
    refine ⟨v, h1, ?_⟩
    cases s with
    | im d => exact dp_same sm d v h2
    | ow l =>
      obtain ⟨p, vs, rfl, hp, hne, ho, ha⟩ := h2
      exact ⟨p, vs, rfl, by simp [hp], hne, same_new hD _ _ ho, dps_same sm l vs ha⟩
    | fd => exact h2
  inj := A.inj
  feed := by
    obtain ⟨hq, hc, a, b⟩ := A.feed
    exact ⟨by simp [hq], by simp [hc, ne_of_none b hD], same_new hD _ _ a, same_new hD _ _ b⟩
  trk := fun p hp => by
    rcases List.mem_cons.mp hp with z | z
    · rw [z]; exact ⟨_, upd_same⟩
    · obtain ⟨o, h⟩ := A.trk p z
      exact ⟨o, same_new hD _ _ h⟩
def NotOw (ρ : En) (σ : E.St) (D : Addr) : Prop := ∀ (i : Nat) (l : List PyData), ρ[i]? = some (some (Sl.ow l)) → σ[i]? ≠ some (some (V.ref D))
theorem notOw_new {K : PySem.W.Frag} {av : List Addr} {q D : Addr} {ρ : En} {S : Fd} {σ : E.St} {H : Hp} (A : At K av q ρ S σ H) (hD : H D = none) : NotOw ρ σ D := fun i l e z => by
  obtain ⟨v, h1, p, vs, rfl, hp, hne, ho, ha⟩ := A.slot i _ e
  rw [h1] at z
  cases z
  rw [hD] at ho; cases ho
theorem at_put {K : PySem.W.Frag} {av : List Addr} {q D : Addr} {ρ : En} {S : Fd} {σ : E.St} {H : Hp} {vs : List V} {o' : HO} (A : At K av q ρ S σ H) (hin : D ∈ av) (n : NotOw ρ σ D) (hD : H D = some (.lst vs)) : At K av q ρ S σ (upd H D o') where
  len := A.len
  slot := fun i s hs => by
    obtain ⟨v, h1, h2⟩ := A.slot i s hs
    have sm : Same (msk av H) (msk av (upd H D o')) := fun b o z => by
      obtain ⟨nb, z⟩ := msk_some z
      exact msk_of nb (by rw [upd_ne fun y => nb (by rw [y]; exact hin)]; exact z)
    refine ⟨v, h1, ?_⟩
    cases s with
    | im d => exact dp_same sm d v h2
    | ow l =>
      obtain ⟨p, ws, rfl, hp, hne, ho, ha⟩ := h2
      have hpD : p ≠ D := fun y => n i l hs (by rw [h1, y])
      exact ⟨p, ws, rfl, hp, hne, by rw [upd_ne hpD]; exact ho, dps_same sm l ws ha⟩
    | fd => exact h2
  inj := A.inj
  feed := by
    obtain ⟨hq, hc, a, b⟩ := A.feed
    exact ⟨hq, hc, by rw [upd_ne (ne_of a hD (by intro z; cases z))]; exact a, by rw [upd_ne fun y => hc (by rw [y]; exact hin)]; exact b⟩
  trk := fun p hp => by
    by_cases z : p = D
    · rw [z]; exact ⟨_, upd_same⟩
    · rw [upd_ne z]; exact A.trk p hp
theorem notOw_wipe {ρ : En} {σ : E.St} {D : Addr} (n : NotOw ρ σ D) : ∀ vs : List Nat, NotOw (wipeE ρ vs) (L2.wipe σ vs) D
  | [] => n
  | v :: vs => fun i l e z => by
    have ih := notOw_wipe n vs
    by_cases y : v = i
    · subst y
      have hl : v < (wipeE ρ vs).length := by
        have := (List.getElem?_eq_some_iff.mp e).1
        simpa [wipeE] using this
      have e' : ((wipeE ρ vs).set v none)[v]? = some (some (Sl.ow l)) := e
      rw [List.getElem?_set_self hl] at e'; cases e'
    · have e' : ((wipeE ρ vs).set v none)[i]? = some (some (Sl.ow l)) := e
      have z' : ((L2.wipe σ vs).set v none)[i]? = some (some (V.ref D)) := z
      rw [List.getElem?_set_ne y] at e' z'
      exact ih i l e' z'
theorem tLc_of {K : PySem.W.Frag} {fi : En → M (List PyData)} {is vs0 : List Nat} {b : PyData → En → Option En} {t : En → M Bool} {fe : En → M PyData} (his : ∀ i ∈ is, i ∈ vs0) (σ : E.St) (H : Hp) (Q : VK) (h : tE K (cLc fi vs0 b t fe) σ H Q) :
    tLc (tI K fi) (tGd K is b) (tD K t) (tE K fe) vs0 σ H Q := by
  obtain ⟨av, q, ρ, S, A, p⟩ := h
  refine ⟨av, q, ρ, S, A, R.post_imp (post_bind p) (fun ds S1 p1 J H1 e1 f1 wk => ?_) fun _ _ z => z⟩
  have A1 := A.ext e1 f1
  intro D hD
  refine ⟨fun i m H' => m = ds.length - i ∧ i ≤ ds.length ∧ ∃ S' acc vs, At K (D :: av) q ρ S' σ H' ∧ Ext [q] H1 H' ∧ H' D = some (.lst vs) ∧ DxAll K (msk (D :: av) H') vs acc ∧
      (lcGo vs0 b t fe ρ (ds.drop i) acc S').post (fun d S' => ∀ v H', Ext [q] H H' → FeedAt av q S' H' → Dx K (msk av H') v d → Q v H') noX, ⟨ds.length, by simp, Nat.zero_le _, S1, [], [], at_new A1 hD, Ext.new hD, upd_same, .nil, p1⟩, ?_⟩
  rintro i m H' ⟨rfl, hi, S', acc, vs, A', e', hvs, hacc, p'⟩
  have w := wk (D :: av) H' (fun p h => by simp [h]) (fun p h n => by
    rcases (List.mem_cons.mp h) with z | z
    · rw [z]; exact hD
    · exact absurd z n) (e'.more fun p h => by rw [List.mem_singleton.mp h]; exact A1.feed.1) A'.trk i
  by_cases hlt : i < ds.length
  · have hd : ds[i]? = some ds[i] := by simp [hlt]
    obtain ⟨go, y⟩ := w.1 _ hd
    have dr : ds.drop i = ds[i] :: ds.drop (i + 1) := by rw [List.drop_eq_getElem_cons hlt]
    rw [dr] at p'
    refine .inr ⟨go, fun H'' => ∃ S' acc vs, At K (D :: av) q ρ S' σ H'' ∧ Ext [q] H1 H'' ∧ H'' D = some (.lst vs) ∧ DxAll K (msk (D :: av) H'') vs acc ∧
      (lcGo vs0 b t fe ρ (ds.drop (i + 1)) acc S').post (fun d S' => ∀ v H', Ext [q] H H' → FeedAt av q S' H' → Dx K (msk av H') v d → Q v H') noX, fun H'' h => ⟨ds.length - (i + 1), by omega, rfl, hlt, h⟩, fun x H2 yl => ?_⟩
    obtain ⟨sm, dx⟩ := y x H2 yl
    have A2 : At K (D :: av) q ρ S' σ H2 := A'.ext (Ext.of_same sm) (feed_same A'.feed sm)
    have p2 : (match b ds[i] (wipeE ρ vs0) with
      | none => bad
      | some ρ1 => t ρ1 >>= fun c => if c then fe ρ1 >>= fun y => if acc.length < 16777216 then lcGo vs0 b t fe ρ (ds.drop (i + 1)) (acc ++ [y]) else bad else lcGo vs0 b t fe ρ (ds.drop (i + 1)) acc : M PyData) S' |>.post (fun d S' => ∀ v H', Ext [q] H H' → FeedAt av q S' H' → Dx K (msk av H') v d → Q v H') noX := p'
    cases hb : b ds[i] (wipeE ρ vs0) with
    | none => rw [hb] at p2; exact False.elim p2
    | some ρ1 =>
      rw [hb] at p2
      refine ⟨D :: av, q, wipeE ρ vs0, S', ds[i], A2.wipe _, dx, ρ1, hb, fun σ2 A3 hl ho _ => ?_⟩
      refine ⟨(wipe_off his hl ho).trans wipe_idem, ?_⟩
      refine tD_step A3 p2 fun c S2 H3 p3 e3 A4 => ?_
      have Hq : D ≠ q := fun z => by
        obtain ⟨_, _, a, _⟩ := A2.feed
        rw [← z, sm D _ hvs] at a; cases a
      have B2 := A'.ext (Ext.of_same sm) (feed_same A'.feed sm)
      have B3 := B2.ext e3 A4.feed
      have v2 : H2 D = some (.lst vs) := sm D _ hvs
      have v3 : H3 D = some (.lst vs) := e3 D _ (by simpa using Hq) v2
      cases c with
      | true =>
        refine iteT (tE_step A4 p3 fun y S3 v H4 p4 e4 A5 d5 => ?_)
        have v4 : H4 D = some (.lst vs) := e4 D _ (by simpa using Hq) v3
        have B4 := B3.ext e4 A5.feed
        have k4 : DxAll K (msk (D :: av) H4) vs acc := ext_dps (List.mem_cons_of_mem D A1.feed.1) e4 (ext_dps (List.mem_cons_of_mem D A1.feed.1) e3 (ext_dps (List.mem_cons_of_mem D A1.feed.1) (Ext.of_same sm) hacc))
        split at p4
        · rename_i hz
          refine ⟨vs, v4, by rw [dps_len hacc, sizeLine_eq]; exact hz, S3, acc ++ [y], vs ++ [v], at_put B4 (by simp) (notOw_new A1 hD) v4, ?_, upd_same, ?_, p4⟩
          · intro b o nb hb
            rw [upd_ne (ne_of_none hb hD)]
            exact e4 b o nb (e3 b o nb (sm b o (e' b o nb hb)))
          · have sm4 : Same (msk (D :: av) H4) (msk (D :: av) (upd H4 D (.lst (vs ++ [v])))) := fun b o z => by
              obtain ⟨nb, z⟩ := msk_some z
              exact msk_of nb (by rw [upd_ne fun y => nb (by simp [y])]; exact z)
            exact dps_app (dps_same sm4 _ _ k4) (dps_one (dp_same sm4 _ _ d5))
        · exact False.elim p4
      | false =>
        refine iteF ⟨S2, acc, vs, B3, ?_, v3, ext_dps (List.mem_cons_of_mem D A1.feed.1) e3 (ext_dps (List.mem_cons_of_mem D A1.feed.1) (Ext.of_same sm) hacc), p3⟩
        intro b o nb hb
        exact e3 b o nb (sm b o (e' b o nb hb))
  · have e : i = ds.length := by omega
    subst e
    rw [List.drop_length] at p'
    have kk : ∀ v H', Ext [q] H H' → FeedAt av q S' H' → Dx K (msk av H') v (.list acc) → Q v H' := p'
    refine .inl ⟨w.2 (Nat.le_refl _), kk _ H' (e1.trans e') (A'.feed.less (fun p h => by simp [h]) A1.feed.1) ?_⟩
    exact .lst (msk_of (not_av A1.trk hD) hvs) (dps_same (msk_less fun p h => by simp [h]) acc vs hacc)
theorem d_lc {elt tg iter : Expr} {ifs : List Expr} {scope : Scope} {own : List (Str × Nat)} {pos : Pos} {fi : En → M (List PyData)} {is : List Nat} {b : PyData → En → Option En} {t : En → M Bool} {fe : En → M PyData} (hc : X.calm = true) (hN : X.N.Nodup) (hi : PID X tg iter fi) (ok : BlkOk X.N X.env.scope scope own)
    (hg : ∀ (s : Shared) (H : Hp) (C : Addr) (cl : List (Str × Addr)) (fp : List Addr), PGD (X.blk s H scope (compEnvC scope cl C X.env) fp) tg is b) (ht : ∀ (s : Shared) (H : Hp) (C : Addr) (cl : List (Str × Addr)) (fp : List Addr), PTsD (X.blk s H scope (compEnvC scope cl C X.env) fp) ifs t)
    (he : ∀ (s : Shared) (H : Hp) (C : Addr) (cl : List (Str × Addr)) (fp : List Addr), PD (X.blk s H scope (compEnvC scope cl C X.env) fp) elt fe) (his : ∀ i ∈ is, i ∈ own.map (·.2) := by decide) (hs : ∀ x, foldedSetIterable iter X.env x = pure x := by intro _; rfl) :
    PD X (.ListComp elt [⟨tg, iter, ifs, 0⟩] scope pos) (cLc fi (own.map (·.2)) b t fe) := PE_imp (pe_lc (g := tGd X.K is b) (tt := tD X.K t) (te := tE X.K fe) hc hN hi ok hg ht he hs) (tLc_of his)
end
end E
end

section
set_option Elab.async false
set_option linter.all false
set_option maxRecDepth 100000
set_option maxHeartbeats 4100000
namespace E
open L2 PySem.Spec PyProof.Rows PySem
inductive Fl where
  | nx (ρ : En)
  | rt (d : PyData)
  | bk (ρ : En)
  | ct (ρ : En)
structure EnvW (K : PySem.W.Frag) (H0 : Hp) (av0 x0 av : List Addr) (q : Addr) (ρ : En) (S : Fd) (σ : E.St) (H : Hp) : Prop where
  e0 : Ext x0 H0 H
  qx : q ∈ x0
  xs : ∀ p ∈ x0, p ∈ av0
  s0 : ∀ p ∈ av0, p ∈ av
  n0 : ∀ p ∈ av, p ∉ av0 → H0 p = none
  at' : At K av q ρ S σ H
  ow : ∀ (i : Nat) (l : List PyData) (p : Addr), ρ[i]? = some (some (Sl.ow l)) → σ[i]? = some (some (V.ref p)) → p ∉ av0 ∨ p ∈ x0
theorem EnvW.sub {K : PySem.W.Frag} {H0 : Hp} {av0 x0 av : List Addr} {q : Addr} {ρ ρ' : En} {S : Fd} {σ σ' : E.St} {H : Hp} {is : List Nat} (W : EnvW K H0 av0 x0 av q ρ S σ H) (A : At K av q ρ' S σ' H) (h : OwSub is ρ ρ') (o : ∀ j, j ∉ is → σ'[j]? = σ[j]?) : EnvW K H0 av0 x0 av q ρ' S σ' H :=
  ⟨W.e0, W.qx, W.xs, W.s0, W.n0, A, fun i l p e1 e2 => by
    obtain ⟨n, e⟩ := h i l e1
    exact W.ow i l p e (by rw [← o i n]; exact e2)⟩
def flP (K : PySem.W.Frag) (H0 : Hp) (av0 x0 : List Addr) (q : Addr) (D : Ends) (fl : Fl) (S' : Fd) : Prop := match fl with
  | .nx ρ' => ∀ av' σ' H', EnvW K H0 av0 x0 av' q ρ' S' σ' H' → D.nx σ' H'
  | .rt d => ∀ v H', Ext x0 H0 H' → FeedAt av0 q S' H' → Dx K (msk av0 H') v d → D.rt v H'
  | .bk ρ' => ∀ av' σ' H', EnvW K H0 av0 x0 av' q ρ' S' σ' H' → D.bk σ' H'
  | .ct ρ' => ∀ av' σ' H', EnvW K H0 av0 x0 av' q ρ' S' σ' H' → D.ct σ' H'
def tS (K : PySem.W.Frag) (g : En → M Fl) : TS := fun D σ H => ∃ H0 av0 x0 av q ρ S, EnvW K H0 av0 x0 av q ρ S σ H ∧ (g ρ S).post (flP K H0 av0 x0 q D) noX
section
variable {K : PySem.W.Frag} {H0 H H1 : Hp} {av0 x0 av : List Addr} {q : Addr} {ρ : En} {S S1 : Fd} {σ : E.St}
theorem EnvW.ext (W : EnvW K H0 av0 x0 av q ρ S σ H) (e : Ext [q] H H1) (A : At K av q ρ S1 σ H1) : EnvW K H0 av0 x0 av q ρ S1 σ H1 :=
  ⟨W.e0.trans (e.more fun p h => by rw [List.mem_singleton.mp h]; exact W.qx), W.qx, W.xs, W.s0, W.n0, A, W.ow⟩
theorem EnvW.ret {d : PyData} {v : V} {D : Ends} (W : EnvW K H0 av0 x0 av q ρ S σ H) (h : Dx K (msk av H) v d) (k : ∀ v H', Ext x0 H0 H' → FeedAt av0 q S H' → Dx K (msk av0 H') v d → D.rt v H') : D.rt v H :=
  k v H W.e0 (W.at'.feed.less W.s0 (W.xs q W.qx)) (dp_same (msk_less W.s0) d v h)
end
section
variable {X : Cx} {e : Expr} {f : En → M PyData} {pos : Pos}
def PSD (X : Cx) (st : Stmt) (g : En → M Fl) : Prop := PS X st (tS X.K g)
def PSsD (X : Cx) (st : List Stmt) (g : En → M Fl) : Prop := PSs X st (tS X.K g)
theorem PS_imp {st : Stmt} {t t' : TS} (h : PS X st t) (i : ∀ D σ H, t' D σ H → t D σ H) : PS X st t' := ⟨fun pins s σ H D I q => h.run pins s σ H D I (i D σ H q)⟩
theorem PSs_imp {st : List Stmt} {t t' : TS} (h : PSs X st t) (i : ∀ D σ H, t' D σ H → t D σ H) : PSs X st t' := ⟨fun pins s σ H D I q => h.run pins s σ H D I (i D σ H q)⟩
def sRet (f : En → M PyData) : En → M Fl := fun ρ => f ρ >>= fun d => pure (.rt d)
theorem s_ret (h : PD X e f) : PSD X (.Return (some e) pos) (sRet f) := PS_imp (ps_ret h) fun D σ H ⟨H0, av0, x0, av, q, ρ, S, W, p⟩ =>
  tE_step W.at' p fun x S1 v H1 p1 e1 A1 d1 => (W.ext e1 A1).ret d1 p1
def sAsg (f : En → M PyData) (b : PyData → En → Option En) : En → M Fl := fun ρ => f ρ >>= fun d => lift ((b d ρ).map Fl.nx)
theorem asg_of {K : PySem.W.Frag} {is : List Nat} {b : PyData → En → Option En} (D : Ends) (σ : E.St) (H : Hp) (h : tS K (sAsg f b) D σ H) : tAsg (tE K f) (tGd K is b) D σ H := by
  obtain ⟨H0, av0, x0, av, q, ρ, S, W, p⟩ := h
  refine tE_step W.at' p fun x S1 v H1 p1 e1 A1 d1 => ?_
  obtain ⟨fl, hf, k⟩ := post_lift p1
  cases z : b x ρ with
  | none => rw [z] at hf; cases hf
  | some ρ' =>
    rw [z] at hf; cases hf
    exact ⟨av, q, ρ, S1, x, A1, d1, ρ', z, fun σ' A' _ o w => k av σ' H1 ((W.ext e1 A1).sub A' w o)⟩
theorem s_asg {tg : Expr} {is : List Nat} {b : PyData → En → Option En} (h : PD X e f) (hg : PGD X tg is b) (hs : swapsWithSole [tg] e pos.line X.env = pure false := by rfl) (hw : swappedStores [tg] e X.env = pure none := by rfl) (h1 : (assignEach [tg] X.env).map (·.2) = [assign tg X.env] := by rfl) : PSD X (.Assign [tg] e pos) (sAsg f b) :=
  PS_imp (ps_asg (te := tE X.K f) (g := tGd X.K is b) h hg hs hw h1) asg_of
def sExpr (f : En → M PyData) : En → M Fl := fun ρ => f ρ >>= fun _ => pure (.nx ρ)
theorem s_expr (h : PD X e f) (hs : swapsWith e none pos.line X.env = pure false := by exact rfl) : PSD X (.Expr e pos) (sExpr f) := PS_imp (ps_expr h hs) fun D σ H ⟨H0, av0, x0, av, q, ρ, S, W, p⟩ =>
  tE_step W.at' p fun x S1 v H1 p1 e1 A1 d1 => p1 av σ H1 (W.ext e1 A1)
theorem tS_sub {K : PySem.W.Frag} {g : En → M Fl} {D : Ends} {H0 H : Hp} {av0 x0 av : List Addr} {q : Addr} {ρ : En} {S : Fd} {σ : E.St} (W : EnvW K H0 av0 x0 av q ρ S σ H) (p : (g ρ S).post (flP K H0 av0 x0 q D) noX) : tS K g D σ H := ⟨H0, av0, x0, av, q, ρ, S, W, p⟩
def sIf (c : En → M Bool) (g h : En → M Fl) : En → M Fl := fun ρ => c ρ >>= fun b => if b then g ρ else h ρ
theorem s_if {c : Expr} {st su : List Stmt} {fc : En → M Bool} {g h : En → M Fl} (hc : PB X c fc) (ha : PSsD X st g) (hb : PSsD X su h) : PSD X (.If c st su pos) (sIf fc g h) := PS_imp (ps_if hc ha hb) fun D σ H ⟨H0, av0, x0, av, q, ρ, S, W, p⟩ => by
  refine tD_step W.at' p fun x S1 H1 p1 e1 A1 => ?_
  cases x with
  | true => exact iteT (tS_sub (W.ext e1 A1) p1)
  | false => exact iteF (tS_sub (W.ext e1 A1) p1)
def sNil : En → M Fl := fun ρ => pure (.nx ρ)
def sSeq (g h : En → M Fl) : En → M Fl := fun ρ => g ρ >>= fun fl => match fl with
  | .nx ρ' => h ρ'
  | o => pure o
theorem ss_nil : PSsD X [] sNil := PSs_imp pss_nil fun D σ H ⟨H0, av0, x0, av, q, ρ, S, W, p⟩ => p av σ H W
theorem ss_one {st : Stmt} {g : En → M Fl} (h : PSD X st g) : PSsD X [st] g := pss_one h
theorem ss_cons {st : Stmt} {rest : List Stmt} {g h : En → M Fl} (h1 : PSD X st g) (h2 : PSsD X rest h) : PSsD X (st :: rest) (sSeq g h) := PSs_imp (pss_cons h1 h2) fun D σ H ⟨H0, av0, x0, av, q, ρ, S, W, p⟩ => by
  refine tS_sub W (R.post_imp (post_bind p) (fun fl S1 p1 => ?_) fun _ _ z => z)
  cases fl with
  | nx ρ' => exact fun av' σ' H' W' => tS_sub W' p1
  | rt d => exact p1
  | bk ρ' => exact p1
  | ct ρ' => exact p1
theorem s_never {st : Stmt} : PSD X st (fun _ => bad) := PS_imp (t := fun _ _ _ => False) ⟨fun _ _ _ _ _ _ h => h.elim⟩ fun D σ H ⟨H0, av0, x0, av, q, ρ, S, W, p⟩ => p
theorem s_pass : PSD X (.Pass pos) sNil := PS_imp ps_pass fun D σ H ⟨H0, av0, x0, av, q, ρ, S, W, p⟩ => p av σ H W

/-! ### for -/
def forGo (b : PyData → En → Option En) (g : En → M Fl) : List PyData → En → M Fl
  | [], ρ => pure (.nx ρ)
  | d :: ds, ρ => match b d ρ with
    | none => bad
    | some ρ1 => g ρ1 >>= fun fl => match fl with
      | .nx ρ' => forGo b g ds ρ'
      | .ct ρ' => forGo b g ds ρ'
      | .bk ρ' => pure (.nx ρ')
      | .rt d => pure (.rt d)
def sFor (fi : En → M (List PyData)) (b : PyData → En → Option En) (g : En → M Fl) : En → M Fl := fun ρ => fi ρ >>= fun ds => forGo b g ds ρ
theorem s_for {tg iter : Expr} {body : List Stmt} {fi : En → M (List PyData)} {is : List Nat} {b : PyData → En → Option En} {g : En → M Fl} (hp : PassesOwn (model X.prog X.w) X.A X.env X.xe) (hc : X.calm = true) (hi : PID X tg iter fi) (hg : PGD X tg is b) (hb : PSsD X body g) (hs : ∀ x, foldedSetIterable iter X.env x = pure x := by intro _; rfl) :
    PSD X (.For tg iter body [] pos) (sFor fi b g) := PS_imp (ps_for (g := tGd X.K is b) hp hc hi hg hb hs) fun D σ H ⟨H0, av0, x0, av, q, ρ, S, W, p⟩ => by
  refine ⟨av, q, ρ, S, W.at', R.post_imp (post_bind p) (fun ds S1 p1 J H1 e1 f1 wk => ?_) fun _ _ z => z⟩
  have A1 := W.at'.ext e1 f1
  have W1 := W.ext e1 A1
  -- the loop's own entry: H1, av, and what may change: q and the lists made in this frame
  let x1 : List Addr := av.filter fun p => decide (p ∉ av0 ∨ p ∈ x0)
  have hx1 : ∀ p ∈ x1, p ∈ av ∧ (p ∉ av0 ∨ p ∈ x0) := fun p h => by
    have := List.mem_filter.mp h
    exact ⟨this.1, by simpa using this.2⟩
  have back : ∀ {H' : Hp}, Ext x1 H1 H' → Ext x0 H0 H' := fun {H'} e b o n h => by
    refine e b o (fun z => ?_) (W1.e0 b o n h)
    obtain ⟨z1, z2⟩ := hx1 b z
    rcases z2 with z2 | z2
    · rw [W.n0 b z1 z2] at h; cases h
    · exact n z2
  have up : ∀ {av' : List Addr} {ρ' : En} {S' : Fd} {σ' : E.St} {H' : Hp}, EnvW X.K H1 av x1 av' q ρ' S' σ' H' → EnvW X.K H0 av0 x0 av' q ρ' S' σ' H' := fun {av' ρ' S' σ' H'} w =>
    ⟨back w.e0, W.qx, W.xs, fun p h => w.s0 p (W.s0 p h), fun p h n => (by
      by_cases z : p ∈ av
      · exact W.n0 p z n
      · have y := w.n0 p h z
        cases y0 : H0 p with
        | none => rfl
        | some o =>
          have nx : p ∉ x0 := fun z => n (W.xs p z)
          rw [W1.e0 p o nx y0] at y; cases y), w.at', fun i l p h1 h2 => (by
      rcases w.ow i l p h1 h2 with z | z
      · exact .inl fun y => z (W.s0 p y)
      · exact (hx1 p z).2)⟩
  refine ⟨fun i m σ' H' => m = ds.length - i ∧ i ≤ ds.length ∧ ∃ av' ρ' S', EnvW X.K H1 av x1 av' q ρ' S' σ' H' ∧ (forGo b g (ds.drop i) ρ' S').post (flP X.K H0 av0 x0 q D) noX,
    ⟨ds.length, by simp, Nat.zero_le _, av, ρ, S1, ⟨Ext.refl _, ?_, fun p h => (hx1 p h).1, fun p h => h, fun p h n => absurd h n, A1, fun i l p h1 h2 => ?_⟩, p1⟩, ?_⟩
  · exact List.mem_filter.mpr ⟨W.s0 q (W.xs q W.qx), by simp [W.qx]⟩
  · obtain ⟨v, e1', p', vs, rfl, hp, _⟩ := A1.slot i _ h1
    rw [h2] at e1'
    cases e1'
    exact .inr (List.mem_filter.mpr ⟨hp, by simpa using W1.ow i l p h1 h2⟩)
  rintro i m σ' H' ⟨rfl, hi', av', ρ', S', W', p'⟩
  have w := wk av' H' W'.s0 W'.n0 (W'.e0.more fun p h => (hx1 p h).1) W'.at'.trk i
  by_cases hlt : i < ds.length
  · have hd : ds[i]? = some ds[i] := by simp [hlt]
    obtain ⟨go, y⟩ := w.1 _ hd
    have dr : ds.drop i = ds[i] :: ds.drop (i + 1) := by rw [List.drop_eq_getElem_cons hlt]
    rw [dr] at p'
    refine .inr ⟨go, fun σ'' H'' => ∃ av' ρ' S', EnvW X.K H1 av x1 av' q ρ' S' σ'' H'' ∧ (forGo b g (ds.drop (i + 1)) ρ' S').post (flP X.K H0 av0 x0 q D) noX,
      fun σ'' H'' h => ⟨ds.length - (i + 1), by omega, rfl, hlt, h⟩, fun x H2 yl => ?_⟩
    obtain ⟨sm, dx⟩ := y x H2 yl
    have A2 := W'.at'.ext (Ext.of_same sm) (feed_same W'.at'.feed sm)
    have W2 := W'.ext (Ext.of_same sm) A2
    have p2 : (match b ds[i] ρ' with
      | none => bad
      | some ρ1 => g ρ1 >>= fun fl => match fl with
        | .nx ρ' => forGo b g (ds.drop (i + 1)) ρ'
        | .ct ρ' => forGo b g (ds.drop (i + 1)) ρ'
        | .bk ρ' => pure (.nx ρ')
        | .rt d => pure (.rt d) : M Fl) S' |>.post (flP X.K H0 av0 x0 q D) noX := p'
    cases hbd : b ds[i] ρ' with
    | none => rw [hbd] at p2; exact False.elim p2
    | some ρ1 =>
      rw [hbd] at p2
      refine ⟨av', q, ρ', S', ds[i], A2, dx, ρ1, hbd, fun σ2 A3 _ o3 w3 => ?_⟩
      refine tS_sub (W2.sub A3 w3 o3) (R.post_imp (post_bind p2) (fun fl S3 p3 => ?_) fun _ _ z => z)
      cases fl with
      | nx ρ3 => exact fun av3 σ3 H3 W3 => ⟨av3, ρ3, S3, W3, p3⟩
      | ct ρ3 => exact fun av3 σ3 H3 W3 => ⟨av3, ρ3, S3, W3, p3⟩
      | bk ρ3 => exact fun av3 σ3 H3 W3 => p3 av3 σ3 H3 (up W3)
      | rt d => exact fun v H3 e3 f3 d3 => p3 v H3 (back e3) (f3.less W.s0 (W.xs q W.qx)) (dp_same (msk_less W.s0) d v d3)
  · have e : i = ds.length := by omega
    subst e
    rw [List.drop_length] at p'
    exact .inl ⟨w.2 (Nat.le_refl _), p' av' σ' H' (up W')⟩

/-! ### a def by its body -/
def ofAg : Ag → Sl
  | .d x => .im x
  | .fd => .fd
def env0 (n : Nat) (as : List Ag) : En := as.map (fun a => some (ofAg a)) ++ List.replicate (n - as.length) none
def runB (n : Nat) (g : En → M Fl) : Fn := fun as => g (env0 n as) >>= fun fl => match fl with
  | .rt d => pure d
  | .nx _ => pure .none
  | _ => bad
theorem env0_now {n i : Nat} {as : List Ag} {l : List PyData} (e1 : (env0 n as)[i]? = some (some (Sl.ow l))) : False := by
  unfold env0 at e1
  have key : ∀ {as : List Ag} {i k : Nat}, (as.map (fun a => some (ofAg a)) ++ List.replicate k none)[i]? = some (some (Sl.ow l)) → False := by
    intro as
    induction as with
    | nil =>
      intro i k e
      simp only [List.map_nil, List.nil_append, List.getElem?_replicate] at e
      split at e <;> cases e
    | cons a t ih =>
      intro i k e
      cases i with
      | zero =>
        simp only [List.map_cons, List.cons_append, List.getElem?_cons_zero, Option.some.injEq] at e
        cases a <;> cases e
      | succ i =>
        simp only [List.map_cons, List.cons_append, List.getElem?_cons_succ] at e
        exact ih e
  exact key e1
theorem env0_at {K : PySem.W.Frag} {av : List Addr} {q : Addr} {S : Fd} {H : Hp} {as : List Ag} {vs : List V} {N : List Str} (h : AgsOk K av q H as vs) (t : ∀ p ∈ av, ∃ o, H p = some o) (f : FeedAt av q S H) : At K av q (env0 N.length as) S (L2.start N vs) H where
  len := by simp [env0, L2.start, h.len]
  slot := fun i s e => by
    unfold env0 at e
    unfold L2.start
    have key : ∀ {as : List Ag} {vs : List V} {i : Nat} {k k' : Nat}, AgsOk K av q H as vs → (as.map (fun a => some (ofAg a)) ++ List.replicate k none)[i]? = some (some s) → ∃ v, (vs.map some ++ List.replicate k' none)[i]? = some (some v) ∧ SlOk K av q H s v := by
      intro as vs i k k' h
      induction h generalizing i  with
      | nil =>
        intro e
        simp only [List.map_nil, List.nil_append, List.getElem?_replicate] at e
        split at e <;> cases e
      | cons a t ih =>
        rename_i a0 v0 as0 vs0
        intro e
        cases i with
        | zero =>
          simp only [List.map_cons, List.cons_append, List.getElem?_cons_zero, Option.some.injEq] at e
          subst e
          refine ⟨v0, by simp, ?_⟩
          cases a0 with
          | d x => exact a
          | fd => exact a
        | succ i =>
          simp only [List.map_cons, List.cons_append, List.getElem?_cons_succ] at e ⊢
          exact ih e
    exact key h e
  inj := fun i j l l' v e1 _ _ _ => (env0_now e1).elim
  feed := f
  trk := t
theorem fn_body {P : Program} {w : World} {K : PySem.W.Frag} {mg : Str → Option Value} {base : Heap} {x qual : Str} {st : Stmt} {fa : Addr} {fd : FuncData} {N ps : List Str} {k n : Nat} {g : En → M Fl} (F : Fun K x qual st fa fd) (Sc : FnScope N ps (defScope st)) (hn : n = ps.length)
    (hbody : ∀ (cdv : Value) (A : Around) (outer : List Env) (s : Shared) (H : Hp) (E : XK), Room k (A.deeper (envOfC qual (defScope st) s.heap.objs.size fa cdv)) →
      PSsD (cxOf CX0 P w K mg base N qual (defScope st) fa cdv A outer s H E).nox (defBody st) g) : FnOk P w K mg base CX0 (k + 1) fa fd ps (spD K n (runB N.length g)) := by
  subst hn
  refine F.ok Sc (fun vs H Q E h => h.1) fun cdv A outer s H vs Q E hr h => ⟨_, hbody cdv A outer s H E hr, ?_⟩
  obtain ⟨hl, av, q, S, as, ha, ht, hf, p⟩ := h
  refine ⟨H, av, [q], av, q, env0 N.length as, S, ⟨Ext.refl _, by simp, fun p h => by rw [List.mem_singleton.mp h]; exact hf.1, fun p h => h, fun p h n => absurd h n, env0_at ha ht hf, fun i l p e _ => (env0_now e).elim⟩, ?_⟩
  refine R.post_imp (post_bind p) (fun fl S1 p1 => ?_) fun _ _ z => z
  cases fl with
  | rt d => exact p1
  | nx ρ' => exact fun av' σ' H' W => p1 .non H' (by
      intro b o nb hb
      exact W.e0 b o nb hb) (W.at'.feed.less W.s0 (W.xs q W.qx)) .non
  | bk ρ' => exact False.elim p1
  | ct ρ' => exact False.elim p1
end
end E
end

section
set_option Elab.async false
set_option linter.all false
set_option maxRecDepth 100000
set_option maxHeartbeats 4100000
namespace E
open L2 PySem.Spec PyProof.Rows PySem
/-! ### enumerate(tuple) -/
section
variable {A : Around} {E : Value → Shared → Prop} {s : Shared} {prog : Program} {w : World}
theorem nextT_item {it t : Addr} {i : Nat} {vals : Array Value} {x : Value} {Q : Value → Shared → Prop} (h1 : IsTupIter s.heap it t i) (h2 : IsTup s.heap t vals) (h3 : vals[i]? = some x)
    (k : ∀ h', IsTupIter h' it t (i + 1) → Heap.SameBut it s.heap h' → Q x { s with heap := h' }) : wpAny (model prog w) A (Builtin.SmallTypes.nextOf (.ref it)) Q E s := by
  obtain ⟨o1ₐ, g1ₐ, c1ₐ, d1ₐ⟩ := id h1
  obtain ⟨o2ₐ, g2ₐ, _, n2ₐ, d2ₐ⟩ := h2
  unfold PySem.Builtin.SmallTypes.nextOf
  refine wpAny_bind (wpAny_callSpecial?_slot (name := Str.ofString "__next__") h1.typeIs slot_tupleiter_next (wpAny_call_entry slot_tupleiter_next h1.typeIs entry_tupleiter_next ?_ (args_tupleiter_next _)))
  show wpAny _ _ (field (.ref it) 0 >>= _) _ _ s; refine wpAny_bind (wpAny_field g1ₐ d1ₐ (x := .ref t) rfl ?_)
  show wpAny _ _ (if (Value.ref t == Value.none) = true then _ else _) _ _ s; rw [if_neg (show ¬ ((Value.ref t == Value.none) = true) from Bool.false_ne_true)]
  show wpAny _ _ (field (.ref it) 1 >>= _) _ _ s; refine wpAny_bind (wpAny_field g1ₐ d1ₐ (x := .int i 0) rfl ?_)
  show wpAny _ _ (seqItems? (.ref t) >>= _) _ _ s; refine wpAny_bind (wpAny_seqItems g2ₐ d2ₐ ?_)
  simp only [Int.toNat_natCast, h3]
  refine wpAny_bind (wpAny_setField g1ₐ d1ₐ (by simp) (wpAny_pure ⟨x, rfl, wpAny_pure (k _ ?_ (Heap.SameBut.update ..))⟩))
  exact ⟨_, Heap.get?_update_self _ g1ₐ (Obj.isFreed_of_fields (Obj.data_mapFields d1ₐ _)), (Obj.cls_mapFields ..).trans c1ₐ, by rw [Obj.data_mapFields d1ₐ]; simp [rawInt]⟩
theorem nextT_end {it t : Addr} {i : Nat} {vals : Array Value} {Q : Value → Shared → Prop} (hh : A.handled = none) (h1 : IsTupIter s.heap it t i) (h2 : IsTup s.heap t vals) (h3 : vals[i]? = none)
    (k : ∀ h' e, Heap.ExtBut it s.heap h' → (∃ o, h'.get? e = some o ∧ o.cls = .type "StopIteration") → E (.ref e) { s with heap := h' }) : wpAny (model prog w) A (Builtin.SmallTypes.nextOf (.ref it)) Q E s := by
  obtain ⟨o1ₐ, g1ₐ, c1ₐ, d1ₐ⟩ := id h1
  obtain ⟨o2ₐ, g2ₐ, _, n2ₐ, d2ₐ⟩ := h2
  unfold PySem.Builtin.SmallTypes.nextOf
  refine wpAny_bind (wpAny_callSpecial?_slot (name := Str.ofString "__next__") h1.typeIs slot_tupleiter_next (wpAny_call_entry slot_tupleiter_next h1.typeIs entry_tupleiter_next ?_ (args_tupleiter_next _)))
  show wpAny _ _ (field (.ref it) 0 >>= _) _ _ s; refine wpAny_bind (wpAny_field g1ₐ d1ₐ (x := .ref t) rfl ?_)
  show wpAny _ _ (if (Value.ref t == Value.none) = true then _ else _) _ _ s; rw [if_neg (show ¬ ((Value.ref t == Value.none) = true) from Bool.false_ne_true)]
  show wpAny _ _ (field (.ref it) 1 >>= _) _ _ s; refine wpAny_bind (wpAny_field g1ₐ d1ₐ (x := .int i 0) rfl ?_)
  show wpAny _ _ (seqItems? (.ref t) >>= _) _ _ s; refine wpAny_bind (wpAny_seqItems g2ₐ d2ₐ ?_)
  simp only [Int.toNat_natCast, h3]
  refine wpAny_bind (wpAny_rule (wpAny_bind (wpAny_setField g1ₐ d1ₐ (by simp) ?_)))
  show wpAny _ _ (newExc (.type "StopIteration") [] >>= _) _ _ _; refine wpAny_bind ?_
  simp only [newExc, newTuple]; refine wpAny_bind (wpAny_newObj_type ?_ (by size_fits))
  refine wpAny_bind (m := firstArgMember _ _) (wpAny_of_eq (a := Value.none) (by first | rfl | (simp only [firstArgMember]; rfl)) ?_); refine wpAny_newObj_type ?_ (by size_fits)
  simp only [raiseNew]; refine wpAny_bind (wpAny_handled ?_)
  first | rw [hh] | rw [show A.in1.handled = none from hh]
  refine wpAny_bind (wpAny_pure (wpAny_throw ?_)); exact k _ _ (((Heap.SameBut.update ..).extBut.push _).push _) ⟨_, Heap.get?_push_size _ rfl, rfl⟩
end
theorem tupIter_at {h h' : Heap} {a t : Addr} {i : Nat} (x : IsTupIter h a t i) (e : ∀ o, h.get? a = some o → h'.get? a = some o) : IsTupIter h' a t i := let ⟨o, ho, r⟩ := x; ⟨o, e o ho, r⟩
theorem tup_at {h h' : Heap} {a : Addr} {v : Array Value} (x : IsTup h a v) (e : ∀ o, h.get? a = some o → h'.get? a = some o) : IsTup h' a v := let ⟨o, ho, r⟩ := x; ⟨o, e o ho, r⟩
theorem drawsT {prog : Program} {w : World} {A : Around} (hh : A.handled = none) (it t : Addr) (hne : t ≠ it) (vals : Array Value) :
    Draws prog w A it [it, t] vals.size (fun i v => vals[i]? = some v) (fun i h => IsTupIter h it t i ∧ IsTup h t vals) where
  live := fun _ _ st => by obtain ⟨⟨o, ho, _⟩, _⟩ := st; exact ⟨o, ho⟩
  frame := fun _ _ _ st hk => ⟨tupIter_at st.1 fun o e => hk it (by simp) o e, tup_at st.2 fun o e => hk t (by simp) o e⟩
  item := fun i s Q E hi st hQ => nextT_item st.1 st.2 (x := vals[i]) (by simp [hi]) fun h' a b => hQ _ h' s.toks (by simp [hi]) ⟨a, st.2.extBut b.extBut hne⟩ b
  done := fun s Q E st hE => nextT_end hh st.1 st.2 (by simp) hE
theorem meets_enumT (t : Addr) (vals : Array Value) (n : Nat) (dct : Option Addr) (sl : Array (Option Value)) :
    Meets (Builtin.«enumerate.__new__» ⟨[.type "enumerate", .ref t], []⟩) (fun _ R s => s.heap.get? t = some { cls := .type "tuple", dict := dct, data := .seq vals n, slots := sl } ∧
      R (.ok (.ret (.ref (s.heap.push { cls := .type "tuple_iterator", data := .fields #[.ref t, .int 0 0] }).objs.size)))
        { s with heap := (s.heap.push { cls := .type "tuple_iterator", data := .fields #[.ref t, .int 0 0] }).push { cls := .type "enumerate", data := .fields #[.none, .bool false, .ref s.heap.objs.size, rawInt 0, .none, .none] } }) :=
  .of_wp fun prog w A R s hₐ => by
    obtain ⟨hpₐ, gₐ, dₐ, tkₐ, osₐ⟩ := s; obtain ⟨htₐ, hₐ⟩ := hₐ; have hsubₐ := sub_enumerate
    have hTₐ : IsTup (Shared.heap ⟨hpₐ, gₐ, dₐ, tkₐ, osₐ⟩) t vals := ⟨_, htₐ, rfl, n, rfl⟩
    wp_walk using AutoSeq1.wpAny_loadPart' htₐ
    refine wpAny_stack_any fun stₐ => wpAny_pure ?_; split
    · rename_i cₐ _ _ _ _ _
      cases (cₐ == Value.type "enumerate")
      · wp_walk using AutoSeq1.wpAny_loadPart' htₐ, iter_tuple hTₐ
        exact ⟨_, rfl, hₐ⟩
      · wp_walk using AutoSeq1.wpAny_loadPart' htₐ, iter_tuple hTₐ
        exact ⟨_, rfl, hₐ⟩
    · wp_walk using AutoSeq1.wpAny_loadPart' htₐ, iter_tuple hTₐ
      exact ⟨_, rfl, hₐ⟩
theorem call_enumT {prog : Program} {w : World} {A : Around} {E : Value → Shared → Prop} {s : Shared} {t : Addr} {vals : Array Value} {Q : Value → Shared → Prop} (hT : IsTup s.heap t vals)
    (h : ∀ h', IsEnum h' (s.heap.objs.size + 1) s.heap.objs.size 0 .none → IsTupIter h' s.heap.objs.size t 0 → (∀ b o, s.heap.get? b = some o → h'.get? b = some o) → Q (.ref (s.heap.objs.size + 1)) { s with heap := h' }) :
    wpAny (model prog w) A (call (.type "enumerate") [.ref t]) Q E s := by
  obtain ⟨⟨c, dct, dt, sl⟩, ht, hc, n, hd⟩ := hT
  replace hc : c = .type "tuple" := hc
  replace hd : dt = .seq vals n := hd
  subst hc hd
  refine callType_new F.called_enumerate (by decide) (F.typeCall_enumerate_1 _) (F.newCall_enumerate_1 _) (fun obj => F.args_object_init_2 obj _) F.entry_enumerate_new (meets_enumT t vals n dct sl) ⟨ht, ?_⟩
  have hz : (s.heap.push { cls := .type "tuple_iterator", data := .fields #[.ref t, .int 0 0] }).objs.size = s.heap.objs.size + 1 := Heap.size_push ..
  show _ ∧ _; rw [hz]
  have he : IsEnum ((s.heap.push { cls := .type "tuple_iterator", data := .fields #[.ref t, .int 0 0] }).push { cls := .type "enumerate", data := .fields #[.none, .bool false, .ref s.heap.objs.size, rawInt 0, .none, .none] }) (s.heap.objs.size + 1) s.heap.objs.size 0 .none := by
    have z := Heap.get?_push_size (s.heap.push { cls := .type "tuple_iterator", data := .fields #[.ref t, .int 0 0] }) (o := { cls := .type "enumerate", data := .fields #[.none, .bool false, .ref s.heap.objs.size, rawInt 0, .none, .none] }) rfl
    rw [hz] at z; exact z
  exact ⟨⟨_, he, rfl⟩, h _ he ⟨_, Heap.get?_push_of_some _ (Heap.get?_push_size _ rfl), rfl, rfl⟩ fun b o x => Heap.get?_push_of_some _ (Heap.get?_push_of_some _ x)⟩
theorem enumT_end {prog : Program} {w : World} {A : Around} {E : Value → Shared → Prop} {s : Shared} {e it t : Addr} {i : Nat} {vals : Array Value} {j : Int} {old : Value} {Q : Option Value → Shared → Prop} (hh : A.handled = none)
    (he : IsEnum s.heap e it j old) (h1 : IsTupIter s.heap it t i) (h2 : IsTup s.heap t vals) (h3 : vals[i]? = none) (hQ : ∀ h', Heap.ExtBut it s.heap h' → Q none { s with heap := h' }) : wpAny (model prog w) A (pyNext (.ref e)) Q E s := by
  have kind : Shared.TypeIs s (.ref e) "enumerate" := ⟨_, he, rfl⟩
  have inner : wpAny (model prog w) A.in1 (Builtin.SmallTypes.nextOf (.ref it)) (fun _ _ => False) (fun ex s' => ∃ a h', ex = .ref a ∧ s' = { s with heap := h' } ∧ Heap.ExtBut it s.heap h' ∧ ∃ o, h'.get? a = some o ∧ o.cls = .type "StopIteration") s :=
    nextT_end (A := A.in1) (show A.in1.handled = none from hh) h1 h2 h3 fun h' a but stop => ⟨a, h', rfl, rfl, but, stop⟩
  unfold pyNext
  refine wpAny_bind (wpAny_attempt (wpAny_callSpecial?_slot (name := Str.ofString "__next__") kind F.slot_enumerate_next (wpAny_call_entry F.slot_enumerate_next kind F.entry_enumerate_next ?_ (F.args_enumerate_next_1 _))))
  show wpAny _ _ (field (.ref e) 2 >>= _) _ _ _
  refine wpAny_bind (wpAny_field he rfl (x := .ref it) rfl (wpAny_bind (wpAny_mono inner (fun _ _ z => z.elim) fun ex s' ⟨a, h', e1, e2, but, o, there, cls⟩ => ?_)))
  subst e1 e2
  exact wpAny_bind (wpAny_isInstance (T := "StopIteration") (b := true) ⟨o, there, cls⟩ isSubtype_stop (wpAny_pure (hQ _ but)))
/-- the tuple at a, each item in a new pair -/
def ItEt (K : PySem.W.Frag) (a : Addr) : It :=
  ⟨fun i H => ∃ (xs : List V) (x : V), SqT K H a xs ∧ xs[i]? = some x, fun i H v H' => ∃ T x o, v = .ref T ∧ H T = none ∧ Pl o ∧ H' = upd H T (.frz o (.tup [.int (i : Nat), x])) ∧ ∀ xs, SqT K H a xs → xs[i]? = some x, fun i H => ∃ xs : List V, SqT K H a xs ∧ xs.length ≤ i⟩
theorem pair_laid {X : Cx} {pins : List (Addr × Obj)} {σ : L2.St} {H : Hp} {s : Shared} {mine : List Addr} {h2 : Heap} {tk : Nat} {x y : V} {u v : Value} (I : Inv X pins σ H s) (off : ∀ b ∈ mine, FpOk X pins H b) (old : ∀ b ∈ mine, b < s.heap.objs.size)
    (kept : ∀ b o, b ∉ mine → s.heap.get? b = some o → h2.get? b = some o) (laid : h2.get? s.heap.objs.size = some { cls := .type "tuple", data := .seq #[u, v] }) (hx : RelV x u) (hy : RelV y v) :
    ∃ o, Pl o ∧ H s.heap.objs.size = none ∧ Inv X pins σ (upd H s.heap.objs.size (.frz o (.tup [x, y]))) { s with heap := h2, toks := tk } ∧ ∀ b ∈ mine, upd H s.heap.objs.size (.frz o (.tup [x, y])) b = none :=
  have two : [x, y].length ≤ sizeLine := by show 2 ≤ sizeLine; decide
  ⟨{ cls := .type "tuple", data := .seq #[u, v] }, ⟨rfl, rfl⟩, I.hok.fresh (Nat.le_refl _), I.turnedNew kept off (Nat.le_refl _) ⟨laid, two, [u, v], .cons hx (.cons hy .nil), _, laid, rfl, _, rfl⟩,
    fun b hb => (upd_ne (Nat.ne_of_lt (old b hb))).trans (off b hb).1⟩
theorem off_new {X : Cx} {pins : List (Addr × Obj)} {σ : L2.St} {H : Hp} {s : Shared} (I : Inv X pins σ H s) {mine : List Addr} (new : ∀ b ∈ mine, s.heap.objs.size ≤ b) : ∀ b ∈ mine, FpOk X pins H b := fun b hb => I.fpOk (new b hb) (I.hok.fresh (new b hb))
theorem turn_enumT {P : Program} {w : World} {K : PySem.W.Frag} {elts : List Expr} {kk : Nat} {tpos : Pos} (a e it : Addr) :
    Turn P w K (.Tuple elts kk tpos) (ItEt K a) [e, it] e (fun i h => (∃ old, IsEnum h e it ((i : Nat) : Int) old) ∧ IsTupIter h it a i ∧ e ≠ it ∧ a ≠ it ∧ e ≠ a) where
  mem := List.mem_cons_self
  self := fun _ _ _ _ _ ⟨⟨_, en⟩, _⟩ given => wpAny_pyIter_enum en given
  keep := fun _ _ _ ⟨⟨was, en⟩, walk, apart⟩ same => ⟨⟨was, same e (by simp) _ en⟩, tupIter_at walk (same it (by simp)), apart⟩
  obj := fun _ _ ⟨⟨_, en⟩, ⟨o, there, _, raw⟩, _⟩ => by
    simp only [List.mem_cons, List.not_mem_nil, or_false, forall_eq_or_imp, forall_eq]
    exact ⟨⟨_, en, fun _ z => nomatch z⟩, o, there, fun _ z => by rw [raw] at z; cases z⟩
  done := fun X hP hw hK calm i pins s σ H E I off ⟨⟨_, en⟩, walk, _⟩ ⟨xs, isT, short⟩ => by
    subst hP hw hK
    obtain ⟨items, reads, body, _⟩ := I.tuple isT
    have count := reads.length
    exact enumT_end (I.ok.hd calm) en walk body (by simp; omega) fun h1 but => ⟨rfl, I.turnedL (t' := s.toks) (ch := [e, it]) (fun b o nb => but b o fun z => nb (by simp [z])) off⟩
  item := fun X hP hw hK calm i pins s σ H E I off ⟨⟨was, en⟩, walk, n1, n2, n3⟩ ⟨xs, x, isT, atI⟩ => by
    subst hP hw hK
    obtain ⟨items, reads, body, _⟩ := I.tuple isT
    obtain ⟨u, atU, rel⟩ := reads.get atI
    have bound : i < items.toArray.size := by simpa using (List.getElem?_eq_some_iff.mp atU).1
    have old : ∀ b ∈ [e, it], b < s.heap.objs.size := by
      obtain ⟨o, there, _⟩ := walk
      simpa using ⟨Heap.lt_size en, Heap.lt_size there⟩
    refine wpAny_pyNext_enum_itemD (drawsT (A := X.A.in1) (show X.A.in1.handled = none from I.ok.hd calm) it a n2 items.toArray) en ⟨walk, body⟩ bound n1 (by simp [n1, n3]) fun u' h1 tk same out on laid _ kept => ?_
    have again : items[i]? = some u' := by simpa using same
    cases atU.symm.trans again
    refine ⟨_, rfl, wpAny_letOwnedTupleGo_enum (s := { s with heap := h1, toks := tk + 1 }) out fun h2 en' but => ?_⟩
    obtain ⟨o, pl, new, I2, still⟩ := pair_laid (x := .int (i : Nat)) (tk := tk + 1) I off old (fun b o nb q => (but.2 b fun z => nb (by simp [z])).trans (kept b o (fun z => nb (by simp [z])) (fun z => nb (by simp [z])) q)) ((but.2 _ (Nat.ne_of_gt (old e (by simp)))).trans laid) ⟨_, rfl⟩ rel
    exact ⟨.ref _, _, I2, rfl, ⟨_, x, o, rfl, new, pl, rfl, fun ys isY => by rw [I.tuple_inj isY isT]; exact atI⟩, ⟨⟨u, by rw [Int.natCast_add]; exact en'⟩, tupIter_at on.1 fun o q => (but.2 it (Ne.symm n1)).trans q, n1, n2, n3⟩, still⟩
def iEnT (K : PySem.W.Frag) (ta : TA) : TI := fun σ H R => ta σ H fun vs H1 => ∃ a xs, vs = [.ref a] ∧ SqT K H1 a xs ∧ R (ItEt K a) H1
theorem pi_enT {X : Cx} {e : Expr} {ta : TA} {p pos tpos : Pos} {elts : List Expr} {kk : Nat} (hg : Gl X "enumerate") (hm : X.mg "enumerate" = none) (ha : PA X [e] ta) (hs : starEach [e] X.env = [(false, eval e X.env)] := by rfl) :
    PI X (.Tuple elts kk tpos) (.Call (.Name "enumerate" p) [e] [] pos) (iEnT X.K ta) :=
  ⟨fun pins s σ H R I asked => Call_ (ld_blt I hg hm boot_enumerate (PyProof.Rows.callWith_type1 (thn (ha.run pos pins s σ H _ I asked) fun us s1 ⟨vs, H1, I1, rel, a, xs, one, isT, rest⟩ => by
    subst one
    obtain ⟨w, rfl, isRef⟩ := rel.one
    cases isRef
    obtain ⟨items, _, body, _⟩ := I1.tuple isT
    exact call_enumT body fun h1 en walk kept => wpAny_pyIter_enum en ⟨_, _, _, _, H1, rfl, I1.kept (t' := s1.toks) kept, turn_enumT a (s1.heap.objs.size + 1) s1.heap.objs.size, ⟨⟨.none, en⟩, walk, Nat.succ_ne_self _, Nat.ne_of_lt body.lt, Nat.ne_of_gt (Nat.lt_succ_of_lt body.lt)⟩, off_new I1 (by simp), rest⟩) hs rfl))⟩
def enD (ds : List PyData) : List PyData := ds.zipIdx.map fun p => .tuple [.int (p.2 : Nat), p.1]
theorem enD_get {ds : List PyData} {i : Nat} {d : PyData} (h : (enD ds)[i]? = some d) : ∃ x, ds[i]? = some x ∧ d = .tuple [.int (i : Nat), x] := by
  unfold enD at h
  rw [List.getElem?_map, List.getElem?_zipIdx] at h
  cases e : ds[i]? with
  | none => (rw [e] at h; cases h)
  | some x =>
    rw [e] at h
    refine ⟨x, rfl, ?_⟩
    simp at h
    exact h.symm
theorem wk_enT {K : PySem.W.Frag} {av : List Addr} {H : Hp} {a : Addr} {vs : List V} {ds : List PyData} (h : SqT K (msk av H) a vs) (hd : DxAll K (msk av H) vs ds) : Wk K av H (ItEt K a) (enD ds) := fun av' H' h1 h2 e t i => by
  have sm := wk_same h1 h2 e
  have hs : SqT K H' a vs := sqT_at (sqT_same sm h)
  refine ⟨fun d hd' => ?_, fun hl => ⟨vs, hs, by rw [dps_len hd]; simpa [enD] using hl⟩⟩
  obtain ⟨x, hx, rfl⟩ := enD_get hd'
  obtain ⟨v, hv, hdv⟩ := dps_get hd hx
  refine ⟨⟨vs, v, hs, hv⟩, fun y H'' yl => ?_⟩
  obtain ⟨T, u, o, e1, hT, ho, e2, yl⟩ := yl
  subst e1 e2
  have z := yl vs hs
  rw [hv] at z; cases z
  exact ⟨same_new hT, dp_newTup t hT ho (.cons (.int _) (.cons (dp_same sm x v hdv) .nil))⟩
def asEn (as : List Ag) : M (List PyData) := match as with
  | [.d (.tuple ds)] => pure (enD ds)
  | _ => bad
theorem i_enT {X : Cx} {e : Expr} {p pos tpos : Pos} {elts : List Expr} {kk : Nat} {fs : En → M (List Ag)} (hm : X.mg "enumerate" = none) (ha : PG_A X [e] fs) (hg : Gl X "enumerate" := by rfl) (hs : starEach [e] X.env = [(false, eval e X.env)] := by rfl) :
    PID X (.Tuple elts kk tpos) (.Call (.Name "enumerate" p) [e] [] pos) (fun ρ => fs ρ >>= asEn) := PI_imp (pi_enT hg hm ha hs) fun σ H R ⟨av, q, ρ, S, A, p⟩ => by
  refine tAg_step A p fun as S1 vs H1 p1 e1 A1 d1 => ?_
  unfold asEn at p1
  split at p1
  · cases d1 with
    | cons h1 h2 =>
      cases h2
      cases h1 with
      | tup hs hn hx => exact ⟨_, _, rfl, sqT_at hs, p1 _ H1 e1 A1.feed (wk_enT hs hx)⟩
  · exact False.elim p1
end E
end

section
set_option Elab.async false
set_option linter.all false
set_option maxRecDepth 100000
set_option maxHeartbeats 4100000
namespace E
open L2 PySem.Spec PyProof.Rows PySem
/-! ### promises that are kept where nothing is being shown -/
structure RoomG (k : Nat) (A : Around) : Prop where
  r : Room k A
  g : A.guards = some []
theorem RoomG.mono {j k : Nat} {A : Around} (r : RoomG k A) (h : j ≤ k) : RoomG j A := ⟨r.r.mono h, r.g⟩
structure FnG (P : Program) (w : World) (K : PySem.W.Frag) (mg : Str → Option Value) (base : Heap) (k : Nat) (f : Addr) (fd : FuncData) (ps : List Str) (sp : Sp) : Prop where
  len : ∀ xs H Q E, sp xs H Q E → xs.length = ps.length
  run : ∀ (A : Around) (outer : List Env) (s : Shared) (H : Hp) (args : Args) (us : List Value) (vs : List V) (Q : VK) (E : XK), RoomG k A → Env0 P w K mg base A outer s H → BindsTo s fd args (ps.zip us) → Vals vs us → sp vs H Q E →
    codeAny (model P w) A (.call (.ref f) args) (CR CX0 outer P w H s Q E) s
theorem FnG.mono {P : Program} {w : World} {K : PySem.W.Frag} {mg : Str → Option Value} {base : Heap} {j k : Nat} {f : Addr} {fd : FuncData} {ps : List Str} {sp : Sp} (F : FnG P w K mg base j f fd ps sp) (h : j ≤ k) : FnG P w K mg base k f fd ps sp :=
  ⟨F.len, fun A o s H a us vs Q E hr => F.run A o s H a us vs Q E (hr.mono h)⟩
/-- at one A alone, a promise of the layer's own kind -/
theorem ret_of {P : Program} {w : World} {outer : List Env} {H : Hp} {s s' : Shared} {Q : VK} {Ex : XK} {X : Cx} {pins : List (Addr × Obj)} {σ : L2.St} {r : Result} (I : Inv X pins σ H s) (hP : P = X.prog) (hw : w = X.w) (ho : outer = X.stack) (hq : CR CX0 outer P w H s Q Ex r s') : match r with
    | .ok (.ret u) => EP X pins σ Q u s'
    | _ => False := by
  subst hP hw ho
  cases r with
  | error eₐ => exact False.elim hq
  | ok flₐ =>
    cases flₐ with
    | ret u => exact I.after hq
    | next => exact False.elim hq
    | brk => exact False.elim hq
    | cont => exact False.elim hq
theorem fn_ofG {P : Program} {w : World} {K : PySem.W.Frag} {mg : Str → Option Value} {base : Heap} {k : Nat} {f : Addr} {name qual : Str} {params : Arguments} {body : List Stmt} {scope : Scope} {dV kV doc pm cdv ct oc : Value} {an od : Option Addr}
    {osl : Array (Option Value)} {N ps : List Str} {sp : Sp} (lk : K.lookup f = some ⟨oc, od, .func (PySem.W.fnOf name qual params body scope dV kV doc pm an cdv ct), osl⟩) (hcd : PySem.W.codeIn K cdv qual = true) (S : FnScope N ps scope) (len : ∀ vs H Q E, sp vs H Q E → vs.length = ps.length)
    (hbody : ∀ (A : Around) (outer : List Env) (s : Shared) (H : Hp) (vs : List V) (Q : VK) (E : XK), RoomG k (A.deeper (envOfC qual scope s.heap.objs.size f cdv)) → sp vs H Q E →
      ∃ t, PSs (cxOf CX0 P w K mg base N qual scope f cdv A outer s H E).nox body t ∧ t { nx := fun _ H' => Q .non H', rt := Q } (L2.start N vs) H) :
    FnG P w K mg base (k + 1) f (PySem.W.fnOf name qual params body scope dV kV doc pm an cdv ct) ps sp := ⟨len, fun A outer s H given us vs Q E room e0 binds rel told => by
  obtain ⟨t, text, way⟩ := hbody A outer s H vs Q E ⟨room.r.deeper _, room.g⟩ told
  have here : ∀ b o, base.get? b = some o → s.heap.get? b = some o := fun b o q => (e0.bs b o q).1
  have code : K.In s.heap := e0.mod.kin.keeps here
  have names : ∀ y ∈ ps.zip us, scope.names.lookup y.1 = some .local ∨ (scope.names.lookup y.1 = some .cell ∧ ((cellsFrom (s.heap.objs.size + 1) scope.names []).lookup y.1).isSome = true) := fun y hy =>
    (S.par y.1 (List.of_mem_zip (a := y.1) (b := y.2) hy).1).imp id fun c => ⟨c, PySem.W.cellsFrom_some _ _ _ (.inl c)⟩
  refine codeAny_call_function room.r.depth (code _ _ lk) rfl S.co S.gen rfl (PySem.W.codeRec_of code hcd) (binds _ _ _ _ (wpAny_newFunctionEnv_cells S.kind names fun env isEnv s1 x => ?_))
  subst isEnv
  refine ⟨(e0.mod.nolimit.keeps here).keeps x.toInCall.keep, codeAny_func (wpAny_mono (text.nox.run [] s1 (L2.start N vs) H _ (inv_start S room.r.hd e0 (len _ _ _ _ told) rel x) way) (fun fl s2 ends => ?_) fun _ _ z => z)⟩
  match fl, ends with
  | .ret u, ⟨v, _, H', J, rv, q⟩ => exact ⟨v, H', J.os, J.bare, J.base, J.hok, rv, q⟩
  | .next, ⟨_, H', J, q⟩ => exact ⟨.non, H', J.os, J.bare, J.base, J.hok, rfl, q⟩
  | .brk, ⟨_, _, _, q⟩ => exact q.elim
  | .cont, ⟨_, _, _, q⟩ => exact q.elim⟩
section
variable {X : Cx}
theorem d_fn {k n : Nat} {f : Addr} {fd : FuncData} {ps : List Str} {F : Fn} {x : Str} {p pos : Pos} {e : Expr} {es : List Expr} {fs : En → M (List Ag)} (G : FnG X.prog X.w X.K X.mg X.base k f fd ps (spD X.K n F)) (hr : RoomG k X.A) (hm : X.mg x = some (.ref f)) (hk : PySem.W.keepIn X.K (.ref f) = true) (hb : Binds X.K fd ps [])
    (ha : PG_A X (e :: es) fs) (hg : Gl X x := by rfl) (hdb : (x == ("__debug__" : Str)) = false := by decide) (he : starEach (e :: es) X.env = (false, eval e X.env) :: starEach es X.env := by rfl) (hpl : (backTo pos (starEach es X.env)).any (·.1) = false := by rfl) :
    PD X (.Call (.Name x p) (e :: es) [] pos) (cFn (argN n F) fs) := by
  refine ⟨fun pins s σ H Q I h => wpAny_Call_Name_kw (ld_glob I hg hm ?_ hdb)⟩
  obtain ⟨av, q, ρ, S, A, p⟩ := h
  have h' : tAg X.K fs σ H (fun vs H1 => spD X.K n F vs H1 Q E0) := tAg_step A p fun as S1 vs H1 p1 e1 A1 d1 => by
    unfold argN at p1
    split at p1
    · exact ⟨ags_n d1 (by assumption), av, q, S1, as, d1, A1.trk, A1.feed, R.post_imp p1 (fun b S2 k v H' e f => k v H' (e1.trans e) f) fun _ _ z => z⟩
    · exact False.elim p1
  refine PySem.W.callWith_K (h₀ := X.base) I.ok.mod.kin hk (thn (ha.run pos pins s σ H _ I h') fun us s1 ⟨vs, H1, I1, r, hsp⟩ => ⟨I1.kIn, ?_⟩) he hpl
  have hl : us.length = ps.length := by rw [← r.length]; exact G.len _ _ _ _ hsp
  have hbn := hb s1 us I1.kIn (by rw [List.append_nil]; exact hl)
  rw [List.append_nil] at hbn
  refine wpAny_call (codeAny_mono (G.run X.A X.stack s1 H1 ⟨us, []⟩ us vs Q E0 hr I1.env0 hbn r hsp) fun r' s' hq => ?_)
  have z := ret_of I1 rfl rfl rfl hq
  cases r' with
  | error e => exact z.elim
  | ok fl =>
    cases fl with
    | ret u => exact z
    | next => exact z.elim
    | brk => exact z.elim
    | cont => exact z.elim
/-- f(k = e, ..): the keywords' values, then in the parameters' order -/
def pick {α : Type} (pm : List Nat) (l : List α) : List α := pm.filterMap fun i => l[i]?
theorem pick_vals {pm : List Nat} {vs : List V} {us : List Value} (r : Vals vs us) : Vals (pick pm vs) (pick pm us) := by
  induction pm with
  | nil => exact .nil
  | cons i pm ih =>
    unfold pick
    rw [List.filterMap_cons, List.filterMap_cons]
    cases e : vs[i]? with
    | none => rw [r.none_of e]; exact ih
    | some v =>
      obtain ⟨u, h1, h2⟩ := r.get e
      rw [h1]
      exact .cons h2 ih
theorem ags_get {K : PySem.W.Frag} {av : List Addr} {q : Addr} {H : Hp} {as : List Ag} {vs : List V} (h : AgsOk K av q H as vs) : ∀ i : Nat, (as[i]? = none ∧ vs[i]? = none) ∨ ∃ a v, as[i]? = some a ∧ vs[i]? = some v ∧ AgOk K av q H a v := by
  induction h with
  | nil => exact fun i => .inl ⟨by simp, by simp⟩
  | cons a _ ih =>
    intro i
    cases i with
    | zero => exact .inr ⟨_, _, rfl, rfl, a⟩
    | succ i => simpa using ih i
theorem pick_ags {K : PySem.W.Frag} {av : List Addr} {q : Addr} {H : Hp} {pm : List Nat} {as : List Ag} {vs : List V} (h : AgsOk K av q H as vs) : AgsOk K av q H (pick pm as) (pick pm vs) := by
  induction pm with
  | nil => exact .nil
  | cons i pm ih =>
    unfold pick
    rw [List.filterMap_cons, List.filterMap_cons]
    rcases ags_get h i with ⟨e1, e2⟩ | ⟨a, v, e1, e2, z⟩
    · rw [e1, e2]; exact ih
    · rw [e1, e2]; exact .cons z ih
def PKD (X : Cx) (kws : List Keyword) (f : En → M (List Ag)) : Prop := PK X kws (tAg X.K f)
theorem PK_imp {kws : List Keyword} {t t' : TA} (h : PK X kws t) (i : ∀ σ H Q, t' σ H Q → t σ H Q) : PK X kws t' := ⟨fun pos pins s σ H Q I q => h.run pos pins s σ H Q I (i σ H Q q)⟩
theorem k_nil : PKD X [] aNil := PK_imp pk_nil fun σ H Q ⟨av, q, ρ, S, A, p⟩ => p [] H (Ext.refl H) A.feed .nil
theorem k_d {nm : Option Str} {kpos : Pos} {e : Expr} {kws : List Keyword} {f : En → M PyData} {fs : En → M (List Ag)} (h : PD X e f) (hs : PKD X kws fs) : PKD X (⟨nm, e, kpos⟩ :: kws) (aD f fs) := PK_imp (pk_cons h hs) fun σ H Q ⟨av, q, ρ, S, A, p⟩ => by
  refine tE_step A p fun x S1 v H1 p1 e1 A1 d1 => ?_
  refine tAg_step A1 p1 fun r S2 vs H2 p2 e2 A2 d2 => ?_
  exact p2 _ H2 (e1.trans e2) A2.feed (.cons (ext_dp A.feed.1 e2 d1) d2)
def cKw (F : Fn) (pm : List Nat) (fs : En → M (List Ag)) : En → M PyData := fun ρ => fs ρ >>= fun as => F (pick pm as)
structure KwB (K : PySem.W.Frag) (fd : FuncData) (ps ks : List Str) (pm : List Nat) : Prop where
  to : ∀ (s : Shared) (ws : List Value), K.In s.heap → (pick pm ws).length = ps.length → ws.length = ks.length → BindsTo s fd ⟨[], ks.zip ws⟩ (ps.zip (pick pm ws))
def argK (n m : Nat) (pm : List Nat) (F : Fn) : Fn := fun as => if as.length = m ∧ (pick pm as).length = n then F (pick pm as) else bad
def cKw' (F : Fn) (n m : Nat) (pm : List Nat) (fs : En → M (List Ag)) : En → M PyData := fun ρ => fs ρ >>= argK n m pm F
theorem d_kw {k n m : Nat} {f : Addr} {fd : FuncData} {ps ks : List Str} {pm : List Nat} {F : Fn} {x : Str} {p pos : Pos} {kws : List Keyword} {fs : En → M (List Ag)} (G : FnG X.prog X.w X.K X.mg X.base k f fd ps (spD X.K n F)) (hr : RoomG k X.A) (hm : X.mg x = some (.ref f)) (hk : PySem.W.keepIn X.K (.ref f) = true) (hb : KwB X.K fd ps ks pm)
    (ha : PKD X kws fs) (hmks : m = ks.length := by rfl) (hg : Gl X x := by rfl) (hdb : (x == ("__debug__" : Str)) = false := by decide) (hall : (backToKw pos (keywordEach kws X.env)).all (·.1.isSome) = true := by rfl) (hks : (backToKw pos (keywordEach kws X.env)).filterMap (·.1) = ks := by rfl)
    (hpl : ((backTo pos (starEach [] X.env)).any (·.1) || (backToKw pos (keywordEach kws X.env)).any (·.1.isNone)) = false := by exact rfl) :
    PD X (.Call (.Name x p) [] kws pos) (cKw' F n m pm fs) := by
  refine ⟨fun pinsₐ s σₐ Hₐ Qₐ Iₐ hₐ => wpAny_Call_Name_kw (ld_glob Iₐ hg hm ?_ hdb)⟩
  obtain ⟨avₐ, qₐ, ρₐ, Sₐ, A, p⟩ := hₐ
  have h'ₐ : tAg X.K fs σₐ Hₐ (fun vsₐ H1ₐ => vsₐ.length = ks.length ∧ spD X.K n F (pick pm vsₐ) H1ₐ Qₐ E0) := tAg_step A p fun asₐ S1ₐ vsₐ H1ₐ p1ₐ e1ₐ A1ₐ d1ₐ => by
    unfold argK at p1ₐ
    split at p1ₐ
    · rename_i hhₐ
      exact ⟨by rw [d1ₐ.len, hhₐ.1, hmks], ags_n (pick_ags d1ₐ) hhₐ.2, avₐ, qₐ, S1ₐ, _, pick_ags d1ₐ, A1ₐ.trk, A1ₐ.feed, R.post_imp p1ₐ (fun bₐ S2ₐ k vₐ H'ₐ eₐ f => k vₐ H'ₐ (e1ₐ.trans eₐ) f) fun _ _ zₐ => zₐ⟩
    · exact False.elim p1ₐ
  refine PySem.W.callWith_KW0 (h₀ := X.base) Iₐ.ok.mod.kin hk hall (thn (ha.run pos pinsₐ s σₐ Hₐ _ Iₐ h'ₐ) fun usₐ s1ₐ ⟨vsₐ, H1ₐ, I1ₐ, rₐ, hvₐ, hspₐ⟩ => ⟨I1ₐ.kIn, ?_⟩) hpl
  rw [hks]
  have r2ₐ := pick_vals (pm := pm) rₐ
  have hlₐ : (pick pm usₐ).length = ps.length := by rw [← r2ₐ.length]; exact G.len _ _ _ _ hspₐ
  have hbnₐ := hb.to s1ₐ usₐ I1ₐ.kIn hlₐ (by rw [← rₐ.length]; exact hvₐ)
  refine wpAny_call (codeAny_mono (G.run X.A X.stack s1ₐ H1ₐ ⟨[], ks.zip usₐ⟩ (pick pm usₐ) (pick pm vsₐ) Qₐ E0 hr I1ₐ.env0 hbnₐ r2ₐ hspₐ) fun r'ₐ s'ₐ hqₐ => ?_)
  have zₐ := ret_of I1ₐ rfl rfl rfl hqₐ
  cases r'ₐ with
  | error eₐ => exact zₐ.elim
  | ok flₐ =>
    cases flₐ with
    | ret uₐ => exact zₐ
    | next => exact zₐ.elim
    | brk => exact zₐ.elim
    | cont => exact zₐ.elim
end
theorem fn_bodyG {P : Program} {w : World} {K : PySem.W.Frag} {mg : Str → Option Value} {base : Heap} {x qual : Str} {st : Stmt} {fa : Addr} {fd : FuncData} {N ps : List Str} {k n : Nat} {g : En → M Fl} (F : Fun K x qual st fa fd) (Sc : FnScope N ps (defScope st)) (hn : n = ps.length)
    (hbody : ∀ (cdv : Value) (A : Around) (outer : List Env) (s : Shared) (H : Hp) (E : XK), RoomG k (A.deeper (envOfC qual (defScope st) s.heap.objs.size fa cdv)) →
      PSsD (cxOf CX0 P w K mg base N qual (defScope st) fa cdv A outer s H E).nox (defBody st) g) : FnG P w K mg base (k + 1) fa fd ps (spD K n (runB N.length g)) := by
  subst hn
  obtain ⟨ocₐ, odₐ, kVₐ, docₐ, pmₐ, anₐ, cdv, ct, oslₐ, rfl, lkₐ, hcdₐ⟩ := F.ex
  refine fn_ofG lkₐ hcdₐ Sc (fun vsₐ H Qₐ E hₐ => hₐ.1) fun A outer s H vsₐ Qₐ E hrₐ hₐ => ⟨_, hbody cdv A outer s H E hrₐ, ?_⟩
  obtain ⟨hlₐ, avₐ, qₐ, Sₐ, asₐ, haₐ, htₐ, hfₐ, pₐ⟩ := hₐ
  refine ⟨H, avₐ, [qₐ], avₐ, qₐ, env0 N.length asₐ, Sₐ, ⟨Ext.refl _, by simp, fun pₐ hₐ => by rw [List.mem_singleton.mp hₐ]; exact hfₐ.1, fun pₐ hₐ => hₐ, fun pₐ hₐ n => absurd hₐ n, env0_at haₐ htₐ hfₐ, fun iₐ lₐ pₐ eₐ _ => (env0_now eₐ).elim⟩, ?_⟩
  refine R.post_imp (post_bind pₐ) (fun flₐ S1ₐ p1ₐ => ?_) fun _ _ zₐ => zₐ
  cases flₐ with
  | rt dₐ => exact p1ₐ
  | nx ρ'ₐ => exact fun av'ₐ σ'ₐ H'ₐ Wₐ => p1ₐ .non H'ₐ Wₐ.e0 (Wₐ.at'.feed.less Wₐ.s0 (Wₐ.xs qₐ Wₐ.qx)) .non
  | bk ρ'ₐ => exact False.elim p1ₐ
  | ct ρ'ₐ => exact False.elim p1ₐ
end E
end

section
set_option Elab.async false
set_option linter.all false
set_option maxRecDepth 100000
set_option maxHeartbeats 4100000
namespace E
open L2 PySem.Spec PyProof.Rows PySem
/-! ### t[::-1] of a tuple -/
section
variable {A : Around} {E : Value → Shared → Prop} {s : Shared} {prog : Program} {w : World}
theorem revApplied {sl : Addr} {vs : Value} {n : Nat} {Q : Int × Int × Nat → Shared → Prop} (hs : s.heap.IsSliceOf sl .none .none vs) (pk : IsPart vs (some (-1))) (h : Q ((n : Int) - 1, -1, n) s) :
    wpAny (model prog w) A (PySem.Builtin.Slice.sliceApplied (.ref sl) (pure (n : Int))) Q E s := by
  obtain ⟨o1ₐ, g1ₐ, c1ₐ, d1ₐ⟩ := id hs
  unfold PySem.Builtin.Slice.sliceApplied PySem.Builtin.Slice.sliceFields
  refine wpAny_bind (wpAny_bind (wpAny_field g1ₐ d1ₐ (x := .none) rfl (wpAny_bind (wpAny_field g1ₐ d1ₐ (x := .none) rfl (wpAny_bind (wpAny_field g1ₐ d1ₐ (x := vs) rfl (wpAny_pure ?_)))))))
  refine wpAny_bind (HT.slicePart_ pk ?_)
  show wpAny _ _ (if ((-1 : Int) == 0) = true then _ else _) _ _ s; rw [if_neg (by decide)]
  refine wpAny_bind (slicePart_none (wpAny_bind (slicePart_none (wpAny_bind (wpAny_pure ?_)))))
  show wpAny _ _ (pure ((n : Int) - 1, (-1 : Int), Builtin.Slice.slicePlaces ((n : Int) - 1) (-1) (-1))) _ _ s
  have eₐ : Builtin.Slice.slicePlaces ((n : Int) - 1) (-1) (-1) = n := by
    unfold PySem.Builtin.Slice.slicePlaces
    rw [if_neg (by decide)]
    split
    · have : ((n : Int) - 1 - -1 - 1) / (- -1) + 1 = (n : Int) := by simp
      rw [this]; simp
    · have : n = 0 := by omega
      subst this; rfl
  rw [eₐ]; exact wpAny_pure h
theorem fm_congr {α β : Type} {f g : α → Option β} : ∀ {l : List α}, (∀ a ∈ l, f a = g a) → l.filterMap f = l.filterMap g
  | [], _ => rfl
  | a :: l, h => by
    have ih := fm_congr (l := l) fun b hb => h b (List.mem_cons_of_mem _ hb)
    rw [List.filterMap_cons, List.filterMap_cons, h a List.mem_cons_self, ih]
theorem all_range {α : Type} : ∀ (l : List α), (List.range l.length).filterMap (fun m => l[m]?) = l
  | [] => rfl
  | a :: l => by
    rw [List.length_cons, List.range_succ_eq_map, List.filterMap_cons]
    show a :: ((List.range l.length).map Nat.succ).filterMap (fun m => (a :: l)[m]?) = _
    rw [List.filterMap_map]
    exact congrArg (a :: ·) (all_range l)
theorem pick_rev (xs : Array Value) : ((List.range xs.size).filterMap fun (m : Nat) => xs[((xs.size : Int) - 1 + (m : Int) * (-1)).toNat]?).toArray = xs.toList.reverse.toArray := by
  have e : ((List.range xs.size).filterMap fun (m : Nat) => xs[((xs.size : Int) - 1 + (m : Int) * (-1)).toNat]?) = (List.range xs.size).filterMap fun m => xs.toList.reverse[m]? := by
    apply fm_congr
    intro m hm
    have hm := List.mem_range.mp hm
    have q : ((xs.size : Int) - 1 + (m : Int) * (-1)).toNat = xs.size - 1 - m := by omega
    rw [q, List.getElem?_reverse (by simpa using hm)]
    simp
  rw [e]
  have z := all_range xs.toList.reverse
  rw [List.length_reverse, Array.length_toList] at z
  rw [z]
theorem getItem_tupRev {t sl : Addr} {vals : Array Value} {vs : Value} {Q : Value → Shared → Prop} (ht : IsTup s.heap t vals) (hs : s.heap.IsSliceOf sl .none .none vs) (pk : IsPart vs (some (-1)))
    (h : Q (.ref s.heap.objs.size) { s with heap := s.heap.push { cls := .type "tuple", data := .seq vals.toList.reverse.toArray } }) (hsz : vals.size ≤ sizeLine) : wpAny (model prog w) A (getItem (.ref t) (.ref sl)) Q E s := by
  have fitₐ : sizeOk (.seq vals.toList.reverse.toArray) := by show vals.toList.reverse.toArray.size ≤ sizeLine; simpa using hsz
  obtain ⟨o1ₐ, g1ₐ, c1ₐ, d1ₐ⟩ := id hs
  have hTsₐ : s.TypeIs (.ref sl) "slice" := ⟨o1ₐ, g1ₐ, c1ₐ⟩
  unfold getItem
  try (with_reducible refine wpAny_holding ?_)
  try (refine wpAny_bind (wpAny_pure ?_))
  refine wpAny_bind (wpAny_sequenceKey (ht.typeIs) (by decide) ?_)
  refine wpAny_bind (wpAny_callSpecial?_slot (name := Str.ofString "__getitem__") ht.typeIs PyProof.Rows.slot_tuple_getitem (wpAny_call_entry PyProof.Rows.slot_tuple_getitem ht.typeIs entry_tuple_getitem ?_ (args_tuple_getitem _ _)))
  show wpAny _ _ (Builtin.Tuple.tupleItemsOf (.ref t) >>= _) _ _ s; refine wpAny_bind (tupleItemsOf_ ht (wpAny_bind (wpAny_typeOf hTsₐ ?_)))
  rw [if_pos (by decide)]; refine wpAny_bind (revApplied hs pk ?_)
  have hnoₐ : ¬ ((((vals.size : Int) - 1) == 0 && (-1 : Int) == 1 && vals.size == vals.size) = true) := by simp
  show wpAny _ _ (if ((((vals.size : Int) - 1) == 0 && (-1 : Int) == 1 && vals.size == vals.size) = true) then _ else _) _ _ s
  rw [if_neg hnoₐ, pick_rev]
  first
    | exact wpAny_bind (m := Builtin.Tuple.tupleExact _) (wpAny_newObj_type (wpAny_pure ⟨_, rfl, wpAny_pure h⟩) fitₐ)
    | exact wpAny_bind (m := Builtin.Tuple.tupleExact _) (wpAny_newObj_type (wpAny_bind (wpAny_pure (wpAny_pure ⟨_, rfl, wpAny_pure h⟩))) fitₐ)
end
def tRevT (K : PySem.W.Frag) (te : TE) : TE := fun σ H Q => te σ H fun x H1 => ∃ a xs, x = .ref a ∧ SqT K H1 a xs ∧ ∀ p o, H1 p = none → Pl o → Q (.ref p) (upd H1 p (.frz o (.tup xs.reverse)))
section
variable {X : Cx}
theorem pe_revT {e : Expr} {te : TE} {k : Nat} {p1 p2 p3 pos : Pos} (he : PE X e te) : PE X (.Subscript e (.Slice none none (some (.UnaryOp .USub (.Constant (.int 1) k p1) p2)) p3) pos) (tRevT X.K te) := ⟨fun pins s σ H Q I asked =>
  Subscript_ (thn (he.run pins s σ H _ I asked) fun v s1 ⟨x, H1, I1, r1, a, xs, ex, isT, rest⟩ => by
    subst ex
    cases r1
    have minus : PO X (some (.UnaryOp .USub (.Constant (.int 1) k p1) p2)) (tPart (tUn (rU fun i => .int (-i)) (tC (.int 1)))) :=
      po_some (pe_un un_neg pe_int)
    refine wpAny_Slice (thn (po_none.run pins s1 σ H1 (fun o h => o = none ∧ H1 = h) I1 ⟨rfl, rfl⟩) fun lo s2 ⟨_, _, I2, isLo, z1, z2⟩ => ?_)
    subst z1 z2
    refine thn (po_none.run pins s2 σ H1 (fun o h => o = none ∧ H1 = h) I2 ⟨rfl, rfl⟩) fun hi s3 ⟨_, _, I3, isHi, z1, z2⟩ => ?_
    subst z1 z2
    refine thn (minus.run pins s3 σ H1 (fun o h => o = some (-1) ∧ H1 = h) I3 ⟨1, rfl, -1, rfl, rfl, rfl⟩) fun st s4 ⟨_, _, I4, isSt, z1, z2⟩ => ?_
    subst z1 z2
    cases (show lo = .none by cases isLo; rfl)
    cases (show hi = .none by cases isHi; rfl)
    generalize at' : s4.heap.push { cls := .type "slice", data := .fields #[.none, .none, st] } = h5
    have I5 : Inv X pins σ H1 { s4 with heap := h5 } := I4.kept (t' := s4.toks) fun _ _ q => at' ▸ Heap.get?_push_of_some _ q
    obtain ⟨items, reads, body, small⟩ := I5.tuple isT
    have count := reads.length
    have back := frz_ok (P := X.prog) (w := X.w) (H := H1) (h := h5) (xs := xs.reverse) (us := items.reverse) (by rw [List.length_reverse]; exact small) reads.reverse
    show wpAny (model X.prog X.w) X.A (subscriptTail e _ (.ref a) (.ref s4.heap.objs.size)) (EP X pins σ Q) X.xe { s4 with heap := h5 }
    refine tail_any (ops := [.ref a, .ref s4.heap.objs.size]) body.typeIs (PyProof.Rows.slot_tuple_getitem.lookup) (getItem_tupRev body (at' ▸ Heap.IsSliceOf.new _ .none .none st) isSt ?_ (by rw [List.size_toArray]; omega)) (by with_unfolding_all rfl)
    exact ⟨.ref _, _, I5.laid (t' := s4.toks) (fun _ _ q => Heap.get?_push_of_some _ q) (Nat.le_refl _) (by simpa using back), rfl, rest _ _ (I5.hok.fresh (Nat.le_refl _)) ⟨rfl, rfl⟩⟩)⟩
def gRevT (x : PyData) : Option PyData := match x with
  | .tuple ds => some (.tuple ds.reverse)
  | _ => none
def cUn (g : PyData → Option PyData) (f : En → M PyData) : En → M PyData := fun ρ => f ρ >>= fun x => lift (g x)
theorem d_revT {e : Expr} {f : En → M PyData} {k : Nat} {p1 p2 p3 pos : Pos} (h : PD X e f) : PD X (.Subscript e (.Slice none none (some (.UnaryOp .USub (.Constant (.int 1) k p1) p2)) p3) pos) (cUn gRevT f) := PE_imp (pe_revT h) fun σ H Q ⟨av, q, ρ, S, A, p⟩ => by
  refine tE_step A p fun x S1 v H1 p1 e1 A1 d1 => ?_
  obtain ⟨d, hd, k⟩ := post_lift p1
  unfold gRevT at hd
  split at hd
  · cases hd
    cases d1 with
    | tup hs hn hx => exact ⟨_, _, rfl, sqT_at hs, fun p o hp ho => k _ _ (e1.trans (Ext.new hp)) (feed_same A1.feed (same_new hp)) (dp_newTup A1.trk hp ho (dps_rev hx))⟩
  · cases hd

/-! ### repr -/
def gRepr (x : PyData) : Option PyData := match x with
  | .tuple ds => if (PyData.tuple ds).showable && (!(PyData.tuple ds).hasDict) && decide ((PyData.tuple ds).depth ≤ 100) && decide ((PyData.tuple ds).shown.length ≤ 16777216) then some (.str (PyData.tuple ds).shown) else none
  | .list ds => if (PyData.list ds).showable && (!(PyData.list ds).hasDict) && decide ((PyData.list ds).depth ≤ 100) && decide ((PyData.list ds).shown.length ≤ 16777216) then some (.str (PyData.list ds).shown) else none
  | _ => none
def rRepr (K : PySem.W.Frag) : List V → Hp → VK → Prop := fun xs H Q => ∃ a d, xs = [.ref a] ∧ Dp K H (.ref a) d ∧ d.showable = true ∧ d.hasDict = false ∧ d.depth ≤ 100 ∧ d.shown.length ≤ sizeLine ∧ Q (.str d.shown) H
theorem call_repr {k : Nat} (hr : RoomG k X.A) : CallR X (.builtin "repr") (rRepr X.K) := by
  intro pinsₐ s σₐ Hₐ xsₐ usₐ Qₐ Iₐ rxₐ hₐ
  obtain ⟨aₐ, dₐ, rfl, hdₐ, h1ₐ, h2ₐ, h3ₐ, h4ₐ, qₐ⟩ := hₐ
  cases rxₐ with
  | cons rₐ rrₐ =>
    cases rrₐ
    cases rₐ
    obtain ⟨asₐ, hRₐ⟩ := Dp.reads Iₐ dₐ _ _ hdₐ rfl
    have := hr.r.un
    exact repr_of_reads' hRₐ h1ₐ (fun zₐ => by rw [h2ₐ] at zₐ; cases zₐ) hr.g (by omega) (fun _ _ eₐ => eₐ) (fun h'ₐ uₐ tkₐ hkₐ => ⟨.str dₐ.shown, Hₐ, Iₐ.kept hkₐ, ⟨uₐ, rfl⟩, qₐ⟩) h4ₐ
theorem d_repr {k : Nat} {p pos : Pos} {e : Expr} {f : En → M PyData} (hr : RoomG k X.A) (hm : X.mg "repr" = none) (ha : PD X e f) (hg : Gl X "repr" := by rfl) (hv : bootBuiltins "repr" = some (.builtin "repr") := by decide +kernel)
    (he : starEach (e :: []) X.env = (false, eval e X.env) :: starEach [] X.env := by rfl) (hpl : (backTo pos (starEach [] X.env)).any (·.1) = false := by rfl) : PD X (.Call (.Name "repr" p) [e] [] pos) (cUn gRepr f) :=
  PE_imp (pe_callB (call_repr hr) hg hm hv (pa_cons ha pa_nil he) (by decide) (by decide) he hpl) fun σ H Q ⟨av, q, ρ, S, A, p⟩ => by
    refine tE_step A p fun x S1 v H1 p1 e1 A1 d1 => ?_
    obtain ⟨d, hd, k⟩ := post_lift p1
    have d1' := dx_dp x v (dp_same msk_all x v d1)
    unfold gRepr at hd
    split at hd
    · split at hd
      · rename_i hc
        simp only [Bool.and_eq_true, decide_eq_true_eq, Bool.not_eq_true'] at hc
        cases hd
        have hl := hc.2
        rw [← sizeLine_eq] at hl
        have kk := k (.str _) H1 e1 A1.feed (.str _)
        cases d1 with
        | tup hs hn hx => exact ⟨_, _, rfl, d1', hc.1.1.1, hc.1.1.2, hc.1.2, hl, kk⟩
      · cases hd
    · split at hd
      · rename_i hc
        simp only [Bool.and_eq_true, decide_eq_true_eq, Bool.not_eq_true'] at hc
        cases hd
        have hl := hc.2
        rw [← sizeLine_eq] at hl
        have kk := k (.str _) H1 e1 A1.feed (.str _)
        cases d1 with
        | lst hs hx => exact ⟨_, _, rfl, d1', hc.1.1.1, hc.1.1.2, hc.1.2, hl, kk⟩
      · cases hd
    · cases hd
end
end E
end

section
set_option Elab.async false
set_option linter.all false
set_option maxRecDepth 100000
set_option maxHeartbeats 4100000
namespace E
open L2 PySem.Spec PyProof.Rows PySem
section
variable {X : Cx}
/-! ### t.index(x) for ints -/
theorem mt_tupIx : MtR X "tuple.index" (fun x xs H Q => ∃ (a : Addr) (ys : List V) (y : V) (j : Nat) (z : V), x = V.ref a ∧ xs = [y] ∧ SqT X.K H a ys ∧ flatV y = true ∧ ys.all flatV = true ∧ ys[j]? = some z ∧ eqV z y = true ∧ (∀ (m : Nat) (z' : V), m < j → ys[m]? = some z' → eqV z' y = false) ∧ Q (.int (j : Nat)) H) :=
  fun pins s σ H x xs v us Q I rx rxs ⟨a, ys, y, j, z, ex, one, isT, fy, fys, atJ, hit, miss, rest⟩ => by
    subst ex one
    cases rx
    obtain ⟨uy, rfl, ry⟩ := rxs.one
    obtain ⟨items, reads, ⟨⟨cls, dct, data, slots⟩, there, isTup, n, isSeq⟩, _⟩ := I.tuple isT
    simp only at isTup isSeq
    subst isTup isSeq
    have count := reads.length
    -- what == says of the m-th item is what it says of its reading
    have says : ∀ (m : Nat) (w : V) (lt : m < items.toArray.size), ys[m]? = some w → eqU y items.toArray[m] = eqV w y := fun m w lt at' => by
      obtain ⟨u, hu, ru⟩ := reads.get at'
      obtain ⟨_, e⟩ := List.getElem?_eq_some_iff.mp hu
      have e' : items.toArray[m] = u := by simpa using e
      rw [e', eqU_of ru (flat_at fys at')]
    have bound : j < items.toArray.size := by
      obtain ⟨u, hu, _⟩ := reads.get atJ
      simpa using (List.getElem?_eq_some_iff.mp hu).1
    refine call_meets PySem.F.slot_tuple_index ⟨_, there, rfl⟩ PySem.F.entry_tuple_index (PySem.F.args_tuple_index_2 _ _) (TI.tuple_indexAt a items.toArray n dct slots uy (eqU y) j bound ((says j z bound atJ).trans hit) fun m lt before => ?_)
      ⟨there, fun u' hu' => mem_eqAt ry fy reads fys u' (by simpa using hu'), .int (j : Nat), H, I.tok _, ⟨_, rfl⟩, rest⟩
    have inside : m < ys.length := by rw [List.size_toArray] at lt; omega
    rw [says m ys[m] lt (List.getElem?_eq_getElem inside)]
    exact miss m _ before (List.getElem?_eq_getElem inside)
def ixOf (x : Int) : List Int → Nat → Option Nat
  | [], _ => none
  | y :: ys, k => if y = x then some k else ixOf x ys (k + 1)
def gIndex (x y : PyData) : Option PyData := match x, y with
  | .tuple ds, .int i => (intsOf ds).bind fun ns => (ixOf i ns 0).map fun j => .int (j : Nat)
  | _, _ => none
theorem ixOf_spec {x : Int} : ∀ {ys : List Int} {k j : Nat}, ixOf x ys k = some j → ∃ i, j = k + i ∧ ys[i]? = some x ∧ ∀ m, m < i → ys[m]? ≠ some x
  | [], _, _, h => by cases h
  | y :: ys, k, j, h => by
    unfold ixOf at h
    split at h
    · cases h
      rename_i e
      exact ⟨0, rfl, by rw [← e]; rfl, fun m hm => absurd hm (Nat.not_lt_zero _)⟩
    · rename_i e
      obtain ⟨i, h1, h2, h3⟩ := ixOf_spec h
      refine ⟨i + 1, by omega, by simpa using h2, fun m hm => ?_⟩
      cases m with
      | zero => simpa using e
      | succ m => simpa using h3 m (by omega)
theorem flat_ints (ns : List Int) : (ns.map V.int).all flatV = true := by
  rw [List.all_map]
  exact List.all_eq_true.mpr (fun _ _ => rfl)
theorem eqV_int {i j : Int} : eqV (.int i) (.int j) = decide (i = j) := rfl
/-- a method of a tuple -/
def tBMT (K : PySem.W.Frag) (r : V → List V → Hp → VK → Prop) (to : TE) (t : TA) : TE := fun σ H Q => to σ H fun x H1 => (∃ a xs, x = .ref a ∧ SqT K H1 a xs ∧ TupN K H1 a) ∧ t σ H1 fun xs H2 => r x xs H2 Q
theorem pe_bmT {o e : Expr} {es : List Expr} {to : TE} {t : TA} {name : Str} {apos cpos : Pos} {id : String} {r : V → List V → Hp → VK → Prop} (slot : Slot "tuple" name id) (hty : typeOf (.builtin id) = pure (.type "method_descriptor")) (hm : MtR X id r) (ho : PE X o to) (ha : PA X (e :: es) t)
    (hbase : attributeBase o name X.env (eval o X.env) = eval o X.env := by exact rfl)
    (hfew : ((backTo cpos (starEach (e :: es) X.env)).all (fun xₐ => !xₐ.1) && (backToKw cpos (keywordEach [] X.env)).all (fun xₐ => xₐ.1.isSome) && decide ((e :: es).length + ([] : List Keyword).length + (if ([] : List Keyword).isEmpty then 0 else 1) < 30)) = true := by rfl)
    (hline : (apos.endLine == cpos.line) = true := by exact rfl) (hs : starEach (e :: es) X.env = (false, eval e X.env) :: starEach es X.env := by rfl) (hplain : (backTo cpos (starEach es X.env)).any (·.1) = false := by rfl) :
    PE X (.Call (.Attribute o name apos) (e :: es) [] cpos) (tBMT X.K r to t) := by
  refine ⟨fun pinsₐ s σₐ Hₐ Qₐ Iₐ hₐ => wpAny_Call_method_late hbase hfew hline rfl (thn (ho.run pinsₐ s σₐ Hₐ _ Iₐ hₐ) fun vₐ s1ₐ ⟨xₐ, H1ₐ, I1ₐ, r1ₐ, tyₐ, q1ₐ⟩ => ?_)⟩
  obtain ⟨aₐ, xsₐ, rfl, hqₐ, hnₐ⟩ := tyₐ
  cases r1ₐ
  obtain ⟨itsₐ, rvₐ, pₐ, _⟩ := I1ₐ.tuple hqₐ
  have hdₐ : ∃ ob, s1ₐ.heap.get? aₐ = some ob ∧ ob.dict = none := by
    rcases hnₐ with ⟨o, uₐ, hnₐ, zₐ⟩ | ⟨o, hlₐ, _, zₐ⟩
    · exact ⟨o, (I1ₐ.hok aₐ _ hnₐ).1, zₐ.1⟩
    · exact ⟨o, I1ₐ.kIn aₐ o hlₐ, zₐ.1⟩
  refine ⟨"tuple", id, PySem.F.plainAttrs_tuple, slot, hty, pₐ.typeIs, fun bₐ e => (by cases e; exact hdₐ), ?_⟩
  have hAₐ := ha.run cpos pinsₐ s1ₐ σₐ H1ₐ _ I1ₐ q1ₐ
  rw [hs] at hAₐ ⊢
  refine Calls.callWith_builtin (by show (false || (backTo cpos (starEach es X.env)).any (·.1)) = false; rw [hplain] <;> rfl) (Calls.evalArgs_plain (thn hAₐ fun usₐ s2ₐ ⟨vsₐ, H2ₐ, I2ₐ, r2ₐ, q2ₐ⟩ => hm pinsₐ s2ₐ σₐ H2ₐ (.ref aₐ) vsₐ (.ref aₐ) usₐ Qₐ I2ₐ rfl r2ₐ q2ₐ))
theorem d_index {a b : Expr} {apos cpos : Pos} {fa fb : En → M PyData} (ha : PD X a fa) (hb : PD X b fb) (hbase : attributeBase a "index" X.env (eval a X.env) = eval a X.env := by rfl)
    (hfew : ((backTo cpos (starEach (b :: []) X.env)).all (fun x => !x.1) && (backToKw cpos (keywordEach [] X.env)).all (fun x => x.1.isSome) && decide ((b :: []).length + ([] : List Keyword).length + (if ([] : List Keyword).isEmpty then 0 else 1) < 30)) = true := by rfl)
    (hline : (apos.endLine == cpos.line) = true := by exact rfl) (hs : starEach (b :: []) X.env = (false, eval b X.env) :: starEach [] X.env := by rfl) (hplain : (backTo cpos (starEach [] X.env)).any (·.1) = false := by rfl) :
    PD X (.Call (.Attribute a "index" apos) [b] [] cpos) (cBin gIndex fa fb) :=
  PE_imp (pe_bmT PySem.F.slot_tuple_index PySem.F.type_tuple_index mt_tupIx ha (pa_cons hb pa_nil hs) hbase hfew hline hs hplain) fun σ H Q ⟨av, q, ρ, S, A, p⟩ => by
    refine tE_step A p fun x S1 v H1 p1 e1 A1 d1 => ?_
    have hx : ∃ ds, x = .tuple ds := by
      have z := post_bind p1
      cases x with
      | tuple ds => exact ⟨ds, rfl⟩
      | _ =>
        exfalso
        cases e : fb ρ S1 with
        | ok y S2 => rw [e] at z; exact z
        | ex y S2 => rw [e] at z; exact z
        | bad => rw [e] at z; exact z
    obtain ⟨ds, rfl⟩ := hx
    have d1' := d1
    cases d1 with
    | tup hs hn hx =>
      refine ⟨⟨_, _, rfl, sqT_at hs, tupN_same msk_all hn⟩, ?_⟩
      refine tE_step A1 p1 fun y S2 w H2 p2 e2 A2 d2 => ?_
      obtain ⟨d, hd, k⟩ := post_lift p2
      have d3 := ext_dp A.feed.1 e2 d1'
      cases y with
      | int i =>
        cases d2
        cases z : intsOf ds with
        | none =>
          have hd' : (intsOf ds).bind (fun ns => (ixOf i ns 0).map fun (j : Nat) => PyData.int (j : Nat)) = some d := hd
          rw [z] at hd'; cases hd'
        | some ns =>
          have hd' : (intsOf ds).bind (fun ns => (ixOf i ns 0).map fun (j : Nat) => PyData.int (j : Nat)) = some d := hd
          rw [z] at hd'
          have hd2 : (ixOf i ns 0).map (fun (j : Nat) => PyData.int (j : Nat)) = some d := hd'
          cases y0 : ixOf i ns 0 with
          | none => rw [y0] at hd2; cases hd2
          | some j =>
            rw [y0] at hd2; cases hd2
            obtain ⟨j', hj, hat, hno⟩ := ixOf_spec y0
            rw [Nat.zero_add] at hj
            subst hj
            cases d3 with
            | tup hs3 hn3 hx3 =>
              have hv := ints_dp hx3 z
              subst hv
              refine ⟨_, _, .int i, j, .int i, rfl, rfl, sqT_at hs3, rfl, flat_ints ns, by rw [List.getElem?_map, hat]; rfl, by rw [eqV_int]; simp, fun m z' hm hz' => ?_, k _ H2 (e1.trans e2) A2.feed (.int _)⟩
              rw [List.getElem?_map] at hz'
              cases y1 : ns[m]? with
              | none => rw [y1] at hz'; cases hz'
              | some u =>
                rw [y1] at hz'; cases hz'
                rw [eqV_int]
                exact decide_eq_false fun z => hno m hm (by rw [y1, z])
      | _ => cases hd
/-! ### len(set(t)) of ints, no two the same -/
def cLenSet (f : En → M PyData) : En → M PyData := fun ρ => f ρ >>= fun x => lift (match x with
  | .tuple ds => (intsOf ds).bind fun ns => if ns.length ≤ 4000 then some (.int (ns.eraseDups.length : Nat)) else none
  | _ => none)
/-! ### n.bit_length(), list(range(n)) -/
def gBits (x : PyData) : Option PyData := match x with
  | .int i => some (.int (Builtin.Int.intBits i : Nat))
  | _ => none
theorem d_bits {o : Expr} {f : En → M PyData} {apos pos : Pos} (ho : PD X o f) (hbase : attributeBase o "bit_length" X.env (eval o X.env) = eval o X.env := by rfl) (hline : (apos.endLine == pos.line) = true := by rfl) : PD X (.Call (.Attribute o "bit_length" apos) [] [] pos) (cUn gBits f) :=
  PE_imp (pe_bits ho hbase hline) fun σ H Q ⟨av, q, ρ, S, A, p⟩ => by
    refine tE_step A p fun x S1 v H1 p1 e1 A1 d1 => ?_
    obtain ⟨d, hd, k⟩ := post_lift p1
    unfold gBits at hd
    split at hd
    · cases hd; cases d1
      exact ⟨_, rfl, k _ H1 e1 A1.feed (.int _)⟩
    · cases hd
theorem rgV_dp {K : PySem.W.Frag} {H : Hp} (n : Int) : DxAll K H (rgV 0 n) (rngD 0 n.toNat) := by
  unfold rgV rngD
  have key : ∀ (l : List Nat), DxAll K H (l.map fun i => V.int (0 + (i : Nat))) (l.map fun (k : Nat) => PyData.int (0 + k)) := fun l => by
    induction l with
    | nil => exact .nil
    | cons a l ih => exact .cons (.int _) ih
  have e : (n - 0).toNat = n.toNat := by omega
  rw [e]
  exact key _
def gRgL (x : PyData) : Option PyData := match x with
  | .int i => if decide (0 ≤ i ∧ i ≤ 16777216) then some (.list (rngD 0 i.toNat)) else none
  | _ => none
theorem d_listRg {a : Expr} {f : En → M PyData} {p p2 pos pos2 : Pos} (hc : X.calm = true) (hm : X.mg "list" = none) (hm2 : X.mg "range" = none) (ha : PD X a f) (hg : Gl X "list" := by rfl) (hg2 : Gl X "range" := by rfl) (na : starEach [a] X.env = (false, eval a X.env) :: starEach [] X.env := by rfl)
    (nb : starEach [Expr.Call (.Name "range" p2) [a] [] pos2] X.env = (false, eval (Expr.Call (.Name "range" p2) [a] [] pos2) X.env) :: starEach [] X.env := by rfl) : PD X (.Call (.Name "list" p) [.Call (.Name "range" p2) [a] [] pos2] [] pos) (cUn gRgL f) :=
  PE_imp (pe_listRg hc hg hm (prg_1 hg2 hm2 ha na) nb) fun σ H Q ⟨av, q, ρ, S, A, p⟩ => by
    refine tE_step A p fun x S1 v H1 p1 e1 A1 d1 => ?_
    obtain ⟨d, hd, k⟩ := post_lift p1
    unfold gRgL at hd
    split at hd
    · split at hd
      · rename_i hh
        have hh := of_decide_eq_true hh
        cases hd; cases d1
        exact ⟨_, rfl, RgOk.of_le (by omega) hh.2 (by omega) hh.1, fun p hp => k _ _ (e1.trans (Ext.new hp)) (feed_same A1.feed (same_new hp)) (dp_newLst A1.trk hp (rgV_dp _))⟩
      · cases hd
    · cases hd
/-! ### a, b = x, y -/
def sPar (i j : Nat) (fs : En → M (List Ag)) : En → M Fl := fun ρ => fs ρ >>= fun as => match as with
  | [.d x, .d y] => pure (.nx ((ρ.set i (some (.im x))).set j (some (.im y))))
  | _ => bad
theorem s_par {i j : Nat} {x y : Str} {a b : Expr} {fs : En → M (List Ag)} {px py pt pos : Pos} {kt k2 pt2} (hc : X.calm = true) (hN : X.N.Nodup) (ha : PG_A X [a, b] fs) (hi : X.N[i]? = some x := by rfl) (hj : X.N[j]? = some y := by rfl) (hij : i ≠ j := by decide)
    (hx : X.env.scope.names.lookup x = some .local := by rfl) (hy : X.env.scope.names.lookup y = some .local := by rfl)
    (hw : swappedStores [.Tuple [.Name x px, .Name y py] kt pt] (.Tuple [a, b] k2 pt2) X.env = pure (some [x, y]) := by rfl)
    (hs : swapsWithSole [.Tuple [.Name x px, .Name y py] kt pt] (.Tuple [a, b] k2 pt2) pos.line X.env = pure false := by exact rfl) :
    PSD X (.Assign [.Tuple [.Name x px, .Name y py] kt pt] (.Tuple [a, b] k2 pt2) pos) (sPar i j fs) := PS_imp (ps_par hc hN hi hj hij hx hy ha hw hs) fun Dₐ σₐ Hₐ ⟨H0ₐ, av0ₐ, x0ₐ, avₐ, qₐ, ρₐ, Sₐ, Wₐ, pₐ⟩ => by
  refine tAg_step Wₐ.at' pₐ fun asₐ S1ₐ vsₐ H1ₐ p1ₐ e1ₐ A1ₐ d1ₐ => ?_
  split at p1ₐ
  · cases d1ₐ with
    | cons h1ₐ h2ₐ =>
      cases h2ₐ with
      | cons h3ₐ h4ₐ =>
        cases h4ₐ
        have W1ₐ := Wₐ.ext e1ₐ A1ₐ
        exact ⟨_, _, rfl, p1ₐ avₐ _ H1ₐ (W1ₐ.sub ((A1ₐ.set h1ₐ).set h3ₐ) (is := [i] ++ [j]) (owSub_set.trans owSub_set) fun mₐ hmₐ => by
          have n1ₐ : i ≠ mₐ := fun zₐ => hmₐ (by simp [zₐ])
          have n2ₐ : j ≠ mₐ := fun zₐ => hmₐ (by simp [zₐ])
          rw [List.getElem?_set_ne n2ₐ, List.getElem?_set_ne n1ₐ])⟩
  · exact False.elim p1ₐ
end
end E
end

section
set_option Elab.async false
set_option linter.all false
set_option maxRecDepth 100000
set_option maxHeartbeats 4100000
namespace E
open L2 PySem.Spec PyProof.Rows PySem
section
variable {X : Cx}
/-! ### name = [..] -/
theorem s_lc {i : Nat} {y : Str} {py : Pos} {elt tg iter : Expr} {ifs : List Expr} {scope : Scope} {own : List (Str × Nat)} {pos spos : Pos} {fi : En → M (List PyData)} {is : List Nat} {b : PyData → En → Option En} {t : En → M Bool} {fe : En → M PyData} (hc : X.calm = true) (hN : X.N.Nodup) (hi : PID X tg iter fi) (ok : BlkOk X.N X.env.scope scope own)
    (hg : ∀ (s : Shared) (H : Hp) (C : Addr) (cl : List (Str × Addr)) (fp : List Addr), PGD (X.blk s H scope (compEnvC scope cl C X.env) fp) tg is b) (ht : ∀ (s : Shared) (H : Hp) (C : Addr) (cl : List (Str × Addr)) (fp : List Addr), PTsD (X.blk s H scope (compEnvC scope cl C X.env) fp) ifs t)
    (he : ∀ (s : Shared) (H : Hp) (C : Addr) (cl : List (Str × Addr)) (fp : List Addr), PD (X.blk s H scope (compEnvC scope cl C X.env) fp) elt fe) (hy : X.N[i]? = some y := by rfl) (hyl : X.env.scope.names.lookup y = some .local := by rfl)
    (hsw : swapsWith (.ListComp elt [⟨tg, iter, ifs, 0⟩] scope pos) (some (.Name y py)) spos.line X.env = pure true) (his : ∀ i ∈ is, i ∈ own.map (·.2) := by decide) (hs : ∀ x, foldedSetIterable iter X.env x = pure x := by intro _; rfl) :
    PSD X (.Assign [.Name y py] (.ListComp elt [⟨tg, iter, ifs, 0⟩] scope pos) spos) (sAsg (cLc fi (own.map (·.2)) b t fe) (bNm i)) :=
  PS_imp (ps_setLc (g := tGd X.K is b) (tt := tD X.K t) (te := tE X.K fe) hc hN hy hyl hsw hi ok hg ht he hs) fun D σ H ⟨H0, av0, x0, av, q, ρ, S, W, p⟩ => by
    refine tLc_of his σ H _ (tE_step W.at' p fun x S1 v H1 p1 e1 A1 d1 => ?_)
    have W1 := W.ext e1 A1
    obtain ⟨fl, hf, k⟩ := post_lift p1
    cases hf
    exact k av _ H1 (W1.sub (A1.set d1) (is := [i]) owSub_set fun j hj => by rw [List.getElem?_set_ne (by simpa using fun z => hj (by simp [z]))])

/-! ### two clauses -/
def noOw (ρ : En) : Bool := ρ.all fun o => match o with
  | some (.ow _) => false
  | _ => true
theorem noOw_ok {ρ : En} (h : noOw ρ = true) (σ : E.St) (D : Addr) : NotOw ρ σ D := fun i l e => by
  have := List.all_eq_true.mp h _ (List.mem_of_getElem? e)
  cases this
def lc2In (vs1 : List Nat) (b1 : PyData → En → Option En) (t1 : En → M Bool) (fe : En → M PyData) (ρ : En) : List PyData → List PyData → M (List PyData)
  | [], acc => pure acc
  | d :: ds, acc => match b1 d (wipeE ρ vs1) with
    | none => bad
    | some ρ1 => t1 ρ1 >>= fun c => if c then fe ρ1 >>= fun y => if acc.length < 16777216 then lc2In vs1 b1 t1 fe ρ ds (acc ++ [y]) else bad else lc2In vs1 b1 t1 fe ρ ds acc
def lc2Go (vs : List Nat) (b : PyData → En → Option En) (t : En → M Bool) (fi1 : En → M (List PyData)) (vs1 : List Nat) (b1 : PyData → En → Option En) (t1 : En → M Bool) (fe : En → M PyData) (ρ : En) : List PyData → List PyData → M PyData
  | [], acc => pure (.list acc)
  | d :: ds, acc => match b d (wipeE ρ vs) with
    | none => bad
    | some ρ1 => if noOw ρ1 then t ρ1 >>= fun c => if c then fi1 ρ1 >>= fun ds1 => lc2In vs1 b1 t1 fe ρ1 ds1 acc >>= fun acc' => lc2Go vs b t fi1 vs1 b1 t1 fe ρ ds acc' else lc2Go vs b t fi1 vs1 b1 t1 fe ρ ds acc else bad
def cLc2 (fi : En → M (List PyData)) (vs : List Nat) (b : PyData → En → Option En) (t : En → M Bool) (fi1 : En → M (List PyData)) (vs1 : List Nat) (b1 : PyData → En → Option En) (t1 : En → M Bool) (fe : En → M PyData) : En → M PyData := fun ρ => fi ρ >>= fun ds => lc2Go vs b t fi1 vs1 b1 t1 fe ρ ds []
theorem post_bind' {α β : Type} {m : M α} {f : α → M β} {S : Fd} {k : β → Fd → Prop} {x : Xn → Fd → Prop} (h : (m S).post (fun a S' => (f a S').post k x) x) : ((m >>= f) S).post k x := by
  show (M.bind m f S).post k x
  unfold M.bind
  cases e : m S with
  | ok a S' => rw [e] at h; exact h
  | ex a S' => rw [e] at h; exact h
  | bad => rw [e] at h; exact h
theorem tLc2_of {K : PySem.W.Frag} {fi fi1 : En → M (List PyData)} {is is1 vs0 vs1 : List Nat} {b b1 : PyData → En → Option En} {t t1 : En → M Bool} {fe : En → M PyData} (his : ∀ i ∈ is, i ∈ vs0) (his1 : ∀ i ∈ is1, i ∈ vs1) (σ : E.St) (H : Hp) (Q : VK) (h : tE K (cLc2 fi vs0 b t fi1 vs1 b1 t1 fe) σ H Q) :
    tLc2 (tI K fi) (tGd K is b) (tD K t) (tI K fi1) (tGd K is1 b1) (tD K t1) (tE K fe) vs0 vs1 σ H Q := by
  obtain ⟨av, q, ρ, S, A, p⟩ := h
  refine ⟨av, q, ρ, S, A, R.post_imp (post_bind p) (fun ds S1 p1 J H1 e1 f1 wk => ?_) fun _ _ z => z⟩
  have A1 := A.ext e1 f1
  intro D hD
  let kQ : PyData → Fd → Prop := fun d S' => ∀ v H', Ext [q] H H' → FeedAt av q S' H' → Dx K (msk av H') v d → Q v H'
  -- what holds of the list under way
  let Wy : Hp → Fd → List PyData → Prop := fun H' S' acc => ∃ ws, At K (D :: av) q ρ S' σ H' ∧ Ext [q] H1 H' ∧ H' D = some (.lst ws) ∧ DxAll K (msk (D :: av) H') ws acc
  have qin : ∀ {p : Addr}, p ∈ [q] → p ∈ D :: av := fun h => by rw [List.mem_singleton.mp h]; exact List.mem_cons_of_mem D A1.feed.1
  have Hq : D ≠ q := fun z => by
    obtain ⟨_, _, a, _⟩ := A1.feed
    rw [← z, hD] at a; cases a
  have on : ∀ {H' H'' : Hp} {S' S'' : Fd} {acc : List PyData}, Wy H' S' acc → Ext [q] H' H'' → FeedAt (D :: av) q S'' H'' → Wy H'' S'' acc := fun {H' H'' S' S'' acc} ⟨ws, a, b, c, d⟩ e f =>
    ⟨ws, a.ext e f, fun x o n hx => e x o n (b x o n hx), e D _ (by simpa using Hq) c, ext_dps (List.mem_cons_of_mem D A1.feed.1) e d⟩
  refine ⟨fun i m H' => m = ds.length - i ∧ i ≤ ds.length ∧ ∃ S' acc, Wy H' S' acc ∧ (lc2Go vs0 b t fi1 vs1 b1 t1 fe ρ (ds.drop i) acc S').post kQ noX,
    ⟨ds.length, by simp, Nat.zero_le _, S1, [], ⟨[], at_new A1 hD, Ext.new hD, upd_same, .nil⟩, p1⟩, ?_⟩
  rintro i m H' ⟨rfl, hi, S', acc, Wv, p'⟩
  have Wv' := Wv
  obtain ⟨ws, A', e', hvs, hacc⟩ := Wv'
  have w := wk (D :: av) H' (fun p h => by simp [h]) (fun p h n => by
    rcases (List.mem_cons.mp h) with z | z
    · rw [z]; exact hD
    · exact absurd z n) (e'.more fun p h => by rw [List.mem_singleton.mp h]; exact A1.feed.1) A'.trk i
  by_cases hlt : i < ds.length
  · have hd : ds[i]? = some ds[i] := by simp [hlt]
    obtain ⟨go, y⟩ := w.1 _ hd
    have dr : ds.drop i = ds[i] :: ds.drop (i + 1) := by rw [List.drop_eq_getElem_cons hlt]
    rw [dr] at p'
    refine .inr ⟨go, fun H'' => ∃ S' acc, Wy H'' S' acc ∧ (lc2Go vs0 b t fi1 vs1 b1 t1 fe ρ (ds.drop (i + 1)) acc S').post kQ noX, fun H'' h => ⟨ds.length - (i + 1), by omega, rfl, hlt, h⟩, fun x H2 yl => ?_⟩
    obtain ⟨sm, dx⟩ := y x H2 yl
    have f2 := feed_same A'.feed sm
    have A2 : At K (D :: av) q ρ S' σ H2 := A'.ext (Ext.of_same sm) f2
    have W2 := on Wv (Ext.of_same sm) f2
    have p2 : (match b ds[i] (wipeE ρ vs0) with
      | none => bad
      | some ρ1 => if noOw ρ1 then t ρ1 >>= fun c => if c then fi1 ρ1 >>= fun ds1 => lc2In vs1 b1 t1 fe ρ1 ds1 acc >>= fun acc' => lc2Go vs0 b t fi1 vs1 b1 t1 fe ρ (ds.drop (i + 1)) acc' else lc2Go vs0 b t fi1 vs1 b1 t1 fe ρ (ds.drop (i + 1)) acc else bad : M PyData) S' |>.post kQ noX := p'
    cases hb : b ds[i] (wipeE ρ vs0) with
    | none => rw [hb] at p2; exact False.elim p2
    | some ρ1 =>
      rw [hb] at p2
      have p2' : (if noOw ρ1 then t ρ1 >>= fun c => if c then fi1 ρ1 >>= fun ds1 => lc2In vs1 b1 t1 fe ρ1 ds1 acc >>= fun acc' => lc2Go vs0 b t fi1 vs1 b1 t1 fe ρ (ds.drop (i + 1)) acc' else lc2Go vs0 b t fi1 vs1 b1 t1 fe ρ (ds.drop (i + 1)) acc else bad : M PyData) S' |>.post kQ noX := p2
      cases hno : noOw ρ1 with
      | false => rw [hno] at p2'; exact False.elim p2'
      | true =>
      rw [hno] at p2'
      have p3 : ((t ρ1 >>= fun c => if c then fi1 ρ1 >>= fun ds1 => lc2In vs1 b1 t1 fe ρ1 ds1 acc >>= fun acc' => lc2Go vs0 b t fi1 vs1 b1 t1 fe ρ (ds.drop (i + 1)) acc' else lc2Go vs0 b t fi1 vs1 b1 t1 fe ρ (ds.drop (i + 1)) acc : M PyData) S').post kQ noX := p2'
      refine ⟨D :: av, q, wipeE ρ vs0, S', ds[i], A2.wipe _, dx, ρ1, hb, fun σ2 A3 hl ho _ => ?_⟩
      refine ⟨(wipe_off his hl ho).trans wipe_idem, ?_⟩
      refine tD_step A3 p3 fun c S2 H3 p4 e3 A4 => ?_
      have W3 := on W2 e3 A4.feed
      cases c with
      | false => exact iteF ⟨S2, acc, W3, p4⟩
      | true =>
        refine iteT ⟨D :: av, q, ρ1, S2, A4, R.post_imp (post_bind p4) (fun ds1 S3 p5 J1 H4 e4 f4 wk1 => ?_) fun _ _ z => z⟩
        have A5 := A4.ext e4 f4
        have W4 := on W3 e4 f4
        refine ⟨fun j m H' => m = ds1.length - j ∧ j ≤ ds1.length ∧ ∃ S' acc, Wy H' S' acc ∧ At K (D :: av) q ρ1 S' σ2 H' ∧ Ext [q, D] H4 H' ∧ ((lc2In vs1 b1 t1 fe ρ1 (ds1.drop j) acc >>= fun acc' => lc2Go vs0 b t fi1 vs1 b1 t1 fe ρ (ds.drop (i + 1)) acc') S').post kQ noX,
          ⟨ds1.length, by simp, Nat.zero_le _, S3, acc, W4, A5, Ext.refl _, p5⟩, ?_⟩
        rintro j m H' ⟨rfl, hj, S', acc, Wv1, B, eD, pj⟩
        have w1 := wk1 (D :: av) H' (fun p h => h) (fun p h n => absurd h n) (eD.more fun p h => by
          rcases (List.mem_cons.mp h) with z | z
          · exact qin (by simp [z])
          · rw [List.mem_singleton.mp z]; exact List.mem_cons_self) B.trk j
        by_cases hlt1 : j < ds1.length
        · have hd1 : ds1[j]? = some ds1[j] := by simp [hlt1]
          obtain ⟨go1, y1⟩ := w1.1 _ hd1
          have dr1 : ds1.drop j = ds1[j] :: ds1.drop (j + 1) := by rw [List.drop_eq_getElem_cons hlt1]
          rw [dr1] at pj
          refine .inr ⟨go1, fun H'' => ∃ S' acc, Wy H'' S' acc ∧ At K (D :: av) q ρ1 S' σ2 H'' ∧ Ext [q, D] H4 H'' ∧ ((lc2In vs1 b1 t1 fe ρ1 (ds1.drop (j + 1)) acc >>= fun acc' => lc2Go vs0 b t fi1 vs1 b1 t1 fe ρ (ds.drop (i + 1)) acc') S').post kQ noX,
            fun H'' h => ⟨ds1.length - (j + 1), by omega, rfl, hlt1, h⟩, fun x1 H5 yl1 => ?_⟩
          obtain ⟨sm1, dx1⟩ := y1 x1 H5 yl1
          have f5 := feed_same B.feed sm1
          have B5 := B.ext (Ext.of_same sm1) f5
          have W5 := on Wv1 (Ext.of_same sm1) f5
          have eD5 : Ext [q, D] H4 H5 := fun x o n hx => sm1 x o (eD x o n hx)
          have pk : (((match b1 ds1[j] (wipeE ρ1 vs1) with
            | none => bad
            | some ρ3 => t1 ρ3 >>= fun c => if c then fe ρ3 >>= fun y => if acc.length < 16777216 then lc2In vs1 b1 t1 fe ρ1 (ds1.drop (j + 1)) (acc ++ [y]) else bad else lc2In vs1 b1 t1 fe ρ1 (ds1.drop (j + 1)) acc : M (List PyData)) >>= fun acc' => lc2Go vs0 b t fi1 vs1 b1 t1 fe ρ (ds.drop (i + 1)) acc') S').post kQ noX := pj
          cases hb1 : b1 ds1[j] (wipeE ρ1 vs1) with
          | none => rw [hb1] at pk; exact False.elim pk
          | some ρ3 =>
            rw [hb1] at pk
            refine ⟨D :: av, q, wipeE ρ1 vs1, S', ds1[j], B5.wipe _, dx1, ρ3, hb1, fun σ3 A6 hl1 ho1 _ => ?_⟩
            refine ⟨(wipe_off his1 hl1 ho1).trans wipe_idem, ?_⟩
            have pk2 := post_bind (post_bind pk)
            refine ⟨D :: av, q, ρ3, S', A6, R.post_imp pk2 (fun c1 S6 p6 H6 e6 f6 => ?_) fun _ _ z => z⟩
            have A7 := A6.ext e6 f6
            have B6 := B5.ext e6 f6
            have W6 := on W5 e6 f6
            have eD6 : Ext [q, D] H4 H6 := fun x o n hx => e6 x o (by simp at n; simp [n.1]) (eD5 x o n hx)
            cases c1 with
            | false =>
              exact iteF ⟨S6, acc, W6, B6, eD6, post_bind' p6⟩
            | true =>
              refine iteT (tE_step A7 p6 fun y S7 v H7 p7 e7 A8 d8 => ?_)
              obtain ⟨ws7, a7, b7, c7, d7⟩ := on W6 e7 A8.feed
              have B7 := B6.ext e7 A8.feed
              split at p7
              · rename_i hz
                refine ⟨ws7, c7, by rw [dps_len d7, sizeLine_eq]; exact hz, S7, acc ++ [y], ⟨ws7 ++ [v], at_put a7 (by simp) (notOw_new A1 hD) c7, fun x o n hx => ?_, upd_same, ?_⟩, at_put B7 (by simp) (noOw_ok hno σ2 D) c7, fun x o n hx => ?_, post_bind' p7⟩
                · rw [upd_ne (ne_of_none hx hD)]; exact b7 x o n hx
                · have sm4 : Same (msk (D :: av) H7) (msk (D :: av) (upd H7 D (.lst (ws7 ++ [v])))) := fun b o z => by
                    obtain ⟨nb, z⟩ := msk_some z
                    exact msk_of nb (by rw [upd_ne fun y => nb (by simp [y])]; exact z)
                  exact dps_app (dps_same sm4 _ _ d7) (dps_one (dp_same sm4 _ _ d8))
                · rw [upd_ne fun y => n (by simp [y])]
                  exact e7 x o (by simp at n; simp [n.1]) (eD6 x o n hx)
              · exact False.elim p7
        · have e : j = ds1.length := by omega
          subst e
          rw [List.drop_length] at pj
          refine .inl ⟨w1.2 (Nat.le_refl _), S', acc, Wv1, pj⟩
  · have e : i = ds.length := by omega
    subst e
    rw [List.drop_length] at p'
    have kk : ∀ v H', Ext [q] H H' → FeedAt av q S' H' → Dx K (msk av H') v (.list acc) → Q v H' := p'
    refine .inl ⟨w.2 (Nat.le_refl _), kk _ H' (e1.trans e') (A'.feed.less (fun p h => by simp [h]) A1.feed.1) ?_⟩
    exact .lst (msk_of (not_av A1.trk hD) hvs) (dps_same (msk_less fun p h => by simp [h]) acc ws hacc)
theorem d_lc2 {elt tg iter tg1 iter1 : Expr} {ifs ifs1 : List Expr} {scope : Scope} {own : List (Str × Nat)} {vs1 : List Nat} {pos : Pos} {fi fi1 : En → M (List PyData)} {is is1 : List Nat} {b b1 : PyData → En → Option En} {t t1 : En → M Bool} {fe : En → M PyData} (hc : X.calm = true) (hN : X.N.Nodup) (hi : PID X tg iter fi) (ok : BlkOk X.N X.env.scope scope own) (hv : ∀ i ∈ vs1, i ∈ own.map (·.2))
    (hg : ∀ (s : Shared) (H : Hp) (C : Addr) (cl : List (Str × Addr)) (fp : List Addr), PGD (X.blk s H scope (compEnvC scope cl C X.env) fp) tg is b) (ht : ∀ (s : Shared) (H : Hp) (C : Addr) (cl : List (Str × Addr)) (fp : List Addr), PTsD (X.blk s H scope (compEnvC scope cl C X.env) fp) ifs t)
    (hi1 : ∀ (s : Shared) (H : Hp) (C : Addr) (cl : List (Str × Addr)) (fp : List Addr), PID (X.blk s H scope (compEnvC scope cl C X.env) fp) tg1 iter1 fi1)
    (hg1 : ∀ (s : Shared) (H : Hp) (C : Addr) (cl : List (Str × Addr)) (fp : List Addr), PGD (X.blk s H scope (compEnvC scope cl C X.env) fp) tg1 is1 b1) (ht1 : ∀ (s : Shared) (H : Hp) (C : Addr) (cl : List (Str × Addr)) (fp : List Addr), PTsD (X.blk s H scope (compEnvC scope cl C X.env) fp) ifs1 t1)
    (he : ∀ (s : Shared) (H : Hp) (C : Addr) (cl : List (Str × Addr)) (fp : List Addr), PD (X.blk s H scope (compEnvC scope cl C X.env) fp) elt fe) (his : ∀ i ∈ is, i ∈ own.map (·.2) := by decide) (his1 : ∀ i ∈ is1, i ∈ vs1 := by decide) (hs : ∀ x, foldedSetIterable iter X.env x = pure x := by intro _; rfl) (hs1 : ∀ env x, foldedSetIterable iter1 env x = pure x := by intro _ _; rfl) :
    PD X (.ListComp elt [⟨tg, iter, ifs, 0⟩, ⟨tg1, iter1, ifs1, 0⟩] scope pos) (cLc2 fi (own.map (·.2)) b t fi1 vs1 b1 t1 fe) :=
  PE_imp (pe_lc2 (wi1 := tI X.K fi1) (g := tGd X.K is b) (g1 := tGd X.K is1 b1) (tt := tD X.K t) (tt1 := tD X.K t1) (te := tE X.K fe) hc hN hi ok hv hg ht hi1 hg1 ht1 he hs hs1) (tLc2_of his his1)

/-! ### lists put together -/
variable {a b : Expr} {fa fb : En → M PyData} {pos : Pos}
def gCat (x y : PyData) : Option PyData := match x, y with
  | .list l, .list m => if decide (l.length + m.length ≤ 16777216) then some (.list (l ++ m)) else none
  | _, _ => none
theorem d_cat (ha : PD X a fa) (hb : PD X b fb) : PD X (.BinOp a .Add b pos) (cBin gCat fa fb) := d_bin op_cat (fun av H x y d v w Q t hd hx hy k => by
  unfold gCat at hd
  split at hd
  · split at hd
    · rename_i hh
      have hh := of_decide_eq_true hh
      cases hd
      cases hx with
      | lst h1 x1 =>
        cases hy with
        | lst h2 x2 => exact ⟨_, _, _, _, rfl, rfl, (msk_some h1).2, (msk_some h2).2, by rw [dps_len x1, dps_len x2, sizeLine_eq]; exact hh, fun p hp => k _ _ (same_new hp) (dp_newLst t hp (dps_app x1 x2))⟩
    · cases hd
  · cases hd) ha hb
def gRep (x y : PyData) : Option PyData := match x, y with
  | .list l, .int n => if decide (0 ≤ n ∧ n ≤ 16777216 ∧ l.length * n.toNat ≤ 16777216) then some (.list (List.replicate n.toNat l).flatten) else none
  | _, _ => none
end
end E
end

section
set_option Elab.async false
set_option linter.all false
set_option maxRecDepth 100000
set_option maxHeartbeats 4100000
namespace E
open L2 PySem.Spec PyProof.Rows PySem
section
variable {X : Cx} {a b : Expr} {fa fb : En → M PyData} {pos : Pos}
def gNeg (x : PyData) : Option PyData := match x with
  | .int i => some (.int (-i))
  | _ => none
theorem d_neg' (ha : PD X a fa) : PD X (.UnaryOp .USub a pos) (cUn gNeg fa) := PE_imp (pe_un un_neg ha) fun σ H Q ⟨av, q, ρ, S, A, p⟩ => by
  refine tE_step A p fun x S1 v H1 p1 e1 A1 d1 => ?_
  obtain ⟨d, hd, k⟩ := post_lift p1
  unfold gNeg at hd
  split at hd
  · cases d1; cases hd
    exact ⟨_, rfl, k _ H1 e1 A1.feed (.int _)⟩
  · cases hd
/-- int(x) of an int -/
def gInt (x : PyData) : Option PyData := match x with
  | .int i => some (.int i)
  | _ => none
theorem d_intOf {p : Pos} (hm : X.mg "int" = none) (ha : PD X a fa) (hg : Gl X "int" := by rfl) (hv : bootBuiltins "int" = some (.type "int") := by decide +kernel)
    (he : starEach (a :: []) X.env = (false, eval a X.env) :: starEach [] X.env := by rfl) (hpl : (backTo pos (starEach [] X.env)).any (·.1) = false := by rfl) : PD X (.Call (.Name "int" p) [a] [] pos) (cUn gInt fa) :=
  PE_imp (pe_callTy call_int1 hg hm hv (pa_cons ha pa_nil he) (by decide) (by decide) he hpl) fun σ H Q ⟨av, q, ρ, S, A, p⟩ => by
    refine tE_step A p fun x S1 v H1 p1 e1 A1 d1 => ?_
    obtain ⟨d, hd, k⟩ := post_lift p1
    unfold gInt at hd
    split at hd
    · cases hd; cases d1
      exact .inl ⟨_, rfl, k _ H1 e1 A1.feed (.int _)⟩
    · cases hd
/-! ### len(set(t)) of ints -/
def ddup : List Int → List Int
  | [] => []
  | x :: l => if x ∈ l then ddup l else x :: ddup l
theorem mem_ddup {k : Int} : ∀ {l : List Int}, k ∈ ddup l ↔ k ∈ l
  | [] => Iff.rfl
  | x :: l => by
    unfold ddup
    have ih := mem_ddup (k := k) (l := l)
    by_cases h : x ∈ l
    · rw [if_pos h, ih, List.mem_cons]
      exact ⟨.inr, fun z => z.elim (fun e => by rw [e]; exact h) id⟩
    · rw [if_neg h, List.mem_cons, List.mem_cons, ih]
theorem nodup_ddup : ∀ {l : List Int}, (ddup l).Nodup
  | [] => List.nodup_nil
  | x :: l => by
    unfold ddup
    by_cases h : x ∈ l
    · rw [if_pos h]; exact nodup_ddup
    · rw [if_neg h]; exact List.nodup_cons.mpr ⟨fun z => h (mem_ddup.mp z), nodup_ddup⟩
theorem len_le_of_sub : ∀ {l m : List Int}, l.Nodup → (∀ k ∈ l, k ∈ m) → l.length ≤ m.length
  | [], _, _, _ => (Nat.zero_le _)
  | x :: l, m, ndₐ, hₐ => by
    have hxₐ : x ∈ m := hₐ x List.mem_cons_self
    have nd'ₐ := List.nodup_cons.mp ndₐ
    have ihₐ := len_le_of_sub (l := l) (m := m.erase x) nd'ₐ.2 fun k hkₐ => (List.mem_erase_of_ne fun eₐ => nd'ₐ.1 (by rw [← eₐ]; exact hkₐ)).mpr (hₐ k (List.mem_cons_of_mem _ hkₐ))
    rw [List.length_erase_of_mem hxₐ] at ihₐ
    have : 0 < m.length := List.length_pos_of_mem hxₐ
    rw [List.length_cons]; omega
theorem len_ddup {l ks : List Int} (nd : ks.Nodup) (h : ∀ k, k ∈ ks ↔ k ∈ l) : ks.length = (ddup l).length :=
  Nat.le_antisymm (len_le_of_sub nd fun k hk => mem_ddup.mpr ((h k).mp hk)) (len_le_of_sub nodup_ddup fun k hk => (h k).mpr (mem_ddup.mp hk))
def gLenSet (x : PyData) : Option PyData := match x with
  | .tuple ds => (intsOf ds).bind fun ns => if ns.length ≤ 4000 then some (.int (ddup ns).length) else none
  | _ => none
theorem d_lenSet {p p2 q1 pos : Pos} (hc : X.calm = true) (hm : X.mg "len" = none) (hm2 : X.mg "set" = none) (ha : PD X a fa) (hg : Gl X "len" := by rfl) (hg2 : Gl X "set" := by rfl) (na : starEach [a] X.env = (false, eval a X.env) :: starEach [] X.env := by rfl) :
    PD X (.Call (.Name "len" p) [.Call (.Name "set" p2) [a] [] q1] [] pos) (cUn gLenSet fa) := by
  refine ⟨fun pinsₐ s σₐ Hₐ Qₐ Iₐ ⟨avₐ, qₐ, ρₐ, Sₐ, A, ppₐ⟩ => ?_⟩
  refine Call_ (ld_blt Iₐ hg hm boot_len (PyProof.Rows.callWith_builtin1 (PyProof.Rows.args_cons ?_ rfl) rfl rfl))
  refine Call_ (ld_blt Iₐ hg2 hm2 boot_set (PyProof.Rows.callWith_type1 (PyProof.Rows.args_cons (thn (ha.run pinsₐ s σₐ Hₐ (fun vₐ H1ₐ => ∃ (lₐ : Addr) (nsₐ : List Int), vₐ = .ref lₐ ∧ SqT X.K H1ₐ lₐ (nsₐ.map V.int) ∧ nsₐ.length ≤ 4000 ∧ Qₐ (.int (ddup nsₐ).length) H1ₐ) Iₐ (tE_step A ppₐ fun xₐ S1ₐ vₐ H1ₐ p1ₐ e1ₐ A1ₐ d1ₐ => ?_)) fun vₐ s1ₐ ⟨xₐ, H1ₐ, I1ₐ, r1ₐ, lₐ, nsₐ, exₐ, hqₐ, hlₐ, q1⟩ => PyProof.Rows.args_nil ?_) na) na rfl))
  · obtain ⟨dₐ, hdₐ, kₐ⟩ := post_lift p1ₐ
    cases xₐ with
    | tuple dsₐ =>
      have hd'ₐ : (intsOf dsₐ).bind (fun nsₐ => if nsₐ.length ≤ 4000 then some (PyData.int (ddup nsₐ).length) else none) = some dₐ := hdₐ
      cases zₐ : intsOf dsₐ with
      | none => rw [zₐ] at hd'ₐ; cases hd'ₐ
      | some nsₐ =>
        rw [zₐ] at hd'ₐ
        have hd2ₐ : (if nsₐ.length ≤ 4000 then some (PyData.int (ddup nsₐ).length) else none) = some dₐ := hd'ₐ
        split at hd2ₐ
        · cases hd2ₐ
          cases d1ₐ with
          | tup hsₐ hnₐ hxₐ =>
            have := ints_dp hxₐ zₐ
            subst this
            exact ⟨_, nsₐ, rfl, sqT_at hsₐ, by assumption, kₐ _ H1ₐ e1ₐ A1ₐ.feed (.int _)⟩
        · cases hd2ₐ
    | _ => cases hdₐ
  · subst exₐ
    cases r1ₐ
    obtain ⟨itsₐ, rₐ, plₐ, hzₐ⟩ := I1ₐ.tuple hqₐ
    refine call_set_tupI nsₐ (I1ₐ.ok.hd hc) plₐ (RZ.intsAre_vals (by simpa using rₐ)) (by unfold scanBound; omega) fun h'ₐ tkₐ cₐ hSₐ hclₐ hkₐ => PyProof.Rows.args_nil ?_
    obtain ⟨oₐ, esₐ, epₐ, tₐ, hoₐ, hexₐ, hdₐ, hgeₐ, hndₐ, hmemₐ, hszₐ, hfₐ, hnₐ, _⟩ := hSₐ
    have I2ₐ : Inv X pinsₐ σₐ H1ₐ { s1ₐ with heap := h'ₐ, toks := tkₐ } := I1ₐ.kept hkₐ
    have hlenₐ : esₐ.size = (ddup nsₐ).length := by
      have zₐ := len_ddup (l := nsₐ) hndₐ fun kₐ => by rw [← hmemₐ kₐ]; simp
      rw [List.length_map, Array.length_toList] at zₐ
      exact zₐ
    exact call_len_set hoₐ hexₐ hdₐ hfₐ (by unfold scanBound at hszₐ; omega) ⟨.int (ddup nsₐ).length, H1ₐ, I2ₐ.tok _, ⟨_, by rw [hlenₐ]⟩, q1⟩
/-! ### comparisons as tests -/
theorem c_cmp {op : CmpOp} {r : R2} {g : PyData → PyData → Option PyData} (ho : OpR X (compareOp op) r) (hg : OpD X.K r g) (ha : PD X a fa) (hb : PD X b fb) (hm : behindInMarks op b = false) : PB X (.Compare a [op] [b] pos) (cB (cBin g fa fb)) :=
  PT_imp (pt_cmpR ho ha hb hm) fun σ H Q ⟨av, q, ρ, S, A, p⟩ => by
    have p' := post_bind p
    refine tOp_of hg σ H _ ⟨av, q, ρ, S, A, R.post_imp p' (fun d S1 k v H1 e f h => ?_) fun _ _ z => z⟩
    unfold asB at k
    split at k
    · cases h
      exact ⟨_, rfl, k H1 e f⟩
    · exact False.elim k
theorem opD_isN {K : PySem.W.Frag} : OpD K (fun x y H Q => y = .non ∧ Q (.bl (decide (x = .non))) H) gIsN := fun av H x y d v w Q _ hd hx hy k => by
  unfold gIsN at hd
  split at hd
  · cases hy; cases hd
    refine ⟨rfl, ?_⟩
    rw [dp_isN hx]; exact k _ H (Same.refl H) (.bl _)
  · cases hd
theorem opD_notN {K : PySem.W.Frag} : OpD K (fun x y H Q => y = .non ∧ Q (.bl (!decide (x = .non))) H) gNotN := fun av H x y d v w Q _ hd hx hy k => by
  unfold gNotN at hd
  split at hd
  · cases hy; cases hd
    refine ⟨rfl, ?_⟩
    rw [dp_isN hx]; exact k _ H (Same.refl H) (.bl _)
  · cases hd
theorem c_lt (ha : PD X a fa) (hb : PD X b fb) (hm : behindInMarks .Lt b = false := by exact nomark _) : PB X (.Compare a [.Lt] [b] pos) (cB (cBin gLt fa fb)) := c_cmp op_lt (opD_int fun _ _ _ => .bl _) ha hb hm
theorem c_le (ha : PD X a fa) (hb : PD X b fb) (hm : behindInMarks .LtE b = false := by exact nomark _) : PB X (.Compare a [.LtE] [b] pos) (cB (cBin gLe fa fb)) := c_cmp op_le (opD_int fun _ _ _ => .bl _) ha hb hm
theorem c_gt (ha : PD X a fa) (hb : PD X b fb) (hm : behindInMarks .Gt b = false := by exact nomark _) : PB X (.Compare a [.Gt] [b] pos) (cB (cBin gGt fa fb)) := c_cmp op_gt (opD_int fun _ _ _ => .bl _) ha hb hm
theorem c_ge (ha : PD X a fa) (hb : PD X b fb) (hm : behindInMarks .GtE b = false := by exact nomark _) : PB X (.Compare a [.GtE] [b] pos) (cB (cBin gGe fa fb)) := c_cmp op_ge (opD_int fun _ _ _ => .bl _) ha hb hm
theorem c_eq (ha : PD X a fa) (hb : PD X b fb) (hm : behindInMarks .Eq b = false := by exact nomark _) : PB X (.Compare a [.Eq] [b] pos) (cB (cBin gEq fa fb)) := c_cmp op_eq opD_eq ha hb hm
theorem c_isN (ha : PD X a fa) (hb : PD X b fb) (hm : behindInMarks .Is b = false := by exact nomark _) : PB X (.Compare a [.Is] [b] pos) (cB (cBin gIsN fa fb)) := c_cmp op_isN opD_isN ha hb hm
theorem c_notN (ha : PD X a fa) (hb : PD X b fb) (hm : behindInMarks .IsNot b = false := by exact nomark _) : PB X (.Compare a [.IsNot] [b] pos) (cB (cBin gNotN fa fb)) := c_cmp op_notN opD_notN ha hb hm
end
end E
end

section
set_option Elab.async false
set_option linter.all false
set_option maxRecDepth 100000
set_option maxHeartbeats 4100000
namespace E
open L2 PySem.Spec PyProof.Rows PySem
section
variable {K : PySem.W.Frag} {av av0 x0 : List Addr} {q p : Addr} {ρ : En} {S : Fd} {σ : E.St} {H H0 : Hp} {i : Nat} {l l' : List PyData} {vs vs' : List V}
theorem At.putOw (A : At K av q ρ S σ H) (h1 : ρ[i]? = some (some (.ow l))) (h2 : σ[i]? = some (some (.ref p))) (hp : H p = some (.lst vs)) (hd : DxAll K (msk av H) vs' l') : At K av q (ρ.set i (some (.ow l'))) S σ (upd H p (.lst vs')) := by
  obtain ⟨v, e0, p', ws, rfl, hin, hq, hp', _⟩ := A.slot i _ h1
  rw [h2] at e0
  cases e0
  have sm : Same (msk av H) (msk av (upd H p (.lst vs'))) := fun b o z => by
    obtain ⟨nb, z⟩ := msk_some z
    exact msk_of nb (by rw [upd_ne fun y => nb (by rw [y]; exact hin)]; exact z)
  have hl : i < ρ.length := (List.getElem?_eq_some_iff.mp h1).1
  have ow_of : ∀ (j : Nat) (m : List PyData), (ρ.set i (some (.ow l')))[j]? = some (some (Sl.ow m)) → ∃ m', ρ[j]? = some (some (Sl.ow m')) := fun j m e => by
    by_cases z : i = j
    · subst z; exact ⟨l, h1⟩
    · rw [List.getElem?_set_ne z] at e; exact ⟨m, e⟩
  refine ⟨by simp [A.len], fun j s e => ?_, fun a b m m' v e1 e2 e3 e4 => ?_, ?_, fun x hx => ?_⟩
  · by_cases z : i = j
    · subst z
      rw [List.getElem?_set_self hl] at e
      cases e
      exact ⟨_, h2, p, vs', rfl, hin, hq, upd_same, dps_same sm l' vs' hd⟩
    · rw [List.getElem?_set_ne z] at e
      obtain ⟨w, e3, e4⟩ := A.slot j s e
      refine ⟨w, e3, ?_⟩
      cases s with
      | im d => exact dp_same sm d w e4
      | ow m =>
        obtain ⟨p2, ws2, rfl, hin2, hq2, hp2, hd2⟩ := e4
        have ne : p2 ≠ p := fun y => z (A.inj i j l m (.ref p) h1 e h2 (by rw [e3, y]))
        exact ⟨p2, ws2, rfl, hin2, hq2, by rw [upd_ne ne]; exact hp2, dps_same sm m ws2 hd2⟩
      | fd => exact e4
  · obtain ⟨m1, e1⟩ := ow_of _ _ e1
    obtain ⟨m2, e2⟩ := ow_of _ _ e2
    exact A.inj a b m1 m2 v e1 e2 e3 e4
  · obtain ⟨f1, f2, f3, f4⟩ := A.feed
    exact ⟨f1, f2, by rw [upd_ne (Ne.symm hq)]; exact f3, by rw [upd_ne fun y => f2 (by rw [y]; exact hin)]; exact f4⟩
  · by_cases z : x = p
    · rw [z]; exact ⟨_, upd_same⟩
    · rw [upd_ne z]; exact A.trk x hx
theorem EnvW.putOw (W : EnvW K H0 av0 x0 av q ρ S σ H) (h1 : ρ[i]? = some (some (.ow l))) (h2 : σ[i]? = some (some (.ref p))) (hp : H p = some (.lst vs)) (hd : DxAll K (msk av H) vs' l') : EnvW K H0 av0 x0 av q (ρ.set i (some (.ow l'))) S σ (upd H p (.lst vs')) := by
  obtain ⟨v, e0, p', ws, rfl, hin, hq, hp', _⟩ := W.at'.slot i _ h1
  rw [h2] at e0
  cases e0
  refine ⟨fun b o n hb => ?_, W.qx, W.xs, W.s0, W.n0, W.at'.putOw h1 h2 hp hd, fun j m a e1 e2 => ?_⟩
  · have ne : b ≠ p := fun y => by
      subst y
      rcases W.ow i l b h1 h2 with z | z
      · rw [W.n0 b hin z] at hb; cases hb
      · exact n z
    rw [upd_ne ne]; exact W.e0 b o n hb
  · by_cases z : i = j
    · subst z; exact W.ow i l a h1 e2
    · rw [List.getElem?_set_ne z] at e1; exact W.ow j m a e1 e2
/-- a new list of one's own -/
theorem At.newOw (A : At K av q ρ S σ H) (hp : H p = none) (hd : DxAll K (msk av H) vs l) : At K (p :: av) q (ρ.set i (some (.ow l))) S (σ.set i (some (.ref p))) (upd H p (.lst vs)) := by
  have hna := not_av A.trk hp
  have sm : Same (msk av H) (msk (p :: av) (upd H p (.lst vs))) := fun b o z => by
    obtain ⟨n, z⟩ := msk_some z
    exact msk_of (by simp [n, ne_of_none z hp]) (same_new hp b o z)
  have hq : p ≠ q := fun z => hna (by rw [z]; exact A.feed.1)
  refine ⟨by simp [A.len], fun j s e => ?_, fun a b m m' v e1 e2 e3 e4 => ?_, ?_, fun x hx => ?_⟩
  · by_cases z : i = j
    · subst z
      have hl : i < ρ.length := by
        have := (List.getElem?_eq_some_iff.mp e).1
        simpa using this
      rw [List.getElem?_set_self hl] at e
      cases e
      exact ⟨_, List.getElem?_set_self (by rw [A.len]; exact hl), p, vs, rfl, by simp, hq, upd_same, dps_same sm l vs hd⟩
    · rw [List.getElem?_set_ne z] at e
      obtain ⟨w, e3, e4⟩ := A.slot j s e
      refine ⟨w, by rw [List.getElem?_set_ne z]; exact e3, ?_⟩
      cases s with
      | im d => exact dp_same sm d w e4
      | ow m =>
        obtain ⟨p2, ws2, rfl, hin2, hq2, hp2, hd2⟩ := e4
        exact ⟨p2, ws2, rfl, by simp [hin2], hq2, same_new hp _ _ hp2, dps_same sm m ws2 hd2⟩
      | fd => exact e4
  · have key : ∀ {c : Nat} {m : List PyData}, (ρ.set i (some (.ow l)))[c]? = some (some (Sl.ow m)) → i ≠ c → ∃ w, ρ[c]? = some (some (Sl.ow m)) ∧ σ[c]? = some (some w) ∧ w ≠ .ref p := fun {c m} e n => by
      rw [List.getElem?_set_ne n] at e
      obtain ⟨w, e3, p2, ws2, rfl, hin2, hq2, hp2, hd2⟩ := A.slot c _ e
      exact ⟨_, e, e3, fun z => by cases z; rw [hp] at hp2; cases hp2⟩
    have at_i : ∀ {m : List PyData}, (ρ.set i (some (.ow l)))[i]? = some (some (Sl.ow m)) → (σ.set i (some (V.ref p)))[i]? = some (some (V.ref p)) := fun {m} e => by
      have hl : i < ρ.length := by
        have := (List.getElem?_eq_some_iff.mp e).1
        simpa using this
      exact List.getElem?_set_self (by rw [A.len]; exact hl)
    by_cases z1 : i = a
    · by_cases z2 : i = b
      · rw [← z1, ← z2]
      · subst z1
        obtain ⟨w, _, h2, h3⟩ := key e2 z2
        rw [List.getElem?_set_ne z2, h2] at e4
        rw [at_i e1] at e3
        cases e3; cases e4; exact absurd rfl h3
    · obtain ⟨w, h1, h2, h3⟩ := key e1 z1
      by_cases z2 : i = b
      · subst z2
        rw [List.getElem?_set_ne z1, h2] at e3
        rw [at_i e2] at e4
        cases e3; cases e4; exact absurd rfl h3
      · obtain ⟨w', h1', h2', _⟩ := key e2 z2
        rw [List.getElem?_set_ne z1] at e3
        rw [List.getElem?_set_ne z2] at e4
        exact A.inj a b m m' v h1 h1' e3 e4
  · obtain ⟨f1, f2, f3, f4⟩ := A.feed
    exact ⟨by simp [f1], by simp [f2, ne_of_none f4 hp], same_new hp _ _ f3, same_new hp _ _ f4⟩
  · rcases List.mem_cons.mp hx with z | z
    · rw [z]; exact ⟨_, upd_same⟩
    · obtain ⟨o, h⟩ := A.trk x z
      exact ⟨o, same_new hp _ _ h⟩
theorem EnvW.newOw (W : EnvW K H0 av0 x0 av q ρ S σ H) (hp : H p = none) (hd : DxAll K (msk av H) vs l) : EnvW K H0 av0 x0 (p :: av) q (ρ.set i (some (.ow l))) S (σ.set i (some (.ref p))) (upd H p (.lst vs)) := by
  have hna := not_av W.at'.trk hp
  have h0 : p ∉ av0 := fun z => hna (W.s0 p z)
  refine ⟨fun b o n hb => same_new hp _ _ (W.e0 b o n hb), W.qx, W.xs, fun a h => List.mem_cons_of_mem _ (W.s0 a h), fun a h n => ?_, W.at'.newOw hp hd, fun j m a e1 e2 => ?_⟩
  · rcases List.mem_cons.mp h with z | z
    · subst z
      cases y : H0 a with
      | none => rfl
      | some o => rw [W.e0 a o (fun z => h0 (W.xs a z)) y] at hp; cases hp
    · exact W.n0 a z n
  · by_cases z : i = j
    · subst z
      have hl : i < σ.length := by
        have := (List.getElem?_eq_some_iff.mp e2).1
        simpa using this
      rw [List.getElem?_set_self hl] at e2
      cases e2
      exact .inl h0
    · rw [List.getElem?_set_ne z] at e1 e2
      exact W.ow j m a e1 e2
end
section
variable {X : Cx} {pos : Pos}
/-- x = [a, b ..], x = list(..): a list of one's own -/
def sOwn (i : Nat) (f : En → M PyData) : En → M Fl := fun ρ => f ρ >>= fun d => match d with
  | .list l => pure (.nx (ρ.set i (some (.ow l))))
  | _ => bad
theorem s_ownLst {x : Str} {px : Pos} {es : List Expr} {fs : En → M (List Ag)} {lp : Pos} (i : Nat) (hN : X.N.Nodup) (h : PG_A X es fs) (hi : X.N[i]? = some x := by rfl) (hx : Loc X.env.scope x := by first | exact Or.inl rfl | exact Or.inr rfl) (hf : X.fn x = true ∨ X.env.scope.names.lookup x = some .local := by first | exact .inl rfl | exact .inr rfl | assumption)
    (hs : swapsWithSole [.Name x px] (.List es lp) pos.line X.env = pure false := by rfl) (hw : swappedStores [.Name x px] (.List es lp) X.env = pure none := by rfl) (h1 : (assignEach [.Name x px] X.env).map (·.2) = [assign (.Name x px) X.env] := by rfl) :
    PSD X (.Assign [.Name x px] (.List es lp) pos) (sOwn i (cLst fs)) := PS_imp (ps_asg (te := tLst (tAg X.K fs)) (g := gName i) (pe_lst h) (pg_name hN hi hx hf) hs hw h1) fun D σ H ⟨H0, av0, x0, av, q, ρ, S, W, p⟩ => by
  have p := post_bind p
  refine tAg_step W.at' p fun as S1 vs H1 p1 e1 A1 d1 => ?_
  obtain ⟨d, hd, k⟩ := post_lift p1
  have W1 := W.ext e1 A1
  unfold mkLst at hd
  cases z : dats as with
  | none => rw [z] at hd; cases hd
  | some ds =>
    rw [z] at hd
    have hd' : (if small ds then some (PyData.list ds) else none) = some d := hd
    split at hd'
    · cases hd'
      have hz := dats_ok d1 z
      exact ⟨by rw [dps_len hz]; exact small_ok (by assumption), fun p hp => k (p :: av) _ _ (W1.newOw hp hz)⟩
    · cases hd'
theorem s_ownRg {x : Str} {px p p2 pos1 pos2 : Pos} {a : Expr} {f : En → M PyData} (i : Nat) (hc : X.calm = true) (hN : X.N.Nodup) (hm : X.mg "list" = none) (hm2 : X.mg "range" = none) (ha : PD X a f) (hg : Gl X "list" := by rfl) (hg2 : Gl X "range" := by rfl) (na : starEach [a] X.env = (false, eval a X.env) :: starEach [] X.env := by rfl)
    (nb : starEach [Expr.Call (.Name "range" p2) [a] [] pos2] X.env = (false, eval (Expr.Call (.Name "range" p2) [a] [] pos2) X.env) :: starEach [] X.env := by rfl) (hi : X.N[i]? = some x := by rfl) (hx : Loc X.env.scope x := by first | exact Or.inl rfl | exact Or.inr rfl) (hf : X.fn x = true ∨ X.env.scope.names.lookup x = some .local := by first | exact .inl rfl | exact .inr rfl | assumption)
    (hs : swapsWithSole [.Name x px] (.Call (.Name "list" p) [.Call (.Name "range" p2) [a] [] pos2] [] pos1) pos.line X.env = pure false := by rfl) (hw : swappedStores [.Name x px] (.Call (.Name "list" p) [.Call (.Name "range" p2) [a] [] pos2] [] pos1) X.env = pure none := by rfl) (h1 : (assignEach [.Name x px] X.env).map (·.2) = [assign (.Name x px) X.env] := by rfl) :
    PSD X (.Assign [.Name x px] (.Call (.Name "list" p) [.Call (.Name "range" p2) [a] [] pos2] [] pos1) pos) (sOwn i (cUn gRgL f)) := PS_imp (ps_asg (te := tLstRg (tRg1 (tE X.K f))) (g := gName i) (pe_listRg hc hg hm (prg_1 hg2 hm2 ha na) nb) (pg_name hN hi hx hf) hs hw h1) fun D σ H ⟨H0, av0, x0, av, q, ρ, S, W, p⟩ => by
  have p := post_bind p
  refine tE_step W.at' p fun d S1 v H1 p1 e1 A1 d1 => ?_
  obtain ⟨d', hd, k⟩ := post_lift p1
  have W1 := W.ext e1 A1
  unfold gRgL at hd
  split at hd
  · split at hd
    · rename_i hh
      have hh := of_decide_eq_true hh
      cases hd; cases d1
      exact ⟨_, rfl, RgOk.of_le (by omega) hh.2 (by omega) hh.1, fun p hp => k (p :: av) _ _ (W1.newOw hp (rgV_dp _))⟩
    · cases hd
  · cases hd
theorem s_ownRep {x : Str} {px bp lp : Pos} {es : List Expr} {fs : En → M (List Ag)} {e : Expr} {f : En → M PyData} (i : Nat) (hN : X.N.Nodup) (h : PG_A X es fs) (he : PD X e f) (hi : X.N[i]? = some x := by rfl) (hx : Loc X.env.scope x := by first | exact Or.inl rfl | exact Or.inr rfl) (hf : X.fn x = true ∨ X.env.scope.names.lookup x = some .local := by first | exact .inl rfl | exact .inr rfl | assumption)
    (hs : swapsWithSole [.Name x px] (.BinOp (.List es lp) .Mult e bp) pos.line X.env = pure false := by rfl) (hw : swappedStores [.Name x px] (.BinOp (.List es lp) .Mult e bp) X.env = pure none := by rfl) (h1 : (assignEach [.Name x px] X.env).map (·.2) = [assign (.Name x px) X.env] := by rfl) :
    PSD X (.Assign [.Name x px] (.BinOp (.List es lp) .Mult e bp) pos) (sOwn i (cBin gRep (cLst fs) f)) := PS_imp (ps_asg (g := gName i) (pe_op op_rep (d_lst h) he) (pg_name hN hi hx hf) hs hw h1) fun Dₐ σₐ Hₐ ⟨H0ₐ, av0ₐ, x0ₐ, avₐ, qₐ, ρₐ, Sₐ, Wₐ, pₐ⟩ => by
  have pₐ := post_bind pₐ
  refine tE_step Wₐ.at' pₐ fun yₐ S1ₐ vₐ H1ₐ p1ₐ e1ₐ A1ₐ d1ₐ => ?_
  refine tE_step A1ₐ p1ₐ fun zₐ S2ₐ w H2ₐ p2ₐ e2ₐ A2ₐ d2ₐ => ?_
  obtain ⟨dₐ, hdₐ, kₐ⟩ := post_lift p2ₐ
  have W2ₐ := (Wₐ.ext e1ₐ A1ₐ).ext e2ₐ A2ₐ
  have d3ₐ := ext_dp A1ₐ.feed.1 e2ₐ d1ₐ
  unfold gRep at hdₐ
  split at hdₐ
  · split at hdₐ
    · rename_i hhₐ
      have hhₐ := of_decide_eq_true hhₐ
      cases hdₐ
      cases d2ₐ
      cases d3ₐ with
      | lst haₐ hlₐ =>
        refine ⟨_, _, _, rfl, rfl, (msk_some haₐ).2, by omega, by omega, by rw [dps_len hlₐ, sizeLine_eq]; exact hhₐ.2.2, fun pₐ hpₐ => kₐ (pₐ :: avₐ) _ _ (W2ₐ.newOw hpₐ ?_)⟩
        have keyₐ : ∀ nₐ : Nat, DxAll X.K (msk avₐ H2ₐ) (List.replicate nₐ _).flatten (List.replicate nₐ _).flatten := fun nₐ => by
          induction nₐ with
          | zero => exact .nil
          | succ nₐ ihₐ =>
            rw [List.replicate_succ, List.flatten_cons, List.replicate_succ, List.flatten_cons]
            exact dps_app hlₐ ihₐ
        exact keyₐ _
    · cases hdₐ
  · cases hdₐ
/-- x.append(e) -/
def getO (i : Nat) (ρ : En) : M (List PyData) := match ρ[i]? with
  | some (some (.ow l)) => pure l
  | _ => bad
theorem getO_post {i : Nat} {ρ : En} {S : Fd} {k : List PyData → Fd → Prop} {x : Xn → Fd → Prop} (h : (getO i ρ S).post k x) : ∃ l, ρ[i]? = some (some (.ow l)) ∧ k l S := by
  unfold getO at h
  cases e : ρ[i]? with
  | none => rw [e] at h; exact False.elim h
  | some o =>
    rw [e] at h
    cases o with
    | none => exact False.elim h
    | some s =>
      cases s with
      | im d => exact False.elim h
      | ow l => exact ⟨l, rfl, h⟩
      | fd => exact False.elim h
def sApp (i : Nat) (f : En → M PyData) : En → M Fl := fun ρ => getO i ρ >>= fun l => f ρ >>= fun d => if l.length < 16777216 then pure (.nx (ρ.set i (some (.ow (l ++ [d]))))) else bad
theorem s_app {x : Str} {px apos cpos : Pos} {e : Expr} {f : En → M PyData} (i : Nat) (he : PD X e f) (hN : X.N[i]? = some x := by rfl) (hv : Vis X.env.scope x := by first | exact Or.inl rfl | exact Or.inr (Or.inl rfl) | exact Or.inr (Or.inr rfl)) (hdb : (x == ("__debug__" : Str)) = false := by decide) (hcd : (x == ("__classdict__" : Str)) = false := by decide)
    (hbase : attributeBase (.Name x px) "append" X.env (eval (.Name x px) X.env) = eval (.Name x px) X.env := by rfl)
    (hfew : ((backTo cpos (starEach (e :: []) X.env)).all (fun x => !x.1) && (backToKw cpos (keywordEach [] X.env)).all (fun x => x.1.isSome) && decide ((e :: []).length + ([] : List Keyword).length + (if ([] : List Keyword).isEmpty then 0 else 1) < 30)) = true := by rfl)
    (hline : (apos.endLine == cpos.line) = true := by rfl) (hs : starEach (e :: []) X.env = (false, eval e X.env) :: starEach [] X.env := by rfl) (hplain : (backTo cpos (starEach [] X.env)).any (·.1) = false := by rfl)
    (hsw : swapsWith (.Call (.Attribute (.Name x px) "append" apos) [e] [] cpos) none pos.line X.env = pure false := by exact rfl) :
    PSD X (.Expr (.Call (.Attribute (.Name x px) "append" apos) [e] [] cpos) pos) (sApp i f) :=
  PS_imp (ps_expr (pe_bm PySem.F.plainAttrs_list PySem.F.slot_list_append PySem.F.type_list_append mt_append (pe_var hN hv hdb hcd) (pa_cons he pa_nil hs) hbase hfew hline hs hplain) hsw) fun D σ H ⟨H0, av0, x0, av, q, ρ, S, W, p⟩ => by
    obtain ⟨l, e1, p⟩ := getO_post (post_bind p)
    obtain ⟨v, e2, a, vs, rfl, hin, hq, ha, hd⟩ := W.at'.slot i _ e1
    refine ⟨_, e2, .inl ⟨rfl, vs, SqL.of ha⟩, tE_step W.at' p fun d S1 v H1 p1 e3 A1 d1 => ?_⟩
    have W1 := W.ext e3 A1
    have ha1 : H1 a = some (.lst vs) := e3 a _ (by simpa using hq) ha
    split at p1
    · rename_i hz
      exact ⟨a, vs, v, rfl, rfl, ha1, by rw [dps_len hd, sizeLine_eq]; exact hz, p1 av σ _ (W1.putOw e1 e2 ha1 (dps_app (ext_dps W.at'.feed.1 e3 hd) (dps_one d1)))⟩
    · exact False.elim p1
/-- x.append(y.pop(e)) -/
def sAppPop (i j : Nat) (f : En → M PyData) : En → M Fl := fun ρ => getO i ρ >>= fun l => getO j ρ >>= fun m => f ρ >>= fun d => match d with
  | .int n => match seqIndex? n m.length with
    | some k => match m[k]? with
      | some y => if decide (l.length < 16777216 ∧ -(2 ^ 63) ≤ n ∧ n < 2 ^ 63) then pure (.nx ((ρ.set j (some (.ow (m.eraseIdx k)))).set i (some (.ow (l ++ [y]))))) else bad
      | none => bad
    | none => bad
  | _ => bad
theorem dps_erase {K : PySem.W.Frag} {H : Hp} : ∀ {vs : List V} {ds : List PyData} (k : Nat), DxAll K H vs ds → DxAll K H (vs.eraseIdx k) (ds.eraseIdx k)
  | _, _, _, .nil => .nil
  | _, _, 0, .cons _ t => t
  | _, _, k + 1, .cons r t => .cons r (dps_erase k t)
theorem dps_set {K : PySem.W.Frag} {H : Hp} {v : V} {d : PyData} (r : Dx K H v d) : ∀ {vs : List V} {ds : List PyData} (k : Nat), DxAll K H vs ds → DxAll K H (vs.set k v) (ds.set k d)
  | _, _, _, .nil => .nil
  | _, _, 0, .cons _ tₐ => .cons r tₐ
  | _, _, k + 1, .cons aₐ tₐ => .cons aₐ (dps_set r k tₐ)
theorem s_appPop {x y : Str} {px py apos cpos bpos dpos : Pos} {e : Expr} {f : En → M PyData} (i j : Nat) (hij : i ≠ j) (he : PD X e f) (hN : X.N[i]? = some x := by rfl) (hN2 : X.N[j]? = some y := by rfl) (hv : Vis X.env.scope x := by first | exact Or.inl rfl | exact Or.inr (Or.inl rfl) | exact Or.inr (Or.inr rfl)) (hv2 : Vis X.env.scope y := by first | exact Or.inl rfl | exact Or.inr (Or.inl rfl) | exact Or.inr (Or.inr rfl))
    (hdb : (x == ("__debug__" : Str)) = false := by decide) (hcd : (x == ("__classdict__" : Str)) = false := by decide) (hdb2 : (y == ("__debug__" : Str)) = false := by decide) (hcd2 : (y == ("__classdict__" : Str)) = false := by decide)
    (hbase2 : attributeBase (.Name y py) "pop" X.env (eval (.Name y py) X.env) = eval (.Name y py) X.env := by rfl)
    (hfew2 : ((backTo dpos (starEach (e :: []) X.env)).all (fun x => !x.1) && (backToKw dpos (keywordEach [] X.env)).all (fun x => x.1.isSome) && decide ((e :: []).length + ([] : List Keyword).length + (if ([] : List Keyword).isEmpty then 0 else 1) < 30)) = true := by rfl)
    (hline2 : (bpos.endLine == dpos.line) = true := by rfl) (hs2 : starEach (e :: []) X.env = (false, eval e X.env) :: starEach [] X.env := by rfl) (hplain2 : (backTo dpos (starEach [] X.env)).any (·.1) = false := by rfl)
    (hbase : attributeBase (.Name x px) "append" X.env (eval (.Name x px) X.env) = eval (.Name x px) X.env := by rfl)
    (hfew : ((backTo cpos (starEach (.Call (.Attribute (.Name y py) "pop" bpos) [e] [] dpos :: []) X.env)).all (fun x => !x.1) && (backToKw cpos (keywordEach [] X.env)).all (fun x => x.1.isSome) && decide ((Expr.Call (.Attribute (.Name y py) "pop" bpos) [e] [] dpos :: []).length + ([] : List Keyword).length + (if ([] : List Keyword).isEmpty then 0 else 1) < 30)) = true := by rfl)
    (hline : (apos.endLine == cpos.line) = true := by rfl) (hs : starEach (.Call (.Attribute (.Name y py) "pop" bpos) [e] [] dpos :: []) X.env = (false, eval (.Call (.Attribute (.Name y py) "pop" bpos) [e] [] dpos) X.env) :: starEach [] X.env := by rfl) (hplain : (backTo cpos (starEach [] X.env)).any (·.1) = false := by rfl)
    (hsw : swapsWith (.Call (.Attribute (.Name x px) "append" apos) [.Call (.Attribute (.Name y py) "pop" bpos) [e] [] dpos] [] cpos) none pos.line X.env = pure false := by exact rfl) :
    PSD X (.Expr (.Call (.Attribute (.Name x px) "append" apos) [.Call (.Attribute (.Name y py) "pop" bpos) [e] [] dpos] [] cpos) pos) (sAppPop i j f) :=
  PS_imp (ps_expr (pe_bm PySem.F.plainAttrs_list PySem.F.slot_list_append PySem.F.type_list_append mt_append (pe_var hN hv hdb hcd) (pa_cons (pe_bm PySem.F.plainAttrs_list PySem.F.slot_list_pop PySem.F.type_list_pop mt_popAt (pe_var hN2 hv2 hdb2 hcd2) (pa_cons he pa_nil hs2) hbase2 hfew2 hline2 hs2 hplain2) pa_nil hs) hbase hfew hline hs hplain) hsw) fun D σ H ⟨H0, av0, x0, av, q, ρ, S, W, p⟩ => by
    obtain ⟨l, e1, p⟩ := getO_post (post_bind p)
    obtain ⟨m, g1, p⟩ := getO_post (post_bind p)
    obtain ⟨v, e2, a, vs, rfl, hin, hq, ha, hd⟩ := W.at'.slot i _ e1
    obtain ⟨v, g2, b, ws, rfl, hin2, hq2, hb, hd2⟩ := W.at'.slot j _ g1
    have hab : a ≠ b := fun z => hij (W.at'.inj i j l m (.ref a) e1 g1 e2 (by rw [g2, z]))
    refine ⟨_, e2, .inl ⟨rfl, vs, SqL.of ha⟩, _, g2, .inl ⟨rfl, ws, SqL.of hb⟩, tE_step W.at' p fun d S1 v H1 p1 e3 A1 d1 => ?_⟩
    have W1 := W.ext e3 A1
    have ha1 : H1 a = some (.lst vs) := e3 a _ (by simpa using hq) ha
    have hb1 : H1 b = some (.lst ws) := e3 b _ (by simpa using hq2) hb
    have hd' := ext_dps W.at'.feed.1 e3 hd
    have hd2' := ext_dps W.at'.feed.1 e3 hd2
    cases d with
    | int n =>
      cases d1
      cases hk : seqIndex? n m.length with
      | none =>
        have p1' : ((match seqIndex? n m.length with
          | some k => match m[k]? with
            | some y => if decide (l.length < 16777216 ∧ -(2 ^ 63) ≤ n ∧ n < 2 ^ 63) then pure (.nx ((ρ.set j (some (.ow (m.eraseIdx k)))).set i (some (.ow (l ++ [y]))))) else bad
            | none => bad
          | none => bad : M Fl) S1).post (flP X.K H0 av0 x0 q D) noX := p1
        rw [hk] at p1'; exact False.elim p1'
      | some k =>
        have p1' : ((match seqIndex? n m.length with
          | some k => match m[k]? with
            | some y => if decide (l.length < 16777216 ∧ -(2 ^ 63) ≤ n ∧ n < 2 ^ 63) then pure (.nx ((ρ.set j (some (.ow (m.eraseIdx k)))).set i (some (.ow (l ++ [y]))))) else bad
            | none => bad
          | none => bad : M Fl) S1).post (flP X.K H0 av0 x0 q D) noX := p1
        rw [hk] at p1'
        have p2 : ((match m[k]? with
            | some y => if decide (l.length < 16777216 ∧ -(2 ^ 63) ≤ n ∧ n < 2 ^ 63) then pure (.nx ((ρ.set j (some (.ow (m.eraseIdx k)))).set i (some (.ow (l ++ [y]))))) else bad
            | none => bad : M Fl) S1).post (flP X.K H0 av0 x0 q D) noX := p1'
        cases hy : m[k]? with
        | none => rw [hy] at p2; exact False.elim p2
        | some y =>
          rw [hy] at p2
          have p3 : ((if decide (l.length < 16777216 ∧ -(2 ^ 63) ≤ n ∧ n < 2 ^ 63) then pure (.nx ((ρ.set j (some (.ow (m.eraseIdx k)))).set i (some (.ow (l ++ [y]))))) else bad : M Fl) S1).post (flP X.K H0 av0 x0 q D) noX := p2
          split at p3
          · rename_i hh
            have hh := of_decide_eq_true hh
            obtain ⟨u, hu, du⟩ := dps_get hd2' hy
            have W2 := W1.putOw g1 g2 hb1 (dps_erase k hd2')
            have ha2 : upd H1 b (.lst (ws.eraseIdx k)) a = some (.lst vs) := by rw [upd_ne hab]; exact ha1
            have sm : Same (msk av H1) (msk av (upd H1 b (.lst (ws.eraseIdx k)))) := fun x o z => by
              obtain ⟨nb, z⟩ := msk_some z
              exact msk_of nb (by rw [upd_ne fun y => nb (by rw [y]; exact hin2)]; exact z)
            have W3 := W2.putOw (i := i) (l := l) (by rw [List.getElem?_set_ne (Ne.symm hij)]; exact e1) e2 ha2 (dps_app (dps_same sm _ _ hd') (dps_one (dp_same sm _ _ du)))
            refine ⟨b, ws, n, k, u, rfl, rfl, hb1, hh.2.1, hh.2.2, by rw [dps_len hd2']; exact hk, hu, ?_⟩
            exact ⟨a, vs, u, rfl, rfl, ha2, by rw [dps_len hd', sizeLine_eq]; exact hh.1, p3 av σ _ W3⟩
          · exact False.elim p3
    | _ => exact False.elim p1
/-- x[k] = e -/
def sSet (i : Nat) (fi fe : En → M PyData) : En → M Fl := fun ρ => fe ρ >>= fun d => getO i ρ >>= fun l => fi ρ >>= fun k => match k with
  | .int n => match ixN l.length n with
    | some j => pure (.nx (ρ.set i (some (.ow (l.set j d)))))
    | none => bad
  | _ => bad
theorem s_set {x : Str} {px tpos : Pos} {e k : Expr} {fe fk : En → M PyData} (i : Nat) (he : PD X e fe) (hk : PD X k fk) (hN : X.N[i]? = some x := by rfl) (hv : Vis X.env.scope x := by first | exact Or.inl rfl | exact Or.inr (Or.inl rfl) | exact Or.inr (Or.inr rfl)) (hdb : (x == ("__debug__" : Str)) = false := by decide) (hcd : (x == ("__classdict__" : Str)) = false := by decide)
    (hs : swapsWithSole [.Subscript (.Name x px) k tpos] e pos.line X.env = pure false := by rfl) (hw : swappedStores [.Subscript (.Name x px) k tpos] e X.env = pure none := by rfl) (h1 : (assignEach [.Subscript (.Name x px) k tpos] X.env).map (·.2) = [assign (.Subscript (.Name x px) k tpos) X.env] := by rfl) (hpi : ∀ v, assign (.Subscript (.Name x px) k tpos) X.env v = (do let ov ← holding [v] (eval (.Name x px) X.env); let iv ← holding [v, ov] (eval k X.env); standAt tpos; holding [v, ov, iv] (setItem ov iv v); release [v, ov, iv] []) := by exact fun _ => rfl) :
    PSD X (.Assign [.Subscript (.Name x px) k tpos] e pos) (sSet i fk fe) := PS_imp (ps_asg he (pg_sub (pe_var hN hv hdb hcd) hk set_list hpi) hs hw h1) fun D σ H ⟨H0, av0, x0, av, q, ρ, S, W, p⟩ => by
  refine tE_step W.at' p fun d S1 v H1 p1 e1 A1 d1 => ?_
  obtain ⟨l, g1, p1⟩ := getO_post (post_bind p1)
  obtain ⟨o, g2, a, vs, rfl, hin, hq, ha, hd⟩ := A1.slot i _ g1
  refine ⟨_, g2, tE_step A1 p1 fun y S2 w H2 p2 e2 A2 d2 => ?_⟩
  have W2 := (W.ext e1 A1).ext e2 A2
  cases y with
  | int n =>
    cases d2
    cases hj : ixN l.length n with
    | none =>
      have p3 : ((match ixN l.length n with
        | some j => pure (.nx (ρ.set i (some (.ow (l.set j d)))))
        | none => bad : M Fl) S2).post (flP X.K H0 av0 x0 q D) noX := p2
      rw [hj] at p3; exact False.elim p3
    | some j =>
      have p3 : ((match ixN l.length n with
        | some j => pure (.nx (ρ.set i (some (.ow (l.set j d)))))
        | none => bad : M Fl) S2).post (flP X.K H0 av0 x0 q D) noX := p2
      rw [hj] at p3
      have ha2 := e2 a _ (by simpa using hq) ha
      exact ⟨a, vs, n, j, rfl, rfl, ha2, by rw [dps_len hd]; exact hj, p3 av σ _ (W2.putOw g1 g2 ha2 (dps_set (ext_dp W.at'.feed.1 e2 d1) j (ext_dps W.at'.feed.1 e2 hd)))⟩
  | _ => exact False.elim p2
/-- tuple(x), len(x) of a list of one's own -/
def cTupO (i : Nat) : En → M PyData := fun ρ => getO i ρ >>= fun l => pure (.tuple l)
def cLenO (i : Nat) : En → M PyData := fun ρ => getO i ρ >>= fun l => pure (.int l.length)
theorem d_tupO {x : Str} {p px : Pos} (i : Nat) (hm : X.mg "tuple" = none) (hN : X.N[i]? = some x := by rfl) (hv : Vis X.env.scope x := by first | exact Or.inl rfl | exact Or.inr (Or.inl rfl) | exact Or.inr (Or.inr rfl)) (hdb : (x == ("__debug__" : Str)) = false := by decide) (hcd : (x == ("__classdict__" : Str)) = false := by decide) (hg : Gl X "tuple" := by rfl) (hvt : bootBuiltins "tuple" = some (.type "tuple") := by decide +kernel)
    (he : starEach (.Name x px :: []) X.env = (false, eval (.Name x px) X.env) :: starEach [] X.env := by rfl) (hpl : (backTo pos (starEach [] X.env)).any (·.1) = false := by rfl) : PD X (.Call (.Name "tuple" p) [.Name x px] [] pos) (cTupO i) :=
  PE_imp (pe_callTy call_tupF hg hm hvt (pa_cons (pe_var hN hv hdb hcd) pa_nil he) (by decide) (by decide) he hpl) fun σ H Q ⟨av, q, ρ, S, A, p⟩ => by
    obtain ⟨l, g1, k⟩ := getO_post (post_bind p)
    obtain ⟨o, g2, a, vs, rfl, hin, hq, ha, hd⟩ := A.slot i _ g1
    exact ⟨_, g2, a, vs, rfl, .inl ⟨SqL.of ha, fun p o hp ho => k _ _ (Ext.new hp) (feed_same A.feed (same_new hp)) (dp_newTup A.trk hp ho hd)⟩⟩
theorem d_lenO {x : Str} {p px : Pos} (i : Nat) (hm : X.mg "len" = none) (hN : X.N[i]? = some x := by rfl) (hv : Vis X.env.scope x := by first | exact Or.inl rfl | exact Or.inr (Or.inl rfl) | exact Or.inr (Or.inr rfl)) (hdb : (x == ("__debug__" : Str)) = false := by decide) (hcd : (x == ("__classdict__" : Str)) = false := by decide) (hg : Gl X "len" := by rfl) (hvt : bootBuiltins "len" = some (.builtin "len") := by decide +kernel)
    (he : starEach (.Name x px :: []) X.env = (false, eval (.Name x px) X.env) :: starEach [] X.env := by rfl) (hpl : (backTo pos (starEach [] X.env)).any (·.1) = false := by rfl) : PD X (.Call (.Name "len" p) [.Name x px] [] pos) (cLenO i) :=
  PE_imp (pe_callB call_len_seq hg hm hvt (pa_cons (pe_var hN hv hdb hcd) pa_nil he) (by decide) (by decide) he hpl) fun σ H Q ⟨av, q, ρ, S, A, p⟩ => by
    obtain ⟨l, g1, k⟩ := getO_post (post_bind p)
    obtain ⟨o, g2, a, vs, rfl, hin, hq, ha, hd⟩ := A.slot i _ g1
    exact ⟨_, g2, a, vs, rfl, .inl (SqL.of ha), by rw [dps_len hd]; exact k _ H (Ext.refl H) A.feed (.int _)⟩
end
end E
end

section
set_option Elab.async false
set_option linter.all false
set_option maxRecDepth 100000
set_option maxHeartbeats 4100000
namespace E
open L2 PySem.Spec PyProof.Rows PySem
section
variable {X : Cx} {pos : Pos}
def rExtT (K : PySem.W.Frag) : V → List V → Hp → VK → Prop := fun x vs H Q => ∃ l b xs zs, x = .ref l ∧ vs = [.ref b] ∧ H l = some (.lst xs) ∧ SqT K H b zs ∧ TupN K H b ∧ xs.length + zs.length ≤ sizeLine ∧ Q .non (upd H l (.lst (xs ++ zs)))
theorem mt_extT : MtM X "list.extend" (rExtT X.K) := fun pins s σ H x vs v us Q I rx rvs ⟨l, b, xs, zs, ex, one, isL, isT, plain, fits, rest⟩ => by
  subst ex one
  cases rx
  obtain ⟨u, rfl, isRef⟩ := rvs.one
  cases isRef
  obtain ⟨_, items, n, r1, small1, there⟩ := I.lstM isL
  obtain ⟨items2, r2, body2, small2⟩ := I.tuple isT
  obtain ⟨n2, there2⟩ : ∃ n2, s.heap.get? b = some { cls := .type "tuple", data := .seq items2.toArray n2 } := by
    obtain ⟨⟨c, dct, raw, slots⟩, at', isTup, m, isSeq⟩ := body2
    have bare : dct = none ∧ slots = #[] := by
      rcases plain with ⟨o, w, here, z⟩ | ⟨o, here, _, z⟩
      · cases at'.symm.trans (I.hok b _ here).1
        exact z
      · cases at'.symm.trans (I.kIn b o here)
        exact z
    obtain ⟨d0, s0⟩ := bare
    simp only at isTup isSeq
    subst isTup isSeq d0 s0
    exact ⟨m, at'⟩
  have c1 := r1.length
  have c2 := r2.length
  have room : Builtin.List.listTooLong (items.toArray.size + items2.toArray.size) = false := notLongL (by simp only [List.size_toArray]; omega)
  exact call_meets F.slot_list_extend ⟨_, there, rfl⟩ F.entry_list_extend (F.args_list_extend_2 _ _) (AutoSeq1.list_extend_list_tuple_0 l items.toArray n b items2.toArray n2 (by rw [room, Bool.and_false]; exact Bool.false_ne_true) (by rw [List.size_toArray]; omega) (by rw [List.size_toArray, List.size_toArray]; omega))
    ⟨there, there2, .non, _, I.lset (its' := items ++ items2) isL there (by simp) (r1.append r2) (by rw [List.length_append]; omega), rfl, rest⟩
def sExt (i : Nat) (f : En → M PyData) : En → M Fl := fun ρ => getO i ρ >>= fun l => f ρ >>= fun d => match d with
  | .tuple m => if decide (l.length + m.length ≤ 16777216) then pure (.nx (ρ.set i (some (.ow (l ++ m))))) else bad
  | _ => bad
theorem s_ext {x : Str} {px apos cpos : Pos} {e : Expr} {f : En → M PyData} (i : Nat) (he : PD X e f) (hN : X.N[i]? = some x := by rfl) (hv : Vis X.env.scope x := by first | exact Or.inl rfl | exact Or.inr (Or.inl rfl) | exact Or.inr (Or.inr rfl)) (hdb : (x == ("__debug__" : Str)) = false := by decide) (hcd : (x == ("__classdict__" : Str)) = false := by decide)
    (hbase : attributeBase (.Name x px) "extend" X.env (eval (.Name x px) X.env) = eval (.Name x px) X.env := by rfl)
    (hfew : ((backTo cpos (starEach (e :: []) X.env)).all (fun x => !x.1) && (backToKw cpos (keywordEach [] X.env)).all (fun x => x.1.isSome) && decide ((e :: []).length + ([] : List Keyword).length + (if ([] : List Keyword).isEmpty then 0 else 1) < 30)) = true := by rfl)
    (hline : (apos.endLine == cpos.line) = true := by rfl) (hs : starEach (e :: []) X.env = (false, eval e X.env) :: starEach [] X.env := by rfl) (hplain : (backTo cpos (starEach [] X.env)).any (·.1) = false := by rfl)
    (hsw : swapsWith (.Call (.Attribute (.Name x px) "extend" apos) [e] [] cpos) none pos.line X.env = pure false := by exact rfl) :
    PSD X (.Expr (.Call (.Attribute (.Name x px) "extend" apos) [e] [] cpos) pos) (sExt i f) :=
  PS_imp (ps_expr (pe_bm PySem.F.plainAttrs_list PySem.F.slot_list_extend PySem.F.type_list_extend mt_extT (pe_var hN hv hdb hcd) (pa_cons he pa_nil hs) hbase hfew hline hs hplain) hsw) fun D σ H ⟨H0, av0, x0, av, q, ρ, S, W, p⟩ => by
    obtain ⟨l, e1, p⟩ := getO_post (post_bind p)
    obtain ⟨v, e2, a, vs, rfl, hin, hq, ha, hd⟩ := W.at'.slot i _ e1
    refine ⟨_, e2, .inl ⟨rfl, vs, SqL.of ha⟩, tE_step W.at' p fun d S1 v H1 p1 e3 A1 d1 => ?_⟩
    have W1 := W.ext e3 A1
    have ha1 : H1 a = some (.lst vs) := e3 a _ (by simpa using hq) ha
    cases d with
    | tuple m =>
      have p2 : ((if decide (l.length + m.length ≤ 16777216) then pure (.nx (ρ.set i (some (.ow (l ++ m))))) else bad : M Fl) S1).post (flP X.K H0 av0 x0 q D) noX := p1
      split at p2
      · rename_i hz
        have hz := of_decide_eq_true hz
        cases d1 with
        | tup h1 h2 h3 =>
          exact ⟨a, _, vs, _, rfl, rfl, ha1, sqT_at h1, tupN_same msk_all h2, by rw [dps_len hd, dps_len h3, sizeLine_eq]; exact hz, p2 av σ _ (W1.putOw e1 e2 ha1 (dps_app (ext_dps W.at'.feed.1 e3 hd) h3))⟩
      · exact False.elim p2
    | _ => exact False.elim p1
end
end E
end

section
set_option Elab.async false
set_option linter.all false
set_option maxRecDepth 100000
set_option maxHeartbeats 4100000
namespace E
open L2 PySem.Spec PyProof.Rows PySem
section
variable {X : Cx} {pos : Pos} {a b : Expr} {fa fb : En → M PyData}
/-! ### == of data at any depth -/
def gEqD (x y : PyData) : Option PyData := if SeqAt.shaped x && SeqAt.shaped y then some (.bool (PyData.eqv x y)) else none
def gNeD (x y : PyData) : Option PyData := if SeqAt.shaped x && SeqAt.shaped y then some (.bool (!PyData.eqv x y)) else none
theorem opD_eqD {K : PySem.W.Frag} : OpD K (rEqD K) gEqD := fun av H x y d v w Q _ hd hx hy k => by
  unfold gEqD at hd
  split at hd
  · rename_i hh
    rw [Bool.and_eq_true] at hh
    cases hd
    exact ⟨x, y, dx_dp x v (dp_same msk_all x v hx), dx_dp y w (dp_same msk_all y w hy), hh.1, hh.2, k _ H (Same.refl H) (.bl _)⟩
  · cases hd
theorem opD_neD {K : PySem.W.Frag} : OpD K (rNeD K) gNeD := fun av H x y d v w Q _ hd hx hy k => by
  unfold gNeD at hd
  split at hd
  · rename_i hh
    rw [Bool.and_eq_true] at hh
    cases hd
    exact ⟨x, y, dx_dp x v (dp_same msk_all x v hx), dx_dp y w (dp_same msk_all y w hy), hh.1, hh.2, k _ H (Same.refl H) (.bl _)⟩
  · cases hd
theorem un_of {k : Nat} (hr : RoomG k X.A) : X.A.units + 64 < cLine := by have := hr.r.un; omega
theorem c_eqD {k : Nat} (hr : RoomG k X.A) (ha : PD X a fa) (hb : PD X b fb) (hm : behindInMarks .Eq b = false := by exact nomark _) : PB X (.Compare a [.Eq] [b] pos) (cB (cBin gEqD fa fb)) := c_cmp (op_eqD (un_of hr)) opD_eqD ha hb hm
theorem c_neD {k : Nat} (hr : RoomG k X.A) (ha : PD X a fa) (hb : PD X b fb) (hm : behindInMarks .NotEq b = false := by exact nomark _) : PB X (.Compare a [.NotEq] [b] pos) (cB (cBin gNeD fa fb)) := c_cmp (op_neD (un_of hr)) opD_neD ha hb hm
theorem d_eqD {k : Nat} (hr : RoomG k X.A) (ha : PD X a fa) (hb : PD X b fb) (hm : behindInMarks .Eq b = false := by exact nomark _) : PD X (.Compare a [.Eq] [b] pos) (cBin gEqD fa fb) := d_cmp (op_eqD (un_of hr)) opD_eqD ha hb hm
theorem d_neD {k : Nat} (hr : RoomG k X.A) (ha : PD X a fa) (hb : PD X b fb) (hm : behindInMarks .NotEq b = false := by exact nomark _) : PD X (.Compare a [.NotEq] [b] pos) (cBin gNeD fa fb) := d_cmp (op_neD (un_of hr)) opD_neD ha hb hm

/-! ### what is drawn from: its four entries read, three stored -/
inductive Fk where
  | cells | place | rest | turn
  deriving DecidableEq
def Fk.key : Fk → Str
  | .cells => "cells"
  | .place => "place"
  | .rest => "rest"
  | .turn => "turn"
def Fk.val (S : Fd) : Fk → PyData
  | .cells => .list (S.cells.map PyData.int)
  | .place => .int S.place
  | .rest => .int S.rest
  | .turn => .int S.turn
def Fk.put (S : Fd) (n : Int) : Fk → Fd
  | .cells => S
  | .place => { S with place := n }
  | .rest => { S with rest := n }
  | .turn => { S with turn := n }
def cFget (i : Nat) (k : Fk) : En → M PyData := fun ρ => getF i ρ >>= fun _ => fun S => .ok (k.val S) S
theorem dxs_ints {K : PySem.W.Frag} {H : Hp} : ∀ (ns : List Int), DxAll K H (ns.map V.int) (ns.map PyData.int)
  | [] => .nil
  | n :: ns => .cons (.int n) (dxs_ints ns)
theorem feed_get {S : Fd} {k : Fk} : ∃ v, valV [((.inr "cells" : Key), V.ref S.c), (.inr "place", .int S.place), (.inr "rest", .int S.rest), (.inr "turn", .int S.turn)] (.inr k.key) = some v ∧ (∀ (K : PySem.W.Frag) (av : List Addr) (q : Addr) (H : Hp), FeedAt av q S H → Dx K (msk av H) v (k.val S)) := by
  cases k with
  | cells => exact ⟨_, by first | rfl | decide +kernel, fun K av q H f => .lst (msk_of f.2.1 f.2.2.2) (dxs_ints _)⟩
  | place => exact ⟨_, by first | rfl | decide +kernel, fun K av q H f => .int _⟩
  | rest => exact ⟨_, by first | rfl | decide +kernel, fun K av q H f => .int _⟩
  | turn => exact ⟨_, by first | rfl | decide +kernel, fun K av q H f => .int _⟩
theorem d_fget {x s : Str} {px pc : Pos} {j : Nat} {kk : Nat} (k : Fk) (i : Nat) (hr : RoomG kk X.A) (hk : s = k.key := by rfl) (hN : X.N[i]? = some x := by rfl) (hv : Vis X.env.scope x := by first | exact Or.inl rfl | exact Or.inr (Or.inl rfl) | exact Or.inr (Or.inr rfl)) (hdb : (x == ("__debug__" : Str)) = false := by decide) (hcd : (x == ("__classdict__" : Str)) = false := by decide) (hs : NoSl (.Constant (.str s) j pc) := by exact fun _ _ => rfl) :
    PD X (.Subscript (.Name x px) (.Constant (.str s) j pc) pos) (cFget i k) := PE_imp (pe_dget (by have := hr.r.un; omega) (pe_var hN hv hdb hcd) pe_str hs) fun σ H Q ⟨av, q, ρ, S, A, p⟩ => by
  obtain ⟨e1, p⟩ := getF_post (post_bind p)
  obtain ⟨v, e2, rfl⟩ := A.slot i _ e1
  obtain ⟨v, hv1, hv2⟩ := feed_get (S := S) (k := k)
  refine ⟨_, e2, q, v, rfl, ?_, p v H (Ext.refl H) A.feed (hv2 _ _ _ _ A.feed)⟩
  subst hk
  have g := DGet.k (k := .inr k.key) A.feed.2.2.1
  rw [hv1] at g
  exact g
def sFput (i : Nat) (k : Fk) (f : En → M PyData) : En → M Fl := fun ρ => f ρ >>= fun d => getF i ρ >>= fun _ => match d with
  | .int n => fun S => .ok (.nx ρ) (k.put S n)
  | _ => bad
theorem feed_put {S : Fd} {n : Int} {k : Fk} (hk : k ≠ .cells) : putK [((.inr "cells" : Key), V.ref S.c), (.inr "place", .int S.place), (.inr "rest", .int S.rest), (.inr "turn", .int S.turn)] (.inr k.key) (.int n) = [(.inr "cells", .ref (k.put S n).c), (.inr "place", .int (k.put S n).place), (.inr "rest", .int (k.put S n).rest), (.inr "turn", .int (k.put S n).turn)] := by
  cases k with
  | cells => exact absurd rfl hk
  | place => first | rfl | decide +kernel
  | rest => first | rfl | decide +kernel
  | turn => first | rfl | decide +kernel
theorem s_fput {x s : Str} {px pc tpos : Pos} {j : Nat} {kk : Nat} {e : Expr} {f : En → M PyData} (k : Fk) (i : Nat) (hr : RoomG kk X.A) (he : PD X e f) (hkc : k ≠ .cells := by decide) (hk : s = k.key := by rfl) (hN : X.N[i]? = some x := by rfl) (hv : Vis X.env.scope x := by first | exact Or.inl rfl | exact Or.inr (Or.inl rfl) | exact Or.inr (Or.inr rfl)) (hdb : (x == ("__debug__" : Str)) = false := by decide) (hcd : (x == ("__classdict__" : Str)) = false := by decide)
    (hs : swapsWith e (some (.Subscript (.Name x px) (.Constant (.str s) j pc) tpos)) pos.line X.env = pure false := by exact rfl) :
    PSD X (.Assign [.Subscript (.Name x px) (.Constant (.str s) j pc) tpos] e pos) (sFput i k f) := PS_imp (ps_dput (by have := hr.r.un; omega) (pe_var hN hv hdb hcd) pe_str he hs) fun D σ H ⟨H0, av0, x0, av, q, ρ, S, W, p⟩ => by
  refine tE_step W.at' p fun d S1 v H1 p1 e1 A1 d1 => ?_
  obtain ⟨g1, p1⟩ := getF_post (post_bind p1)
  obtain ⟨w, g2, rfl⟩ := A1.slot i _ g1
  have W1 := W.ext e1 A1
  cases d with
  | int n =>
    cases d1
    have pp : flP X.K H0 av0 x0 q D (.nx ρ) (k.put S1 n) := p1
    subst hk
    have f1 := A1.feed
    have put := feed_put (S := S1) (n := n) hkc
    have g := DPut.k (k := .inr k.key) (v := .int n) f1.2.2.1 (by show 4 < sizeLine; decide)
    rw [put] at g
    refine ⟨_, g2, q, _, rfl, g, pp av σ _ ?_⟩
    have eE : Ext [q] H1 (upd H1 q (feedO (k.put S1 n))) := fun b o nb hb => by
      rw [upd_ne (by simpa using nb)]; exact hb
    have hc : (k.put S1 n).c = S1.c := by cases k <;> rfl
    have hcells : (k.put S1 n).cells = S1.cells := by cases k <;> rfl
    have ne : S1.c ≠ q := fun z => f1.2.1 (by rw [z]; exact f1.1)
    have f2 : FeedAt av q (k.put S1 n) (upd H1 q (feedO (k.put S1 n))) := ⟨f1.1, by rw [hc]; exact f1.2.1, upd_same, by rw [hc, upd_ne ne, hcells]; exact f1.2.2.2⟩
    exact W1.ext eE (A1.ext eE f2)
  | _ => exact False.elim p1
end
end E
end

section
set_option Elab.async false
set_option linter.all false
set_option maxRecDepth 100000
set_option maxHeartbeats 4100000
namespace E
open L2 PySem.Spec PyProof.Rows PySem
section
variable {X : Cx} {pos : Pos}
/-- x, y = list(range(a)), [] : two lists of one's own -/
def sOwnPar (i j : Nat) (f : En → M PyData) : En → M Fl := fun ρ => cUn gRgL f ρ >>= fun d => match d with
  | .list l => pure (.nx ((ρ.set i (some (.ow l))).set j (some (.ow []))))
  | _ => bad
theorem s_ownPar {i j : Nat} {x y : Str} {a : Expr} {f : En → M PyData} {px py pt p p2 pos1 pos2 lp : Pos} {kt k2 pt2} (hc : X.calm = true) (hN : X.N.Nodup) (hm : X.mg "list" = none) (hm2 : X.mg "range" = none) (ha : PD X a f) (hi : X.N[i]? = some x := by rfl) (hj : X.N[j]? = some y := by rfl) (hij : i ≠ j := by decide)
    (hx : X.env.scope.names.lookup x = some .local := by rfl) (hy : X.env.scope.names.lookup y = some .local := by rfl) (hg : Gl X "list" := by rfl) (hg2 : Gl X "range" := by rfl) (na : starEach [a] X.env = (false, eval a X.env) :: starEach [] X.env := by rfl)
    (nb : starEach [Expr.Call (.Name "range" p2) [a] [] pos2] X.env = (false, eval (Expr.Call (.Name "range" p2) [a] [] pos2) X.env) :: starEach [] X.env := by rfl)
    (n1 : starEach [Expr.Call (.Name "list" p) [.Call (.Name "range" p2) [a] [] pos2] [] pos1, Expr.List [] lp] X.env = (false, eval (Expr.Call (.Name "list" p) [.Call (.Name "range" p2) [a] [] pos2] [] pos1) X.env) :: starEach [Expr.List [] lp] X.env := by rfl) (n2 : starEach [Expr.List [] lp] X.env = (false, eval (Expr.List [] lp) X.env) :: starEach [] X.env := by rfl)
    (hw : swappedStores [.Tuple [.Name x px, .Name y py] kt pt] (.Tuple [.Call (.Name "list" p) [.Call (.Name "range" p2) [a] [] pos2] [] pos1, .List [] lp] k2 pt2) X.env = pure (some [x, y]) := by rfl)
    (hs : swapsWithSole [.Tuple [.Name x px, .Name y py] kt pt] (.Tuple [.Call (.Name "list" p) [.Call (.Name "range" p2) [a] [] pos2] [] pos1, .List [] lp] k2 pt2) pos.line X.env = pure false := by exact rfl) :
    PSD X (.Assign [.Tuple [.Name x px, .Name y py] kt pt] (.Tuple [.Call (.Name "list" p) [.Call (.Name "range" p2) [a] [] pos2] [] pos1, .List [] lp] k2 pt2) pos) (sOwnPar i j f) :=
  PS_imp (ps_par hc hN hi hj hij hx hy (pa_cons (pe_listRg hc hg hm (prg_1 hg2 hm2 ha na) nb) (pa_cons (pe_lst pa_nil) pa_nil n2) n1) hw hs) fun D σ H ⟨H0, av0, x0, av, q, ρ, S, W, p⟩ => by
    have p := post_bind p
    refine tE_step W.at' p fun d S1 v H1 p1 e1 A1 d1 => ?_
    obtain ⟨d', hd, k⟩ := post_lift p1
    have W1 := W.ext e1 A1
    cases d with
    | int n =>
      have hd2 : (if decide (0 ≤ n ∧ n ≤ 16777216) then some (PyData.list (rngD 0 n.toNat)) else none) = some d' := hd
      split at hd2
      · rename_i hh
        have hh := of_decide_eq_true hh
        cases hd2; cases d1
        refine ⟨_, rfl, RgOk.of_le (by omega) hh.2 (by omega) hh.1, fun p hp => ?_⟩
        have W2 := W1.newOw (i := i) hp (rgV_dp n)
        refine ⟨by show 0 ≤ sizeLine; decide, fun p2 hp2 => ⟨_, _, rfl, k _ _ _ (W2.newOw (i := j) hp2 .nil)⟩⟩
      · cases hd2
    | _ => cases hd
end
end E
end

section
set_option Elab.async false
set_option linter.all false
set_option maxRecDepth 100000
set_option maxHeartbeats 4100000
namespace E
open L2 PySem.Spec PyProof.Rows PySem
/-! ### the head, for promises that are kept where nothing is being shown -/
theorem law_callG {P : Program} {w : World} {K : PySem.W.Frag} {mg mb : Str → Option Value} {k : Nat} {fa a : Addr} {fd : FuncData} {x : Str} {sp : Sp} {s1 : Shared} {vs : List Value} {ns : List Int} (KX : K.In s1.heap) (hns : s1.heap.Ns mainGlobals mg) (hb : s1.heap.Ns builtinsNs mb) (hbb : ∀ x : Str, x ≠ "__name__" → mb x = bootBuiltins x) (hlim : s1.heap.NoLimit) (hg : s1.gens = #[])
    (ha : s1.heap.get? a = some { cls := .type "list", data := .seq vs.toArray }) (hi : IntsAre vs ns) (hl : ns.length ≤ sizeLine) (hr : RoomG k callerA) (F : ∀ base : Heap, K.In base → base.Ns mainGlobals mg → FnG P w K mg base k fa fd [x] sp) (hbind : ∀ (s : Shared) (u : Value), BindsTo s fd ⟨[u], []⟩ [(x, u)])
    (hsp : ∀ H : Hp, Only H → SqL K H a (ns.map V.int) → sp [.ref a] H (fun v _ => v = .bl true) fun _ _ _ => False) :
    codeAny (model P w) callerA (.call (.ref fa) ⟨[.ref a], []⟩) (fun r s' => r = .ok (.ret (.bool true)) ∧ OldK s1.heap s'.heap ∧ s'.os = s1.os ∧ AllBare s'.gens) s1 := by
  have rvₐ := vals_ints hi
  have nVₐ := hi.length
  have mainₐ : ∀ H : Hp, Only H → SqL K H a (ns.map V.int) → HOk P w H s1.heap → (∀ bₐ, H bₐ ≠ none → bₐ = a) → (H a ≠ none → K.lookup a = none) → codeAny (model P w) callerA (.call (.ref fa) ⟨[.ref a], []⟩) (fun r s' => r = .ok (.ret (.bool true)) ∧ OldK s1.heap s'.heap ∧ s'.os = s1.os ∧ AllBare s'.gens) s1 := by
    intro H hOₐ hSₐ hokₐ hAₐ hKₐ
    have base_ofₐ : ∀ {bₐ : Addr} {oₐ : Obj}, s1.heap.get? bₐ = some oₐ → H bₐ = none → (hidT s1.heap H).get? bₐ = some oₐ := fun eₐ nₐ => hidT_get eₐ nₐ
    have noAₐ : ∀ {bₐ : Addr} {oₐ : Obj} {esₐ : Array DictEntry} {epₐ : Nat}, s1.heap.get? bₐ = some oₐ → oₐ.data = .dict esₐ epₐ → H bₐ = none := fun {bₐ oₐ esₐ epₐ} eₐ dₐ => by
      cases zₐ : H bₐ with
      | none => rfl
      | some u =>
        obtain rfl : bₐ = a := hAₐ bₐ (by rw [zₐ]; simp)
        rw [ha] at eₐ; cases eₐ
        exact nomatch (show Data.seq vs.toArray _ = Data.dict esₐ epₐ from dₐ)
    have nsKₐ : ∀ {bₐ : Addr} {mₐ : Str → Option Value}, s1.heap.Ns bₐ mₐ → (hidT s1.heap H).Ns bₐ mₐ := fun {bₐ mₐ} ⟨oₐ, esₐ, epₐ, eₐ, dₐ, r⟩ => ⟨oₐ, esₐ, epₐ, base_ofₐ eₐ (noAₐ eₐ dₐ), dₐ, r⟩
    have hKbₐ : K.In (hidT s1.heap H) := fun bₐ oₐ eₐ => base_ofₐ (KX bₐ oₐ eₐ) (by
      cases zₐ : H bₐ with
      | none => rfl
      | some u =>
        obtain rfl : bₐ = a := hAₐ bₐ (by rw [zₐ]; simp)
        rw [hKₐ (by rw [zₐ]; simp)] at eₐ; cases eₐ)
    have hMₐ : Mod K mg (hidT s1.heap H) := ⟨hKbₐ, nsKₐ hns, ⟨mb, nsKₐ hb, hbb⟩, let ⟨mc, y1ₐ, y2ₐ⟩ := hlim; ⟨mc, nsKₐ y1ₐ, y2ₐ⟩⟩
    have e0ₐ : Env0 P w K mg (hidT s1.heap H) callerA [] s1 H := ⟨rfl, hMₐ, fun bₐ oₐ eₐ => of_hidT eₐ, Nat.le_of_eq (hidT_size _ _), trivial, fun bₐ hb => absurd (show bₐ ∈ ([] : List Addr) from hb) (by simp), hokₐ, .of_eq hg⟩
    refine codeAny_mono ((F _ hKbₐ (nsKₐ hns)).run callerA [] s1 H ⟨[.ref a], []⟩ [.ref a] [.ref a] _ _ hr e0ₐ (hbind s1 (.ref a)) (.cons rfl .nil) (hsp H hOₐ hSₐ)) fun r s' hₐ => ?_
    cases r with
    | error eₐ => exact False.elim hₐ
    | ok flₐ =>
      cases flₐ with
      | next => exact hₐ.elim
      | brk => exact hₐ.elim
      | cont => exact hₐ.elim
      | ret u =>
        obtain ⟨v, H'ₐ, osₐ, bareₐ, unₐ, hok'ₐ, r'ₐ, zₐ⟩ := hₐ
        obtain rfl : v = .bl true := zₐ
        obtain rfl : u = Value.bool true := r'ₐ
        refine ⟨rfl, OldK.of_keep fun bₐ oₐ eₐ => ?_, osₐ, bareₐ⟩
        cases zₐ : H bₐ with
        | none => exact unₐ.keep bₐ oₐ eₐ zₐ (by intro yₐ; exact absurd (show bₐ ∈ ([] : List Addr) from yₐ) (by simp)) (by simp)
        | some u =>
          rcases hOₐ bₐ with yₐ | ⟨obₐ, xsₐ, yₐ⟩
          · rw [zₐ] at yₐ; cases yₐ
          · obtain ⟨y1ₐ, _⟩ := hokₐ bₐ _ yₐ
            obtain ⟨y2ₐ, _⟩ := hok'ₐ bₐ _ (unₐ.frzs bₐ obₐ _ yₐ)
            rw [eₐ] at y1ₐ; cases y1ₐ; exact y2ₐ
  cases hk : K.lookup a with
  | some oₐ =>
    have eₐ := KX a oₐ hk
    rw [ha] at eₐ
    cases eₐ
    exact mainₐ (fun _ => none) (fun _ => .inl rfl) (.inr ⟨_, vs.toArray, _, hk, rfl, rfl, rfl, by rw [List.size_toArray, nVₐ]; exact hl, by simpa using rvₐ⟩) (fun bₐ u zₐ => nomatch (show (none : Option HO) = some u from zₐ)) (fun bₐ zₐ => absurd rfl zₐ) fun zₐ => absurd rfl zₐ
  | none =>
    refine mainₐ (fun bₐ => if bₐ = a then some (.frz { cls := .type "list", data := .seq vs.toArray } (.lst (ns.map V.int))) else none) (fun bₐ => ?_) (.inl (.inr ⟨{ cls := .type "list", data := .seq vs.toArray }, if_pos rfl⟩)) (fun bₐ u zₐ => ?_) (fun bₐ zₐ => ?_) fun _ => hk
    · by_cases yₐ : bₐ = a
      · exact .inr ⟨_, _, if_pos yₐ⟩
      · exact .inl (if_neg yₐ)
    · by_cases yₐ : bₐ = a
      · cases (if_pos yₐ).symm.trans zₐ
        subst yₐ; exact ⟨ha, by rw [List.length_map]; exact hl, vs, _, rvₐ, ha⟩
      · cases (if_neg yₐ).symm.trans zₐ
    · by_cases yₐ : bₐ = a
      · exact yₐ
      · exact absurd (if_neg yₐ) zₐ
theorem walkG {l : PySem.W.OpenLaw} {n k : Nat} {q : Program} {loose : List Str} {XP : (Str → Option Value) → Heap → Prop} {YP : World → Heap → Prop} {d : DefRec} {K : Params → PySem.W.Frag} {sp : World → Sp} {x : Str} (hn : l.most = some n) (hn2 : n ≤ sizeLine) (hdf : d.params.defaults = []) (hr : RoomG k callerA) (hY : ∀ (w : World) (h : Heap), YP w h → (K w.params).In h)
    (F : ∀ (w : World) (mg : Str → Option Value) (fa : Addr) (h : Heap), (K w.params).In h → h.Ns mainGlobals mg → mg d.name = some (.ref fa) → ∃ fd : FuncData, (∀ (s : Shared) (u : Value), BindsTo s fd ⟨[u], []⟩ [(x, u)]) ∧ ∀ base : Heap, (K w.params).In base → base.Ns mainGlobals mg → FnG l.prog w (K w.params) mg base k fa fd [x] (sp w))
    (hsp : ∀ (w : World) (H : Hp) (a : Addr) (ns : List Int), ns.length ≤ n → Only H → SqL (K w.params) H a (ns.map V.int) → sp w [.ref a] H (fun v _ => v = .bl true) fun _ _ _ => False) :
    PySem.W.WalkO q loose XP YP l.row.toRowW d [] fun f vs => PySem.call f vs := by
  refine Att.attach_call hn hdf fun w s0ₐ s1ₐ mg mbₐ fa oₐ pmₐ cdₐ docₐ a vs ns Gₐ Yₐ hoₐ hdₐ hcdₐ hmgₐ hobjₐ hintsₐ hlenₐ hgₐ => ?_
  have KXₐ := hY w _ Yₐ
  obtain ⟨fd, hbₐ, hFₐ⟩ := F w mg fa _ KXₐ Gₐ.T.g hmgₐ
  exact law_callG KXₐ Gₐ.T.g Gₐ.T.b Gₐ.T.builtins Gₐ.T.nolimit hgₐ hobjₐ hintsₐ (Nat.le_trans hlenₐ hn2) hr hFₐ hbₐ fun H hOₐ hSₐ => hsp w H a ns hlenₐ hOₐ hSₐ

/-! ### the script made into what is drawn from; the law's def -/
section
variable {X : Cx}
theorem pe_fnG {k : Nat} {f : Addr} {fd : FuncData} {ps : List Str} {sp : Sp} {x : Str} {p pos : Pos} {e : Expr} {es : List Expr} {t : TA} (G : FnG X.prog X.w X.K X.mg X.base k f fd ps sp) (hr : RoomG k X.A) (hm : X.mg x = some (.ref f)) (hk : PySem.W.keepIn X.K (.ref f) = true) (hb : Binds X.K fd ps []) (ha : PA X (e :: es) t) (hg : Gl X x := by rfl) (hdb : (x == ("__debug__" : Str)) = false := by decide)
    (he : starEach (e :: es) X.env = (false, eval e X.env) :: starEach es X.env := by rfl) (hpl : (backTo pos (starEach es X.env)).any (·.1) = false := by rfl) : PE X (.Call (.Name x p) (e :: es) [] pos) (fun σ H Q => t σ H fun vs H1 => sp vs H1 Q E0) := by
  refine ⟨fun pins s σ H Q I h' => wpAny_Call_Name_kw (ld_glob I hg hm ?_ hdb)⟩
  refine PySem.W.callWith_K (h₀ := X.base) I.ok.mod.kin hk (thn (ha.run pos pins s σ H _ I h') fun us s1 ⟨vs, H1, I1, r, hsp⟩ => ⟨I1.kIn, ?_⟩) he hpl
  have hl : us.length = ps.length := by rw [← r.length]; exact G.len _ _ _ _ hsp
  have hbn := hb s1 us I1.kIn (by rw [List.append_nil]; exact hl)
  rw [List.append_nil] at hbn
  refine wpAny_call (codeAny_mono (G.run X.A X.stack s1 H1 ⟨us, []⟩ us vs Q E0 hr I1.env0 hbn r hsp) fun r' s' hq => ?_)
  have z := ret_of I1 rfl rfl rfl hq
  cases r' with
  | error e => exact z.elim
  | ok fl =>
    cases fl with
    | ret u => exact z
    | next => exact z.elim
    | brk => exact z.elim
    | cont => exact z.elim
end
/-- what _law_feed promises -/
def spFeed (K : PySem.W.Frag) : Sp := fun vs H Q _ => vs.length = 1 ∧ ∃ (a : Addr) (ns : List Int), vs = [.ref a] ∧ SqL K H a (ns.map V.int) ∧ ∀ (p : Addr) (S : Fd) (H' : Hp), H' p = some (feedO S) → H' S.c = some (.lst (S.cells.map V.int)) → Q (.ref p) H'
/-- what law promises -/
def spLaw (K : PySem.W.Frag) : Sp := fun vs H Q _ => vs.length = 1 ∧ ∃ (a : Addr) (ns : List Int), vs = [.ref a] ∧ SqL K H a (ns.map V.int) ∧ ∀ H' : Hp, Q (.bl true) H'
theorem take_vals {ns : List Int} {k : Nat} : cutV (ns.map V.int) none (some (k : Int)) = (ns.take k).map V.int := by
  unfold cutV
  rw [HT.sIx_none, HT.sIx_nat, List.length_map, List.drop_zero, ← List.map_take, Nat.sub_zero]
  congr 1
  rcases Nat.le_total k ns.length with h | h
  · rw [Nat.min_eq_left h]
  · rw [Nat.min_eq_right h, List.take_of_length_le (Nat.le_refl _), List.take_of_length_le h]
end E
end

section
set_option Elab.async false
set_option linter.all false
set_option maxRecDepth 100000
set_option maxHeartbeats 4100000
namespace K03
open L2 PySem.Spec PyProof.Rows PySem E
def top (i : Nat) : Stmt := PySem.Challenge.pw_ledalong_k03_whole_rules_changed.main.body.getD i (.Pass ⟨0, 0, 0, 0⟩)
abbrev t_need : Stmt := top 5
abbrev t_spread : Stmt := top 6
abbrev t_next_blocks : Stmt := top 7
abbrev t_is_integer : Stmt := top 9
abbrev t_is_number : Stmt := top 10
abbrev t_is_full : Stmt := top 14
abbrev t_is_below : Stmt := top 12
abbrev t_rule_fault : Stmt := top 17
abbrev t_is_rule : Stmt := top 11
abbrev t_are_below : Stmt := top 13
abbrev t_is_long : Stmt := top 15
abbrev t_is_order : Stmt := top 16
abbrev t_letters_of : Stmt := top 19
abbrev t_becomes : Stmt := top 20
abbrev t_turned : Stmt := top 21
abbrev t_power : Stmt := top 22
abbrev t_renamed : Stmt := top 23
abbrev t__law_feed : Stmt := top 25
abbrev t__law_draw : Stmt := top 26
abbrev t__law_same : Stmt := top 27
abbrev t__law_grow : Stmt := top 28
abbrev t__law_row : Stmt := top 29
abbrev t__law_becomes : Stmt := top 30
abbrev t__law_turned_about : Stmt := top 31
abbrev t__law_level : Stmt := top 32
abbrev t__law_called : Stmt := top 33
abbrev t__law_is_led_round : Stmt := top 34
abbrev t__law_is_powered : Stmt := top 35
abbrev t__law_is_changed : Stmt := top 36
abbrev t__law_holds : Stmt := top 37
abbrev t_law : Stmt := top 38
structure TX (K : PySem.W.Frag) (mg : Str → Option Value) (f : Nat → Addr) (fd : Nat → FuncData) : Prop where
  d5 : Fun K "need" "need" t_need (f 5) (fd 5)
  g5 : mg "need" = some (.ref (f 5))
  b5 : Binds K (fd 5) ["fine", "name"] []
  d6 : Fun K "spread" "spread" t_spread (f 6) (fd 6)
  g6 : mg "spread" = some (.ref (f 6))
  b6 : Binds K (fd 6) ["blocks", "word"] []
  d7 : Fun K "next_blocks" "next_blocks" t_next_blocks (f 7) (fd 7)
  g7 : mg "next_blocks" = some (.ref (f 7))
  b7 : Binds K (fd 7) ["rule", "blocks"] []
  d9 : Fun K "is_integer" "is_integer" t_is_integer (f 9) (fd 9)
  g9 : mg "is_integer" = some (.ref (f 9))
  b9 : Binds K (fd 9) ["thing"] []
  d10 : Fun K "is_number" "is_number" t_is_number (f 10) (fd 10)
  g10 : mg "is_number" = some (.ref (f 10))
  b10 : Binds K (fd 10) ["thing"] []
  d14 : Fun K "is_full" "is_full" t_is_full (f 14) (fd 14)
  g14 : mg "is_full" = some (.ref (f 14))
  b14 : Binds K (fd 14) ["thing"] []
  d12 : Fun K "is_below" "is_below" t_is_below (f 12) (fd 12)
  g12 : mg "is_below" = some (.ref (f 12))
  b12 : Binds K (fd 12) ["thing", "many"] []
  d17 : Fun K "rule_fault" "rule_fault" t_rule_fault (f 17) (fd 17)
  g17 : mg "rule_fault" = some (.ref (f 17))
  b17 : Binds K (fd 17) ["thing"] []
  d11 : Fun K "is_rule" "is_rule" t_is_rule (f 11) (fd 11)
  g11 : mg "is_rule" = some (.ref (f 11))
  b11 : Binds K (fd 11) ["thing"] []
  d13 : Fun K "are_below" "are_below" t_are_below (f 13) (fd 13)
  g13 : mg "are_below" = some (.ref (f 13))
  b13 : Binds K (fd 13) ["thing", "many"] []
  d15 : Fun K "is_long" "is_long" t_is_long (f 15) (fd 15)
  g15 : mg "is_long" = some (.ref (f 15))
  b15 : Binds K (fd 15) ["thing", "length"] []
  d16 : Fun K "is_order" "is_order" t_is_order (f 16) (fd 16)
  g16 : mg "is_order" = some (.ref (f 16))
  b16 : Binds K (fd 16) ["thing", "many"] []
  d19 : Fun K "letters_of" "letters_of" t_letters_of (f 19) (fd 19)
  g19 : mg "letters_of" = some (.ref (f 19))
  b19 : Binds K (fd 19) ["rule"] []
  d20 : Fun K "becomes" "becomes" t_becomes (f 20) (fd 20)
  g20 : mg "becomes" = some (.ref (f 20))
  b20 : Binds K (fd 20) ["rule", "word"] []
  d21 : Fun K "turned" "turned" t_turned (f 21) (fd 21)
  g21 : mg "turned" = some (.ref (f 21))
  b21 : Binds K (fd 21) ["rule"] []
  d22 : Fun K "power" "power" t_power (f 22) (fd 22)
  g22 : mg "power" = some (.ref (f 22))
  b22 : Binds K (fd 22) ["rule", "n"] []
  d23 : Fun K "renamed" "renamed" t_renamed (f 23) (fd 23)
  g23 : mg "renamed" = some (.ref (f 23))
  b23 : Binds K (fd 23) ["rule", "names"] []
  d25 : Fun K "_law_feed" "_law_feed" t__law_feed (f 25) (fd 25)
  g25 : mg "_law_feed" = some (.ref (f 25))
  b25 : Binds K (fd 25) ["_law_script"] []
  d26 : Fun K "_law_draw" "_law_draw" t__law_draw (f 26) (fd 26)
  g26 : mg "_law_draw" = some (.ref (f 26))
  b26 : Binds K (fd 26) ["_law_feed_here", "_law_limit"] []
  d27 : Fun K "_law_same" "_law_same" t__law_same (f 27) (fd 27)
  g27 : mg "_law_same" = some (.ref (f 27))
  b27 : Binds K (fd 27) ["_law_told", "_law_due"] []
  d28 : Fun K "_law_grow" "_law_grow" t__law_grow (f 28) (fd 28)
  g28 : mg "_law_grow" = some (.ref (f 28))
  b28 : Binds K (fd 28) ["_law_feed_here", "_law_most"] []
  d29 : Fun K "_law_row" "_law_row" t__law_row (f 29) (fd 29)
  g29 : mg "_law_row" = some (.ref (f 29))
  b29 : Binds K (fd 29) ["_law_feed_here", "_law_many", "_law_most"] []
  d30 : Fun K "_law_becomes" "_law_becomes" t__law_becomes (f 30) (fd 30)
  g30 : mg "_law_becomes" = some (.ref (f 30))
  b30 : Binds K (fd 30) ["_law_grow_here", "_law_row_here"] []
  d31 : Fun K "_law_turned_about" "_law_turned_about" t__law_turned_about (f 31) (fd 31)
  g31 : mg "_law_turned_about" = some (.ref (f 31))
  b31 : Binds K (fd 31) ["_law_feed_here", "_law_many"] []
  d32 : Fun K "_law_level" "_law_level" t__law_level (f 32) (fd 32)
  g32 : mg "_law_level" = some (.ref (f 32))
  b32 : Binds K (fd 32) ["_law_grow_here", "_law_far"] []
  d33 : Fun K "_law_called" "_law_called" t__law_called (f 33) (fd 33)
  g33 : mg "_law_called" = some (.ref (f 33))
  b33 : Binds K (fd 33) ["_law_grow_here", "_law_calls"] []
  d34 : Fun K "_law_is_led_round" "_law_is_led_round" t__law_is_led_round (f 34) (fd 34)
  g34 : mg "_law_is_led_round" = some (.ref (f 34))
  b34 : Binds K (fd 34) ["_law_feed_here"] []
  d35 : Fun K "_law_is_powered" "_law_is_powered" t__law_is_powered (f 35) (fd 35)
  g35 : mg "_law_is_powered" = some (.ref (f 35))
  b35 : Binds K (fd 35) ["_law_grow_here", "_law_early", "_law_late"] []
  d36 : Fun K "_law_is_changed" "_law_is_changed" t__law_is_changed (f 36) (fd 36)
  g36 : mg "_law_is_changed" = some (.ref (f 36))
  b36 : Binds K (fd 36) ["_law_feed_here", "_law_grow_here"] []
  d37 : Fun K "_law_holds" "_law_holds" t__law_holds (f 37) (fd 37)
  g37 : mg "_law_holds" = some (.ref (f 37))
  b37 : Binds K (fd 37) ["_law_feed_here"] []
  d38 : Fun K "law" "law" t_law (f 38) (fd 38)
  g38 : mg "law" = some (.ref (f 38))
  b38 : Binds K (fd 38) ["_law_script"] []
  k20_word_rule : KwB K (fd 20) ["rule", "word"] ["word", "rule"] [1, 0]
  k19_rule : KwB K (fd 19) ["rule"] ["rule"] [0]
  k22_n_rule : KwB K (fd 22) ["rule", "n"] ["n", "rule"] [1, 0]
  k23_names_rule : KwB K (fd 23) ["rule", "names"] ["names", "rule"] [1, 0]
  k21_rule : KwB K (fd 21) ["rule"] ["rule"] [0]
  m_all : mg "all" = none
  m_bool : mg "bool" = none
  m_enumerate : mg "enumerate" = none
  m_int : mg "int" = none
  m_isinstance : mg "isinstance" = none
  m_len : mg "len" = none
  m_list : mg "list" = none
  m_range : mg "range" = none
  m_repr : mg "repr" = none
  m_set : mg "set" = none
  m_sum : mg "sum" = none
  m_tuple : mg "tuple" = none
section
variable {P : Program} {w : World} {K : PySem.W.Frag} {mg : Str → Option Value} {base : Heap} {f : Nat → Addr} {fd : Nat → FuncData}
def g_need : En → M Fl := (sIf (cNotB (cB (getD 0))) (fun _ => bad) sNil)
def F_need : Fn := runB 2 g_need
theorem sc_need : FnScope ["fine", "name"] ["fine", "name"] (defScope t_need) := ⟨rfl, rfl, rfl, by decide +kernel, rfl, by decide +kernel, by decide +kernel⟩
theorem ok_need (T : TX K mg f fd) : FnG P w K mg base 1 (f 5) (fd 5) ["fine", "name"] (spD K 2 F_need) := fn_bodyG (k := 0) (N := ["fine", "name"]) T.d5 sc_need rfl fun cdv A outer s H E hr => by
  have nd := sc_need.nd
  exact (ss_one (s_if (b_not (b_val (d_var 0))) (ss_one s_never) ss_nil))
def g_spread : En → M Fl := (sRet (cCall gTupOf (aD (cLc2 (fun ρ => (getD 1) ρ >>= asT) [2, 3] (bNm 2) yes (fun ρ => (cBin gIx (getD 0) (getD 2)) ρ >>= asT) [3] (bNm 3) yes (getD 3)) aNil)))
def F_spread : Fn := runB 4 g_spread
theorem sc_spread : FnScope ["blocks", "word", "a", "letter"] ["blocks", "word"] (defScope t_spread) := ⟨rfl, rfl, rfl, by decide +kernel, rfl, by decide +kernel, by decide +kernel⟩
theorem ok_spread (T : TX K mg f fd) : FnG P w K mg base 1 (f 6) (fd 6) ["blocks", "word"] (spD K 2 F_spread) := fn_bodyG (k := 0) (N := ["blocks", "word", "a", "letter"]) T.d6 sc_spread rfl fun cdv A outer s H E hr => by
  have nd := sc_spread.nd
  exact (ss_one (s_ret (d_callTy call_tupF callD_tupOf T.m_tuple (a_d (d_lc2 (own := [(Str.ofString "a", 2), (Str.ofString "letter", 3)]) (vs1 := [3]) rfl nd (i_tup (d_var 1)) (blkOk_by (by first | decide +kernel | rfl)) (by decide) (fun _ _ _ _ _ => (g_nm 2 nd)) (fun _ _ _ _ _ => t_nil) (fun _ _ _ _ _ => (i_tup (d_at (d_var 0) (d_var 2)))) (fun _ _ _ _ _ => (g_nm 3 nd)) (fun _ _ _ _ _ => t_nil) (fun _ _ _ _ _ => (d_var 3))) a_nil))))
def g_next_blocks : En → M Fl := (sRet (cCall gTupOf (aD (cLc (fun ρ => (getD 1) ρ >>= asT) [2] (bNm 2) yes (cFn (argN 2 F_spread) (aD (getD 0) (aD (getD 2) aNil)))) aNil)))
def F_next_blocks : Fn := runB 3 g_next_blocks
theorem sc_next_blocks : FnScope ["rule", "blocks", "block"] ["rule", "blocks"] (defScope t_next_blocks) := ⟨rfl, rfl, rfl, by decide +kernel, rfl, by decide +kernel, by decide +kernel⟩
theorem ok_next_blocks (T : TX K mg f fd) : FnG P w K mg base 2 (f 7) (fd 7) ["rule", "blocks"] (spD K 2 F_next_blocks) := fn_bodyG (k := 1) (N := ["rule", "blocks", "block"]) T.d7 sc_next_blocks rfl fun cdv A outer s H E hr => by
  have nd := sc_next_blocks.nd
  exact (ss_one (s_ret (d_callTy call_tupF callD_tupOf T.m_tuple (a_d (d_lc (own := [(Str.ofString "block", 2)]) rfl nd (i_tup (d_var 1)) (blkOk_by (by first | decide +kernel | rfl)) (fun _ _ _ _ _ => (g_nm 2 nd)) (fun _ _ _ _ _ => t_nil) (fun _ _ _ _ _ => (d_fn (ok_spread T) (hr.mono (by decide)) T.g6 T.d6.kp T.b6 (a_d (d_var 0) (a_d (d_var 2) a_nil))))) a_nil))))
def g_is_integer : En → M Fl := (sRet (cAnd (cIsi "int" (getD 0)) (cNot (cIsi "bool" (getD 0)))))
def F_is_integer : Fn := runB 1 g_is_integer
theorem sc_is_integer : FnScope ["thing"] ["thing"] (defScope t_is_integer) := ⟨rfl, rfl, rfl, by decide +kernel, rfl, by decide +kernel, by decide +kernel⟩
theorem ok_is_integer (T : TX K mg f fd) : FnG P w K mg base 1 (f 9) (fd 9) ["thing"] (spD K 1 F_is_integer) := fn_bodyG (k := 0) (N := ["thing"]) T.d9 sc_is_integer rfl fun cdv A outer s H E hr => by
  have nd := sc_is_integer.nd
  exact (ss_one (s_ret (d_and (d_isi T.m_isinstance T.m_int (d_var 0)) (d_one (d_not (d_isi T.m_isinstance T.m_bool (d_var 0)))))))
def g_is_number : En → M Fl := (sRet (cAnd (cFn (argN 1 F_is_integer) (aD (getD 0) aNil)) (cBin gGe (getD 0) (cD (.int 0)))))
def F_is_number : Fn := runB 1 g_is_number
theorem sc_is_number : FnScope ["thing"] ["thing"] (defScope t_is_number) := ⟨rfl, rfl, rfl, by decide +kernel, rfl, by decide +kernel, by decide +kernel⟩
theorem ok_is_number (T : TX K mg f fd) : FnG P w K mg base 2 (f 10) (fd 10) ["thing"] (spD K 1 F_is_number) := fn_bodyG (k := 1) (N := ["thing"]) T.d10 sc_is_number rfl fun cdv A outer s H E hr => by
  have nd := sc_is_number.nd
  exact (ss_one (s_ret (d_and (d_fn (ok_is_integer T) (hr.mono (by decide)) T.g9 T.d9.kp T.b9 (a_d (d_var 0) a_nil)) (d_one (d_ge (d_var 0) d_int)))))
def g_is_full : En → M Fl := (sRet (cAnd (cIsi "tuple" (getD 0)) (cBin gGt (cCall gLen (aD (getD 0) aNil)) (cD (.int 0)))))
def F_is_full : Fn := runB 1 g_is_full
theorem sc_is_full : FnScope ["thing"] ["thing"] (defScope t_is_full) := ⟨rfl, rfl, rfl, by decide +kernel, rfl, by decide +kernel, by decide +kernel⟩
theorem ok_is_full (T : TX K mg f fd) : FnG P w K mg base 1 (f 14) (fd 14) ["thing"] (spD K 1 F_is_full) := fn_bodyG (k := 0) (N := ["thing"]) T.d14 sc_is_full rfl fun cdv A outer s H E hr => by
  have nd := sc_is_full.nd
  exact (ss_one (s_ret (d_and (d_isi T.m_isinstance T.m_tuple (d_var 0)) (d_one (d_gt (d_callB call_len_seq callD_len T.m_len (a_d (d_var 0) a_nil)) d_int)))))
def g_is_below : En → M Fl := (sRet (cAnd (cFn (argN 1 F_is_number) (aD (getD 0) aNil)) (cBin gLt (getD 0) (getD 1))))
def F_is_below : Fn := runB 2 g_is_below
theorem sc_is_below : FnScope ["thing", "many"] ["thing", "many"] (defScope t_is_below) := ⟨rfl, rfl, rfl, by decide +kernel, rfl, by decide +kernel, by decide +kernel⟩
theorem ok_is_below (T : TX K mg f fd) : FnG P w K mg base 3 (f 12) (fd 12) ["thing", "many"] (spD K 2 F_is_below) := fn_bodyG (k := 2) (N := ["thing", "many"]) T.d12 sc_is_below rfl fun cdv A outer s H E hr => by
  have nd := sc_is_below.nd
  exact (ss_one (s_ret (d_and (d_fn (ok_is_number T) (hr.mono (by decide)) T.g10 T.d10.kp T.b10 (a_d (d_var 0) a_nil)) (d_one (d_lt (d_var 0) (d_var 1))))))
def g_rule_fault : En → M Fl := (sSeq (sIf (cNotB (cB (cFn (argN 1 F_is_full) (aD (getD 0) aNil)))) (sRet (cTup (aD (cD (.str (Str.ofString "shape"))) (aD (cUn gNeg (cD (.int 1))) aNil)))) sNil) (sSeq (sFor (fun ρ => (aD (getD 0) aNil) ρ >>= asEn) (bTup 2 (bsCons (bNm 1) (bsCons (bNm 2) bsNil))) (sSeq (sIf (cNotB (cB (cFn (argN 1 F_is_full) (aD (getD 2) aNil)))) (sRet (cTup (aD (cD (.str (Str.ofString "block"))) (aD (getD 1) aNil)))) sNil) (sFor (fun ρ => (aD (getD 2) aNil) ρ >>= asEn) (bTup 2 (bsCons (bNm 3) (bsCons (bNm 4) bsNil))) (sIf (cNotB (cB (cFn (argN 2 F_is_below) (aD (getD 4) (aD (cCall gLen (aD (getD 0) aNil)) aNil))))) (sRet (cTup (aD (cD (.str (Str.ofString "letter"))) (aD (cTup (aD (getD 1) (aD (getD 3) aNil))) aNil)))) sNil)))) (sRet (cD .none))))
def F_rule_fault : Fn := runB 5 g_rule_fault
theorem sc_rule_fault : FnScope ["thing", "a", "block", "j", "letter"] ["thing"] (defScope t_rule_fault) := ⟨rfl, rfl, rfl, by decide +kernel, rfl, by decide +kernel, by decide +kernel⟩
theorem ok_rule_fault (T : TX K mg f fd) : FnG P w K mg base 4 (f 17) (fd 17) ["thing"] (spD K 1 F_rule_fault) := fn_bodyG (k := 3) (N := ["thing", "a", "block", "j", "letter"]) T.d17 sc_rule_fault rfl fun cdv A outer s H E hr => by
  have nd := sc_rule_fault.nd
  exact (ss_cons (s_if (b_not (b_val (d_fn (ok_is_full T) (hr.mono (by decide)) T.g14 T.d14.kp T.b14 (a_d (d_var 0) a_nil)))) (ss_one (s_ret (d_tup (a_d d_str (a_d (d_neg' d_int) a_nil))))) ss_nil) (ss_cons (s_for PassesOwn.never rfl (i_enT T.m_enumerate (a_d (d_var 0) a_nil)) (g_tup rfl (gs_cons (g_nm 1 nd) (gs_cons (g_nm 2 nd) gs_nil))) (ss_cons (s_if (b_not (b_val (d_fn (ok_is_full T) (hr.mono (by decide)) T.g14 T.d14.kp T.b14 (a_d (d_var 2) a_nil)))) (ss_one (s_ret (d_tup (a_d d_str (a_d (d_var 1) a_nil))))) ss_nil) (ss_one (s_for PassesOwn.never rfl (i_enT T.m_enumerate (a_d (d_var 2) a_nil)) (g_tup rfl (gs_cons (g_nm 3 nd) (gs_cons (g_nm 4 nd) gs_nil))) (ss_one (s_if (b_not (b_val (d_fn (ok_is_below T) (hr.mono (by decide)) T.g12 T.d12.kp T.b12 (a_d (d_var 4) (a_d (d_callB call_len_seq callD_len T.m_len (a_d (d_var 0) a_nil)) a_nil))))) (ss_one (s_ret (d_tup (a_d d_str (a_d (d_tup (a_d (d_var 1) (a_d (d_var 3) a_nil))) a_nil))))) ss_nil)))))) (ss_one (s_ret d_non))))
def g_is_rule : En → M Fl := (sRet (cBin gIsN (cFn (argN 1 F_rule_fault) (aD (getD 0) aNil)) (cD .none)))
def F_is_rule : Fn := runB 1 g_is_rule
theorem sc_is_rule : FnScope ["thing"] ["thing"] (defScope t_is_rule) := ⟨rfl, rfl, rfl, by decide +kernel, rfl, by decide +kernel, by decide +kernel⟩
theorem ok_is_rule (T : TX K mg f fd) : FnG P w K mg base 5 (f 11) (fd 11) ["thing"] (spD K 1 F_is_rule) := fn_bodyG (k := 4) (N := ["thing"]) T.d11 sc_is_rule rfl fun cdv A outer s H E hr => by
  have nd := sc_is_rule.nd
  exact (ss_one (s_ret (d_isN (d_fn (ok_rule_fault T) (hr.mono (by decide)) T.g17 T.d17.kp T.b17 (a_d (d_var 0) a_nil)) d_non)))
def g_are_below : En → M Fl := (sRet (cAnd (cIsi "tuple" (getD 0)) (cCall gAll (aD (cLc (fun ρ => (getD 0) ρ >>= asT) [2] (bNm 2) yes (cFn (argN 2 F_is_below) (aD (getD 2) (aD (getD 1) aNil)))) aNil))))
def F_are_below : Fn := runB 3 g_are_below
theorem sc_are_below : FnScope ["thing", "many", "part"] ["thing", "many"] (defScope t_are_below) := ⟨rfl, rfl, rfl, by decide +kernel, rfl, by decide +kernel, by decide +kernel⟩
theorem ok_are_below (T : TX K mg f fd) : FnG P w K mg base 4 (f 13) (fd 13) ["thing", "many"] (spD K 2 F_are_below) := fn_bodyG (k := 3) (N := ["thing", "many", "part"]) T.d13 sc_are_below rfl fun cdv A outer s H E hr => by
  have nd := sc_are_below.nd
  exact (ss_one (s_ret (d_and (d_isi T.m_isinstance T.m_tuple (d_var 0)) (d_one (d_callB (cr_all rfl) callD_all T.m_all (a_d (d_lc (own := [(Str.ofString "part", 2)]) rfl nd (i_tup (d_var 0)) (blkOk_by (by first | decide +kernel | rfl)) (fun _ _ _ _ _ => (g_nm 2 nd)) (fun _ _ _ _ _ => t_nil) (fun _ _ _ _ _ => (d_fn (ok_is_below T) (hr.mono (by decide)) T.g12 T.d12.kp T.b12 (a_d (d_var 2) (a_d (d_var 1) a_nil))))) a_nil))))))
def g_is_long : En → M Fl := (sRet (cAnd (cIsi "tuple" (getD 0)) (cBin gEq (cCall gLen (aD (getD 0) aNil)) (getD 1))))
def F_is_long : Fn := runB 2 g_is_long
theorem sc_is_long : FnScope ["thing", "length"] ["thing", "length"] (defScope t_is_long) := ⟨rfl, rfl, rfl, by decide +kernel, rfl, by decide +kernel, by decide +kernel⟩
theorem ok_is_long (T : TX K mg f fd) : FnG P w K mg base 1 (f 15) (fd 15) ["thing", "length"] (spD K 2 F_is_long) := fn_bodyG (k := 0) (N := ["thing", "length"]) T.d15 sc_is_long rfl fun cdv A outer s H E hr => by
  have nd := sc_is_long.nd
  exact (ss_one (s_ret (d_and (d_isi T.m_isinstance T.m_tuple (d_var 0)) (d_one (d_eq (d_callB call_len_seq callD_len T.m_len (a_d (d_var 0) a_nil)) (d_var 1))))))
def g_is_order : En → M Fl := (sRet (cAnd (cFn (argN 2 F_is_long) (aD (getD 0) (aD (getD 1) aNil))) (cAnd (cFn (argN 2 F_are_below) (aD (getD 0) (aD (getD 1) aNil))) (cBin gEq (cUn gLenSet (getD 0)) (getD 1)))))
def F_is_order : Fn := runB 2 g_is_order
theorem sc_is_order : FnScope ["thing", "many"] ["thing", "many"] (defScope t_is_order) := ⟨rfl, rfl, rfl, by decide +kernel, rfl, by decide +kernel, by decide +kernel⟩
theorem ok_is_order (T : TX K mg f fd) : FnG P w K mg base 5 (f 16) (fd 16) ["thing", "many"] (spD K 2 F_is_order) := fn_bodyG (k := 4) (N := ["thing", "many"]) T.d16 sc_is_order rfl fun cdv A outer s H E hr => by
  have nd := sc_is_order.nd
  exact (ss_one (s_ret (d_and (d_fn (ok_is_long T) (hr.mono (by decide)) T.g15 T.d15.kp T.b15 (a_d (d_var 0) (a_d (d_var 1) a_nil))) (d_and (d_fn (ok_are_below T) (hr.mono (by decide)) T.g13 T.d13.kp T.b13 (a_d (d_var 0) (a_d (d_var 1) a_nil))) (d_one (d_eq (d_lenSet rfl T.m_len T.m_set (d_var 0)) (d_var 1)))))))
def g_letters_of : En → M Fl := (sSeq (sExpr (cFn (argN 2 F_need) (aD (cFn (argN 1 F_is_rule) (aD (getD 0) aNil)) (aD (cD (.str (Str.ofString "rule"))) aNil)))) (sRet (cCall gLen (aD (getD 0) aNil))))
def F_letters_of : Fn := runB 1 g_letters_of
theorem sc_letters_of : FnScope ["rule"] ["rule"] (defScope t_letters_of) := ⟨rfl, rfl, rfl, by decide +kernel, rfl, by decide +kernel, by decide +kernel⟩
theorem ok_letters_of (T : TX K mg f fd) : FnG P w K mg base 6 (f 19) (fd 19) ["rule"] (spD K 1 F_letters_of) := fn_bodyG (k := 5) (N := ["rule"]) T.d19 sc_letters_of rfl fun cdv A outer s H E hr => by
  have nd := sc_letters_of.nd
  exact (ss_cons (s_expr (d_fn (ok_need T) (hr.mono (by decide)) T.g5 T.d5.kp T.b5 (a_d (d_fn (ok_is_rule T) (hr.mono (by decide)) T.g11 T.d11.kp T.b11 (a_d (d_var 0) a_nil)) (a_d d_str a_nil)))) (ss_one (s_ret (d_callB call_len_seq callD_len T.m_len (a_d (d_var 0) a_nil)))))
def g_becomes : En → M Fl := (sSeq (sExpr (cFn (argN 2 F_need) (aD (cFn (argN 1 F_is_rule) (aD (getD 0) aNil)) (aD (cD (.str (Str.ofString "rule"))) aNil)))) (sSeq (sExpr (cFn (argN 2 F_need) (aD (cFn (argN 2 F_are_below) (aD (getD 1) (aD (cCall gLen (aD (getD 0) aNil)) aNil))) (aD (cD (.str (Str.ofString "word"))) aNil)))) (sRet (cFn (argN 2 F_spread) (aD (getD 0) (aD (getD 1) aNil))))))
def F_becomes : Fn := runB 2 g_becomes
theorem sc_becomes : FnScope ["rule", "word"] ["rule", "word"] (defScope t_becomes) := ⟨rfl, rfl, rfl, by decide +kernel, rfl, by decide +kernel, by decide +kernel⟩
theorem ok_becomes (T : TX K mg f fd) : FnG P w K mg base 6 (f 20) (fd 20) ["rule", "word"] (spD K 2 F_becomes) := fn_bodyG (k := 5) (N := ["rule", "word"]) T.d20 sc_becomes rfl fun cdv A outer s H E hr => by
  have nd := sc_becomes.nd
  exact (ss_cons (s_expr (d_fn (ok_need T) (hr.mono (by decide)) T.g5 T.d5.kp T.b5 (a_d (d_fn (ok_is_rule T) (hr.mono (by decide)) T.g11 T.d11.kp T.b11 (a_d (d_var 0) a_nil)) (a_d d_str a_nil)))) (ss_cons (s_expr (d_fn (ok_need T) (hr.mono (by decide)) T.g5 T.d5.kp T.b5 (a_d (d_fn (ok_are_below T) (hr.mono (by decide)) T.g13 T.d13.kp T.b13 (a_d (d_var 1) (a_d (d_callB call_len_seq callD_len T.m_len (a_d (d_var 0) a_nil)) a_nil))) (a_d d_str a_nil)))) (ss_one (s_ret (d_fn (ok_spread T) (hr.mono (by decide)) T.g6 T.d6.kp T.b6 (a_d (d_var 0) (a_d (d_var 1) a_nil)))))))
def g_turned : En → M Fl := (sSeq (sExpr (cFn (argN 2 F_need) (aD (cFn (argN 1 F_is_rule) (aD (getD 0) aNil)) (aD (cD (.str (Str.ofString "rule"))) aNil)))) (sRet (cCall gTupOf (aD (cLc (fun ρ => (getD 0) ρ >>= asT) [1] (bNm 1) yes (cUn gRevT (getD 1))) aNil))))
def F_turned : Fn := runB 2 g_turned
theorem sc_turned : FnScope ["rule", "block"] ["rule"] (defScope t_turned) := ⟨rfl, rfl, rfl, by decide +kernel, rfl, by decide +kernel, by decide +kernel⟩
theorem ok_turned (T : TX K mg f fd) : FnG P w K mg base 6 (f 21) (fd 21) ["rule"] (spD K 1 F_turned) := fn_bodyG (k := 5) (N := ["rule", "block"]) T.d21 sc_turned rfl fun cdv A outer s H E hr => by
  have nd := sc_turned.nd
  exact (ss_cons (s_expr (d_fn (ok_need T) (hr.mono (by decide)) T.g5 T.d5.kp T.b5 (a_d (d_fn (ok_is_rule T) (hr.mono (by decide)) T.g11 T.d11.kp T.b11 (a_d (d_var 0) a_nil)) (a_d d_str a_nil)))) (ss_one (s_ret (d_callTy call_tupF callD_tupOf T.m_tuple (a_d (d_lc (own := [(Str.ofString "block", 1)]) rfl nd (i_tup (d_var 0)) (blkOk_by (by first | decide +kernel | rfl)) (fun _ _ _ _ _ => (g_nm 1 nd)) (fun _ _ _ _ _ => t_nil) (fun _ _ _ _ _ => (d_revT (d_var 1)))) a_nil)))))
def g_power : En → M Fl := (sSeq (sExpr (cFn (argN 2 F_need) (aD (cFn (argN 1 F_is_rule) (aD (getD 0) aNil)) (aD (cD (.str (Str.ofString "rule"))) aNil)))) (sSeq (sExpr (cFn (argN 2 F_need) (aD (cAnd (cFn (argN 1 F_is_integer) (aD (getD 1) aNil)) (cBin gGe (getD 1) (cD (.int 1)))) (aD (cD (.str (Str.ofString "n"))) aNil)))) (sSeq (sAsg (getD 0) (bNm 2)) (sSeq (sFor (fun ρ => (aD (cBin gSub (cUn gBits (getD 1)) (cD (.int 2))) (aD (cUn gNeg (cD (.int 1))) (aD (cUn gNeg (cD (.int 1))) aNil))) ρ >>= rg3) (bNm 3) (sSeq (sAsg (cFn (argN 2 F_next_blocks) (aD (getD 2) (aD (getD 2) aNil))) (bNm 2)) (sIf (cB (cBin gEq (cBin gAnd (cBin gShr (getD 1) (getD 3)) (cD (.int 1))) (cD (.int 1)))) (sAsg (cFn (argN 2 F_next_blocks) (aD (getD 0) (aD (getD 2) aNil))) (bNm 2)) sNil))) (sRet (getD 2))))))
def F_power : Fn := runB 4 g_power
theorem sc_power : FnScope ["rule", "n", "blocks", "digit"] ["rule", "n"] (defScope t_power) := ⟨rfl, rfl, rfl, by decide +kernel, rfl, by decide +kernel, by decide +kernel⟩
theorem ok_power (T : TX K mg f fd) : FnG P w K mg base 6 (f 22) (fd 22) ["rule", "n"] (spD K 2 F_power) := fn_bodyG (k := 5) (N := ["rule", "n", "blocks", "digit"]) T.d22 sc_power rfl fun cdv A outer s H E hr => by
  have nd := sc_power.nd
  exact (ss_cons (s_expr (d_fn (ok_need T) (hr.mono (by decide)) T.g5 T.d5.kp T.b5 (a_d (d_fn (ok_is_rule T) (hr.mono (by decide)) T.g11 T.d11.kp T.b11 (a_d (d_var 0) a_nil)) (a_d d_str a_nil)))) (ss_cons (s_expr (d_fn (ok_need T) (hr.mono (by decide)) T.g5 T.d5.kp T.b5 (a_d (d_and (d_fn (ok_is_integer T) (hr.mono (by decide)) T.g9 T.d9.kp T.b9 (a_d (d_var 1) a_nil)) (d_one (d_ge (d_var 1) d_int))) (a_d d_str a_nil)))) (ss_cons (s_asg (d_var 0) (g_nm 2 nd)) (ss_cons (s_for PassesOwn.never rfl (i_rg3 T.m_range (a_d (d_sub (d_bits (d_var 1)) d_int) (a_d (d_neg' d_int) (a_d (d_neg' d_int) a_nil)))) (g_nm 3 nd) (ss_cons (s_asg (d_fn (ok_next_blocks T) (hr.mono (by decide)) T.g7 T.d7.kp T.b7 (a_d (d_var 2) (a_d (d_var 2) a_nil))) (g_nm 2 nd)) (ss_one (s_if (c_eq (d_band (d_shr (d_var 1) (d_var 3)) d_int) d_int) (ss_one (s_asg (d_fn (ok_next_blocks T) (hr.mono (by decide)) T.g7 T.d7.kp T.b7 (a_d (d_var 0) (a_d (d_var 2) a_nil))) (g_nm 2 nd))) ss_nil)))) (ss_one (s_ret (d_var 2)))))))
def g_renamed : En → M Fl := (sSeq (sExpr (cFn (argN 2 F_need) (aD (cFn (argN 1 F_is_rule) (aD (getD 0) aNil)) (aD (cD (.str (Str.ofString "rule"))) aNil)))) (sSeq (sExpr (cFn (argN 2 F_need) (aD (cFn (argN 2 F_is_order) (aD (getD 1) (aD (cCall gLen (aD (getD 0) aNil)) aNil))) (aD (cD (.str (Str.ofString "names"))) aNil)))) (sRet (cCall gTupOf (aD (cLc (fun ρ => (aD (cCall gLen (aD (getD 0) aNil)) aNil) ρ >>= rg1) [2] (bNm 2) yes (cCall gTupOf (aD (cLc (fun ρ => (cBin gIx (getD 0) (cBin gIndex (getD 1) (getD 2))) ρ >>= asT) [3] (bNm 3) yes (cBin gIx (getD 1) (getD 3))) aNil))) aNil)))))
def F_renamed : Fn := runB 4 g_renamed
theorem sc_renamed : FnScope ["rule", "names", "name", "b"] ["rule", "names"] (defScope t_renamed) := ⟨rfl, rfl, rfl, by decide +kernel, rfl, by decide +kernel, by decide +kernel⟩
theorem ok_renamed (T : TX K mg f fd) : FnG P w K mg base 6 (f 23) (fd 23) ["rule", "names"] (spD K 2 F_renamed) := fn_bodyG (k := 5) (N := ["rule", "names", "name", "b"]) T.d23 sc_renamed rfl fun cdv A outer s H E hr => by
  have nd := sc_renamed.nd
  exact (ss_cons (s_expr (d_fn (ok_need T) (hr.mono (by decide)) T.g5 T.d5.kp T.b5 (a_d (d_fn (ok_is_rule T) (hr.mono (by decide)) T.g11 T.d11.kp T.b11 (a_d (d_var 0) a_nil)) (a_d d_str a_nil)))) (ss_cons (s_expr (d_fn (ok_need T) (hr.mono (by decide)) T.g5 T.d5.kp T.b5 (a_d (d_fn (ok_is_order T) (hr.mono (by decide)) T.g16 T.d16.kp T.b16 (a_d (d_var 1) (a_d (d_callB call_len_seq callD_len T.m_len (a_d (d_var 0) a_nil)) a_nil))) (a_d d_str a_nil)))) (ss_one (s_ret (d_callTy call_tupF callD_tupOf T.m_tuple (a_d (d_lc (own := [(Str.ofString "name", 2)]) rfl nd (i_rg1 T.m_range (a_d (d_callB call_len_seq callD_len T.m_len (a_d (d_var 0) a_nil)) a_nil)) (blkOk_by (by first | decide +kernel | rfl)) (fun _ _ _ _ _ => (g_nm 2 nd)) (fun _ _ _ _ _ => t_nil) (fun _ _ _ _ _ => (d_callTy call_tupF callD_tupOf T.m_tuple (a_d (d_lc (own := [(Str.ofString "b", 3)]) rfl nd (i_tup (d_at (d_var 0) (d_index (d_var 1) (d_var 2)))) (blkOk_by (by first | decide +kernel | rfl)) (fun _ _ _ _ _ => (g_nm 3 nd)) (fun _ _ _ _ _ => t_nil) (fun _ _ _ _ _ => (d_at (d_var 1) (d_var 3)))) a_nil)))) a_nil))))))
-- _law_feed: by hand
def g__law_draw : En → M Fl := (sSeq (sFput 0 .turn (cBin gAdd (cFget 0 .turn) (cD (.int 1)))) (sSeq (sIf (cB (cBin gGt (cFget 0 .rest) (cD (.int 0)))) (sSeq (sAsg (cBin gMod (cUn gInt (cFget 0 .rest)) (getD 1)) (bNm 4)) (sSeq (sFput 0 .rest (cBin gDiv (cFget 0 .rest) (getD 1))) (sRet (getD 4)))) sNil) (sSeq (sPar 5 6 (aD (cFget 0 .cells) (aD (cFget 0 .place) aNil))) (sSeq (sFput 0 .place (cBin gAdd (getD 6) (cD (.int 1)))) (sSeq (sAsg (cIf (cB (cBin gNeD (getD 5) (cLst aNil))) (cBin gIx (getD 5) (cBin gMod (cUn gInt (getD 6)) (cCall gLen (aD (getD 5) aNil)))) (cD (.int 764908))) (bNm 2)) (sSeq (sIf (cAndB (cB (cBin gGe (getD 2) (cBin gPow (cD (.int 10)) (cD (.int 18))))) (cB (cBin gLt (getD 6) (cCall gLen (aD (getD 5) aNil))))) (sSeq (sFput 0 .rest (cBin gDiv (getD 2) (getD 1))) (sRet (cBin gMod (cUn gInt (getD 2)) (getD 1)))) sNil) (sSeq (sAsg (cBin gMod (cUn gInt (cBin gAdd (cBin gAdd (cBin gMod (cUn gInt (getD 2)) (cD (.int 1000031747))) (cBin gMul (cD (.int 183596)) (cFget 0 .turn))) (cD (.int 8052)))) (cD (.int 2147482921))) (bNm 3)) (sSeq (sAsg (cBin gMod (cUn gInt (cBin gAdd (cBin gAdd (cBin gMul (getD 3) (getD 3)) (cBin gMul (cD (.int 9420606)) (cFget 0 .turn))) (cD (.int 10896)))) (cD (.int 2147482873))) (bNm 3)) (sRet (cBin gMod (cUn gInt (cBin gDiv (cBin gMod (cUn gInt (cBin gAdd (cBin gMul (getD 3) (getD 3)) (cBin gMul (cD (.int 11449)) (getD 3)))) (cD (.int 2147482867))) (cD (.int 32)))) (getD 1)))))))))))
def F__law_draw : Fn := runB 7 g__law_draw
theorem sc__law_draw : FnScope ["_law_feed_here", "_law_limit", "_law_cell", "_law_blend", "_law_digit", "_law_cells", "_law_place"] ["_law_feed_here", "_law_limit"] (defScope t__law_draw) := ⟨rfl, rfl, rfl, by decide +kernel, rfl, by decide +kernel, by decide +kernel⟩
theorem ok__law_draw (T : TX K mg f fd) : FnG P w K mg base 1 (f 26) (fd 26) ["_law_feed_here", "_law_limit"] (spD K 2 F__law_draw) := fn_bodyG (k := 0) (N := ["_law_feed_here", "_law_limit", "_law_cell", "_law_blend", "_law_digit", "_law_cells", "_law_place"]) T.d26 sc__law_draw rfl fun cdv A outer s H E hr => by
  have nd := sc__law_draw.nd
  exact (ss_cons (s_fput .turn 0 hr (d_add (d_fget .turn 0 hr) d_int)) (ss_cons (s_if (c_gt (d_fget .rest 0 hr) d_int) (ss_cons (s_asg (d_mod (d_intOf T.m_int (d_fget .rest 0 hr)) (d_var 1)) (g_nm 4 nd)) (ss_cons (s_fput .rest 0 hr (d_div (d_fget .rest 0 hr) (d_var 1))) (ss_one (s_ret (d_var 4))))) ss_nil) (ss_cons (s_par (i := 5) (j := 6) rfl nd (a_d (d_fget .cells 0 hr) (a_d (d_fget .place 0 hr) a_nil))) (ss_cons (s_fput .place 0 hr (d_add (d_var 6) d_int)) (ss_cons (s_asg (d_if (c_neD hr (d_var 5) (d_lst a_nil)) (d_at (d_var 5) (d_mod (d_intOf T.m_int (d_var 6)) (d_callB call_len_seq callD_len T.m_len (a_d (d_var 5) a_nil)))) d_int) (g_nm 2 nd)) (ss_cons (s_if (b_w (w_and (c_ge (d_var 2) (d_pow d_int d_int)) (w_and1 (c_lt (d_var 6) (d_callB call_len_seq callD_len T.m_len (a_d (d_var 5) a_nil)))))) (ss_cons (s_fput .rest 0 hr (d_div (d_var 2) (d_var 1))) (ss_one (s_ret (d_mod (d_intOf T.m_int (d_var 2)) (d_var 1))))) ss_nil) (ss_cons (s_asg (d_mod (d_intOf T.m_int (d_add (d_add (d_mod (d_intOf T.m_int (d_var 2)) d_int) (d_mul d_int (d_fget .turn 0 hr))) d_int)) d_int) (g_nm 3 nd)) (ss_cons (s_asg (d_mod (d_intOf T.m_int (d_add (d_add (d_mul (d_var 3) (d_var 3)) (d_mul d_int (d_fget .turn 0 hr))) d_int)) d_int) (g_nm 3 nd)) (ss_one (s_ret (d_mod (d_intOf T.m_int (d_div (d_mod (d_intOf T.m_int (d_add (d_mul (d_var 3) (d_var 3)) (d_mul d_int (d_var 3)))) d_int) d_int)) (d_var 1))))))))))))
def g__law_same : En → M Fl := (sRet (cBin gEq (cUn gRepr (getD 0)) (cUn gRepr (getD 1))))
def F__law_same : Fn := runB 2 g__law_same
theorem sc__law_same : FnScope ["_law_told", "_law_due"] ["_law_told", "_law_due"] (defScope t__law_same) := ⟨rfl, rfl, rfl, by decide +kernel, rfl, by decide +kernel, by decide +kernel⟩
theorem ok__law_same (T : TX K mg f fd) : FnG P w K mg base 1 (f 27) (fd 27) ["_law_told", "_law_due"] (spD K 2 F__law_same) := fn_bodyG (k := 0) (N := ["_law_told", "_law_due"]) T.d27 sc__law_same rfl fun cdv A outer s H E hr => by
  have nd := sc__law_same.nd
  exact (ss_one (s_ret (d_eq (d_repr hr T.m_repr (d_var 0)) (d_repr hr T.m_repr (d_var 1)))))
def g__law_grow : En → M Fl := (sSeq (sAsg (cTup (aD (cBin gAdd (cD (.int 1)) (cFn (argN 2 F__law_draw) (aF 0 (aD (getD 1) aNil)))) (aD (cFn (argN 2 F__law_draw) (aF 0 (aD (cD (.int 8)) aNil))) aNil))) (bTup 2 (bsCons (bNm 3) (bsCons (bNm 4) bsNil)))) (sSeq (sAsg (cLc (fun ρ => (aD (getD 3) aNil) ρ >>= rg1) [5] (bNm 5) yes (cBin gAdd (cD (.int 1)) (cIf (cB (cBin gGt (getD 4) (cD (.int 1)))) (cFn (argN 2 F__law_draw) (aF 0 (aD (cD (.int 3)) aNil))) (getD 4)))) (bNm 2)) (sRet (cCall gTupOf (aD (cLc (fun ρ => (getD 2) ρ >>= asL) [6] (bNm 6) yes (cCall gTupOf (aD (cLc (fun ρ => (aD (getD 6) aNil) ρ >>= rg1) [7] (bNm 7) yes (cFn (argN 2 F__law_draw) (aF 0 (aD (getD 3) aNil)))) aNil))) aNil)))))
def F__law_grow : Fn := runB 8 g__law_grow
theorem sc__law_grow : FnScope ["_law_feed_here", "_law_most", "_law_sizes", "_law_many", "_law_even", "_law_a", "_law_size", "_law_j"] ["_law_feed_here", "_law_most"] (defScope t__law_grow) := ⟨rfl, rfl, rfl, by decide +kernel, rfl, by decide +kernel, by decide +kernel⟩
theorem ok__law_grow (T : TX K mg f fd) : FnG P w K mg base 2 (f 28) (fd 28) ["_law_feed_here", "_law_most"] (spD K 2 F__law_grow) := fn_bodyG (k := 1) (N := ["_law_feed_here", "_law_most", "_law_sizes", "_law_many", "_law_even", "_law_a", "_law_size", "_law_j"]) T.d28 sc__law_grow rfl fun cdv A outer s H E hr => by
  have nd := sc__law_grow.nd
  exact (ss_cons (s_asg (d_tup (a_d (d_add d_int (d_fn (ok__law_draw T) (hr.mono (by decide)) T.g26 T.d26.kp T.b26 (a_f 0 (a_d (d_var 1) a_nil)))) (a_d (d_fn (ok__law_draw T) (hr.mono (by decide)) T.g26 T.d26.kp T.b26 (a_f 0 (a_d d_int a_nil))) a_nil))) (g_tup rfl (gs_cons (g_nm 3 nd) (gs_cons (g_nm 4 nd) gs_nil)))) (ss_cons (s_lc (i := 2) (own := [(Str.ofString "_law_a", 5)]) rfl nd (i_rg1 T.m_range (a_d (d_var 3) a_nil)) (blkOk_by (by first | decide +kernel | rfl)) (fun _ _ _ _ _ => (g_nm 5 nd)) (fun _ _ _ _ _ => t_nil) (fun _ _ _ _ _ => (d_add d_int (d_if (c_gt (d_var 4) d_int) (d_fn (ok__law_draw T) (hr.mono (by decide)) T.g26 T.d26.kp T.b26 (a_f 0 (a_d d_int a_nil))) (d_var 4)))) (hsw := sw_true rfl rfl rfl (by decide +kernel))) (ss_one (s_ret (d_callTy call_tupF callD_tupOf T.m_tuple (a_d (d_lc (own := [(Str.ofString "_law_size", 6)]) rfl nd (i_list (d_var 2)) (blkOk_by (by first | decide +kernel | rfl)) (fun _ _ _ _ _ => (g_nm 6 nd)) (fun _ _ _ _ _ => t_nil) (fun _ _ _ _ _ => (d_callTy call_tupF callD_tupOf T.m_tuple (a_d (d_lc (own := [(Str.ofString "_law_j", 7)]) rfl nd (i_rg1 T.m_range (a_d (d_var 6) a_nil)) (blkOk_by (by first | decide +kernel | rfl)) (fun _ _ _ _ _ => (g_nm 7 nd)) (fun _ _ _ _ _ => t_nil) (fun _ _ _ _ _ => (d_fn (ok__law_draw T) (hr.mono (by decide)) T.g26 T.d26.kp T.b26 (a_f 0 (a_d (d_var 3) a_nil))))) a_nil)))) a_nil))))))
def g__law_row : En → M Fl := (sRet (cCall gTupOf (aD (cLc (fun ρ => (aD (cFn (argN 2 F__law_draw) (aF 0 (aD (cBin gAdd (getD 2) (cD (.int 1))) aNil))) aNil) ρ >>= rg1) [3] (bNm 3) yes (cFn (argN 2 F__law_draw) (aF 0 (aD (getD 1) aNil)))) aNil)))
def F__law_row : Fn := runB 4 g__law_row
theorem sc__law_row : FnScope ["_law_feed_here", "_law_many", "_law_most", "_law_k"] ["_law_feed_here", "_law_many", "_law_most"] (defScope t__law_row) := ⟨rfl, rfl, rfl, by decide +kernel, rfl, by decide +kernel, by decide +kernel⟩
theorem ok__law_row (T : TX K mg f fd) : FnG P w K mg base 2 (f 29) (fd 29) ["_law_feed_here", "_law_many", "_law_most"] (spD K 3 F__law_row) := fn_bodyG (k := 1) (N := ["_law_feed_here", "_law_many", "_law_most", "_law_k"]) T.d29 sc__law_row rfl fun cdv A outer s H E hr => by
  have nd := sc__law_row.nd
  exact (ss_one (s_ret (d_callTy call_tupF callD_tupOf T.m_tuple (a_d (d_lc (own := [(Str.ofString "_law_k", 3)]) rfl nd (i_rg1 T.m_range (a_d (d_fn (ok__law_draw T) (hr.mono (by decide)) T.g26 T.d26.kp T.b26 (a_f 0 (a_d (d_add (d_var 2) d_int) a_nil))) a_nil)) (blkOk_by (by first | decide +kernel | rfl)) (fun _ _ _ _ _ => (g_nm 3 nd)) (fun _ _ _ _ _ => t_nil) (fun _ _ _ _ _ => (d_fn (ok__law_draw T) (hr.mono (by decide)) T.g26 T.d26.kp T.b26 (a_f 0 (a_d (d_var 1) a_nil))))) a_nil))))
def g__law_becomes : En → M Fl := (sSeq (sOwn 2 (cLst aNil)) (sSeq (sFor (fun ρ => (getD 1) ρ >>= asT) (bNm 3) (sExt 2 (cBin gIx (getD 0) (getD 3)))) (sRet (cTupO 2))))
def F__law_becomes : Fn := runB 4 g__law_becomes
theorem sc__law_becomes : FnScope ["_law_grow_here", "_law_row_here", "_law_found", "_law_a"] ["_law_grow_here", "_law_row_here"] (defScope t__law_becomes) := ⟨rfl, rfl, rfl, by decide +kernel, rfl, by decide +kernel, by decide +kernel⟩
theorem ok__law_becomes (T : TX K mg f fd) : FnG P w K mg base 1 (f 30) (fd 30) ["_law_grow_here", "_law_row_here"] (spD K 2 F__law_becomes) := fn_bodyG (k := 0) (N := ["_law_grow_here", "_law_row_here", "_law_found", "_law_a"]) T.d30 sc__law_becomes rfl fun cdv A outer s H E hr => by
  have nd := sc__law_becomes.nd
  exact (ss_cons (s_ownLst 2 nd a_nil) (ss_cons (s_for PassesOwn.never rfl (i_tup (d_var 1)) (g_nm 3 nd) (ss_one (s_ext 2 (d_at (d_var 0) (d_var 3))))) (ss_one (s_ret (d_tupO 2 T.m_tuple)))))
def g__law_turned_about : En → M Fl := (sSeq (sOwnPar 3 4 (getD 1)) (sSeq (sFor (fun ρ => (aD (getD 1) aNil) ρ >>= rg1) (bNm 2) (sAppPop 4 3 (cFn (argN 2 F__law_draw) (aF 0 (aD (cLenO 3) aNil))))) (sRet (cTupO 4))))
def F__law_turned_about : Fn := runB 5 g__law_turned_about
theorem sc__law_turned_about : FnScope ["_law_feed_here", "_law_many", "_law_lap", "_law_left", "_law_found"] ["_law_feed_here", "_law_many"] (defScope t__law_turned_about) := ⟨rfl, rfl, rfl, by decide +kernel, rfl, by decide +kernel, by decide +kernel⟩
theorem ok__law_turned_about (T : TX K mg f fd) : FnG P w K mg base 2 (f 31) (fd 31) ["_law_feed_here", "_law_many"] (spD K 2 F__law_turned_about) := fn_bodyG (k := 1) (N := ["_law_feed_here", "_law_many", "_law_lap", "_law_left", "_law_found"]) T.d31 sc__law_turned_about rfl fun cdv A outer s H E hr => by
  have nd := sc__law_turned_about.nd
  exact (ss_cons (s_ownPar (i := 3) (j := 4) rfl nd T.m_list T.m_range (d_var 1)) (ss_cons (s_for PassesOwn.never rfl (i_rg1 T.m_range (a_d (d_var 1) a_nil)) (g_nm 2 nd) (ss_one (s_appPop 4 3 (by decide) (d_fn (ok__law_draw T) (hr.mono (by decide)) T.g26 T.d26.kp T.b26 (a_f 0 (a_d (d_lenO 3 T.m_len) a_nil)))))) (ss_one (s_ret (d_tupO 4 T.m_tuple)))))
def g__law_level : En → M Fl := (sSeq (sAsg (getD 0) (bNm 2)) (sSeq (sFor (fun ρ => (aD (cBin gSub (getD 1) (cD (.int 1))) aNil) ρ >>= rg1) (bNm 3) (sSeq (sIf (cB (cBin gGt (cCall gSum (aD (cLc (fun ρ => (getD 2) ρ >>= asT) [4] (bNm 4) yes (cCall gLen (aD (getD 4) aNil))) aNil)) (cD (.int 500)))) (sRet (cD .none)) sNil) (sAsg (cCall gTupOf (aD (cLc (fun ρ => (getD 2) ρ >>= asT) [4] (bNm 4) yes (cFn (argN 2 F__law_becomes) (aD (getD 0) (aD (getD 4) aNil)))) aNil)) (bNm 2)))) (sRet (cIf (cB (cBin gLe (cCall gSum (aD (cLc (fun ρ => (getD 2) ρ >>= asT) [4] (bNm 4) yes (cCall gLen (aD (getD 4) aNil))) aNil)) (cD (.int 2000)))) (getD 2) (cD .none)))))
def F__law_level : Fn := runB 5 g__law_level
theorem sc__law_level : FnScope ["_law_grow_here", "_law_far", "_law_found", "_law_lap", "_law_one"] ["_law_grow_here", "_law_far"] (defScope t__law_level) := ⟨rfl, rfl, rfl, by decide +kernel, rfl, by decide +kernel, by decide +kernel⟩
theorem ok__law_level (T : TX K mg f fd) : FnG P w K mg base 2 (f 32) (fd 32) ["_law_grow_here", "_law_far"] (spD K 2 F__law_level) := fn_bodyG (k := 1) (N := ["_law_grow_here", "_law_far", "_law_found", "_law_lap", "_law_one"]) T.d32 sc__law_level rfl fun cdv A outer s H E hr => by
  have nd := sc__law_level.nd
  exact (ss_cons (s_asg (d_var 0) (g_nm 2 nd)) (ss_cons (s_for PassesOwn.never rfl (i_rg1 T.m_range (a_d (d_sub (d_var 1) d_int) a_nil)) (g_nm 3 nd) (ss_cons (s_if (c_gt (d_callB (cr_sum rfl) callD_sum T.m_sum (a_d (d_lc (own := [(Str.ofString "_law_one", 4)]) rfl nd (i_tup (d_var 2)) (blkOk_by (by first | decide +kernel | rfl)) (fun _ _ _ _ _ => (g_nm 4 nd)) (fun _ _ _ _ _ => t_nil) (fun _ _ _ _ _ => (d_callB call_len_seq callD_len T.m_len (a_d (d_var 4) a_nil)))) a_nil)) d_int) (ss_one (s_ret d_non)) ss_nil) (ss_one (s_asg (d_callTy call_tupF callD_tupOf T.m_tuple (a_d (d_lc (own := [(Str.ofString "_law_one", 4)]) rfl nd (i_tup (d_var 2)) (blkOk_by (by first | decide +kernel | rfl)) (fun _ _ _ _ _ => (g_nm 4 nd)) (fun _ _ _ _ _ => t_nil) (fun _ _ _ _ _ => (d_fn (ok__law_becomes T) (hr.mono (by decide)) T.g30 T.d30.kp T.b30 (a_d (d_var 0) (a_d (d_var 4) a_nil))))) a_nil)) (g_nm 2 nd))))) (ss_one (s_ret (d_if (c_le (d_callB (cr_sum rfl) callD_sum T.m_sum (a_d (d_lc (own := [(Str.ofString "_law_one", 4)]) rfl nd (i_tup (d_var 2)) (blkOk_by (by first | decide +kernel | rfl)) (fun _ _ _ _ _ => (g_nm 4 nd)) (fun _ _ _ _ _ => t_nil) (fun _ _ _ _ _ => (d_callB call_len_seq callD_len T.m_len (a_d (d_var 4) a_nil)))) a_nil)) d_int) (d_var 2) d_non)))))
def g__law_called : En → M Fl := (sSeq (sOwn 2 (cBin gRep (cLst (aD (cTup aNil) aNil)) (cCall gLen (aD (getD 0) aNil)))) (sSeq (sFor (fun ρ => (aD (cCall gLen (aD (getD 0) aNil)) aNil) ρ >>= rg1) (bNm 3) (sSet 2 (cBin gIx (getD 1) (getD 3)) (cCall gTupOf (aD (cLc (fun ρ => (cBin gIx (getD 0) (getD 3)) ρ >>= asT) [4] (bNm 4) yes (cBin gIx (getD 1) (getD 4))) aNil)))) (sRet (cTupO 2))))
def F__law_called : Fn := runB 5 g__law_called
theorem sc__law_called : FnScope ["_law_grow_here", "_law_calls", "_law_found", "_law_a", "_law_b"] ["_law_grow_here", "_law_calls"] (defScope t__law_called) := ⟨rfl, rfl, rfl, by decide +kernel, rfl, by decide +kernel, by decide +kernel⟩
theorem ok__law_called (T : TX K mg f fd) : FnG P w K mg base 1 (f 33) (fd 33) ["_law_grow_here", "_law_calls"] (spD K 2 F__law_called) := fn_bodyG (k := 0) (N := ["_law_grow_here", "_law_calls", "_law_found", "_law_a", "_law_b"]) T.d33 sc__law_called rfl fun cdv A outer s H E hr => by
  have nd := sc__law_called.nd
  exact (ss_cons (s_ownRep 2 nd (a_d (d_tup a_nil) a_nil) (d_callB call_len_seq callD_len T.m_len (a_d (d_var 0) a_nil))) (ss_cons (s_for PassesOwn.never rfl (i_rg1 T.m_range (a_d (d_callB call_len_seq callD_len T.m_len (a_d (d_var 0) a_nil)) a_nil)) (g_nm 3 nd) (ss_one (s_set 2 (d_callTy call_tupF callD_tupOf T.m_tuple (a_d (d_lc (own := [(Str.ofString "_law_b", 4)]) rfl nd (i_tup (d_at (d_var 0) (d_var 3))) (blkOk_by (by first | decide +kernel | rfl)) (fun _ _ _ _ _ => (g_nm 4 nd)) (fun _ _ _ _ _ => t_nil) (fun _ _ _ _ _ => (d_at (d_var 1) (d_var 4)))) a_nil)) (d_at (d_var 1) (d_var 3))))) (ss_one (s_ret (d_tupO 2 T.m_tuple)))))
def g__law_is_led_round : En → M Fl := (sSeq (sAsg (cBin gAdd (cD (.int 2)) (cFn (argN 2 F__law_draw) (aF 0 (aD (cD (.int 4)) aNil)))) (bNm 1)) (sSeq (sAsg (cCall gTupOf (aD (cLc (fun ρ => (cFn (argN 2 F__law_turned_about) (aF 0 (aD (getD 1) aNil))) ρ >>= asT) [6] (bNm 6) yes (cTup (aD (getD 6) aNil))) aNil)) (bNm 2)) (sSeq (sIf (cB (cBin gEq (cFn (argN 2 F__law_draw) (aF 0 (aD (cD (.int 3)) aNil))) (cD (.int 0)))) (sAsg (cCall gTupOf (aD (cLc (fun ρ => (aD (getD 1) aNil) ρ >>= rg1) [6] (bNm 6) yes (cTup (aD (cFn (argN 2 F__law_draw) (aF 0 (aD (getD 1) aNil))) aNil))) aNil)) (bNm 2)) sNil) (sSeq (sFor (fun ρ => (cLst (aD (cBin gAdd (cD (.int 201)) (cFn (argN 2 F__law_draw) (aF 0 (aD (cD (.int 900)) aNil)))) (aD (cBin gAdd (cD (.int 1)) (cFn (argN 2 F__law_draw) (aF 0 (aD (cD (.int 300)) aNil)))) aNil))) ρ >>= asL) (bNm 3) (sSeq (sAsg (cUn gRgL (getD 1)) (bNm 4)) (sSeq (sFor (fun ρ => (aD (getD 3) aNil) ρ >>= rg1) (bNm 5) (sAsg (cLc (fun ρ => (getD 4) ρ >>= asL) [6] (bNm 6) yes (cBin gIx (cBin gIx (getD 2) (getD 6)) (cD (.int 0)))) (bNm 4))) (sIf (cNotB (cB (cFn (argN 2 F__law_same) (aD (cFn (argN 2 F_power) (aD (getD 2) (aD (getD 3) aNil))) (aD (cCall gTupOf (aD (cLc (fun ρ => (getD 4) ρ >>= asL) [6] (bNm 6) yes (cTup (aD (getD 6) aNil))) aNil)) aNil))))) (sRet (cD (.bool false))) sNil)))) (sRet (cD (.bool true)))))))
def F__law_is_led_round : Fn := runB 7 g__law_is_led_round
theorem sc__law_is_led_round : FnScope ["_law_feed_here", "_law_many", "_law_grow_here", "_law_far", "_law_found", "_law_lap", "_law_a"] ["_law_feed_here"] (defScope t__law_is_led_round) := ⟨rfl, rfl, rfl, by decide +kernel, rfl, by decide +kernel, by decide +kernel⟩
theorem ok__law_is_led_round (T : TX K mg f fd) : FnG P w K mg base 7 (f 34) (fd 34) ["_law_feed_here"] (spD K 1 F__law_is_led_round) := fn_bodyG (k := 6) (N := ["_law_feed_here", "_law_many", "_law_grow_here", "_law_far", "_law_found", "_law_lap", "_law_a"]) T.d34 sc__law_is_led_round rfl fun cdv A outer s H E hr => by
  have nd := sc__law_is_led_round.nd
  exact (ss_cons (s_asg (d_add d_int (d_fn (ok__law_draw T) (hr.mono (by decide)) T.g26 T.d26.kp T.b26 (a_f 0 (a_d d_int a_nil)))) (g_nm 1 nd)) (ss_cons (s_asg (d_callTy call_tupF callD_tupOf T.m_tuple (a_d (d_lc (own := [(Str.ofString "_law_a", 6)]) rfl nd (i_tup (d_fn (ok__law_turned_about T) (hr.mono (by decide)) T.g31 T.d31.kp T.b31 (a_f 0 (a_d (d_var 1) a_nil)))) (blkOk_by (by first | decide +kernel | rfl)) (fun _ _ _ _ _ => (g_nm 6 nd)) (fun _ _ _ _ _ => t_nil) (fun _ _ _ _ _ => (d_tup (a_d (d_var 6) a_nil)))) a_nil)) (g_nm 2 nd)) (ss_cons (s_if (c_eq (d_fn (ok__law_draw T) (hr.mono (by decide)) T.g26 T.d26.kp T.b26 (a_f 0 (a_d d_int a_nil))) d_int) (ss_one (s_asg (d_callTy call_tupF callD_tupOf T.m_tuple (a_d (d_lc (own := [(Str.ofString "_law_a", 6)]) rfl nd (i_rg1 T.m_range (a_d (d_var 1) a_nil)) (blkOk_by (by first | decide +kernel | rfl)) (fun _ _ _ _ _ => (g_nm 6 nd)) (fun _ _ _ _ _ => t_nil) (fun _ _ _ _ _ => (d_tup (a_d (d_fn (ok__law_draw T) (hr.mono (by decide)) T.g26 T.d26.kp T.b26 (a_f 0 (a_d (d_var 1) a_nil))) a_nil)))) a_nil)) (g_nm 2 nd))) ss_nil) (ss_cons (s_for PassesOwn.never rfl (i_list (d_lst (a_d (d_add d_int (d_fn (ok__law_draw T) (hr.mono (by decide)) T.g26 T.d26.kp T.b26 (a_f 0 (a_d d_int a_nil)))) (a_d (d_add d_int (d_fn (ok__law_draw T) (hr.mono (by decide)) T.g26 T.d26.kp T.b26 (a_f 0 (a_d d_int a_nil)))) a_nil)))) (g_nm 3 nd) (ss_cons (s_asg (d_listRg rfl T.m_list T.m_range (d_var 1)) (g_nm 4 nd)) (ss_cons (s_for PassesOwn.never rfl (i_rg1 T.m_range (a_d (d_var 3) a_nil)) (g_nm 5 nd) (ss_one (s_lc (i := 4) (own := [(Str.ofString "_law_a", 6)]) rfl nd (i_list (d_var 4)) (blkOk_by (by first | decide +kernel | rfl)) (fun _ _ _ _ _ => (g_nm 6 nd)) (fun _ _ _ _ _ => t_nil) (fun _ _ _ _ _ => (d_at (d_at (d_var 2) (d_var 6)) d_int)) (hsw := sw_true rfl rfl rfl (by decide +kernel))))) (ss_one (s_if (b_not (b_val (d_fn (ok__law_same T) (hr.mono (by decide)) T.g27 T.d27.kp T.b27 (a_d (d_fn (ok_power T) (hr.mono (by decide)) T.g22 T.d22.kp T.b22 (a_d (d_var 2) (a_d (d_var 3) a_nil))) (a_d (d_callTy call_tupF callD_tupOf T.m_tuple (a_d (d_lc (own := [(Str.ofString "_law_a", 6)]) rfl nd (i_list (d_var 4)) (blkOk_by (by first | decide +kernel | rfl)) (fun _ _ _ _ _ => (g_nm 6 nd)) (fun _ _ _ _ _ => t_nil) (fun _ _ _ _ _ => (d_tup (a_d (d_var 6) a_nil)))) a_nil)) a_nil))))) (ss_one (s_ret d_bl)) ss_nil))))) (ss_one (s_ret d_bl))))))
def g__law_is_powered : En → M Fl := (sSeq (sPar 5 6 (aD (cFn (argN 2 F__law_level) (aD (getD 0) (aD (getD 1) aNil))) (aD (cFn (argN 2 F__law_level) (aD (getD 0) (aD (cBin gMul (getD 1) (getD 2)) aNil))) aNil))) (sSeq (sIf (cOrB (cB (cBin gIsN (getD 5) (cD .none))) (cB (cBin gIsN (getD 6) (cD .none)))) (sRet (cD (.bool true))) sNil) (sSeq (sAsg (cLst (aD (cFn (argN 2 F_power) (aD (getD 0) (aD (getD 1) aNil))) (aD (cKw' F_power 2 2 [1, 0] (aD (getD 1) (aD (getD 0) aNil))) (aD (cFn (argN 2 F_power) (aD (cFn (argN 2 F_power) (aD (getD 0) (aD (getD 1) aNil))) (aD (getD 2) aNil))) (aD (cFn (argN 2 F_power) (aD (getD 0) (aD (cBin gMul (getD 1) (getD 2)) aNil))) aNil))))) (bNm 3)) (sSeq (sAsg (cBin gCat (getD 3) (cLst (aD (cFn (argN 1 F_turned) (aD (cFn (argN 2 F_power) (aD (getD 0) (aD (getD 1) aNil))) aNil)) (aD (cFn (argN 2 F_power) (aD (cFn (argN 1 F_turned) (aD (getD 0) aNil)) (aD (getD 1) aNil))) aNil)))) (bNm 3)) (sSeq (sAsg (cCall gTupOf (aD (cLc (fun ρ => (getD 5) ρ >>= asT) [7] (bNm 7) yes (cUn gRevT (getD 7))) aNil)) (bNm 4)) (sRet (cFn (argN 2 F__law_same) (aD (getD 3) (aD (cLst (aD (getD 5) (aD (getD 5) (aD (getD 6) (aD (getD 6) (aD (getD 4) (aD (getD 4) aNil))))))) aNil)))))))))
def F__law_is_powered : Fn := runB 8 g__law_is_powered
theorem sc__law_is_powered : FnScope ["_law_grow_here", "_law_early", "_law_late", "_law_told", "_law_back", "_law_first", "_law_last", "_law_one"] ["_law_grow_here", "_law_early", "_law_late"] (defScope t__law_is_powered) := ⟨rfl, rfl, rfl, by decide +kernel, rfl, by decide +kernel, by decide +kernel⟩
theorem ok__law_is_powered (T : TX K mg f fd) : FnG P w K mg base 7 (f 35) (fd 35) ["_law_grow_here", "_law_early", "_law_late"] (spD K 3 F__law_is_powered) := fn_bodyG (k := 6) (N := ["_law_grow_here", "_law_early", "_law_late", "_law_told", "_law_back", "_law_first", "_law_last", "_law_one"]) T.d35 sc__law_is_powered rfl fun cdv A outer s H E hr => by
  have nd := sc__law_is_powered.nd
  exact (ss_cons (s_par (i := 5) (j := 6) rfl nd (a_d (d_fn (ok__law_level T) (hr.mono (by decide)) T.g32 T.d32.kp T.b32 (a_d (d_var 0) (a_d (d_var 1) a_nil))) (a_d (d_fn (ok__law_level T) (hr.mono (by decide)) T.g32 T.d32.kp T.b32 (a_d (d_var 0) (a_d (d_mul (d_var 1) (d_var 2)) a_nil))) a_nil))) (ss_cons (s_if (b_w (w_or (c_isN (d_var 5) d_non) (w_or1 (c_isN (d_var 6) d_non)))) (ss_one (s_ret d_bl)) ss_nil) (ss_cons (s_asg (d_lst (a_d (d_fn (ok_power T) (hr.mono (by decide)) T.g22 T.d22.kp T.b22 (a_d (d_var 0) (a_d (d_var 1) a_nil))) (a_d (d_kw (ok_power T) (hr.mono (by decide)) T.g22 T.d22.kp T.k22_n_rule (k_d (d_var 1) (k_d (d_var 0) k_nil))) (a_d (d_fn (ok_power T) (hr.mono (by decide)) T.g22 T.d22.kp T.b22 (a_d (d_fn (ok_power T) (hr.mono (by decide)) T.g22 T.d22.kp T.b22 (a_d (d_var 0) (a_d (d_var 1) a_nil))) (a_d (d_var 2) a_nil))) (a_d (d_fn (ok_power T) (hr.mono (by decide)) T.g22 T.d22.kp T.b22 (a_d (d_var 0) (a_d (d_mul (d_var 1) (d_var 2)) a_nil))) a_nil))))) (g_nm 3 nd)) (ss_cons (s_asg (d_cat (d_var 3) (d_lst (a_d (d_fn (ok_turned T) (hr.mono (by decide)) T.g21 T.d21.kp T.b21 (a_d (d_fn (ok_power T) (hr.mono (by decide)) T.g22 T.d22.kp T.b22 (a_d (d_var 0) (a_d (d_var 1) a_nil))) a_nil)) (a_d (d_fn (ok_power T) (hr.mono (by decide)) T.g22 T.d22.kp T.b22 (a_d (d_fn (ok_turned T) (hr.mono (by decide)) T.g21 T.d21.kp T.b21 (a_d (d_var 0) a_nil)) (a_d (d_var 1) a_nil))) a_nil)))) (g_nm 3 nd)) (ss_cons (s_asg (d_callTy call_tupF callD_tupOf T.m_tuple (a_d (d_lc (own := [(Str.ofString "_law_one", 7)]) rfl nd (i_tup (d_var 5)) (blkOk_by (by first | decide +kernel | rfl)) (fun _ _ _ _ _ => (g_nm 7 nd)) (fun _ _ _ _ _ => t_nil) (fun _ _ _ _ _ => (d_revT (d_var 7)))) a_nil)) (g_nm 4 nd)) (ss_one (s_ret (d_fn (ok__law_same T) (hr.mono (by decide)) T.g27 T.d27.kp T.b27 (a_d (d_var 3) (a_d (d_lst (a_d (d_var 5) (a_d (d_var 5) (a_d (d_var 6) (a_d (d_var 6) (a_d (d_var 4) (a_d (d_var 4) a_nil))))))) a_nil))))))))))
def g__law_is_changed : En → M Fl := (sSeq (sPar 5 6 (aD (cCall gLen (aD (getD 1) aNil)) (aD (cUn gRepr (getD 1)) aNil))) (sSeq (sAsg (cCall gTupOf (aD (cLc (fun ρ => (getD 1) ρ >>= asT) [12] (bNm 12) yes (cUn gRevT (getD 12))) aNil)) (bNm 2)) (sSeq (sAsg (cLst (aD (cFn (argN 1 F_letters_of) (aD (getD 1) aNil)) (aD (cKw' F_letters_of 1 1 [0] (aD (getD 1) aNil)) (aD (cFn (argN 1 F_turned) (aD (getD 1) aNil)) (aD (cKw' F_turned 1 1 [0] (aD (getD 1) aNil)) (aD (cFn (argN 1 F_turned) (aD (cFn (argN 1 F_turned) (aD (getD 1) aNil)) aNil)) (aD (cFn (argN 2 F_power) (aD (getD 1) (aD (cD (.int 1)) aNil))) aNil))))))) (bNm 3)) (sSeq (sIf (cNotB (cB (cFn (argN 2 F__law_same) (aD (getD 3) (aD (cLst (aD (getD 5) (aD (getD 5) (aD (getD 2) (aD (getD 2) (aD (getD 1) (aD (getD 1) aNil))))))) aNil))))) (sRet (cD (.bool false))) sNil) (sSeq (sFor (fun ρ => (aD (cD (.int 3)) aNil) ρ >>= rg1) (bNm 4) (sSeq (sAsg (cFn (argN 3 F__law_row) (aF 0 (aD (getD 5) (aD (cD (.int 7)) aNil)))) (bNm 7)) (sSeq (sAsg (cFn (argN 2 F__law_becomes) (aD (getD 1) (aD (getD 7) aNil))) (bNm 8)) (sSeq (sAsg (cLst (aD (cFn (argN 2 F_becomes) (aD (getD 1) (aD (getD 7) aNil))) (aD (cKw' F_becomes 2 2 [1, 0] (aD (getD 7) (aD (getD 1) aNil))) (aD (cFn (argN 2 F_becomes) (aD (getD 1) (aD (getD 8) aNil))) aNil)))) (bNm 3)) (sSeq (sIf (cNotB (cB (cFn (argN 2 F__law_same) (aD (getD 3) (aD (cLst (aD (getD 8) (aD (getD 8) (aD (cFn (argN 2 F__law_becomes) (aD (getD 1) (aD (getD 8) aNil))) aNil)))) aNil))))) (sRet (cD (.bool false))) sNil) (sSeq (sAsg (cFn (argN 2 F__law_turned_about) (aF 0 (aD (getD 5) aNil))) (bNm 9)) (sSeq (sPar 10 11 (aD (cFn (argN 2 F__law_called) (aD (getD 1) (aD (getD 9) aNil))) (aD (cCall gTupOf (aD (cLc (fun ρ => (aD (getD 5) aNil) ρ >>= rg1) [13] (bNm 13) yes (cBin gIndex (getD 9) (getD 13))) aNil)) aNil))) (sSeq (sAsg (cLst (aD (cFn (argN 2 F_renamed) (aD (getD 1) (aD (getD 9) aNil))) (aD (cKw' F_renamed 2 2 [1, 0] (aD (getD 9) (aD (getD 1) aNil))) (aD (cFn (argN 2 F_renamed) (aD (getD 10) (aD (getD 11) aNil))) aNil)))) (bNm 3)) (sSeq (sIf (cNotB (cB (cFn (argN 2 F__law_same) (aD (getD 3) (aD (cLst (aD (getD 10) (aD (getD 10) (aD (getD 1) aNil)))) aNil))))) (sRet (cD (.bool false))) sNil) (sIf (cNotB (cB (cFn (argN 2 F__law_same) (aD (cFn (argN 2 F_becomes) (aD (getD 10) (aD (cCall gTupOf (aD (cLc (fun ρ => (getD 7) ρ >>= asT) [13] (bNm 13) yes (cBin gIx (getD 9) (getD 13))) aNil)) aNil))) (aD (cCall gTupOf (aD (cLc (fun ρ => (getD 8) ρ >>= asT) [13] (bNm 13) yes (cBin gIx (getD 9) (getD 13))) aNil)) aNil))))) (sRet (cD (.bool false))) sNil)))))))))) (sRet (cBin gEq (cUn gRepr (getD 1)) (getD 6))))))))
def F__law_is_changed : Fn := runB 14 g__law_is_changed
theorem sc__law_is_changed : FnScope ["_law_feed_here", "_law_grow_here", "_law_back", "_law_told", "_law_lap", "_law_many", "_law_kept", "_law_row_here", "_law_due", "_law_calls", "_law_late", "_law_home", "_law_one", "_law_a"] ["_law_feed_here", "_law_grow_here"] (defScope t__law_is_changed) := ⟨rfl, rfl, rfl, by decide +kernel, rfl, by decide +kernel, by decide +kernel⟩
theorem ok__law_is_changed (T : TX K mg f fd) : FnG P w K mg base 7 (f 36) (fd 36) ["_law_feed_here", "_law_grow_here"] (spD K 2 F__law_is_changed) := fn_bodyG (k := 6) (N := ["_law_feed_here", "_law_grow_here", "_law_back", "_law_told", "_law_lap", "_law_many", "_law_kept", "_law_row_here", "_law_due", "_law_calls", "_law_late", "_law_home", "_law_one", "_law_a"]) T.d36 sc__law_is_changed rfl fun cdv A outer s H E hr => by
  have nd := sc__law_is_changed.nd
  exact (ss_cons (s_par (i := 5) (j := 6) rfl nd (a_d (d_callB call_len_seq callD_len T.m_len (a_d (d_var 1) a_nil)) (a_d (d_repr hr T.m_repr (d_var 1)) a_nil))) (ss_cons (s_asg (d_callTy call_tupF callD_tupOf T.m_tuple (a_d (d_lc (own := [(Str.ofString "_law_one", 12)]) rfl nd (i_tup (d_var 1)) (blkOk_by (by first | decide +kernel | rfl)) (fun _ _ _ _ _ => (g_nm 12 nd)) (fun _ _ _ _ _ => t_nil) (fun _ _ _ _ _ => (d_revT (d_var 12)))) a_nil)) (g_nm 2 nd)) (ss_cons (s_asg (d_lst (a_d (d_fn (ok_letters_of T) (hr.mono (by decide)) T.g19 T.d19.kp T.b19 (a_d (d_var 1) a_nil)) (a_d (d_kw (ok_letters_of T) (hr.mono (by decide)) T.g19 T.d19.kp T.k19_rule (k_d (d_var 1) k_nil)) (a_d (d_fn (ok_turned T) (hr.mono (by decide)) T.g21 T.d21.kp T.b21 (a_d (d_var 1) a_nil)) (a_d (d_kw (ok_turned T) (hr.mono (by decide)) T.g21 T.d21.kp T.k21_rule (k_d (d_var 1) k_nil)) (a_d (d_fn (ok_turned T) (hr.mono (by decide)) T.g21 T.d21.kp T.b21 (a_d (d_fn (ok_turned T) (hr.mono (by decide)) T.g21 T.d21.kp T.b21 (a_d (d_var 1) a_nil)) a_nil)) (a_d (d_fn (ok_power T) (hr.mono (by decide)) T.g22 T.d22.kp T.b22 (a_d (d_var 1) (a_d d_int a_nil))) a_nil))))))) (g_nm 3 nd)) (ss_cons (s_if (b_not (b_val (d_fn (ok__law_same T) (hr.mono (by decide)) T.g27 T.d27.kp T.b27 (a_d (d_var 3) (a_d (d_lst (a_d (d_var 5) (a_d (d_var 5) (a_d (d_var 2) (a_d (d_var 2) (a_d (d_var 1) (a_d (d_var 1) a_nil))))))) a_nil))))) (ss_one (s_ret d_bl)) ss_nil) (ss_cons (s_for PassesOwn.never rfl (i_rg1 T.m_range (a_d d_int a_nil)) (g_nm 4 nd) (ss_cons (s_asg (d_fn (ok__law_row T) (hr.mono (by decide)) T.g29 T.d29.kp T.b29 (a_f 0 (a_d (d_var 5) (a_d d_int a_nil)))) (g_nm 7 nd)) (ss_cons (s_asg (d_fn (ok__law_becomes T) (hr.mono (by decide)) T.g30 T.d30.kp T.b30 (a_d (d_var 1) (a_d (d_var 7) a_nil))) (g_nm 8 nd)) (ss_cons (s_asg (d_lst (a_d (d_fn (ok_becomes T) (hr.mono (by decide)) T.g20 T.d20.kp T.b20 (a_d (d_var 1) (a_d (d_var 7) a_nil))) (a_d (d_kw (ok_becomes T) (hr.mono (by decide)) T.g20 T.d20.kp T.k20_word_rule (k_d (d_var 7) (k_d (d_var 1) k_nil))) (a_d (d_fn (ok_becomes T) (hr.mono (by decide)) T.g20 T.d20.kp T.b20 (a_d (d_var 1) (a_d (d_var 8) a_nil))) a_nil)))) (g_nm 3 nd)) (ss_cons (s_if (b_not (b_val (d_fn (ok__law_same T) (hr.mono (by decide)) T.g27 T.d27.kp T.b27 (a_d (d_var 3) (a_d (d_lst (a_d (d_var 8) (a_d (d_var 8) (a_d (d_fn (ok__law_becomes T) (hr.mono (by decide)) T.g30 T.d30.kp T.b30 (a_d (d_var 1) (a_d (d_var 8) a_nil))) a_nil)))) a_nil))))) (ss_one (s_ret d_bl)) ss_nil) (ss_cons (s_asg (d_fn (ok__law_turned_about T) (hr.mono (by decide)) T.g31 T.d31.kp T.b31 (a_f 0 (a_d (d_var 5) a_nil))) (g_nm 9 nd)) (ss_cons (s_par (i := 10) (j := 11) rfl nd (a_d (d_fn (ok__law_called T) (hr.mono (by decide)) T.g33 T.d33.kp T.b33 (a_d (d_var 1) (a_d (d_var 9) a_nil))) (a_d (d_callTy call_tupF callD_tupOf T.m_tuple (a_d (d_lc (own := [(Str.ofString "_law_a", 13)]) rfl nd (i_rg1 T.m_range (a_d (d_var 5) a_nil)) (blkOk_by (by first | decide +kernel | rfl)) (fun _ _ _ _ _ => (g_nm 13 nd)) (fun _ _ _ _ _ => t_nil) (fun _ _ _ _ _ => (d_index (d_var 9) (d_var 13)))) a_nil)) a_nil))) (ss_cons (s_asg (d_lst (a_d (d_fn (ok_renamed T) (hr.mono (by decide)) T.g23 T.d23.kp T.b23 (a_d (d_var 1) (a_d (d_var 9) a_nil))) (a_d (d_kw (ok_renamed T) (hr.mono (by decide)) T.g23 T.d23.kp T.k23_names_rule (k_d (d_var 9) (k_d (d_var 1) k_nil))) (a_d (d_fn (ok_renamed T) (hr.mono (by decide)) T.g23 T.d23.kp T.b23 (a_d (d_var 10) (a_d (d_var 11) a_nil))) a_nil)))) (g_nm 3 nd)) (ss_cons (s_if (b_not (b_val (d_fn (ok__law_same T) (hr.mono (by decide)) T.g27 T.d27.kp T.b27 (a_d (d_var 3) (a_d (d_lst (a_d (d_var 10) (a_d (d_var 10) (a_d (d_var 1) a_nil)))) a_nil))))) (ss_one (s_ret d_bl)) ss_nil) (ss_one (s_if (b_not (b_val (d_fn (ok__law_same T) (hr.mono (by decide)) T.g27 T.d27.kp T.b27 (a_d (d_fn (ok_becomes T) (hr.mono (by decide)) T.g20 T.d20.kp T.b20 (a_d (d_var 10) (a_d (d_callTy call_tupF callD_tupOf T.m_tuple (a_d (d_lc (own := [(Str.ofString "_law_a", 13)]) rfl nd (i_tup (d_var 7)) (blkOk_by (by first | decide +kernel | rfl)) (fun _ _ _ _ _ => (g_nm 13 nd)) (fun _ _ _ _ _ => t_nil) (fun _ _ _ _ _ => (d_at (d_var 9) (d_var 13)))) a_nil)) a_nil))) (a_d (d_callTy call_tupF callD_tupOf T.m_tuple (a_d (d_lc (own := [(Str.ofString "_law_a", 13)]) rfl nd (i_tup (d_var 8)) (blkOk_by (by first | decide +kernel | rfl)) (fun _ _ _ _ _ => (g_nm 13 nd)) (fun _ _ _ _ _ => t_nil) (fun _ _ _ _ _ => (d_at (d_var 9) (d_var 13)))) a_nil)) a_nil))))) (ss_one (s_ret d_bl)) ss_nil))))))))))) (ss_one (s_ret (d_eq (d_repr hr T.m_repr (d_var 1)) (d_var 6)))))))))
def g__law_holds : En → M Fl := (sSeq (sFor (fun ρ => (cLst (aD (cD (.int 4)) (aD (cD (.int 4)) (aD (cD (.int 6)) aNil)))) ρ >>= asL) (bNm 1) (sSeq (sAsg (cFn (argN 2 F__law_grow) (aF 0 (aD (getD 1) aNil))) (bNm 3)) (sSeq (sIf (cNotB (cB (cFn (argN 2 F__law_is_changed) (aF 0 (aD (getD 3) aNil))))) (sRet (cD (.bool false))) sNil) (sSeq (sPar 6 7 (aD (cBin gAdd (cD (.int 1)) (cFn (argN 2 F__law_draw) (aF 0 (aD (cD (.int 3)) aNil)))) (aD (cBin gAdd (cD (.int 1)) (cFn (argN 2 F__law_draw) (aF 0 (aD (cD (.int 3)) aNil)))) aNil))) (sIf (cNotB (cB (cFn (argN 3 F__law_is_powered) (aD (getD 3) (aD (getD 6) (aD (getD 7) aNil)))))) (sRet (cD (.bool false))) sNil))))) (sSeq (sPar 4 5 (aD (cTup (aD (cTup (aD (cD (.int 0)) (aD (cD (.int 1)) aNil))) (aD (cTup (aD (cD (.int 0)) aNil)) aNil))) (aD (cBin gAdd (cD (.int 1)) (cFn (argN 2 F__law_draw) (aF 0 (aD (cD (.int 12)) aNil)))) aNil))) (sSeq (sIf (cOrB (cNotB (cB (cFn (argN 2 F__law_same) (aD (cFn (argN 2 F_power) (aD (getD 4) (aD (getD 5) aNil))) (aD (cFn (argN 2 F__law_level) (aD (getD 4) (aD (getD 5) aNil))) aNil))))) (cNotB (cB (cFn (argN 1 F__law_is_led_round) (aF 0 aNil))))) (sRet (cD (.bool false))) sNil) (sSeq (sAsg (cCall gTupOf (aD (cLc (fun ρ => (aD (cD (.int 12)) aNil) ρ >>= rg1) [8] (bNm 8) yes (cTup (aD (getD 8) (aD (cBin gMod (cUn gInt (cBin gAdd (getD 8) (cD (.int 7)))) (cD (.int 12))) aNil)))) aNil)) (bNm 2)) (sSeq (sIf (cOrB (cNotB (cB (cFn (argN 2 F__law_is_changed) (aF 0 (aD (getD 2) aNil))))) (cNotB (cB (cFn (argN 3 F__law_is_powered) (aD (getD 2) (aD (cD (.int 2)) (aD (cD (.int 2)) aNil))))))) (sRet (cD (.bool false))) sNil) (sRet (cFn (argN 3 F__law_is_powered) (aD (cTup (aD (cTup (aD (cD (.int 0)) aNil)) aNil)) (aD (cD (.int 40)) (aD (cBin gAdd (cD (.int 1)) (cFn (argN 2 F__law_draw) (aF 0 (aD (cD (.int 9)) aNil)))) aNil))))))))))
def F__law_holds : Fn := runB 9 g__law_holds
theorem sc__law_holds : FnScope ["_law_feed_here", "_law_most", "_law_wide", "_law_grow_here", "_law_gold", "_law_far", "_law_early", "_law_late", "_law_a"] ["_law_feed_here"] (defScope t__law_holds) := ⟨rfl, rfl, rfl, by decide +kernel, rfl, by decide +kernel, by decide +kernel⟩
theorem ok__law_holds (T : TX K mg f fd) : FnG P w K mg base 8 (f 37) (fd 37) ["_law_feed_here"] (spD K 1 F__law_holds) := fn_bodyG (k := 7) (N := ["_law_feed_here", "_law_most", "_law_wide", "_law_grow_here", "_law_gold", "_law_far", "_law_early", "_law_late", "_law_a"]) T.d37 sc__law_holds rfl fun cdv A outer s H E hr => by
  have nd := sc__law_holds.nd
  exact (ss_cons (s_for PassesOwn.never rfl (i_list (d_lst (a_d d_int (a_d d_int (a_d d_int a_nil))))) (g_nm 1 nd) (ss_cons (s_asg (d_fn (ok__law_grow T) (hr.mono (by decide)) T.g28 T.d28.kp T.b28 (a_f 0 (a_d (d_var 1) a_nil))) (g_nm 3 nd)) (ss_cons (s_if (b_not (b_val (d_fn (ok__law_is_changed T) (hr.mono (by decide)) T.g36 T.d36.kp T.b36 (a_f 0 (a_d (d_var 3) a_nil))))) (ss_one (s_ret d_bl)) ss_nil) (ss_cons (s_par (i := 6) (j := 7) rfl nd (a_d (d_add d_int (d_fn (ok__law_draw T) (hr.mono (by decide)) T.g26 T.d26.kp T.b26 (a_f 0 (a_d d_int a_nil)))) (a_d (d_add d_int (d_fn (ok__law_draw T) (hr.mono (by decide)) T.g26 T.d26.kp T.b26 (a_f 0 (a_d d_int a_nil)))) a_nil))) (ss_one (s_if (b_not (b_val (d_fn (ok__law_is_powered T) (hr.mono (by decide)) T.g35 T.d35.kp T.b35 (a_d (d_var 3) (a_d (d_var 6) (a_d (d_var 7) a_nil)))))) (ss_one (s_ret d_bl)) ss_nil)))))) (ss_cons (s_par (i := 4) (j := 5) rfl nd (a_d (d_tup (a_d (d_tup (a_d d_int (a_d d_int a_nil))) (a_d (d_tup (a_d d_int a_nil)) a_nil))) (a_d (d_add d_int (d_fn (ok__law_draw T) (hr.mono (by decide)) T.g26 T.d26.kp T.b26 (a_f 0 (a_d d_int a_nil)))) a_nil))) (ss_cons (s_if (b_w (w_or (b_not (b_val (d_fn (ok__law_same T) (hr.mono (by decide)) T.g27 T.d27.kp T.b27 (a_d (d_fn (ok_power T) (hr.mono (by decide)) T.g22 T.d22.kp T.b22 (a_d (d_var 4) (a_d (d_var 5) a_nil))) (a_d (d_fn (ok__law_level T) (hr.mono (by decide)) T.g32 T.d32.kp T.b32 (a_d (d_var 4) (a_d (d_var 5) a_nil))) a_nil))))) (w_or1 (b_not (b_val (d_fn (ok__law_is_led_round T) (hr.mono (by decide)) T.g34 T.d34.kp T.b34 (a_f 0 a_nil))))))) (ss_one (s_ret d_bl)) ss_nil) (ss_cons (s_asg (d_callTy call_tupF callD_tupOf T.m_tuple (a_d (d_lc (own := [(Str.ofString "_law_a", 8)]) rfl nd (i_rg1 T.m_range (a_d d_int a_nil)) (blkOk_by (by first | decide +kernel | rfl)) (fun _ _ _ _ _ => (g_nm 8 nd)) (fun _ _ _ _ _ => t_nil) (fun _ _ _ _ _ => (d_tup (a_d (d_var 8) (a_d (d_mod (d_intOf T.m_int (d_add (d_var 8) d_int)) d_int) a_nil))))) a_nil)) (g_nm 2 nd)) (ss_cons (s_if (b_w (w_or (b_not (b_val (d_fn (ok__law_is_changed T) (hr.mono (by decide)) T.g36 T.d36.kp T.b36 (a_f 0 (a_d (d_var 2) a_nil))))) (w_or1 (b_not (b_val (d_fn (ok__law_is_powered T) (hr.mono (by decide)) T.g35 T.d35.kp T.b35 (a_d (d_var 2) (a_d d_int (a_d d_int a_nil))))))))) (ss_one (s_ret d_bl)) ss_nil) (ss_one (s_ret (d_fn (ok__law_is_powered T) (hr.mono (by decide)) T.g35 T.d35.kp T.b35 (a_d (d_tup (a_d (d_tup (a_d d_int a_nil)) a_nil)) (a_d d_int (a_d (d_add d_int (d_fn (ok__law_draw T) (hr.mono (by decide)) T.g26 T.d26.kp T.b26 (a_f 0 (a_d d_int a_nil)))) a_nil)))))))))))
-- law: by hand
end

end K03
end

section
set_option Elab.async false
set_option linter.all false
set_option maxRecDepth 100000
set_option maxHeartbeats 4100000
namespace K03
open L2 PySem.Spec PyProof.Rows PySem E
section
variable {P : Program} {w : World} {K : PySem.W.Frag} {mg : Str → Option Value} {base : Heap} {f : Nat → Addr} {fd : Nat → FuncData}
theorem sc__law_feed : FnScope ["_law_script", "_law_cell"] ["_law_script"] (defScope t__law_feed) := ⟨rfl, rfl, rfl, by decide +kernel, rfl, by decide +kernel, by decide +kernel⟩
theorem sc_law : FnScope ["_law_script"] ["_law_script"] (defScope t_law) := ⟨rfl, rfl, rfl, by decide +kernel, rfl, by decide +kernel, by decide +kernel⟩
theorem ok__law_feed (T : TX K mg f fd) : FnG P w K mg base 2 (f 25) (fd 25) ["_law_script"] (spFeed K) := by
  obtain ⟨oc, od, kV, doc, pm, an, cdv, ct, osl, e, lk, hcd⟩ := T.d25.ex
  rw [e] at lk ⊢
  refine fn_ofG (k := 1) lk hcd sc__law_feed (fun vs H Q E h => h.1) fun A outer s H vs Q E hr h => ⟨_, pss_one (ps_ret (pe_disp (pps_cons pe_str (pe_lc (own := [(Str.ofString "_law_cell", 1)]) (g := gName 1) (tt := tYes) rfl sc__law_feed.nd
      (pi_list (pe_slice sl_list (pv 0) po_none (po_some pe_int))) (blkOk_by (by first | decide +kernel | rfl)) (fun _ _ _ _ _ => pg_name (i := 1) sc__law_feed.nd rfl (.inl rfl)) (fun _ _ _ _ _ => pts_nil) (fun _ _ _ _ _ => pe_callTy call_int1 rfl T.m_int (by decide +kernel) (pa_cons (pv 1) pa_nil)))
      (pps_cons pe_str pe_int (pps_cons pe_str pe_int (pps_cons pe_str pe_int pps_nil)))) rfl rfl (by simp) (by decide))), ?_⟩
  obtain ⟨hl, a, ns, rfl, hS, k⟩ := h
  intro p hp
  have hS1 : SqL K (upd H p (.dK [])) a (ns.map V.int) := (same_new hp).seq hS
  refine ⟨_, rfl, 62, rfl, a, _, rfl, hS1, fun l hl => ?_⟩
  have ecut : cutV (ns.map V.int) none (some 62) = (ns.take 62).map V.int := take_vals (k := 62)
  rw [ecut]
  have np : l ≠ p := fun z => by rw [z, upd_same] at hl; cases hl
  refine ⟨l, rfl, ⟨_, SqL.of upd_same⟩, fun D hD => ?_⟩
  have nl : D ≠ l := fun z => by rw [z, upd_same] at hD; cases hD
  have nD : D ≠ p := fun z => by rw [z, upd_ne (Ne.symm np), upd_same] at hD; cases hD
  refine lc_list (K := K) (a := l) (xs := (ns.take 62).map V.int) (fun i H' => H' p = some (.dK []) ∧ H' l = some (.lst ((ns.take 62).map V.int)) ∧ H' D = some (.lst (((ns.take 62).take i).map V.int)))
    ⟨by rw [upd_ne (Ne.symm nD), upd_ne (Ne.symm np), upd_same], by rw [upd_ne (Ne.symm nl), upd_same], by rw [upd_same]; rfl⟩ (fun i H' _ q => SqL.of q.2.1) (fun i x H' hx q => ?_) fun H' q => ?_
  · obtain ⟨n, hn, rfl⟩ : ∃ n, (ns.take 62)[i]? = some n ∧ x = V.int n := by
      rw [List.getElem?_map] at hx
      cases e : (ns.take 62)[i]? with
      | none => rw [e] at hx; cases hx
      | some n => rw [e] at hx; exact ⟨n, rfl, (Option.some.inj hx).symm⟩
    refine ⟨rfl, ?_⟩
    unfold tYes; simp only [if_true]
    refine ⟨_, rfl, .inl ⟨n, rfl, _, q.2.2, ?_, by rw [upd_ne (Ne.symm nD)]; exact q.1, by rw [upd_ne (Ne.symm nl)]; exact q.2.1, ?_⟩⟩
    · rw [List.length_map, sizeLine_eq]
      have := List.length_take_le 62 ns
      have := List.length_take_le' i (ns.take 62)
      omega
    · rw [upd_same]
      have : (ns.take 62).take (i + 1) = (ns.take 62).take i ++ [n] := by rw [List.take_add_one, hn]; rfl
      rw [this, List.map_append]; rfl
  · rw [List.length_map, List.take_length] at q
    refine ⟨q.1, [(.inr "cells", .ref D), (.inr "place", .int 0), (.inr "rest", .int 0), (.inr "turn", .int 0)], rfl, (by show 4 ≤ 15; decide), ?_⟩
    refine k p ⟨D, ns.take 62, 0, 0, 0⟩ _ ?_ (by rw [upd_ne nD]; exact q.2.2)
    rw [upd_same]
    first | rfl | decide +kernel
/-- the law's def: its one call gives True, if the mathematics says so -/
theorem ok_law (T : TX K mg f fd) (hx : ∃ C, mg "LedError" = some (.ref C)) (math : ∀ S : Fd, ∃ S', F__law_holds [.fd] S = .ok (.bool true) S') : FnG P w K mg base 10 (f 38) (fd 38) ["_law_script"] (spLaw K) := by
  obtain ⟨oc, od, kV, doc, pm, an, cdv, ct, osl, e, lk, hcd⟩ := T.d38.ex
  obtain ⟨C, hC⟩ := hx
  rw [e] at lk ⊢
  refine fn_ofG (k := 9) lk hcd sc_law (fun vs H Q E h => h.1) fun A outer s H vs Q E hr h => ⟨_, pss_one (ps_try_only (ts := fun _ _ _ => tRet (tC (.bl false))) (Wout := fun _ _ _ _ => False) rfl rfl ⟨rfl, by decide, .inl hC⟩ takes0
      (fun W pn xe tk _ => pss_one (ps_ret (pe_fnG (ok__law_holds T) (hr.mono (by decide)) T.g37 T.d37.kp T.b37 (pa_cons (pe_fnG (ok__law_feed T) (hr.mono (by decide)) T.g25 T.d25.kp T.b25 (pa_cons (pv 0) pa_nil)) pa_nil))))
      (fun a oe cls d pn _ _ => pss_one (ps_ret pe_bl))), ?_⟩
  obtain ⟨hl, a, ns, rfl, hS, k⟩ := h
  refine ⟨_, rfl, rfl, a, ns, rfl, hS, fun p S H' hp hc => ?_⟩
  obtain ⟨S', hm⟩ := math S
  have ne : S.c ≠ p := fun z => by rw [z, hp] at hc; cases hc
  refine ⟨rfl, [p], p, S, [.fd], .cons rfl .nil, fun x hx => by rw [List.mem_singleton.mp hx]; exact ⟨_, hp⟩, ⟨by simp, by simpa using ne, hp, hc⟩, ?_⟩
  show (F__law_holds [.fd] S).post _ _
  rw [hm]
  intro v H2 _ _ hv
  cases hv
  exact k H2
end
end K03
end

section
set_option Elab.async false
set_option linter.all false
set_option maxRecDepth 100000
set_option maxHeartbeats 4100000
namespace E
open PySem
/-! ### what is shown is not too long -/
mutual
def okD : PyData → Bool
  | .none => true
  | .bool _ => true
  | .int i => decide (0 ≤ i ∧ i < 1048576)
  | .str _ => false
  | .list xs => okDs xs
  | .tuple xs => okDs xs
  | .dict _ => false
def okDs : List PyData → Bool
  | [] => true
  | x :: xs => okD x && okDs xs
end
mutual
def nod : PyData → Nat
  | .list xs => 1 + nods xs
  | .tuple xs => 1 + nods xs
  | _ => 1
def nods : List PyData → Nat
  | [] => 0
  | x :: xs => nod x + nods xs
end
theorem join_le (ts : List Str) : (Str.join ", " ts).length ≤ piled ts := by
  cases ts with
  | nil => show (Str.join ", " []).length ≤ _; decide
  | cons t r =>
    have := join_length_add (t :: r) (by simp)
    omega
theorem textFrom_le : ∀ (ts : List Str) (k : Nat) (acc : Str), (textFrom k acc ts).length ≤ acc.length + piled ts
  | [], k, acc => by show acc.length ≤ _; simp [piled_nil]
  | t :: r, k, acc => by
    have h := textFrom_le r (k + 1) (acc ++ (if k > 0 then ", " else "" : String) ++ t)
    have e : (acc ++ (if k > 0 then ", " else "" : String) ++ t).length ≤ acc.length + 2 + t.length := by
      rw [strLen_append]; rw [strLen_append]
      split
      · have : ((", " : String) : Str).length = 2 := rfl
        omega
      · have : (("" : String) : Str).length = 0 := rfl
        omega
    show Str.length (textFrom (k + 1) _ r) ≤ _
    rw [piled_cons]; omega
theorem listText_le (ts : List Str) : (listText ts).length ≤ piled ts + 2 := by
  unfold listText
  rw [strLen_append]
  have := textFrom_le ts 0 "["
  have e1 : (("[" : String) : Str).length = 1 := rfl
  have e2 : (("]" : String) : Str).length = 1 := rfl
  omega
theorem tupleText_le (ts : List Str) : (tupleText ts).length ≤ piled ts + 3 := by
  unfold tupleText
  rw [strLen_append]; rw [strLen_append]
  have := join_le ts
  have e1 : (("(" : String) : Str).length = 1 := rfl
  split
  · have : ((",)" : String) : Str).length = 2 := rfl
    omega
  · have : ((")" : String) : Str).length = 1 := rfl
    omega
theorem int_le {i : Int} (h0 : 0 ≤ i) (h1 : i < 1048576) : (PyData.int i).shown.length ≤ 7 := by
  have e : (PyData.int i).shown = Str.ofString (toString i) := by simp only [PyData.shown]
  rw [e]
  exact PyProof.Rows.toString_length_le h0 (by decide) (by omega)
mutual
theorem shown_le : ∀ d : PyData, okD d = true → d.showable = true ∧ d.hasDict = false ∧ d.shown.length + 2 ≤ 24 * nod d
  | .none, _ => ⟨by simp [PyData.showable], by simp [PyData.hasDict], by simp only [PyData.shown, nod]; decide⟩
  | .bool b, _ => ⟨by simp [PyData.showable], by simp [PyData.hasDict], by cases b <;> simp only [PyData.shown, nod] <;> decide⟩
  | .int i, h => by
    have h' := of_decide_eq_true (show decide (0 ≤ i ∧ i < 1048576) = true from h)
    refine ⟨?_, by simp [PyData.hasDict], ?_⟩
    · have : i.natAbs.log2 < 1920 := by
        by_cases z : i.natAbs = 0
        · rw [z]; decide
        · have z2 : i.natAbs.log2 < 20 := (Nat.log2_lt z).mpr (by omega)
          omega
      simpa [PyData.showable] using this
    · have := int_le h'.1 h'.2
      show _ + 2 ≤ 24 * 1
      omega
  | .str _, h => by cases h
  | .list xs, h => by
    obtain ⟨h1, h2, h3⟩ := shown_les xs h
    refine ⟨by simpa [PyData.showable] using h1, by simpa [PyData.hasDict] using h2, ?_⟩
    have e : (PyData.list xs).shown = listText (PyData.shownAll xs) := by simp only [PyData.shown]
    have := listText_le (PyData.shownAll xs)
    rw [e]
    show _ ≤ 24 * (1 + nods xs)
    omega
  | .tuple xs, h => by
    obtain ⟨h1, h2, h3⟩ := shown_les xs h
    refine ⟨by simpa [PyData.showable] using h1, by simpa [PyData.hasDict] using h2, ?_⟩
    have e : (PyData.tuple xs).shown = tupleText (PyData.shownAll xs) := by simp only [PyData.shown]
    have := tupleText_le (PyData.shownAll xs)
    rw [e]
    show _ ≤ 24 * (1 + nods xs)
    omega
  | .dict _, h => by cases h
theorem shown_les : ∀ xs : List PyData, okDs xs = true → PyData.showableAll xs = true ∧ PyData.hasDictAll xs = false ∧ piled (PyData.shownAll xs) ≤ 24 * nods xs
  | [], _ => ⟨by simp [PyData.showableAll], by simp [PyData.hasDictAll], by simp [PyData.shownAll, piled_nil, nods]⟩
  | x :: xs, h => by
    have h' := Bool.and_eq_true_iff.mp (show (okD x && okDs xs) = true from h)
    obtain ⟨a1, a2, a3⟩ := shown_le x h'.1
    obtain ⟨b1, b2, b3⟩ := shown_les xs h'.2
    refine ⟨by simp [PyData.showableAll, a1, b1], by simp [PyData.hasDictAll, a2, b2], ?_⟩
    have e : PyData.shownAll (x :: xs) = x.shown :: PyData.shownAll xs := by simp only [PyData.shownAll]
    rw [e, piled_cons]
    show _ ≤ 24 * (nod x + nods xs)
    omega
end
theorem okDs_all {xs : List PyData} : okDs xs = true ↔ ∀ x ∈ xs, okD x = true := by
  induction xs with
  | nil => simp [okDs]
  | cons a l ih => simp [okDs, ih]
theorem nods_le {xs : List PyData} {m : Nat} (h : ∀ x ∈ xs, nod x ≤ m) : nods xs ≤ xs.length * m := by
  induction xs with
  | nil => simp [nods]
  | cons a l ih =>
    have h1 := h a List.mem_cons_self
    have h2 := ih fun x hx => h x (List.mem_cons_of_mem _ hx)
    simp only [nods, List.length_cons, Nat.succ_mul]; omega
theorem depthAll_le {xs : List PyData} {m : Nat} (h : ∀ x ∈ xs, x.depth ≤ m) : PyData.depthAll xs ≤ m := by
  induction xs with
  | nil => simp [PyData.depthAll]
  | cons a l ih =>
    simp only [PyData.depthAll]
    exact Nat.max_le.mpr ⟨h a List.mem_cons_self, ih fun x hx => h x (List.mem_cons_of_mem _ hx)⟩
theorem gRepr_ok {d : PyData} (hl : (∃ xs, d = .list xs) ∨ ∃ xs, d = .tuple xs) (h1 : okD d = true) (h2 : d.depth ≤ 100) (h3 : nod d ≤ 600000) : gRepr d = some (.str d.shown) := by
  obtain ⟨a1, a2, a3⟩ := shown_le d h1
  have h4 : d.shown.length ≤ 16777216 := by omega
  rcases hl with ⟨xs, rfl⟩ | ⟨xs, rfl⟩
  · unfold gRepr
    simp [a1, a2, h2, h4]
  · unfold gRepr
    simp [a1, a2, h2, h4]
/-! ### what surely comes: a value of which P holds -/
def T {α : Type} (m : M α) (P : α → Prop) : Prop := ∀ S, ∃ a S', m S = .ok a S' ∧ P a
theorem T_pure {α : Type} {a : α} {P : α → Prop} (h : P a) : T (pure a : M α) P := fun S => ⟨a, S, rfl, h⟩
theorem T_bind {α β : Type} {m : M α} {f : α → M β} {P : α → Prop} {Q : β → Prop} (h : T m P) (k : ∀ a, P a → T (f a) Q) : T (m >>= f) Q := fun S => by
  obtain ⟨a, S1, e1, h1⟩ := h S
  obtain ⟨b, S2, e2, h2⟩ := k a h1 S1
  refine ⟨b, S2, ?_, h2⟩
  show M.bind m f S = _
  unfold M.bind
  rw [e1]; exact e2
theorem T_imp {α : Type} {m : M α} {P Q : α → Prop} (h : T m P) (k : ∀ a, P a → Q a) : T m Q := fun S => by
  obtain ⟨a, S1, e1, h1⟩ := h S
  exact ⟨a, S1, e1, k a h1⟩
theorem T_eq {α : Type} {m m' : M α} {P : α → Prop} (e : m = m') (h : T m' P) : T m P := by rw [e]; exact h
theorem pure_b {α β : Type} (a : α) (f : α → M β) : (pure a >>= f) = f a := rfl
theorem bind_a {α β γ : Type} (m : M α) (f : α → M β) (g : β → M γ) : ((m >>= f) >>= g) = m >>= fun a => f a >>= g := by
  funext S
  show M.bind (M.bind m f) g S = M.bind m (fun a => M.bind (f a) g) S
  unfold M.bind
  cases m S <;> rfl
/-- a comprehension whose every element surely comes -/
theorem T_lc {vs : List Nat} {b : PyData → En → Option En} {fe : En → M PyData} {ρ : En} {P : PyData → PyData → Prop} : ∀ {ds acc : List PyData}, ds.length + acc.length ≤ 16777216 → (∀ d ∈ ds, ∃ ρ1, b d (wipeE ρ vs) = some ρ1 ∧ T (fe ρ1) (P d)) →
    T (lcGo vs b yes fe ρ ds acc) (fun r => ∃ ys, r = .list (acc ++ ys) ∧ ys.length = ds.length ∧ ∀ (i : Nat) (d y : PyData), ds[i]? = some d → ys[i]? = some y → P d y)
  | [], acc, _, _ => T_pure ⟨[], by simp, rfl, fun i d y h => by simp at h⟩
  | d :: ds, acc, hl, h => by
    obtain ⟨ρ1, e1, h1⟩ := h d List.mem_cons_self
    have e : lcGo vs b yes fe ρ (d :: ds) acc = (fe ρ1 >>= fun y => if acc.length < 16777216 then lcGo vs b yes fe ρ ds (acc ++ [y]) else bad) := by
      show (match b d (wipeE ρ vs) with
        | none => bad
        | some ρ1 => yes ρ1 >>= fun c => if c then fe ρ1 >>= fun y => if acc.length < 16777216 then lcGo vs b yes fe ρ ds (acc ++ [y]) else bad else lcGo vs b yes fe ρ ds acc) = _
      rw [e1]; rfl
    refine T_eq e (T_bind h1 fun y hy => ?_)
    simp only [List.length_cons] at hl
    rw [if_pos (by omega)]
    refine T_imp (T_lc (P := P) (by simp; omega) fun d hd => h d (List.mem_cons_of_mem _ hd)) fun r ⟨ys, e2, l2, h2⟩ => ⟨y :: ys, by rw [e2]; simp, by simp [l2], fun i d' y' a b => ?_⟩
    cases i with
    | zero => simp at a b; subst a b; exact hy
    | succ i => exact h2 i d' y' (by simpa using a) (by simpa using b)
theorem lc_det {vs : List Nat} {b : PyData → En → Option En} {fe : En → M PyData} {ρ : En} {h : PyData → PyData} : ∀ {ds acc : List PyData}, ds.length + acc.length ≤ 16777216 → (∀ d ∈ ds, ∃ ρ1, b d (wipeE ρ vs) = some ρ1 ∧ fe ρ1 = pure (h d)) →
    lcGo vs b yes fe ρ ds acc = pure (.list (acc ++ ds.map h))
  | [], acc, _, _ => by simp [lcGo]
  | d :: ds, acc, hl, hh => by
    obtain ⟨ρ1, e1, h1⟩ := hh d List.mem_cons_self
    simp only [List.length_cons] at hl
    have e : lcGo vs b yes fe ρ (d :: ds) acc = (fe ρ1 >>= fun y => if acc.length < 16777216 then lcGo vs b yes fe ρ ds (acc ++ [y]) else bad) := by
      show (match b d (wipeE ρ vs) with
        | none => bad
        | some ρ1 => yes ρ1 >>= fun c => if c then fe ρ1 >>= fun y => if acc.length < 16777216 then lcGo vs b yes fe ρ ds (acc ++ [y]) else bad else lcGo vs b yes fe ρ ds acc) = _
      rw [e1]; rfl
    rw [e, h1, pure_b, if_pos (by omega), lc_det (by simp; omega) fun d hd => hh d (List.mem_cons_of_mem _ hd)]
    simp
theorem lc2In_det {vs1 : List Nat} {b1 : PyData → En → Option En} {fe : En → M PyData} {ρ : En} {h : PyData → PyData} : ∀ {ds acc : List PyData}, ds.length + acc.length ≤ 16777216 → (∀ d ∈ ds, ∃ ρ1, b1 d (wipeE ρ vs1) = some ρ1 ∧ fe ρ1 = pure (h d)) →
    lc2In vs1 b1 yes fe ρ ds acc = pure (acc ++ ds.map h)
  | [], acc, _, _ => by simp [lc2In]
  | d :: ds, acc, hl, hh => by
    obtain ⟨ρ1, e1, h1⟩ := hh d List.mem_cons_self
    simp only [List.length_cons] at hl
    have e : lc2In vs1 b1 yes fe ρ (d :: ds) acc = (fe ρ1 >>= fun y => if acc.length < 16777216 then lc2In vs1 b1 yes fe ρ ds (acc ++ [y]) else bad) := by
      show (match b1 d (wipeE ρ vs1) with
        | none => bad
        | some ρ1 => yes ρ1 >>= fun c => if c then fe ρ1 >>= fun y => if acc.length < 16777216 then lc2In vs1 b1 yes fe ρ ds (acc ++ [y]) else bad else lc2In vs1 b1 yes fe ρ ds acc) = _
      rw [e1]; rfl
    rw [e, h1, pure_b, if_pos (by omega), lc2In_det (by simp; omega) fun d hd => hh d (List.mem_cons_of_mem _ hd)]
    simp
theorem lc2_det {vs vs1 : List Nat} {b b1 : PyData → En → Option En} {fi1 : En → M (List PyData)} {fe : En → M PyData} {ρ : En} {g : PyData → List PyData} : ∀ {ds acc : List PyData}, (ds.flatMap g).length + acc.length ≤ 16777216 →
    (∀ d ∈ ds, ∃ ρ1 ds1 h, b d (wipeE ρ vs) = some ρ1 ∧ noOw ρ1 = true ∧ fi1 ρ1 = pure ds1 ∧ g d = ds1.map h ∧ ∀ d1 ∈ ds1, ∃ ρ2, b1 d1 (wipeE ρ1 vs1) = some ρ2 ∧ fe ρ2 = pure (h d1)) →
    lc2Go vs b yes fi1 vs1 b1 yes fe ρ ds acc = pure (.list (acc ++ ds.flatMap g))
  | [], acc, _, _ => by simp [lc2Go]
  | d :: ds, acc, hl, hh => by
    obtain ⟨ρ1, ds1, h, e1, hn, hf, hg, hin⟩ := hh d List.mem_cons_self
    simp only [List.flatMap_cons, List.length_append] at hl
    have e : lc2Go vs b yes fi1 vs1 b1 yes fe ρ (d :: ds) acc = (fi1 ρ1 >>= fun ds1 => lc2In vs1 b1 yes fe ρ1 ds1 acc >>= fun acc' => lc2Go vs b yes fi1 vs1 b1 yes fe ρ ds acc') := by
      show (match b d (wipeE ρ vs) with
        | none => bad
        | some ρ1 => if noOw ρ1 then yes ρ1 >>= fun c => if c then fi1 ρ1 >>= fun ds1 => lc2In vs1 b1 yes fe ρ1 ds1 acc >>= fun acc' => lc2Go vs b yes fi1 vs1 b1 yes fe ρ ds acc' else lc2Go vs b yes fi1 vs1 b1 yes fe ρ ds acc else bad) = _
      rw [e1]
      show (if noOw ρ1 then _ else bad) = _
      rw [hn]; rfl
    have hlen : (g d).length = ds1.length := by rw [hg, List.length_map]
    rw [e, hf, pure_b, lc2In_det (h := h) (by omega) hin, pure_b, lc2_det (g := g) (by rw [List.length_append, List.length_map]; omega) fun d hd => hh d (List.mem_cons_of_mem _ hd)]
    simp [hg]
end E
end

section
set_option Elab.async false
set_option linter.all false
set_option maxRecDepth 100000
set_option maxHeartbeats 4100000
namespace K03
open PySem E
def I (n : Nat) : PyData := .int (n : Int)
def wd (w : List Nat) : PyData := .tuple (w.map I)
def rl (r : List (List Nat)) : PyData := .tuple (r.map wd)
theorem kit1 : L2.kitB "int" "int" = some true := by decide +kernel
theorem kit2 : L2.kitB "int" "bool" = some false := by decide +kernel
theorem kit3 : L2.kitB "tuple" "tuple" = some true := by decide +kernel
theorem isi_of {T : String} {f : En → M PyData} {ρ : En} {x : PyData} {b : Bool} (hx : f ρ = pure x) (hk : L2.kitB (tyNm x) T = some b) : cIsi T f ρ = pure (.bool b) := by
  unfold cIsi
  rw [hx, pure_b, hk]; rfl
theorem and_of {f h : En → M PyData} {ρ : En} {m : M PyData} (hx : f ρ = pure (.bool true)) (hy : h ρ = m) : cAnd f h ρ = m := by
  unfold cAnd cB
  rw [hx, pure_b]
  exact hy
theorem andF_of {f h : En → M PyData} {ρ : En} (hx : f ρ = pure (.bool false)) : cAnd f h ρ = pure (.bool false) := by
  unfold cAnd cB
  rw [hx, pure_b]; rfl
theorem not_of {f : En → M PyData} {ρ : En} {b : Bool} (hx : f ρ = pure (.bool b)) : cNot f ρ = pure (.bool (!b)) := by
  unfold cNot cB
  rw [hx, pure_b]; rfl
theorem ret_of' {n : Nat} {f : En → M PyData} {as : List Ag} {m : M PyData} (h : f (env0 n as) = m) : runB n (sRet f) as = m := by
  unfold runB sRet
  rw [h, bind_a]
  funext S
  show M.bind m (fun d => pure d) S = m S
  unfold M.bind
  cases m S <;> rfl
theorem f_is_integer (i : Int) : F_is_integer [.d (.int i)] = pure (.bool true) := 
  ret_of' (and_of (isi_of (x := .int i) rfl kit1) (not_of (isi_of (x := .int i) rfl kit2)))
theorem fn_of' {F : Fn} {n : Nat} {fs : En → M (List Ag)} {ρ : En} {as : List Ag} (h : fs ρ = pure as) (hn : as.length = n) : cFn (argN n F) fs ρ = F as := by
  unfold cFn argN
  rw [h, pure_b, if_pos hn]
theorem call1_of {g : List PyData → Option PyData} {f : En → M PyData} {ρ : En} {x d : PyData} (hx : f ρ = pure x) (hd : g [x] = some d) : cCall g (aD f aNil) ρ = pure d := by
  unfold cCall aD
  show (f ρ >>= fun x => aNil ρ >>= fun r => pure (Ag.d x :: r)) >>= _ = _
  rw [hx]
  show lift ((some [x]).bind g) = _
  show lift (g [x]) = _
  rw [hd]; rfl
theorem bin_of {g : PyData → PyData → Option PyData} {fa fb : En → M PyData} {ρ : En} {x y d : PyData} (ha : fa ρ = pure x) (hb : fb ρ = pure y) (hg : g x y = some d) : cBin g fa fb ρ = pure d := by
  unfold cBin
  rw [ha, pure_b, hb, pure_b, hg]; rfl
theorem un_of' {g : PyData → Option PyData} {f : En → M PyData} {ρ : En} {x d : PyData} (ha : f ρ = pure x) (hg : g x = some d) : cUn g f ρ = pure d := by
  unfold cUn
  rw [ha, pure_b, hg]; rfl
theorem d1_of {f : En → M PyData} {fs : En → M (List Ag)} {ρ : En} {x : PyData} {r : List Ag} (hx : f ρ = pure x) (hr : fs ρ = pure r) : aD f fs ρ = pure (.d x :: r) := by
  unfold aD
  rw [hx, pure_b, hr]; rfl
theorem tup_of {fs : En → M (List Ag)} {ρ : En} {as : List Ag} {d : PyData} (h : fs ρ = pure as) (hd : mkTup as = some d) : cTup fs ρ = pure d := by
  unfold cTup
  rw [h, pure_b, hd]; rfl
theorem lst_of {fs : En → M (List Ag)} {ρ : En} {as : List Ag} {d : PyData} (h : fs ρ = pure as) (hd : mkLst as = some d) : cLst fs ρ = pure d := by
  unfold cLst
  rw [h, pure_b, hd]; rfl
theorem seq_of {g h : En → M Fl} {ρ ρ' : En} {m : M Fl} (hg : g ρ = pure (.nx ρ')) (hh : h ρ' = m) : sSeq g h ρ = m := by
  unfold sSeq
  rw [hg, pure_b]; exact hh
theorem seqR_of {g h : En → M Fl} {ρ : En} {d : PyData} (hg : g ρ = pure (.rt d)) : sSeq g h ρ = pure (.rt d) := by
  unfold sSeq
  rw [hg, pure_b]
theorem expr_of {f : En → M PyData} {ρ : En} {x : PyData} (h : f ρ = pure x) : sExpr f ρ = pure (.nx ρ) := by
  unfold sExpr
  rw [h, pure_b]
theorem asg_of' {f : En → M PyData} {b : PyData → En → Option En} {ρ ρ' : En} {x : PyData} (h : f ρ = pure x) (hb : b x ρ = some ρ') : sAsg f b ρ = pure (.nx ρ') := by
  unfold sAsg
  rw [h, pure_b, hb]; rfl
theorem ret_s {f : En → M PyData} {ρ : En} {x : PyData} (h : f ρ = pure x) : sRet f ρ = pure (.rt x) := by
  unfold sRet
  rw [h, pure_b]
theorem b_of {f : En → M PyData} {ρ : En} {b : Bool} (h : f ρ = pure (.bool b)) : cB f ρ = pure b := by
  unfold cB
  rw [h, pure_b]; rfl
theorem notb_of {f : En → M Bool} {ρ : En} {b : Bool} (h : f ρ = pure b) : cNotB f ρ = pure (!b) := by
  unfold cNotB
  rw [h, pure_b]
theorem ifT_of {c : En → M Bool} {g h : En → M Fl} {ρ : En} {m : M Fl} (hc : c ρ = pure true) (hg : g ρ = m) : sIf c g h ρ = m := by
  unfold sIf
  rw [hc, pure_b]; exact hg
theorem ifF_of {c : En → M Bool} {g h : En → M Fl} {ρ : En} {m : M Fl} (hc : c ρ = pure false) (hg : h ρ = m) : sIf c g h ρ = m := by
  unfold sIf
  rw [hc, pure_b]; exact hg
theorem body_of {n : Nat} {g : En → M Fl} {as : List Ag} {d : PyData} (h : g (env0 n as) = pure (.rt d)) : runB n g as = pure d := by
  unfold runB
  rw [h, pure_b]
theorem bodyN_of {n : Nat} {g : En → M Fl} {as : List Ag} {ρ : En} (h : g (env0 n as) = pure (.nx ρ)) : runB n g as = pure .none := by
  unfold runB
  rw [h, pure_b]
theorem T_seq {g h : En → M Fl} {ρ : En} {P : Fl → Prop} {Q : Fl → Prop} (hg : T (g ρ) P) (hh : ∀ fl, P fl → T (match fl with | .nx ρ' => h ρ' | o => pure o) Q) : T (sSeq g h ρ) Q := T_bind hg hh
theorem for_of {fi : En → M (List PyData)} {b : PyData → En → Option En} {g : En → M Fl} {ρ : En} {ds : List PyData} {m : M Fl} (h : fi ρ = pure ds) (hm : forGo b g ds ρ = m) : sFor fi b g ρ = m := by
  unfold sFor
  rw [h, pure_b]; exact hm
theorem for_seq {fi : En → M (List PyData)} {b : PyData → En → Option En} {g h : En → M Fl} {ρ : En} {ds : List PyData} {m : M Fl} (Pv : List PyData → En → Prop) (hf : fi ρ = pure ds) (h0 : Pv ds ρ) (hs : ∀ d ds ρ, Pv (d :: ds) ρ → ∃ ρ1, b d ρ = some ρ1 ∧ ∃ ρ2, g ρ1 = pure (.nx ρ2) ∧ Pv ds ρ2) (hd : ∀ ρ', Pv [] ρ' → h ρ' = m) : sSeq (sFor fi b g) h ρ = m := by
  have key : ∀ (ds : List PyData) (ρ : En), Pv ds ρ → ∃ ρ', forGo b g ds ρ = pure (.nx ρ') ∧ Pv [] ρ' := by
    intro ds
    induction ds with
    | nil => exact fun ρ h => ⟨ρ, rfl, h⟩
    | cons d ds ih =>
      intro ρ h
      obtain ⟨ρ1, e1, ρ2, e2, h2⟩ := hs d ds ρ h
      obtain ⟨ρ', e3, h3⟩ := ih ρ2 h2
      refine ⟨ρ', ?_, h3⟩
      show (match b d ρ with
        | none => bad
        | some ρ1 => g ρ1 >>= fun fl => match fl with
          | .nx ρ' => forGo b g ds ρ'
          | .ct ρ' => forGo b g ds ρ'
          | .bk ρ' => pure (.nx ρ')
          | .rt d => pure (.rt d) : M Fl) = _
      rw [e1]
      show g ρ1 >>= _ = _
      rw [e2, pure_b]; exact e3
  obtain ⟨ρ', e, h'⟩ := key ds ρ h0
  refine seq_of (ρ' := ρ') ?_ (hd ρ' h')
  unfold sFor
  rw [hf, pure_b]; exact e
theorem seqfor_ex {fi : En → M (List PyData)} {b : PyData → En → Option En} {g0 g : En → M Fl} {ρ ρ' : En} {ds : List PyData} (Pv : List PyData → En → Prop) (h0 : g0 ρ = pure (.nx ρ')) (hf : fi ρ' = pure ds) (p0 : Pv ds ρ') (hs : ∀ d ds ρ, Pv (d :: ds) ρ → ∃ ρ1, b d ρ = some ρ1 ∧ ∃ ρ2, g ρ1 = pure (.nx ρ2) ∧ Pv ds ρ2) : ∃ ρ2, sSeq g0 (sFor fi b g) ρ = pure (.nx ρ2) ∧ Pv [] ρ2 := by
  have key : ∀ (ds : List PyData) (ρ : En), Pv ds ρ → ∃ ρ', forGo b g ds ρ = pure (.nx ρ') ∧ Pv [] ρ' := by
    intro ds
    induction ds with
    | nil => exact fun ρ h => ⟨ρ, rfl, h⟩
    | cons d ds ih =>
      intro ρ h
      obtain ⟨ρ1, e1, ρ2, e2, h2⟩ := hs d ds ρ h
      obtain ⟨ρ', e3, h3⟩ := ih ρ2 h2
      refine ⟨ρ', ?_, h3⟩
      show (match b d ρ with
        | none => bad
        | some ρ1 => g ρ1 >>= fun fl => match fl with
          | .nx ρ' => forGo b g ds ρ'
          | .ct ρ' => forGo b g ds ρ'
          | .bk ρ' => pure (.nx ρ')
          | .rt d => pure (.rt d) : M Fl) = _
      rw [e1]
      show g ρ1 >>= _ = _
      rw [e2, pure_b]; exact e3
  obtain ⟨ρ2, e, h'⟩ := key ds ρ' p0
  refine ⟨ρ2, seq_of h0 ?_, h'⟩
  unfold sFor
  rw [hf, pure_b]; exact e
theorem T_for {b : PyData → En → Option En} {g : En → M Fl} (Pv : List PyData → En → Prop) (hs : ∀ d ds ρ, Pv (d :: ds) ρ → ∃ ρ1, b d ρ = some ρ1 ∧ T (g ρ1) (fun fl => ∃ ρ2, fl = .nx ρ2 ∧ Pv ds ρ2)) : ∀ {ds : List PyData} {ρ : En}, Pv ds ρ → T (forGo b g ds ρ) (fun fl => ∃ ρ', fl = .nx ρ' ∧ Pv [] ρ')
  | [], ρ, h => T_pure ⟨ρ, rfl, h⟩
  | d :: ds, ρ, h => by
    obtain ⟨ρ1, e1, h1⟩ := hs d ds ρ h
    refine T_eq (m' := g ρ1 >>= fun fl => match fl with
        | .nx ρ' => forGo b g ds ρ'
        | .ct ρ' => forGo b g ds ρ'
        | .bk ρ' => pure (.nx ρ')
        | .rt d => pure (.rt d)) ?_ (T_bind h1 fun fl ⟨ρ2, e2, h2⟩ => ?_)
    · show (match b d ρ with
        | none => bad
        | some ρ1 => g ρ1 >>= fun fl => match fl with
          | .nx ρ' => forGo b g ds ρ'
          | .ct ρ' => forGo b g ds ρ'
          | .bk ρ' => pure (.nx ρ')
          | .rt d => pure (.rt d) : M Fl) = _
      rw [e1]
    · subst e2; exact T_for Pv hs h2
theorem T_body {n : Nat} {g : En → M Fl} {as : List Ag} {P : PyData → Prop} (h : T (g (env0 n as)) (fun fl => ∃ d, fl = .rt d ∧ P d)) : T (runB n g as) P := T_bind h fun fl ⟨d, e, hp⟩ => by subst e; exact T_pure hp
theorem small_of {l : List PyData} (h : l.length ≤ 16777216) : small l = true := decide_eq_true h
theorem lc_map {α : Type} {vs : List Nat} {b : PyData → En → Option En} {fe : En → M PyData} {ρ : En} {e h : α → PyData} : ∀ (l : List α) (acc : List PyData), l.length + acc.length ≤ 16777216 → (∀ a ∈ l, ∃ ρ1, b (e a) (wipeE ρ vs) = some ρ1 ∧ fe ρ1 = pure (h a)) → lcGo vs b yes fe ρ (l.map e) acc = pure (.list (acc ++ l.map h))
  | [], acc, _, _ => by simp [lcGo]
  | a :: l, acc, hl, hh => by
    obtain ⟨ρ1, e1, h1⟩ := hh a List.mem_cons_self
    simp only [List.length_cons] at hl
    have e2 : lcGo vs b yes fe ρ ((a :: l).map e) acc = (fe ρ1 >>= fun y => if acc.length < 16777216 then lcGo vs b yes fe ρ (l.map e) (acc ++ [y]) else bad) := by
      show (match b (e a) (wipeE ρ vs) with
        | none => bad
        | some ρ1 => yes ρ1 >>= fun c => if c then fe ρ1 >>= fun y => if acc.length < 16777216 then lcGo vs b yes fe ρ (l.map e) (acc ++ [y]) else bad else lcGo vs b yes fe ρ (l.map e) acc) = _
      rw [e1]; rfl
    rw [e2, h1, pure_b, if_pos (by omega), lc_map l _ (by simp; omega) fun d hd => hh d (List.mem_cons_of_mem _ hd)]
    simp
theorem f_is_number (i : Int) : F_is_number [.d (.int i)] = pure (.bool (decide (0 ≤ i))) :=
  ret_of' (and_of ((fn_of' (as := [.d (.int i)]) rfl rfl).trans (f_is_integer i)) rfl)
theorem f_is_below (n m : Nat) : F_is_below [.d (I n), .d (I m)] = pure (.bool (decide (n < m))) := by
  refine ret_of' (and_of ((fn_of' (as := [.d (I n)]) rfl rfl).trans ((f_is_number n).trans (by simp))) ?_)
  show (pure (PyData.bool (decide ((n : Int) < (m : Int)))) : M PyData) = _
  simp
theorem f_is_full (l : List PyData) (h : l ≠ []) : F_is_full [.d (.tuple l)] = pure (.bool true) := by
  cases l with
  | nil => exact absurd rfl h
  | cons a l =>
    have e : F_is_full [.d (.tuple (a :: l))] = pure (.bool (decide ((0:Int) < ((a :: l).length : Nat)))) := ret_of' (and_of (isi_of (x := .tuple (a :: l)) rfl kit3) rfl)
    rw [e]; simp
theorem f_is_long (l : List PyData) (m : Nat) (h : l.length = m) : F_is_long [.d (.tuple l), .d (I m)] = pure (.bool true) := by
  have e : F_is_long [.d (.tuple l), .d (I m)] = pure (.bool (decide ((l.length : Int) = (m : Int)))) := ret_of' (and_of (isi_of (x := .tuple l) rfl kit3) rfl)
  rw [e, h]; simp
theorem boolsOf_map (l : List Bool) : boolsOf (l.map PyData.bool) = some l := by
  induction l with
  | nil => rfl
  | cons a l ih => show (boolsOf (l.map PyData.bool)).map (a :: ·) = _; rw [ih]; rfl
theorem intsOf_map (l : List Nat) : intsOf (l.map I) = some (l.map fun (n : Nat) => (n : Int)) := by
  induction l with
  | nil => rfl
  | cons a l ih => show (intsOf (l.map I)).map ((a : Int) :: ·) = _; rw [ih]; rfl
theorem f_are_below (w : List Nat) (m : Nat) (hw : ∀ a ∈ w, a < m) (hl : w.length ≤ 16777216) : F_are_below [.d (wd w), .d (I m)] = pure (.bool true) := by
  refine ret_of' (and_of (isi_of (x := wd w) rfl kit3) (call1_of (x := .list ((w.map fun _ => true).map PyData.bool)) ?_ ?_))
  · show lcGo [2] (bNm 2) yes _ (env0 3 [.d (wd w), .d (I m)]) (w.map I) [] = _
    refine (lc_det (h := fun _ => .bool true) (by simpa using hl) fun d hd => ?_).trans (by simp; rfl)
    obtain ⟨a, ha, rfl⟩ := List.mem_map.mp hd
    exact ⟨_, rfl, (fn_of' (as := [.d (I a), .d (I m)]) rfl rfl).trans ((f_is_below a m).trans (by simp [hw a ha]))⟩
  · show (boolsOf ((w.map fun _ => true).map PyData.bool)).map (fun bs => PyData.bool (bs.all id)) = _
    rw [boolsOf_map]; simp
theorem enD_mem {ds : List PyData} {d : PyData} (h : d ∈ enD ds) : ∃ i x, x ∈ ds ∧ d = .tuple [i, x] := by
  obtain ⟨i, hi⟩ := List.mem_iff_getElem?.mp h
  obtain ⟨x, hx, e⟩ := enD_get hi
  exact ⟨_, x, List.mem_of_getElem? hx, e⟩
/-- a rule of r.length letters -/
structure OkR (r : List (List Nat)) : Prop where
  ne : r ≠ []
  bl : ∀ b ∈ r, b ≠ []
  lt : ∀ b ∈ r, ∀ a ∈ b, a < r.length
theorem f_rule_fault (r : List (List Nat)) (h : OkR r) : F_rule_fault [.d (rl r)] = pure .none := by
  have hne : r.map wd ≠ [] := by simpa using h.ne
  refine body_of (seq_of (ρ' := env0 5 [.d (rl r)]) (ifF_of (notb_of (b := true) (b_of ((fn_of' (as := [.d (rl r)]) rfl rfl).trans (f_is_full _ hne)))) rfl) ?_)
  refine for_seq (ds := enD (r.map wd)) (fun ds ρ => (∀ d ∈ ds, ∃ (i : PyData) (b : List Nat), b ∈ r ∧ d = .tuple [i, wd b]) ∧ ∃ x1 x2 x3 x4, ρ = [some (.im (rl r)), x1, x2, x3, x4]) rfl ⟨fun d hd => ?_, _, _, _, _, rfl⟩ (fun d ds ρ hρ => ?_) (fun ρ' hρ => ?_)
  · obtain ⟨i, x, hx, rfl⟩ := enD_mem hd
    obtain ⟨b, hbr, rfl⟩ := List.mem_map.mp hx; have hb := hbr
    exact ⟨i, b, hb, rfl⟩
  · obtain ⟨hds, x1, x2, x3, x4, rfl⟩ := hρ
    obtain ⟨i, b, hb, rfl⟩ := hds d List.mem_cons_self
    have hbn : b.map I ≠ [] := by simpa using h.bl b hb
    have key := by
      refine seqfor_ex (fi := fun ρ => (aD (getD 2) aNil) ρ >>= asEn) (b := bTup 2 (bsCons (bNm 3) (bsCons (bNm 4) bsNil))) (g0 := sIf (cNotB (cB (cFn (argN 1 F_is_full) (aD (getD 2) aNil)))) (sRet (cTup (aD (cD (.str (Str.ofString "block"))) (aD (getD 1) aNil)))) sNil)
        (g := sIf (cNotB (cB (cFn (argN 2 F_is_below) (aD (getD 4) (aD (cCall gLen (aD (getD 0) aNil)) aNil))))) (sRet (cTup (aD (cD (.str (Str.ofString "letter"))) (aD (cTup (aD (getD 1) (aD (getD 3) aNil))) aNil)))) sNil)
        (ρ := [some (.im (rl r)), some (.im i), some (.im (wd b)), x3, x4]) (ds := enD (b.map I)) (fun ds ρ => (∀ d ∈ ds, ∃ (i : PyData) (a : Nat), a ∈ b ∧ d = .tuple [i, I a]) ∧ ∃ x1 x2 x3 x4, ρ = [some (.im (rl r)), x1, x2, x3, x4])
        (ifF_of (notb_of (b := true) (b_of ((fn_of' (as := [.d (wd b)]) rfl rfl).trans (f_is_full _ hbn)))) rfl) rfl ⟨fun d hd => ?_, _, _, _, _, rfl⟩ fun d ds ρ hρ => ?_
      · obtain ⟨i, x, hx, rfl⟩ := enD_mem hd
        obtain ⟨a, ha, rfl⟩ := List.mem_map.mp hx
        exact ⟨i, a, ha, rfl⟩
      · obtain ⟨hds, x1, x2, x3, x4, rfl⟩ := hρ
        obtain ⟨j, a, ha, rfl⟩ := hds d List.mem_cons_self
        refine ⟨_, rfl, _, ifF_of (notb_of (b := true) (b_of ((fn_of' (as := [.d (I a), .d (I r.length)]) ?_ rfl).trans ((f_is_below a _).trans (by simp [h.lt b hb a ha]))))) rfl, fun d hd => hds d (List.mem_cons_of_mem _ hd), _, _, _, _, rfl⟩
        refine d1_of rfl (d1_of (call1_of (x := rl r) rfl ?_) rfl)
        show some (PyData.int ((r.map wd).length : Nat)) = _
        rw [List.length_map]; try rfl
    obtain ⟨ρ2, e2, _, y1, y2, y3, y4, rfl⟩ := key
    exact ⟨_, rfl, _, e2, fun d hd => hds d (List.mem_cons_of_mem _ hd), _, _, _, _, rfl⟩
  · obtain ⟨_, x1, x2, x3, x4, rfl⟩ := hρ
    rfl
theorem f_is_rule (r : List (List Nat)) (h : OkR r) : F_is_rule [.d (rl r)] = pure (.bool true) :=
  ret_of' (bin_of ((fn_of' (as := [.d (rl r)]) rfl rfl).trans (f_rule_fault r h)) rfl rfl)
theorem f_need (x : PyData) : F_need [.d (.bool true), .d x] = pure .none := bodyN_of (ρ := [some (.im (.bool true)), some (.im x)]) (ifF_of (notb_of (b := true) (b_of rfl)) rfl)
/-- need(is_rule(r), ..) as a statement -/
theorem s_need {f : En → M PyData} {t : PyData} {ρ : En} (h : f ρ = pure (.bool true)) : sExpr (cFn (argN 2 F_need) (aD f (aD (cD t) aNil))) ρ = pure (.nx ρ) :=
  expr_of (x := .none) ((fn_of' (as := [.d (.bool true), .d t]) (d1_of h rfl) rfl).trans (f_need t))
/-! what becomes of words -/
def spr (r : List (List Nat)) (w : List Nat) : List Nat := w.flatMap fun a => r.getD a []
def nxt (r s : List (List Nat)) : List (List Nat) := s.map (spr r)
theorem gIx_rl (r : List (List Nat)) (a : Nat) (h : a < r.length) : gIx (rl r) (I a) = some (wd (r.getD a [])) := by
  show L2.atI (r.map wd) (a : Int) = _
  unfold L2.atI L2.ixN
  rw [if_pos (by omega), if_pos (by rw [List.length_map]; omega)]
  show (r.map wd)[(a : Int).toNat]? = _
  rw [Int.toNat_natCast, List.getElem?_map, List.getElem?_eq_getElem h]
  simp [List.getElem?_eq_getElem h, List.getD]
theorem f_spread (r : List (List Nat)) (w : List Nat) (hw : ∀ a ∈ w, a < r.length) (hl : (spr r w).length ≤ 16777216) : F_spread [.d (rl r), .d (wd w)] = pure (wd (spr r w)) := by
  refine ret_of' (call1_of (x := .list ((spr r w).map I)) ?_ rfl)
  have e : (spr r w).map I = (w.map I).flatMap (fun d => match d with | .int i => (r.getD i.toNat []).map I | _ => []) := by
    unfold spr
    rw [List.map_flatMap, List.flatMap_map]
    congr 1
  show lc2Go _ _ yes _ _ _ yes _ _ (w.map I) [] = _
  refine (lc2_det (g := fun d => match d with | .int i => (r.getD i.toNat []).map I | _ => []) (by rw [← e]; simpa using hl) fun d hd => ?_).trans (by rw [List.nil_append, ← e])
  obtain ⟨a, ha, rfl⟩ := List.mem_map.mp hd
  refine ⟨[some (.im (rl r)), some (.im (wd w)), some (.im (I a)), none], (r.getD a []).map I, id, rfl, rfl, ?_, by simp [I], fun d1 _ => ⟨_, rfl, rfl⟩⟩
  show cBin gIx (getD 0) (getD 2) _ >>= asT = _
  rw [bin_of (x := rl r) (y := I a) rfl rfl (gIx_rl r a (hw a ha))]
  rfl
end K03
end

section
set_option Elab.async false
set_option linter.all false
set_option maxRecDepth 100000
set_option maxHeartbeats 4100000
namespace K03
open PySem E
theorem gLen_rl (r : List (List Nat)) : gLen [rl r] = some (I r.length) := by
  show some (PyData.int ((r.map wd).length : Nat)) = _
  rw [List.length_map]; try rfl
theorem gLen_wd (w : List Nat) : gLen [wd w] = some (I w.length) := by
  show some (PyData.int ((w.map I).length : Nat)) = _
  rw [List.length_map]; try rfl
theorem len_is {f : En → M PyData} {ρ : En} {r : List (List Nat)} (h : f ρ = pure (rl r)) : cCall gLen (aD f aNil) ρ = pure (I r.length) := call1_of h (gLen_rl r)
theorem isr {f : En → M PyData} {ρ : En} {r : List (List Nat)} (h : f ρ = pure (rl r)) (ok : OkR r) : cFn (argN 1 F_is_rule) (aD f aNil) ρ = pure (.bool true) := (fn_of' (d1_of h rfl) rfl).trans (f_is_rule r ok)
theorem f_letters_of (r : List (List Nat)) (ok : OkR r) : F_letters_of [.d (rl r)] = pure (I r.length) := body_of (seq_of (s_need (isr rfl ok)) (ret_s (len_is rfl)))
theorem f_becomes (r : List (List Nat)) (w : List Nat) (ok : OkR r) (hw : ∀ a ∈ w, a < r.length) (h1 : w.length ≤ 16777216) (h2 : (spr r w).length ≤ 16777216) : F_becomes [.d (rl r), .d (wd w)] = pure (wd (spr r w)) :=
  body_of (seq_of (s_need (isr rfl ok)) (seq_of (s_need ((fn_of' (d1_of (x := wd w) rfl (d1_of (len_is rfl) rfl)) rfl).trans (f_are_below w _ hw h1))) (ret_s ((fn_of' (as := [.d (rl r), .d (wd w)]) rfl rfl).trans (f_spread r w hw h2)))))
theorem tupOf_is {f : En → M PyData} {ρ : En} {l : List PyData} (h : f ρ = pure (.list l)) : cCall gTupOf (aD f aNil) ρ = pure (.tuple l) := call1_of h rfl
theorem f_turned (r : List (List Nat)) (ok : OkR r) (hl : r.length ≤ 16777216) : F_turned [.d (rl r)] = pure (rl (r.map List.reverse)) := by
  refine body_of (seq_of (s_need (isr rfl ok)) (ret_s ((tupOf_is (l := (r.map List.reverse).map wd) ?_).trans rfl)))
  show lcGo _ _ yes _ _ (r.map wd) [] = _
  refine (lc_det (h := fun d => match d with | .tuple l => .tuple l.reverse | d => d) (by simpa using hl) fun d hd => ?_).trans ?_
  · obtain ⟨b, hb, rfl⟩ := List.mem_map.mp hd
    exact ⟨_, rfl, un_of' (x := wd b) rfl rfl⟩
  · rw [List.nil_append, List.map_map, List.map_map]
    congr 2
    apply List.map_congr_left
    intro b _
    show PyData.tuple (b.map I).reverse = PyData.tuple (b.reverse.map I)
    rw [List.map_reverse]
theorem f_next_blocks (r s : List (List Nat)) (hs : ∀ b ∈ s, ∀ a ∈ b, a < r.length) (hl : ∀ b ∈ s, (spr r b).length ≤ 16777216) (hn : s.length ≤ 16777216) : F_next_blocks [.d (rl r), .d (rl s)] = pure (rl (nxt r s)) := by
  refine ret_of' ((tupOf_is (l := (nxt r s).map wd) ?_).trans rfl)
  show lcGo _ _ yes _ _ (s.map wd) [] = _
  refine (lc_map (h := fun b => wd (spr r b)) s [] (by simpa using hn) fun b hb => ⟨_, rfl, (fn_of' (as := [.d (rl r), .d (wd b)]) rfl rfl).trans (f_spread r b (hs b hb) (hl b hb))⟩).trans ?_
  unfold nxt
  rw [List.nil_append, List.map_map]
  rfl
/-! ### levels -/
def lvl (r : List (List Nat)) : Nat → List (List Nat)
  | 0 => r
  | k + 1 => nxt r (lvl r k)
theorem getD_nxt (r s : List (List Nat)) (a : Nat) : (nxt r s).getD a [] = spr r (s.getD a []) := by
  unfold nxt
  rw [List.getD_eq_getElem?_getD]; rw [List.getD_eq_getElem?_getD, List.getElem?_map]
  cases s[a]? <;> rfl
theorem spr_nxt (r s : List (List Nat)) (w : List Nat) : spr (nxt r s) w = spr r (spr s w) := by
  unfold spr
  rw [List.flatMap_assoc]
  congr 1
  funext a
  exact getD_nxt r s a
theorem nxt_nxt (r s t : List (List Nat)) : nxt (nxt r s) t = nxt r (nxt s t) := by
  unfold nxt
  rw [List.map_map]
  apply List.map_congr_left
  intro w _
  exact spr_nxt r s w
theorem nxt_lvl (r : List (List Nat)) : ∀ a b, nxt (lvl r a) (lvl r b) = lvl r (a + b + 1)
  | 0, b => by rw [Nat.zero_add]; rfl
  | a + 1, b => by
    show nxt (nxt r (lvl r a)) (lvl r b) = _
    rw [nxt_nxt, nxt_lvl r a b]
    have : a + 1 + b + 1 = (a + b + 1) + 1 := by omega
    rw [this]; rfl
theorem lvl_len (r : List (List Nat)) : ∀ k, (lvl r k).length = r.length
  | 0 => rfl
  | k + 1 => by show (nxt r (lvl r k)).length = _; unfold nxt; rw [List.length_map, lvl_len r k]
theorem spr_lt {r : List (List Nat)} (ok : OkR r) {w : List Nat} : ∀ a ∈ spr r w, a < r.length := fun a ha => by
  unfold spr at ha
  obtain ⟨b, hb, h2⟩ := List.mem_flatMap.mp ha
  rw [List.getD_eq_getElem?_getD] at h2
  cases e : r[b]? with
  | none => rw [e] at h2; simp at h2
  | some c => rw [e] at h2; exact ok.lt c (List.mem_of_getElem? e) a h2
theorem lvl_lt {r : List (List Nat)} (ok : OkR r) : ∀ k, ∀ b ∈ lvl r k, ∀ a ∈ b, a < r.length
  | 0 => ok.lt
  | k + 1 => fun b hb a ha => by
    obtain ⟨c, hc, rfl⟩ := List.mem_map.mp hb
    exact spr_lt ok a ha
def down : Nat → List PyData
  | 0 => []
  | d + 1 => I d :: down d
theorem rng_down (L : Nat) : rngC ((L : Int) - 1) (-1) L = down L := by
  induction L with
  | zero => rfl
  | succ L ih =>
    have e : rngC (((L + 1 : Nat) : Int) - 1) (-1) (L + 1) = I L :: rngC ((L : Int) - 1) (-1) L := by
      unfold rngC
      rw [List.range_succ_eq_map]; rw [List.map_cons, List.map_map]
      have e1 : PyData.int (((L + 1 : Nat) : Int) - 1 + ((0 : Nat) : Int) * (-1)) = I L := by unfold I; congr 1; omega
      rw [e1]
      congr 1
      apply List.map_congr_left
      intro k _
      show PyData.int (((L + 1 : Nat) : Int) - 1 + ((k + 1 : Nat) : Int) * (-1)) = _
      congr 1; omega
    rw [e, ih]; rfl
theorem rg3_ok : ∀ L : Nat, L < 40 → decide ((-1 : Int) ≠ 0 ∧ (-1 : Int).natAbs < 1073741824 ∧ Builtin.Range.small ((L : Int) - 1) (-1) (-1) = true ∧ 0 ≤ Builtin.Range.rangeSize ((L : Int) - 1) (-1) (-1)) = true ∧ (Builtin.Range.rangeSize ((L : Int) - 1) (-1) (-1)).toNat = L := by decide
/-- what power's loop does with the blocks of the level k + 1 -/
theorem f_power (r : List (List Nat)) (ok : OkR r) (n : Nat) (h1 : 1 ≤ n) (hn : n < 2 ^ 40) (hr : r.length ≤ 1000) (hB : ∀ j, j < n → ∀ b ∈ lvl r j, b.length ≤ 16777216) : F_power [.d (rl r), .d (I n)] = pure (rl (lvl r (n - 1))) := by
  have hint : cAnd (cFn (argN 1 F_is_integer) (aD (getD 1) aNil)) (cBin gGe (getD 1) (cD (.int 1))) (env0 4 [.d (rl r), .d (I n)]) = pure (.bool true) := by
    refine and_of ((fn_of' (as := [.d (I n)]) rfl rfl).trans (f_is_integer n)) ?_
    show (pure (PyData.bool (decide ((1 : Int) ≤ (n : Int)))) : M PyData) = _
    have : (1 : Int) ≤ (n : Int) := by omega
    simp [this]
  refine body_of (seq_of (s_need (isr rfl ok)) (seq_of (s_need hint) (seq_of (ρ' := [some (.im (rl r)), some (.im (I n)), some (.im (rl r)), none]) (asg_of' (x := rl r) rfl rfl) ?_)))
  have hb0 : n ≠ 0 := by omega
  let L := n.log2
  have hbits : Builtin.Int.intBits (n : Int) = L + 1 := by
    unfold Builtin.Int.intBits
    have : ¬ ((n : Int) == 0) = true := by simp; omega
    rw [if_neg this]; rfl
  have hL : L < 40 := (Nat.log2_lt hb0).mpr hn
  have hlo : 2 ^ L ≤ n := Nat.log2_self_le hb0
  have hhi : n < 2 ^ (L + 1) := Nat.lt_log2_self
  have hrg : rg3 [.d (.int ((L : Int) - 1)), .d (.int (-1)), .d (.int (-1))] = pure (down L) := by
    obtain ⟨c1, c2⟩ := rg3_ok L hL
    show (if decide ((-1 : Int) ≠ 0 ∧ (-1 : Int).natAbs < 1073741824 ∧ Builtin.Range.small ((L : Int) - 1) (-1) (-1) = true ∧ 0 ≤ Builtin.Range.rangeSize ((L : Int) - 1) (-1) (-1)) = true then pure (rngC ((L : Int) - 1) (-1) (Builtin.Range.rangeSize ((L : Int) - 1) (-1) (-1)).toNat) else bad : M (List PyData)) = _
    rw [if_pos c1, c2, rng_down]
  refine for_seq (ds := down L) (fun ds ρ => ∃ d x, d ≤ L ∧ ds = down d ∧ ρ = [some (.im (rl r)), some (.im (I n)), some (.im (rl (lvl r (n / 2 ^ d - 1)))), x]) ?_ ⟨L, none, Nat.le_refl _, rfl, ?_⟩ (fun d0 ds ρ hρ => ?_) (fun ρ' hρ => ?_)
  · show _ >>= rg3 = _
    rw [d1_of (x := .int ((L : Int) - 1)) (r := [.d (.int (-1)), .d (.int (-1))]) (bin_of (x := .int ((L + 1 : Nat) : Int)) (y := .int 2) (un_of' (x := I n) rfl ?_) rfl ?_) rfl, pure_b, hrg]
    · show some (PyData.int (Builtin.Int.intBits (n : Int) : Nat)) = _
      rw [hbits]
    · show some (PyData.int (((L + 1 : Nat) : Int) - 2)) = _
      congr 2; omega
  · have : n / 2 ^ L = 1 := by
      have := Nat.div_lt_of_lt_mul (m := n) (n := 2 ^ L) (k := 2) (by rw [Nat.pow_succ] at hhi; omega)
      have h3 : 1 ≤ n / 2 ^ L := (Nat.le_div_iff_mul_le (Nat.pow_pos (by decide))).mpr (by omega)
      omega
    rw [this]; rfl
  · obtain ⟨d, x, hd, hds, rfl⟩ := hρ
    cases d with
    | zero => cases hds
    | succ d =>
      cases hds
      have hp : 0 < 2 ^ d := Nat.pow_pos (by decide)
      have hK1 : 1 ≤ n / 2 ^ (d + 1) := (Nat.le_div_iff_mul_le (Nat.pow_pos (by decide))).mpr (by
        have := Nat.pow_le_pow_right (n := 2) (by decide) hd
        omega)
      have h2K : n / 2 ^ d / 2 = n / 2 ^ (d + 1) := by rw [Nat.div_div_eq_div_mul, ← Nat.pow_succ]
      have hle : n / 2 ^ d ≤ n := Nat.div_le_self _ _
      generalize hK : n / 2 ^ (d + 1) = K at *
      generalize hM : n / 2 ^ d = M at *
      have hs1 : nxt (lvl r (K - 1)) (lvl r (K - 1)) = lvl r (2 * K - 1) := by
        rw [nxt_lvl]; congr 1; omega
      have e1 : F_next_blocks [.d (rl (lvl r (K - 1))), .d (rl (lvl r (K - 1)))] = pure (rl (lvl r (2 * K - 1))) := by
        rw [← hs1]
        refine f_next_blocks _ _ (fun b hb a ha => by rw [lvl_len]; exact lvl_lt ok _ b hb a ha) (fun b hb => ?_) (by rw [lvl_len]; omega)
        have hm : spr (lvl r (K - 1)) b ∈ lvl r (2 * K - 1) := by rw [← hs1]; exact List.mem_map.mpr ⟨b, hb, rfl⟩
        exact hB (2 * K - 1) (by omega) _ hm
      have hsh : gShr (I n) (I d) = some (I M) := by
        show (if decide (0 ≤ (d : Int)) = true then some (PyData.int ((n : Int) / 2 ^ (d : Int).toNat)) else none) = _
        rw [if_pos (by simp), Int.toNat_natCast]
        have : ((n : Int) / 2 ^ d) = ((n / 2 ^ d : Nat) : Int) := by simp
        rw [this, hM]; rfl
      have hband : gAnd (I M) (.int 1) = some (I (M % 2)) := by
        show some (PyData.int (Builtin.bitAnd (M : Int) 1)) = _
        rw [PyProof.Rows.bitAnd_m1]
        rfl
      have test : ∀ ρ : En, ρ[1]? = some (some (.im (I n))) → ρ[3]? = some (some (.im (I d))) → cB (cBin gEq (cBin gAnd (cBin gShr (getD 1) (getD 3)) (cD (.int 1))) (cD (.int 1))) ρ = pure (decide (M % 2 = 1)) := fun ρ h1 h3 => by
        have g1 : getD 1 ρ = pure (I n) := by unfold getD; rw [h1]
        have g3 : getD 3 ρ = pure (I d) := by unfold getD; rw [h3]
        refine b_of (bin_of (x := I (M % 2)) (y := .int 1) (bin_of (x := I M) (y := .int 1) (bin_of g1 g3 hsh) rfl hband) rfl ?_)
        show some (PyData.bool (decide (((M % 2 : Nat) : Int) = 1))) = _
        congr 2
        simp only [decide_eq_decide]; omega
      refine ⟨_, rfl, ?_⟩
      by_cases hodd : M % 2 = 1
      · have hMK : M = 2 * K + 1 := by omega
        have e2 : F_next_blocks [.d (rl r), .d (rl (lvl r (2 * K - 1)))] = pure (rl (lvl r (M - 1))) := by
          have hs2 : nxt r (lvl r (2 * K - 1)) = lvl r (M - 1) := by
            have : M - 1 = (2 * K - 1) + 1 := by omega
            rw [this]; rfl
          rw [← hs2]
          refine f_next_blocks _ _ (fun b hb a ha => lvl_lt ok _ b hb a ha) (fun b hb => ?_) (by rw [lvl_len]; omega)
          have hm : spr r b ∈ lvl r (M - 1) := by rw [← hs2]; exact List.mem_map.mpr ⟨b, hb, rfl⟩
          exact hB (M - 1) (by omega) _ hm
        refine ⟨_, seq_of (asg_of' ((fn_of' (as := [.d (rl (lvl r (K - 1))), .d (rl (lvl r (K - 1)))]) rfl rfl).trans e1) rfl) (ifT_of ((test _ rfl rfl).trans (by rw [hodd]; rfl)) (asg_of' ((fn_of' (as := [.d (rl r), .d (rl (lvl r (2 * K - 1)))]) rfl rfl).trans e2) rfl)), d, some (.im (I d)), by omega, rfl, ?_⟩
        rw [hM]; rfl
      · have hMK : M = 2 * K := by omega
        refine ⟨_, seq_of (asg_of' ((fn_of' (as := [.d (rl (lvl r (K - 1))), .d (rl (lvl r (K - 1)))]) rfl rfl).trans e1) rfl) (ifF_of ((test _ rfl rfl).trans (by simp [hodd])) rfl), d, some (.im (I d)), by omega, rfl, ?_⟩
        rw [hM, hMK]; rfl
  · obtain ⟨d, x, hd, hds, rfl⟩ := hρ
    cases d with
    | succ d => cases hds
    | zero =>
      rw [Nat.pow_zero]; rw [Nat.div_one]
      rfl
end K03
end

section
set_option Elab.async false
set_option linter.all false
set_option maxRecDepth 100000
set_option maxHeartbeats 4100000
namespace K03
open PySem E
/-! ### draws -/
def isI (d : PyData) : Prop := ∃ n : Int, d = .int n
def inR (m : Int) (d : PyData) : Prop := ∃ n : Int, d = .int n ∧ 0 ≤ n ∧ n < m
theorem T_bin {g : PyData → PyData → Option PyData} {fa fb : En → M PyData} {ρ : En} {P Q R : PyData → Prop} (ha : T (fa ρ) P) (hb : T (fb ρ) Q) (hg : ∀ x y, P x → Q y → ∃ d, g x y = some d ∧ R d) : T (cBin g fa fb ρ) R :=
  T_bind ha fun x hx => T_bind hb fun y hy => by
    obtain ⟨d, e, h⟩ := hg x y hx hy
    rw [e]; exact T_pure h
theorem T_un {g : PyData → Option PyData} {f : En → M PyData} {ρ : En} {P R : PyData → Prop} (ha : T (f ρ) P) (hg : ∀ x, P x → ∃ d, g x = some d ∧ R d) : T (cUn g f ρ) R :=
  T_bind ha fun x hx => by
    obtain ⟨d, e, h⟩ := hg x hx
    rw [e]; exact T_pure h
theorem T_c {d : PyData} {ρ : En} {P : PyData → Prop} (h : P d) : T (cD d ρ) P := T_pure h
theorem T_v {i : Nat} {ρ : En} {d : PyData} {P : PyData → Prop} (e : ρ[i]? = some (some (.im d))) (h : P d) : T (getD i ρ) P := by
  unfold getD; rw [e]; exact T_pure h
theorem T_get {i : Nat} {k : Fk} {ρ : En} (e : ρ[i]? = some (some .fd)) (hk : k ≠ .cells) : T (cFget i k ρ) isI := fun S => by
  unfold cFget getF
  rw [e]
  cases k with
  | cells => exact absurd rfl hk
  | place => exact ⟨_, S, rfl, _, rfl⟩
  | rest => exact ⟨_, S, rfl, _, rfl⟩
  | turn => exact ⟨_, S, rfl, _, rfl⟩
theorem T_getC {i : Nat} {ρ : En} (e : ρ[i]? = some (some .fd)) : T (cFget i .cells ρ) (fun d => ∃ ns : List Int, d = .list (ns.map PyData.int)) := fun S => by
  unfold cFget getF
  rw [e]
  exact ⟨_, S, rfl, _, rfl⟩
theorem T_put {i : Nat} {k : Fk} {f : En → M PyData} {ρ : En} (e : ρ[i]? = some (some .fd)) (h : T (f ρ) isI) : T (sFput i k f ρ) (fun fl => fl = .nx ρ) := by
  unfold sFput
  refine T_bind h fun d ⟨n, hn⟩ => ?_
  subst hn
  intro S
  unfold getF
  rw [e]
  exact ⟨_, _, rfl, rfl⟩
theorem T_cB {f : En → M PyData} {ρ : En} (h : T (f ρ) (fun d => ∃ b, d = .bool b)) : T (cB f ρ) (fun _ => True) := T_bind h fun d ⟨b, e⟩ => by subst e; exact T_pure trivial
theorem T_if {c : En → M Bool} {g h : En → M Fl} {ρ : En} {P : Fl → Prop} (hc : T (c ρ) (fun _ => True)) (hg : T (g ρ) P) (hh : T (h ρ) P) : T (sIf c g h ρ) P := T_bind hc fun b _ => by cases b; exact hh; exact hg
theorem T_asg {f : En → M PyData} {i : Nat} {ρ : En} {P : PyData → Prop} (h : T (f ρ) P) : T (sAsg f (bNm i) ρ) (fun fl => ∃ d, P d ∧ fl = .nx (ρ.set i (some (.im d)))) := T_bind h fun d hd => T_pure ⟨d, hd, rfl⟩
theorem T_ret {f : En → M PyData} {ρ : En} {P : PyData → Prop} (h : T (f ρ) P) : T (sRet f ρ) (fun fl => ∃ d, fl = .rt d ∧ P d) := T_bind h fun d hd => T_pure ⟨d, rfl, hd⟩
theorem g_int2 {f : Int → Int → Int} {x y : PyData} (hx : isI x) (hy : isI y) : ∃ d, int2 (fun i j => .int (f i j)) x y = some d ∧ isI d := by
  obtain ⟨i, rfl⟩ := hx
  obtain ⟨j, rfl⟩ := hy
  exact ⟨_, rfl, _, rfl⟩
theorem g_add {x y : PyData} (hx : isI x) (hy : isI y) : ∃ d, gAdd x y = some d ∧ isI d := g_int2 hx hy
theorem g_mod {m : Int} (hm : 0 < m) {x : PyData} (hx : isI x) : ∃ d, gMod x (.int m) = some d ∧ inR m d := by
  obtain ⟨i, rfl⟩ := hx
  have : m ≠ 0 := by omega
  refine ⟨.int (i.fmod m), by show (if decide (m ≠ 0) = true then _ else _) = _; rw [if_pos (by simp [this])], _, rfl, Int.fmod_nonneg_of_pos _ hm, Int.fmod_lt_of_pos _ hm⟩
theorem g_div {m : Int} (hm : 0 < m) (h2 : m < 1073741824) {x : PyData} (hx : isI x) : ∃ d, gDiv x (.int m) = some d ∧ isI d := by
  obtain ⟨i, rfl⟩ := hx
  refine ⟨.int (i.fdiv m), ?_, _, rfl⟩
  show (if decide (m ≠ 0 ∧ m.natAbs < 1073741824) = true then _ else _) = _
  rw [if_pos (by simp; omega)]
theorem g_mulc {c : Int} (h : -(2 ^ 64) < c ∧ c < 2 ^ 64) {y : PyData} (hy : isI y) : ∃ d, gMul (.int c) y = some d ∧ isI d := by
  obtain ⟨j, rfl⟩ := hy
  refine ⟨.int (c * j), ?_, _, rfl⟩
  show (if decide ((-(2 ^ 64) < c ∧ c < 2 ^ 64) ∨ (-(2 ^ 64) < j ∧ j < 2 ^ 64)) = true then _ else _) = _
  rw [if_pos (by simp only [decide_eq_true_eq]; exact .inl h)]
theorem g_mulr {m : Int} (hm : m < 2 ^ 60) {x y : PyData} (hx : inR m x) (hy : isI y) : ∃ d, gMul x y = some d ∧ isI d := by
  obtain ⟨i, rfl, h0, h1⟩ := hx
  exact g_mulc ⟨by omega, by omega⟩ hy
theorem isI_of {m : Int} {d : PyData} (h : inR m d) : isI d := by obtain ⟨n, e, _⟩ := h; exact ⟨n, e⟩
theorem g_cmp {f : Int → Int → Bool} {x y : PyData} (hx : isI x) (hy : isI y) : ∃ d, int2 (fun i j => .bool (f i j)) x y = some d ∧ ∃ b, d = .bool b := by
  obtain ⟨i, rfl⟩ := hx
  obtain ⟨j, rfl⟩ := hy
  exact ⟨_, rfl, _, rfl⟩
theorem g_int {x : PyData} (hx : isI x) : ∃ d, gInt x = some d ∧ isI d := by obtain ⟨i, rfl⟩ := hx; exact ⟨_, rfl, _, rfl⟩
theorem lay_ints : ∀ ns : List Int, PyData.canLayAll0 (ns.map PyData.int) = true
  | [] => (by simp [PyData.canLayAll0])
  | n :: ns => by simp [PyData.canLayAll0, PyData.canLay0, lay_ints ns]
theorem dep_ints : ∀ ns : List Int, PyData.depthAll (ns.map PyData.int) = 0
  | [] => (by simp [PyData.depthAll])
  | n :: ns => by simp [PyData.depthAll, PyData.depth, dep_ints ns]
theorem shaped_ints (ns : List Int) : SeqAt.shaped (.list (ns.map PyData.int)) = true := by
  unfold SeqAt.shaped
  simp [PyData.canLay0, lay_ints, PyData.depth, dep_ints]
theorem ne_nil (ns : List Int) : gNeD (.list (ns.map PyData.int)) (.list []) = some (.bool (!ns.isEmpty)) := by
  unfold gNeD
  have h2 := shaped_ints []
  rw [List.map_nil] at h2
  rw [shaped_ints, h2]
  cases ns with
  | nil => simp [PyData.eqv, PyData.eqvAll]
  | cons a l => simp [PyData.eqv, PyData.eqvAll]
theorem f_draw (L : Nat) (h0 : 0 < L) (h1 : L < 1000000) : T (F__law_draw [.fd, .d (I L)]) (fun d => ∃ n : Nat, d = I n ∧ n < L) := by
  have fin : ∀ d, inR L d → ∃ n : Nat, d = I n ∧ n < L := fun d ⟨n, e, a, b⟩ => ⟨n.toNat, by rw [e]; unfold I; congr 1; omega, by omega⟩
  refine T_imp (P := inR L) (T_body ?_) fin
  have hL : isI (I L) := ⟨_, rfl⟩
  refine T_seq (T_put rfl (T_bin (T_get rfl (by decide)) (T_c (P := isI) ⟨_, rfl⟩) fun _ _ => g_add)) fun fl e => ?_
  subst e
  have modL : ∀ {f : En → M PyData} {ρ : En} {j : Nat}, T (f ρ) isI → ρ[j]? = some (some (.im (I L))) → T (cBin gMod (cUn gInt f) (getD j) ρ) (inR L) := fun hf hj =>
    T_bin (Q := fun d => d = I L) (T_un hf fun _ => g_int) (T_v hj rfl) fun x y hx hy => by subst hy; exact g_mod (m := (L : Int)) (by omega) hx
  have divL : ∀ {f : En → M PyData} {ρ : En} {j : Nat}, T (f ρ) isI → ρ[j]? = some (some (.im (I L))) → T (cBin gDiv f (getD j) ρ) isI := fun hf hj =>
    T_bin (Q := fun d => d = I L) hf (T_v hj rfl) fun x y hx hy => by subst hy; exact g_div (m := (L : Int)) (by omega) (by omega) hx
  let ρ0 : En := env0 7 [.fd, .d (I L)]
  refine T_seq (P := fun fl => fl = .nx ρ0 ∨ ∃ d, fl = .rt d ∧ inR L d) (T_if (T_cB (T_bin (T_get rfl (by decide)) (T_c (P := isI) ⟨_, rfl⟩) fun _ _ => g_cmp)) ?_ (T_pure (.inl rfl))) fun fl e => ?_
  · refine T_seq (T_asg (modL (T_get rfl (by decide)) rfl)) fun fl ⟨d, hd, e⟩ => ?_
    subst e
    refine T_seq (T_put rfl (divL (T_get rfl (by decide)) rfl)) fun fl e => ?_
    subst e
    exact T_imp (T_ret (T_v rfl hd)) fun _ => .inr
  refine e.elim (fun e => ?_) (fun ⟨d, e, hd⟩ => by subst e; exact T_pure ⟨d, rfl, hd⟩)
  subst e
  -- the cells and the place
  refine T_seq (P := fun fl => ∃ (ns : List Int) (p : Int), fl = .nx [some .fd, some (.im (I L)), none, none, none, some (.im (.list (ns.map PyData.int))), some (.im (.int p))]) ?_ fun fl ⟨ns, p, e⟩ => ?_
  · refine T_bind (P := fun as => ∃ (ns : List Int) (p : Int), as = [.d (.list (ns.map PyData.int)), .d (.int p)]) (T_bind (T_getC rfl) fun x ⟨ns, hx⟩ => T_bind (P := fun r => ∃ p : Int, r = [Ag.d (.int p)]) (T_bind (T_get rfl (by decide)) fun y ⟨p, hy⟩ => T_pure ⟨p, by rw [hy]⟩) fun r ⟨p, hr⟩ => T_pure ⟨ns, p, by rw [hx, hr]⟩) fun as ⟨ns, p, e⟩ => ?_
    subst e
    exact T_pure ⟨ns, p, rfl⟩
  subst e
  refine T_seq (T_put rfl (T_bin (T_v (P := isI) rfl ⟨_, rfl⟩) (T_c (P := isI) ⟨_, rfl⟩) fun _ _ => g_add)) fun fl e => ?_
  subst e
  have glen : ∀ {ρ : En}, ρ[5]? = some (some (.im (.list (ns.map PyData.int)))) → T (cCall gLen (aD (getD 5) aNil) ρ) (fun d => d = .int ns.length) := fun {ρ} h => by
    have e : getD 5 ρ = pure (.list (ns.map PyData.int)) := by unfold getD; rw [h]
    rw [call1_of (g := gLen) (d := .int ns.length) e (by show some (PyData.int ((ns.map PyData.int).length : Nat)) = _; rw [List.length_map])]
    exact T_pure rfl
  refine T_seq (T_asg (P := isI) ?_) fun fl ⟨c, hc, e⟩ => ?_
  · refine T_bind (P := fun b => b = !ns.isEmpty) (T_bind (T_bin (P := fun d => d = .list (ns.map PyData.int)) (Q := fun d => d = .list []) (R := fun d => d = .bool (!ns.isEmpty)) (T_v rfl rfl) (T_pure rfl) fun x y hx hy => by subst hx hy; exact ⟨_, ne_nil ns, rfl⟩) fun d hd => by subst hd; exact T_pure rfl) fun b hb => ?_
    subst hb
    cases hns : ns with
    | nil => exact T_pure ⟨_, rfl⟩
    | cons a l =>
      have hpos : (0 : Int) < ns.length := by rw [hns]; simp
      show T (cBin gIx (getD 5) (cBin gMod (cUn gInt (getD 6)) (cCall gLen (aD (getD 5) aNil))) _) isI
      refine T_bin (P := fun d => d = .list (ns.map PyData.int)) (Q := inR ns.length) (T_v (by rw [hns]; rfl) rfl) (T_bin (Q := fun d => d = .int ns.length) (T_un (T_v (P := isI) rfl ⟨_, rfl⟩) fun _ => g_int) (glen (by rw [hns]; rfl)) fun x y hx hy => by subst hy; exact g_mod hpos hx) fun x y hx ⟨n, hy, a0, a1⟩ => ?_
      subst hx hy
      have hlt : n.toNat < ns.length := by omega
      refine ⟨.int ns[n.toNat], ?_, _, rfl⟩
      show L2.atI (ns.map PyData.int) n = _
      unfold L2.atI L2.ixN
      rw [if_pos a0, if_pos (by rw [List.length_map]; omega)]
      show (ns.map PyData.int)[n.toNat]? = _
      rw [List.getElem?_map, List.getElem?_eq_getElem hlt]; rfl
  subst e
  obtain ⟨cv, rfl⟩ := hc
  refine T_seq (P := fun fl => fl = .nx ([some .fd, some (.im (I L)), some (.im (.int cv)), none, none, some (.im (.list (ns.map PyData.int))), some (.im (.int p))] : En) ∨ ∃ d, fl = .rt d ∧ inR L d) (T_if ?_ ?_ (T_pure (.inl rfl))) fun fl e => ?_
  · refine T_bind (T_cB (T_bin (T_v (P := isI) rfl ⟨_, rfl⟩) (T_pure (P := isI) ⟨10 ^ 18, rfl⟩) fun _ _ => g_cmp)) fun b _ => ?_
    cases b with
    | false => exact T_pure trivial
    | true => exact T_cB (T_bin (T_v (P := isI) rfl ⟨_, rfl⟩) (T_imp (glen rfl) fun d h => ⟨_, h⟩) fun _ _ => g_cmp)
  · refine T_seq (T_put rfl (divL (T_v rfl ⟨_, rfl⟩) rfl)) fun fl e => ?_
    subst e
    exact T_imp (T_ret (modL (T_v rfl ⟨_, rfl⟩) rfl)) fun _ => .inr
  refine e.elim (fun e => ?_) (fun ⟨d, e, hd⟩ => by subst e; exact T_pure ⟨d, rfl, hd⟩)
  subst e
  have modC : ∀ {f : En → M PyData} {ρ : En} {m : Int}, 0 < m → T (f ρ) isI → T (cBin gMod f (cD (.int m)) ρ) (inR m) := fun hm hf =>
    T_bin (Q := fun d => d = .int _) hf (T_c rfl) fun x y hx hy => by subst hy; exact g_mod hm hx
  have mulC : ∀ {f : En → M PyData} {ρ : En} {c : Int}, (-(2 ^ 64) < c ∧ c < 2 ^ 64) → T (f ρ) isI → T (cBin gMul (cD (.int c)) f ρ) isI := fun hc hf =>
    T_bin (P := fun d => d = .int _) (T_c rfl) hf fun x y hx hy => by subst hx; exact g_mulc hc hy
  refine T_seq (T_asg (modC (by decide) (T_un (T_bin (T_bin (T_imp (modC (by decide) (T_un (T_v rfl ⟨_, rfl⟩) fun _ => g_int)) fun _ => isI_of) (mulC (by decide) (T_get rfl (by decide))) fun _ _ => g_add) (T_c (P := isI) ⟨_, rfl⟩) fun _ _ => g_add) fun _ => g_int))) fun fl ⟨b1, hb1, e⟩ => ?_
  subst e
  refine T_seq (T_asg (modC (by decide) (T_un (T_bin (T_bin (T_bin (T_v rfl hb1) (T_v rfl (isI_of hb1)) fun _ _ => g_mulr (by decide)) (mulC (by decide) (T_get rfl (by decide))) fun _ _ => g_add) (T_c (P := isI) ⟨_, rfl⟩) fun _ _ => g_add) fun _ => g_int))) fun fl ⟨b2, hb2, e⟩ => ?_
  subst e
  refine T_ret (modL (T_bin (Q := fun d => d = .int 32) (T_imp (modC (by decide) (T_un (T_bin (T_bin (T_v rfl hb2) (T_v rfl (isI_of hb2)) fun _ _ => g_mulr (by decide)) (mulC (by decide) (T_v rfl (isI_of hb2))) fun _ _ => g_add) fun _ => g_int)) fun _ => isI_of) (T_c rfl) fun x y hx hy => by subst hy; exact g_div (by decide) (by decide) hx) rfl)
end K03
end

section
set_option Elab.async false
set_option linter.all false
set_option maxRecDepth 100000
set_option maxHeartbeats 4100000
namespace K03
open PySem E
def fine (d : PyData) : Prop := ((∃ xs, d = .list xs) ∨ ∃ xs, d = .tuple xs) ∧ okD d = true ∧ d.depth ≤ 100 ∧ nod d ≤ 600000
theorem repr_of {f : En → M PyData} {ρ : En} {x : PyData} (h : f ρ = pure x) (hf : fine x) : cUn gRepr f ρ = pure (.str x.shown) := un_of' h (gRepr_ok hf.1 hf.2.1 hf.2.2.1 hf.2.2.2)
theorem f_same (x : PyData) (h : fine x) : F__law_same [.d x, .d x] = pure (.bool true) := by
  refine ret_of' (bin_of (x := .str x.shown) (y := .str x.shown) (repr_of rfl h) (repr_of rfl h) ?_)
  show some (PyData.bool (decide (x.shown = x.shown))) = _
  simp
theorem okD_wd {w : List Nat} (h : ∀ a ∈ w, a < 1000000) : okD (wd w) = true := by
  refine okDs_all.mpr fun x hx => ?_
  obtain ⟨a, ha, rfl⟩ := List.mem_map.mp hx
  have := h a ha
  show decide ((0 : Int) ≤ (a : Int) ∧ (a : Int) < 1048576) = true
  simp; omega
theorem nod_wd (w : List Nat) : nod (wd w) = 1 + w.length := by
  show 1 + nods (w.map I) = _
  induction w with
  | nil => rfl
  | cons a l ih => simp only [List.map_cons, nods, List.length_cons] at *; have : nod (I a) = 1 := rfl; omega
theorem dep_wd (w : List Nat) : (wd w).depth ≤ 1 := by
  show PyData.depth (.tuple _) ≤ 1
  simp only [PyData.depth]
  have := depthAll_le (xs := w.map I) (m := 0) fun x hx => by
    obtain ⟨a, _, rfl⟩ := (List.mem_map.mp hx)
    show PyData.depth (.int _) ≤ 0
    simp [PyData.depth]
  omega
theorem okD_rl {r : List (List Nat)} (h : ∀ b ∈ r, ∀ a ∈ b, a < 1000000) : okD (rl r) = true := by
  refine okDs_all.mpr fun x hx => ?_
  obtain ⟨b, hbr, rfl⟩ := List.mem_map.mp hx; have hb := hbr
  exact okD_wd (h b hb)
theorem dep_rl (r : List (List Nat)) : (rl r).depth ≤ 2 := by
  show PyData.depth (.tuple _) ≤ 2
  simp only [PyData.depth]
  have := depthAll_le (xs := r.map wd) (m := 1) fun x hx => by
    obtain ⟨b, _, rfl⟩ := List.mem_map.mp hx
    exact dep_wd b
  omega
theorem nod_rl {r : List (List Nat)} {m : Nat} (h : ∀ b ∈ r, b.length ≤ m) : nod (rl r) ≤ 1 + r.length * (1 + m) := by
  show 1 + nods (r.map wd) ≤ _
  have := nods_le (xs := r.map wd) (m := 1 + m) fun x hx => by
    obtain ⟨b, hbr, rfl⟩ := List.mem_map.mp hx; have hb := hbr
    rw [nod_wd]; have := h b hb; omega
  rw [List.length_map] at this
  omega
/-- a list of things that are fine, few and small -/
theorem fine_list {l : List PyData} (h : ∀ x ∈ l, okD x = true ∧ x.depth ≤ 50 ∧ nod x ≤ 50000) (hl : l.length ≤ 10) : fine (.list l) := by
  refine ⟨.inl ⟨l, rfl⟩, okDs_all.mpr fun x hx => (h x hx).1, ?_, ?_⟩
  · simp only [PyData.depth]
    have := depthAll_le (xs := l) (m := 50) fun x hx => (h x hx).2.1
    omega
  · show 1 + nods l ≤ _
    have := nods_le (xs := l) (m := 50000) fun x hx => (h x hx).2.2
    have h2 : l.length * 50000 ≤ 10 * 50000 := Nat.mul_le_mul_right _ hl
    omega
theorem small_I {a : Nat} (h : a < 1000000) : okD (I a) = true ∧ (I a).depth ≤ 50 ∧ nod (I a) ≤ 50000 :=
  ⟨by show decide ((0 : Int) ≤ (a : Int) ∧ (a : Int) < 1048576) = true; simp; omega, by show PyData.depth (.int _) ≤ _; simp [PyData.depth], by show 1 ≤ _; omega⟩
theorem small_wd {w : List Nat} (h : ∀ a ∈ w, a < 1000000) (hl : w.length ≤ 40000) : okD (wd w) = true ∧ (wd w).depth ≤ 50 ∧ nod (wd w) ≤ 50000 :=
  ⟨okD_wd h, by have := dep_wd w; omega, by rw [nod_wd]; omega⟩
theorem small_rl {r : List (List Nat)} {m : Nat} (h : ∀ b ∈ r, ∀ a ∈ b, a < 1000000) (hm : ∀ b ∈ r, b.length ≤ m) (hl : r.length * (1 + m) ≤ 49000) : okD (rl r) = true ∧ (rl r).depth ≤ 50 ∧ nod (rl r) ≤ 50000 :=
  ⟨okD_rl h, by have := dep_rl r; omega, by have := nod_rl hm; omega⟩
theorem fine_of {x : PyData} (ht : (∃ xs, x = .list xs) ∨ ∃ xs, x = .tuple xs) (h : okD x = true ∧ x.depth ≤ 50 ∧ nod x ≤ 50000) : fine x := ⟨ht, h.1, by omega, by omega⟩

/-! ### drawn things -/
theorem fn_T {F : Fn} {n : Nat} {fs : En → M (List Ag)} {ρ : En} {as : List Ag} {P : PyData → Prop} (h : fs ρ = pure as) (hn : as.length = n) (hT : T (F as) P) : T (cFn (argN n F) fs ρ) P := T_eq (fn_of' h hn) hT
theorem af_of {i : Nat} {fs : En → M (List Ag)} {ρ : En} {r : List Ag} (e : ρ[i]? = some (some .fd)) (hr : fs ρ = pure r) : aF i fs ρ = pure (.fd :: r) := by
  unfold aF getF
  rw [e]
  show fs ρ >>= _ = _
  rw [hr]; rfl
theorem rg1_int (j : Int) (h : inRg j = true) : rg1 [.d (.int j)] = pure (rngD 0 j.toNat) := by
  unfold rg1
  exact if_pos h
theorem rngD_I (n : Nat) : rngD 0 n = (List.range n).map I := by
  unfold rngD
  apply List.map_congr_left
  intro k _
  unfold I
  rw [Int.zero_add]
theorem inRg_of {j : Int} (h0 : 0 ≤ j) (h : j < 1000000) : inRg j = true := by
  unfold inRg
  have : (2 : Int) ^ 62 = 4611686018427387904 := by decide
  rw [this]
  exact decide_eq_true ⟨by omega, by omega⟩
theorem rg1_I (n : Nat) (h : n < 1000000) : rg1 [.d (I n)] = pure ((List.range n).map I) := by
  unfold I
  rw [rg1_int _ (inRg_of (by omega) (by omega)), Int.toNat_natCast, rngD_I]; rfl
theorem rg_at {g : En → M PyData} {ρ : En} {n : Nat} (hg : g ρ = pure (I n)) (h : n < 1000000) : ((aD g aNil) ρ >>= rg1) = pure ((List.range n).map I) := by
  rw [d1_of hg rfl, pure_b, rg1_I n h]
theorem draw_at {i : Nat} {g : En → M PyData} {ρ : En} {L : Nat} (e : ρ[i]? = some (some .fd)) (hg : g ρ = pure (I L)) (h0 : 0 < L) (h1 : L < 1000000) : T (cFn (argN 2 F__law_draw) (aF i (aD g aNil)) ρ) (fun d => ∃ n : Nat, d = I n ∧ n < L) :=
  fn_T (as := [.fd, .d (I L)]) (af_of e (d1_of hg rfl)) rfl (f_draw L h0 h1)
theorem T_tupOf {f : En → M PyData} {ρ : En} {P : List PyData → Prop} (h : T (f ρ) (fun d => ∃ l, d = .list l ∧ P l)) : T (cCall gTupOf (aD f aNil) ρ) (fun d => ∃ l, d = .tuple l ∧ P l) := by
  unfold cCall aD
  refine T_bind (T_bind h fun d ⟨l, e, hp⟩ => T_bind (T_pure rfl : T (aNil ρ) (fun r => r = [])) fun r hr => T_pure (P := fun as => ∃ l, as = [Ag.d (.list l)] ∧ P l) ⟨l, by rw [e, hr], hp⟩) fun as ⟨l, e, hp⟩ => ?_
  subst e
  exact T_pure ⟨l, rfl, hp⟩
/-- a comprehension over a list of things, each element drawn so that P -/
theorem T_lcM {α : Type} {vs : List Nat} {b : PyData → En → Option En} {fe : En → M PyData} {ρ : En} {e : α → PyData} {β : Type} {h : β → PyData} {P : β → Prop} : ∀ (l : List α) (acc : List β), l.length + acc.length ≤ 16777216 → (∀ a ∈ l, ∃ ρ1, b (e a) (wipeE ρ vs) = some ρ1 ∧ T (fe ρ1) (fun d => ∃ y, d = h y ∧ P y)) → (∀ y ∈ acc, P y) →
    T (lcGo vs b yes fe ρ (l.map e) (acc.map h)) (fun r => ∃ ys : List β, r = .list (ys.map h) ∧ ys.length = acc.length + l.length ∧ ∀ y ∈ ys, P y)
  | [], acc, _, _, hp => T_pure ⟨acc, rfl, by simp, hp⟩
  | a :: l, acc, hl, hh, hp => by
    obtain ⟨ρ1, e1, h1⟩ := hh a List.mem_cons_self
    simp only [List.length_cons] at hl
    have e2 : lcGo vs b yes fe ρ ((a :: l).map e) (acc.map h) = (fe ρ1 >>= fun y => if (acc.map h).length < 16777216 then lcGo vs b yes fe ρ (l.map e) (acc.map h ++ [y]) else bad) := by
      show (match b (e a) (wipeE ρ vs) with
        | none => bad
        | some ρ1 => yes ρ1 >>= fun c => if c then fe ρ1 >>= fun y => if (acc.map h).length < 16777216 then lcGo vs b yes fe ρ (l.map e) (acc.map h ++ [y]) else bad else lcGo vs b yes fe ρ (l.map e) (acc.map h)) = _
      rw [e1]; rfl
    refine T_eq e2 (T_bind h1 fun d ⟨y, hy, py⟩ => ?_)
    subst hy
    rw [if_pos (by rw [List.length_map]; omega)]
    have e3 : acc.map h ++ [h y] = (acc ++ [y]).map h := by simp
    rw [e3]
    refine T_imp (T_lcM l (acc ++ [y]) (by simp; omega) (fun a ha => hh a (List.mem_cons_of_mem _ ha)) fun z hz => ?_) fun r ⟨ys, e4, l4, p4⟩ => ⟨ys, e4, by rw [l4]; simp; omega, p4⟩
    rcases List.mem_append.mp hz with z1 | z1
    · exact hp z z1
    · rw [List.mem_singleton.mp z1]; exact py
theorem f_row (many most : Nat) (h0 : 0 < many) (h1 : many < 1000000) (h2 : most < 1000) : T (F__law_row [.fd, .d (I many), .d (I most)]) (fun d => ∃ w, d = wd w ∧ (∀ a ∈ w, a < many) ∧ w.length ≤ most) := by
  refine T_body (T_ret (T_imp (T_tupOf (P := fun l => ∃ w : List Nat, l = w.map I ∧ (∀ a ∈ w, a < many) ∧ w.length ≤ most) ?_) fun d ⟨l, e, w, el, hw⟩ => ⟨w, by rw [e, el]; rfl, hw⟩))
  unfold cLc
  have e1 : cBin gAdd (getD 2) (cD (.int 1)) (env0 4 [.fd, .d (I many), .d (I most)]) = pure (I (most + 1)) := by
    refine bin_of (x := I most) (y := .int 1) rfl rfl ?_
    show some (PyData.int ((most : Int) + 1)) = _
    unfold I; congr 2
  refine T_bind (P := fun ds => ∃ n, n ≤ most ∧ ds = (List.range n).map I) ?_ fun ds ⟨n, hn, e⟩ => ?_
  · refine T_bind (P := fun as => ∃ n : Nat, n ≤ most ∧ as = [Ag.d (I n)]) ?_ fun as ⟨n, hn, e⟩ => by subst e; rw [rg1_I n (by omega)]; exact T_pure ⟨n, hn, rfl⟩
    unfold aD
    refine T_bind (draw_at rfl e1 (by omega) (by omega)) fun d ⟨n, hd, hn⟩ => T_bind (T_pure rfl : T (aNil _) (fun r => r = [])) fun r hr => T_pure ⟨n, by omega, by rw [hd, hr]⟩
  · subst e
    refine T_imp (T_lcM (h := I) (P := fun a => a < many) (List.range n) [] (by simp; omega) (fun a _ => ⟨_, rfl, draw_at rfl rfl h0 h1⟩) (by simp)) fun r ⟨ys, er, ly, py⟩ => ⟨_, er, ys, rfl, py, by rw [ly]; simp; omega⟩
theorem g_1add (n : Nat) : gAdd (.int 1) (I n) = some (I (1 + n)) := by
  show some (PyData.int (1 + (n : Int))) = _
  unfold I; congr 2
theorem T_1add {f : En → M PyData} {ρ : En} {P : Nat → Prop} (h : T (f ρ) (fun d => ∃ n, d = I n ∧ P n)) : T (cBin gAdd (cD (.int 1)) f ρ) (fun d => ∃ n, d = I (1 + n) ∧ P n) :=
  T_bin (P := fun x => x = .int 1) (T_c rfl) h fun x y hx ⟨n, hy, hp⟩ => by subst hx hy; exact ⟨_, g_1add n, n, rfl, hp⟩
theorem f_grow (most : Nat) (h0 : 0 < most) (h1 : most ≤ 12) : T (F__law_grow [.fd, .d (I most)]) (fun d => ∃ r, d = rl r ∧ OkR r ∧ r.length ≤ most ∧ ∀ b ∈ r, b.length ≤ 3) := by
  refine T_body ?_
  -- many, even
  refine T_seq (P := fun fl => ∃ m e : Nat, 0 < m ∧ m ≤ most ∧ fl = .nx [some .fd, some (.im (I most)), none, some (.im (I m)), some (.im (I e)), none, none, none]) ?_ fun fl ⟨m, e, hm0, hm1, he⟩ => ?_
  · unfold sAsg
    refine T_bind (P := fun d => ∃ m e : Nat, 0 < m ∧ m ≤ most ∧ d = .tuple [I m, I e]) ?_ fun d ⟨m, e, a0, a1, hd⟩ => by subst hd; exact T_pure ⟨m, e, a0, a1, rfl⟩
    unfold cTup
    refine T_bind (P := fun as => ∃ m e : Nat, 0 < m ∧ m ≤ most ∧ as = [Ag.d (I m), .d (I e)]) ?_ fun as ⟨m, e, a0, a1, hd⟩ => by subst hd; exact T_pure ⟨m, e, a0, a1, rfl⟩
    unfold aD
    refine T_bind (T_1add (draw_at rfl rfl h0 (by omega))) fun d ⟨n, hd, hn⟩ => T_bind (P := fun r => ∃ e : Nat, r = [Ag.d (I e)]) ?_ fun r ⟨e, hr⟩ => T_pure ⟨1 + n, e, by omega, by omega, by rw [hd, hr]⟩
    refine T_bind (draw_at rfl (L := 8) rfl (by decide) (by decide)) fun d ⟨n, hd, hn⟩ => T_bind (T_pure rfl : T (aNil _) (fun r => r = [])) fun r hr => T_pure ⟨n, by rw [hd, hr]⟩
  subst he
  -- sizes
  refine T_seq (T_asg (P := fun d => ∃ ss : List Nat, d = .list (ss.map I) ∧ ss.length = m ∧ ∀ s ∈ ss, 1 ≤ s ∧ s ≤ 3) ?_) fun fl ⟨d, ⟨ss, hd, hl, hs⟩, he⟩ => ?_
  · unfold cLc
    refine T_bind (P := fun ds => ds = (List.range m).map I) (T_eq (rg_at rfl (by omega)) (T_pure rfl)) fun ds hds => ?_
    subst hds
    refine T_imp (T_lcM (h := I) (P := fun s => 1 ≤ s ∧ s ≤ 3) (List.range m) [] (by simp; omega) (fun a _ => ⟨_, rfl, ?_⟩) (by simp)) fun r ⟨ys, er, ly, py⟩ => ⟨ys, er, by rw [ly]; simp, py⟩
    refine T_imp (T_1add (P := fun n => n ≤ 2) ?_) fun d ⟨n, hd, hn⟩ => ⟨1 + n, hd, by omega, by omega⟩
    unfold cIf
    refine T_bind (P := fun b => b = decide ((1 : Int) < (e : Int))) (T_pure rfl) fun b hb => ?_
    subst hb
    by_cases h : (1 : Int) < (e : Int)
    · rw [decide_eq_true h]
      exact T_imp (draw_at rfl (L := 3) rfl (by decide) (by decide)) fun d ⟨n, hd, hn⟩ => ⟨n, hd, by omega⟩
    · rw [decide_eq_false h]
      exact T_pure ⟨e, rfl, by omega⟩
  subst hd he
  refine T_ret (T_imp (T_tupOf (P := fun l => ∃ r : List (List Nat), l = r.map wd ∧ r.length = m ∧ ∀ b ∈ r, b ≠ [] ∧ b.length ≤ 3 ∧ ∀ a ∈ b, a < m) ?_) fun d ⟨l, e1, r, e2, hl2, hr⟩ => ⟨r, by rw [e1, e2]; rfl, ⟨fun z => by rw [z] at hl2; simp at hl2; omega, fun b hb => (hr b hb).1, fun b hb a ha => by rw [hl2]; exact (hr b hb).2.2 a ha⟩, by omega, fun b hb => (hr b hb).2.1⟩)
  show T (lcGo _ _ yes _ _ (ss.map I) []) _
  refine T_imp (T_lcM (h := wd) (P := fun b => b ≠ [] ∧ b.length ≤ 3 ∧ ∀ a ∈ b, a < m) ss [] (by simp; omega) (fun s hsm => ⟨_, rfl, ?_⟩) (by simp)) fun r ⟨ys, er, ly, py⟩ => ⟨_, er, ys, rfl, by rw [ly, hl]; simp, py⟩
  have hs' := hs s hsm
  refine T_imp (T_tupOf (P := fun l => ∃ w : List Nat, l = w.map I ∧ w.length = s ∧ ∀ a ∈ w, a < m) ?_) fun d ⟨l, e1, w, e2, hw, hlt⟩ => ⟨w, by rw [e1, e2]; rfl, fun z => by rw [z] at hw; simp at hw; omega, by omega, hlt⟩
  unfold cLc
  refine T_bind (P := fun ds => ds = (List.range s).map I) (T_eq (rg_at rfl (by omega)) (T_pure rfl)) fun ds hds => ?_
  subst hds
  exact T_imp (T_lcM (h := I) (P := fun a => a < m) (List.range s) [] (by simp; omega) (fun a _ => ⟨_, rfl, draw_at rfl rfl hm0 (by omega)⟩) (by simp)) fun r ⟨ys, er, ly, py⟩ => ⟨_, er, ys, rfl, by rw [ly]; simp, py⟩
end K03
end

section
set_option Elab.async false
set_option linter.all false
set_option maxRecDepth 100000
set_option maxHeartbeats 4100000
namespace K03
open PySem E
theorem getO_of {i : Nat} {ρ : En} {l : List PyData} (e : ρ[i]? = some (some (.ow l))) : getO i ρ = pure l := by
  unfold getO; rw [e]
theorem ext_of {i : Nat} {f : En → M PyData} {ρ : En} {l m : List PyData} (e : ρ[i]? = some (some (.ow l))) (hf : f ρ = pure (.tuple m)) (h : l.length + m.length ≤ 16777216) : sExt i f ρ = pure (.nx (ρ.set i (some (.ow (l ++ m))))) := by
  unfold sExt
  rw [getO_of e, pure_b, hf, pure_b]
  exact if_pos (decide_eq_true h)
theorem tupO_of {i : Nat} {ρ : En} {l : List PyData} (e : ρ[i]? = some (some (.ow l))) : cTupO i ρ = pure (.tuple l) := by
  unfold cTupO
  rw [getO_of e, pure_b]
theorem ix_rl {fa fb : En → M PyData} {ρ : En} {r : List (List Nat)} {a : Nat} (ha : fa ρ = pure (rl r)) (hb : fb ρ = pure (I a)) (h : a < r.length) : cBin gIx fa fb ρ = pure (wd (r.getD a [])) := bin_of ha hb (gIx_rl r a h)
theorem f_lbecomes (r : List (List Nat)) (w : List Nat) (hw : ∀ a ∈ w, a < r.length) (hl : (spr r w).length ≤ 16777216) : F__law_becomes [.d (rl r), .d (wd w)] = pure (wd (spr r w)) := by
  refine body_of (seq_of (ρ' := [some (.im (rl r)), some (.im (wd w)), some (.ow []), none]) rfl ?_)
  refine for_seq (ds := w.map I) (fun ds ρ => ∃ w1 w2 x, w = w1 ++ w2 ∧ ds = w2.map I ∧ ρ = [some (.im (rl r)), some (.im (wd w)), some (.ow ((spr r w1).map I)), x]) rfl ⟨[], w, none, rfl, rfl, rfl⟩ (fun d ds ρ hρ => ?_) (fun ρ' hρ => ?_)
  · obtain ⟨w1, w2, x, hw12, hds, rfl⟩ := hρ
    cases w2 with
    | nil => cases hds
    | cons a w2 =>
      cases hds
      have ha : a < r.length := hw a (by rw [hw12]; simp)
      have hs : spr r (w1 ++ [a]) = spr r w1 ++ r.getD a [] := by simp [spr]
      have hle : ((spr r w1).map I).length + ((r.getD a []).map I).length ≤ 16777216 := by
        have : (spr r w).length = (spr r w1).length + (r.getD a []).length + (spr r w2).length := by rw [hw12]; simp [spr]; omega
        rw [List.length_map]; rw [List.length_map]; omega
      refine ⟨_, rfl, _, ext_of (m := (r.getD a []).map I) rfl (ix_rl rfl rfl ha) hle, w1 ++ [a], w2, some (.im (I a)), by simp [hw12], rfl, ?_⟩
      rw [hs, List.map_append]; rfl
  · obtain ⟨w1, w2, x, hw12, hds, rfl⟩ := hρ
    cases w2 with
    | cons a w2 => cases hds
    | nil =>
      rw [List.append_nil] at hw12
      subst hw12
      exact ret_s (tupO_of rfl)
/-! ### orders -/
structure Ord (n : Nat) (c : List Nat) : Prop where
  len : c.length = n
  lt : ∀ a ∈ c, a < n
  nd : c.Nodup
  all : ∀ b, b < n → b ∈ c
theorem seqIx {n : Nat} {len : Nat} (h : n < len) : seqIndex? (n : Int) len = some n := by
  unfold seqIndex?
  simp
  omega
theorem perm_erase {α : Type} : ∀ {l : List α} {k : Nat} (hk : k < l.length), (l[k] :: l.eraseIdx k).Perm l
  | a :: l, 0, _ => List.Perm.refl _
  | a :: l, k + 1, hk => by
    have hk' : k < l.length := by simpa using hk
    exact (List.Perm.swap a l[k] (l.eraseIdx k)).trans ((perm_erase hk').cons a)
theorem map_erase {α β : Type} {f : α → β} : ∀ (l : List α) (k : Nat), (l.map f).eraseIdx k = (l.eraseIdx k).map f
  | [], _ => by simp
  | a :: l, 0 => rfl
  | a :: l, k + 1 => congrArg (f a :: ·) (map_erase l k)
theorem appPop_eq {i j : Nat} {f : En → M PyData} {ρ : En} {S S' : Fd} {l m : List PyData} {k : Nat} (e1 : ρ[i]? = some (some (.ow l))) (e2 : ρ[j]? = some (some (.ow m))) (hf : f ρ S = .ok (I k) S') (hk : k < m.length) (hl : l.length < 10000) (hk2 : k < 10000) :
    sAppPop i j f ρ S = .ok (.nx ((ρ.set j (some (.ow (m.eraseIdx k)))).set i (some (.ow (l ++ [m[k]]))))) S' := by
  unfold sAppPop
  rw [getO_of e1, pure_b, getO_of e2, pure_b]
  show M.bind (f ρ) _ S = _
  unfold M.bind
  rw [hf]
  have h63 : (2 : Int) ^ 63 = 9223372036854775808 := by decide
  have c : decide (l.length < 16777216 ∧ -(2 ^ 63) ≤ (k : Int) ∧ (k : Int) < 2 ^ 63) = true := decide_eq_true ⟨by omega, by rw [h63]; omega, by rw [h63]; omega⟩
  simp only [I, seqIx hk, List.getElem?_eq_getElem hk]
  rw [if_pos c]; rfl
theorem T_appPop {i j : Nat} {f : En → M PyData} {ρ : En} {l m : List PyData} {P : Fl → Prop} (e1 : ρ[i]? = some (some (.ow l))) (e2 : ρ[j]? = some (some (.ow m))) (hl : l.length < 10000) (hd : T (f ρ) (fun d => ∃ k, d = I k ∧ k < m.length ∧ k < 10000))
    (hP : ∀ (k : Nat) (hk : k < m.length), P (.nx ((ρ.set j (some (.ow (m.eraseIdx k)))).set i (some (.ow (l ++ [m[k]])))))) : T (sAppPop i j f ρ) P := fun S => by
  obtain ⟨d, S', e, k, hd, hk, hk2⟩ := hd S
  subst hd
  exact ⟨_, S', appPop_eq e1 e2 e hk hl hk2, hP k hk⟩
theorem f_about (n : Nat) (hn : n < 1000) : T (F__law_turned_about [.fd, .d (I n)]) (fun d => ∃ c, d = wd c ∧ Ord n c) := by
  refine T_body ?_
  have e0 : gRgL (I n) = some (.list ((List.range n).map I)) := by
    show (if decide ((0:Int) ≤ (n : Int) ∧ (n : Int) ≤ 16777216) = true then some (PyData.list (rngD 0 (n : Int).toNat)) else none) = _
    rw [if_pos (decide_eq_true ⟨by omega, by omega⟩), Int.toNat_natCast, rngD_I]
  have e1 : sOwnPar 3 4 (getD 1) (env0 5 [.fd, .d (I n)]) = pure (.nx [some .fd, some (.im (I n)), none, some (.ow ((List.range n).map I)), some (.ow [])]) := by
    unfold sOwnPar
    rw [un_of' (x := I n) rfl e0, pure_b]
    rfl
  refine T_seq (P := fun fl => fl = .nx [some .fd, some (.im (I n)), none, some (.ow ((List.range n).map I)), some (.ow [])]) (T_eq e1 (T_pure rfl)) fun fl he => ?_
  subst he
  refine T_seq (P := fun fl => ∃ ρ', fl = .nx ρ' ∧ ∃ (l f : List Nat) (x : Option Sl), ([] : List PyData).length = l.length ∧ (f ++ l).Perm (List.range n) ∧ ρ' = [some .fd, some (.im (I n)), x, some (.ow (l.map I)), some (.ow (f.map I))]) (T_bind (P := fun ds => ds = (List.range n).map I) (T_eq (rg_at rfl (by omega)) (T_pure rfl)) fun ds hds => ?_) fun fl ⟨ρ', e, l, f, x, hl, hp, hρ⟩ => ?_
  · subst hds
    refine T_for (fun ds ρ => ∃ (l f : List Nat) (x : Option Sl), ds.length = l.length ∧ (f ++ l).Perm (List.range n) ∧ ρ = [some .fd, some (.im (I n)), x, some (.ow (l.map I)), some (.ow (f.map I))]) (fun d ds ρ hρ => ?_) ⟨List.range n, [], none, by rw [List.length_map], by simp, rfl⟩
    obtain ⟨l, f, x, hl, hp, rfl⟩ := hρ
    have hlen : f.length + l.length = n := by have := hp.length_eq; rw [List.length_append, List.length_range] at this; exact this
    have hl0 : 0 < l.length := by rw [← hl]; simp
    refine ⟨_, rfl, ?_⟩
    have hd : T (cFn (argN 2 F__law_draw) (aF 0 (aD (cLenO 3) aNil)) [some .fd, some (.im (I n)), some (.im d), some (.ow (l.map I)), some (.ow (f.map I))]) (fun y => ∃ k, y = I k ∧ k < l.length) := by
      refine fn_T (as := [.fd, .d (I l.length)]) (af_of rfl (d1_of (x := I l.length) ?_ rfl)) rfl (f_draw l.length hl0 (by omega))
      unfold cLenO
      rw [getO_of (l := l.map I) rfl, pure_b, List.length_map]; rfl
    refine T_appPop (l := f.map I) (m := l.map I) rfl rfl (by rw [List.length_map]; omega) (T_imp hd fun y ⟨k, hy, hk⟩ => ⟨k, hy, by rw [List.length_map]; exact hk, by omega⟩) fun k hk0 => ?_
    have hk : k < l.length := by rwa [List.length_map] at hk0
    rw [List.getElem_map]
    refine ⟨_, rfl, l.eraseIdx k, f ++ [l[k]], some (.im d), ?_, ?_, ?_⟩
    · rw [List.length_eraseIdx, if_pos hk]
      rw [List.length_cons] at hl
      omega
    · refine List.Perm.trans ?_ hp
      rw [List.append_assoc]
      exact List.Perm.append_left f (perm_erase hk)
    · rw [List.map_append]
      have : (l.map I).eraseIdx k = (l.eraseIdx k).map I := map_erase l k
      rw [this]; rfl
  · subst e hρ
    have hl0 : l = [] := List.length_eq_zero_iff.mp hl.symm
    subst hl0
    rw [List.append_nil] at hp
    refine T_eq (ret_s (tupO_of (l := f.map I) rfl)) (T_pure ⟨_, rfl, f, rfl, ?_, fun a ha => ?_, ?_, fun b hb => ?_⟩)
    · have := hp.length_eq; rw [List.length_range] at this; exact this
    · exact List.mem_range.mp (hp.mem_iff.mp ha)
    · exact hp.nodup_iff.mpr List.nodup_range
    · exact hp.mem_iff.mpr (List.mem_range.mpr hb)
theorem nodup_ints {c : List Nat} (h : c.Nodup) : (c.map fun (n : Nat) => (n : Int)).Nodup := by
  refine List.pairwise_map.mpr (h.imp fun {a b} hab z => hab (by omega))
theorem ddup_nd : ∀ {l : List Int}, l.Nodup → ddup l = l
  | [], _ => rfl
  | x :: l, h => by
    rw [List.nodup_cons] at h
    unfold ddup
    rw [if_neg h.1, ddup_nd h.2]
theorem gLenSet_c {n : Nat} {c : List Nat} (h : Ord n c) (hn : n ≤ 1000) : gLenSet (wd c) = some (I n) := by
  show (intsOf (c.map I)).bind (fun ns => if ns.length ≤ 4000 then some (PyData.int (ddup ns).length) else none) = _
  rw [intsOf_map]
  show (if (c.map fun (n : Nat) => (n : Int)).length ≤ 4000 then some (PyData.int (ddup (c.map fun (n : Nat) => (n : Int))).length) else none) = _
  rw [if_pos (by rw [List.length_map, h.len]; omega), ddup_nd (nodup_ints h.nd), List.length_map, h.len]; rfl
theorem f_is_order {n : Nat} {c : List Nat} (h : Ord n c) (hn : n ≤ 1000) : F_is_order [.d (wd c), .d (I n)] = pure (.bool true) := by
  refine ret_of' (and_of ((fn_of' (as := [.d (wd c), .d (I n)]) rfl rfl).trans (f_is_long _ n (by rw [List.length_map, h.len]))) (and_of ((fn_of' (as := [.d (wd c), .d (I n)]) rfl rfl).trans (f_are_below c n h.lt (by rw [h.len]; omega))) (bin_of (x := I n) (y := I n) (un_of' (x := wd c) rfl (gLenSet_c h hn)) rfl ?_)))
  show some (PyData.bool (decide ((n : Int) = (n : Int)))) = _
  simp
theorem ixOf_at {b : Nat} : ∀ {c : List Nat} {k : Nat}, b ∈ c → ixOf (b : Int) (c.map fun (n : Nat) => (n : Int)) k = some (k + c.idxOf b)
  | [], _, h => by cases h
  | a :: c, k, h => by
    show (if (a : Int) = (b : Int) then some k else ixOf (b : Int) (c.map fun (n : Nat) => (n : Int)) (k + 1)) = _
    by_cases e : a = b
    · subst e
      rw [if_pos rfl, List.idxOf_cons_self]; rfl
    · have e2 : (a :: c).idxOf b = c.idxOf b + 1 := by rw [List.idxOf_cons, show (a == b) = false from beq_false_of_ne e]; rfl
      rw [if_neg (by omega), ixOf_at (List.mem_of_ne_of_mem (Ne.symm e) h), e2]
      congr 1; omega
theorem gIndex_c {n : Nat} {c : List Nat} (h : Ord n c) {b : Nat} (hb : b < n) : gIndex (wd c) (I b) = some (I (c.idxOf b)) := by
  show (intsOf (c.map I)).bind (fun ns => (ixOf (b : Int) ns 0).map fun j => PyData.int (j : Nat)) = _
  rw [intsOf_map]
  show (ixOf (b : Int) (c.map fun (n : Nat) => (n : Int)) 0).map (fun j => PyData.int (j : Nat)) = _
  rw [ixOf_at (h.all b hb), Nat.zero_add]; rfl
theorem gIx_wd {c : List Nat} {a : Nat} (h : a < c.length) : gIx (wd c) (I a) = some (I (c.getD a 0)) := by
  show L2.atI (c.map I) (a : Int) = _
  unfold L2.atI L2.ixN
  rw [if_pos (by omega), if_pos (by rw [List.length_map]; omega)]
  show (c.map I)[(a : Int).toNat]? = _
  rw [Int.toNat_natCast, List.getElem?_map, List.getElem?_eq_getElem h]
  simp [List.getElem?_eq_getElem h, List.getD]
/-- the word with other names -/
def nm (c w : List Nat) : List Nat := w.map fun x => c.getD x 0
/-- the rule with other names -/
def ren (r : List (List Nat)) (c : List Nat) : List (List Nat) := (List.range r.length).map fun b => nm c (r.getD (c.idxOf b) [])
def inv (n : Nat) (c : List Nat) : List Nat := (List.range n).map fun b => c.idxOf b
section
variable {n : Nat} {c : List Nat}
theorem Ord.ix (h : Ord n c) {b : Nat} (hb : b < n) : c.idxOf b < n ∧ c.getD (c.idxOf b) 0 = b := by
  have h1 : c.idxOf b < c.length := List.idxOf_lt_length_of_mem (h.all b hb)
  refine ⟨by rw [← h.len]; exact h1, ?_⟩
  rw [List.getD_eq_getElem?_getD, List.getElem?_eq_getElem h1]
  simp
theorem Ord.at (h : Ord n c) {a : Nat} (ha : a < n) : c.getD a 0 < n ∧ c.idxOf (c.getD a 0) = a := by
  have h1 : a < c.length := by rw [h.len]; exact ha
  have e : c.getD a 0 = c[a] := by rw [List.getD_eq_getElem?_getD, List.getElem?_eq_getElem h1]; rfl
  rw [e]
  exact ⟨h.lt _ (List.getElem_mem h1), List.Nodup.idxOf_getElem h.nd a h1⟩
theorem inv_get {a : Nat} (ha : a < n) : (inv n c).getD a 0 = c.idxOf a := by
  unfold inv
  rw [List.getD_eq_getElem?_getD, List.getElem?_map, List.getElem?_range ha]; rfl
theorem Ord.inv (h : Ord n c) : Ord n (inv n c) where
  len := by unfold K03.inv; rw [List.length_map, List.length_range]
  lt := fun a ha => by
    obtain ⟨b, hb, rfl⟩ := List.mem_map.mp ha
    exact (h.ix (List.mem_range.mp hb)).1
  nd := by
    unfold K03.inv
    refine List.pairwise_map.mpr ((List.nodup_range (n := n)).imp_of_mem fun {a b} ha hb hab z => hab ?_)
    have ha := (h.ix (List.mem_range.mp ha)).2
    have hb := (h.ix (List.mem_range.mp hb)).2
    rw [z] at ha
    rw [← ha, hb]
  all := fun b hb => List.mem_map.mpr ⟨c.getD b 0, List.mem_range.mpr (h.at hb).1, (h.at hb).2⟩
theorem Ord.inv_ix (h : Ord n c) {b : Nat} (hb : b < n) : (K03.inv n c).idxOf b = c.getD b 0 := by
  have e : (K03.inv n c).getD (c.getD b 0) 0 = b := by rw [inv_get (h.at hb).1, (h.at hb).2]
  have := (h.inv.at (h.at hb).1).2
  rwa [e] at this
end
end K03
end

section
set_option Elab.async false
set_option linter.all false
set_option maxRecDepth 100000
set_option maxHeartbeats 4100000
namespace K03
open PySem E
theorem lc_of {fi : En → M (List PyData)} {vs : List Nat} {b : PyData → En → Option En} {t : En → M Bool} {fe : En → M PyData} {ρ : En} {ds : List PyData} {m : M PyData} (h : fi ρ = pure ds) (hm : lcGo vs b t fe ρ ds [] = m) : cLc fi vs b t fe ρ = m := by
  unfold cLc
  rw [h, pure_b]; exact hm
theorem itT {f : En → M PyData} {ρ : En} {l : List PyData} (h : f ρ = pure (.tuple l)) : (f ρ >>= asT) = pure l := by rw [h]; rfl
theorem itL {f : En → M PyData} {ρ : En} {l : List PyData} (h : f ρ = pure (.list l)) : (f ρ >>= asL) = pure l := by rw [h]; rfl
theorem mem_getD {r : List (List Nat)} {a : Nat} (h : a < r.length) : r.getD a [] ∈ r := by
  have e : r.getD a [] = r[a] := by rw [List.getD_eq_getElem?_getD, List.getElem?_eq_getElem h]; rfl
  rw [e]; exact List.getElem_mem h
theorem f_renamed (r : List (List Nat)) (c : List Nat) (ok : OkR r) (h : Ord r.length c) (hn : r.length ≤ 1000) (hb : ∀ b ∈ r, b.length ≤ 16777216) : F_renamed [.d (rl r), .d (wd c)] = pure (rl (ren r c)) := by
  refine body_of (seq_of (s_need (isr rfl ok)) (seq_of (s_need ((fn_of' (d1_of (x := wd c) rfl (d1_of (len_is rfl) rfl)) rfl).trans (f_is_order h hn))) (ret_s ((tupOf_is (l := (ren r c).map wd) (lc_of (rg_at (len_is rfl) (by omega)) ?_)).trans rfl))))
  refine (lc_map (e := I) (h := fun b => wd (nm c (r.getD (c.idxOf b) []))) (List.range r.length) [] (by simp; omega) fun b hb' => ⟨_, rfl, ?_⟩).trans ?_
  · have hb2 := h.ix (List.mem_range.mp hb')
    refine (tupOf_is (l := (nm c (r.getD (c.idxOf b) [])).map I) (lc_of (itT (bin_of (x := rl r) (y := I (c.idxOf b)) rfl (bin_of (x := wd c) (y := I b) rfl rfl (gIndex_c h (List.mem_range.mp hb'))) (gIx_rl r _ hb2.1))) ?_)).trans rfl
    refine (lc_map (e := I) (h := fun x => I (c.getD x 0)) (r.getD (c.idxOf b) []) [] (by have := hb _ (mem_getD hb2.1); simpa using this) fun x hx => ⟨_, rfl, bin_of (x := wd c) (y := I x) rfl rfl (gIx_wd (by rw [h.len]; exact ok.lt _ (mem_getD hb2.1) x hx))⟩).trans ?_
    unfold nm
    rw [List.nil_append, List.map_map]; rfl
  · unfold ren
    rw [List.nil_append, List.map_map]; rfl
theorem set_of {i j : Nat} {fi fe : En → M PyData} {ρ : En} {d : PyData} {l : List PyData} (hd : fe ρ = pure d) (e : ρ[i]? = some (some (.ow l))) (hi : fi ρ = pure (I j)) (hj : j < l.length) : sSet i fi fe ρ = pure (.nx (ρ.set i (some (.ow (l.set j d))))) := by
  unfold sSet
  rw [hd, pure_b, getO_of e, pure_b, hi, pure_b]
  have : L2.ixN l.length (j : Int) = some j := by
    unfold L2.ixN
    rw [if_pos (by omega), if_pos (by omega), Int.toNat_natCast]
  simp only [I, this]
theorem len_rep (n : Nat) (x : PyData) : (List.replicate n [x]).flatten.length = n := by
  induction n with
  | zero => rfl
  | succ n ih => rw [List.replicate_succ, List.flatten_cons, List.length_append, ih]; simp; omega
theorem f_lcalled (r : List (List Nat)) (c : List Nat) (ok : OkR r) (h : Ord r.length c) (hn : r.length ≤ 1000) (hb : ∀ b ∈ r, b.length ≤ 16777216) : F__law_called [.d (rl r), .d (wd c)] = pure (rl (ren r c)) := by
  have hrep : gRep (.list [.tuple []]) (I r.length) = some (.list (List.replicate r.length [PyData.tuple []]).flatten) := by
    show (if decide ((0 : Int) ≤ (r.length : Int) ∧ (r.length : Int) ≤ 16777216 ∧ ([PyData.tuple []] : List PyData).length * (r.length : Int).toNat ≤ 16777216) = true then some (PyData.list (List.replicate (r.length : Int).toNat [PyData.tuple []]).flatten) else none) = _
    rw [if_pos (decide_eq_true ⟨by omega, by omega, by rw [Int.toNat_natCast]; simp; omega⟩), Int.toNat_natCast]
  have e0 : sOwn 2 (cBin gRep (cLst (aD (cTup aNil) aNil)) (cCall gLen (aD (getD 0) aNil))) (env0 5 [.d (rl r), .d (wd c)]) = pure (.nx [some (.im (rl r)), some (.im (wd c)), some (.ow (List.replicate r.length [PyData.tuple []]).flatten), none, none]) := by
    unfold sOwn
    rw [bin_of (x := .list [.tuple []]) (y := I r.length) rfl (len_is rfl) hrep, pure_b]
    rfl
  refine body_of (seq_of e0 ?_)
  refine for_seq (ds := (List.range r.length).map I) (fun ds ρ => ∃ (k m : Nat) (f : List PyData) (x : Option Sl), k + m = r.length ∧ ds = (List.range' k m).map I ∧ f.length = r.length ∧ (∀ a, a < k → f[c.getD a 0]? = some (wd (nm c (r.getD a [])))) ∧ ρ = [some (.im (rl r)), some (.im (wd c)), some (.ow f), x, none]) (rg_at (len_is rfl) (by omega)) ⟨0, r.length, _, none, by omega, by rw [List.range_eq_range'], len_rep _ _, fun a ha => by omega, rfl⟩ (fun d ds ρ hρ => ?_) (fun ρ' hρ => ?_)
  · obtain ⟨k, m, f, x, hkm, hds, hf, hin, rfl⟩ := hρ
    cases m with
    | zero => cases hds
    | succ m =>
      rw [List.range'_succ] at hds
      cases hds
      have hk : k < r.length := by omega
      have hck := h.at hk
      refine ⟨_, rfl, _, set_of (d := wd (nm c (r.getD k []))) (j := c.getD k 0) ((tupOf_is (l := (nm c (r.getD k [])).map I) (lc_of (itT (ix_rl (r := r) (a := k) rfl rfl hk)) ?_)).trans rfl) rfl (bin_of (x := wd c) (y := I k) rfl rfl (gIx_wd (by rw [h.len]; exact hk))) (by rw [hf]; exact hck.1), k + 1, m, f.set (c.getD k 0) (wd (nm c (r.getD k []))), some (.im (I k)), by omega, rfl, by rw [List.length_set]; exact hf, fun a ha => ?_, rfl⟩
      · refine (lc_map (e := I) (h := fun x => I (c.getD x 0)) (r.getD k []) [] (by have := hb _ (mem_getD hk); simpa using this) fun x hx => ⟨_, rfl, bin_of (x := wd c) (y := I x) rfl rfl (gIx_wd (by rw [h.len]; exact ok.lt _ (mem_getD hk) x hx))⟩).trans ?_
        unfold nm
        rw [List.nil_append, List.map_map]; rfl
      · by_cases e : a = k
        · subst e
          rw [List.getElem?_set_self (by rw [hf]; exact hck.1)]
        · have hne : c.getD k 0 ≠ c.getD a 0 := fun z => by
            have h1 := (h.at (show a < r.length by omega)).2
            rw [← z, hck.2] at h1
            exact e h1.symm
          rw [List.getElem?_set_ne hne]
          exact hin a (by omega)
  · obtain ⟨k, m, f, x, hkm, hds, hf, hin, rfl⟩ := hρ
    cases m with
    | succ m => rw [List.range'_succ] at hds; cases hds
    | zero =>
      have hk : k = r.length := by omega
      subst hk
      have e : f = (ren r c).map wd := by
        refine List.ext_getElem? fun b => ?_
        unfold ren
        rw [List.map_map, List.getElem?_map]
        by_cases hbn : b < r.length
        · have h1 := h.ix hbn
          have h2 := hin _ h1.1
          rw [h1.2] at h2
          rw [h2, List.getElem?_range hbn]; rfl
        · rw [List.getElem?_eq_none (by omega), List.getElem?_eq_none (by rw [List.length_range]; omega)]; rfl
      subst e
      exact ret_s (tupO_of rfl)
/-! ### facts of names -/
section
variable {r : List (List Nat)} {c : List Nat} {w : List Nat}
theorem map_getD (r : List (List Nat)) : (List.range r.length).map (fun b => r.getD b []) = r := by
  refine List.ext_getElem? fun b => ?_
  rw [List.getElem?_map]
  by_cases h : b < r.length
  · rw [List.getElem?_range h, List.getElem?_eq_getElem h]
    simp [List.getD_eq_getElem?_getD, List.getElem?_eq_getElem h]
  · rw [List.getElem?_eq_none (by rw [List.length_range]; omega), List.getElem?_eq_none (by omega)]; rfl
theorem ren_len : (ren r c).length = r.length := by unfold ren; rw [List.length_map, List.length_range]
theorem ren_get {b : Nat} (hb : b < r.length) : (ren r c).getD b [] = nm c (r.getD (c.idxOf b) []) := by
  unfold ren
  rw [List.getD_eq_getElem?_getD, List.getElem?_map, List.getElem?_range hb]; rfl
theorem nm_lt {n : Nat} (h : Ord n c) (hw : ∀ a ∈ w, a < n) : ∀ a ∈ nm c w, a < n := fun a ha => by
  obtain ⟨x, hx, rfl⟩ := List.mem_map.mp ha
  exact (h.at (hw x hx)).1
theorem nm_inv {n : Nat} (h : Ord n c) (hw : ∀ a ∈ w, a < n) : nm (inv n c) (nm c w) = w := by
  unfold nm
  rw [List.map_map]
  refine (List.map_congr_left fun x hx => ?_).trans (List.map_id w)
  have := h.at (hw x hx)
  show (inv n c).getD (c.getD x 0) 0 = id x
  rw [inv_get this.1, this.2]; rfl
theorem OkR_ren (ok : OkR r) (h : Ord r.length c) : OkR (ren r c) where
  ne := fun z => ok.ne (by have := ren_len (r := r) (c := c); rw [z] at this; exact List.length_eq_zero_iff.mp this.symm)
  bl := fun b hb => by
    obtain ⟨x, hx, rfl⟩ := List.mem_map.mp hb
    have h1 := ok.bl _ (mem_getD (h.ix (List.mem_range.mp hx)).1)
    unfold nm
    exact fun z => h1 (List.map_eq_nil_iff.mp z)
  lt := fun b hb a ha => by
    rw [ren_len]
    obtain ⟨x, hx, rfl⟩ := List.mem_map.mp hb
    exact nm_lt h (ok.lt _ (mem_getD (h.ix (List.mem_range.mp hx)).1)) a ha
theorem ren_inv (ok : OkR r) (h : Ord r.length c) : ren (ren r c) (inv r.length c) = r := by
  refine Eq.trans ?_ (map_getD r)
  show (List.range (ren r c).length).map _ = _
  rw [ren_len]
  refine List.map_congr_left fun b hb => ?_
  have hb := List.mem_range.mp hb
  have h1 := h.at hb
  rw [h.inv_ix hb, ren_get h1.1, h1.2]
  exact nm_inv h (ok.lt _ (mem_getD hb))
theorem spr_ren (h : Ord r.length c) : ∀ {w : List Nat}, (∀ a ∈ w, a < r.length) → spr (ren r c) (nm c w) = nm c (spr r w)
  | [], _ => rfl
  | a :: w, hw => by
    have h1 := h.at (hw a List.mem_cons_self)
    have ih := spr_ren h (w := w) fun x hx => hw x (List.mem_cons_of_mem _ hx)
    have e1 : spr (ren r c) (nm c (a :: w)) = (ren r c).getD (c.getD a 0) [] ++ spr (ren r c) (nm c w) := by simp [spr, nm]
    have e2 : nm c (spr r (a :: w)) = nm c (r.getD a []) ++ nm c (spr r w) := by simp [spr, nm]
    rw [e1, e2, ih, ren_get h1.1, h1.2]
end
end K03
end

section
set_option Elab.async false
set_option linter.all false
set_option maxRecDepth 100000
set_option maxHeartbeats 4100000
namespace K03
open PySem E
theorem for_or {b : PyData → En → Option En} {g : En → M Fl} (Pv : List PyData → En → Prop) (Rt : PyData → Prop) (hs : ∀ d ds ρ, Pv (d :: ds) ρ → ∃ ρ1, b d ρ = some ρ1 ∧ ((∃ ρ2, g ρ1 = pure (.nx ρ2) ∧ Pv ds ρ2) ∨ ∃ v, g ρ1 = pure (.rt v) ∧ Rt v)) :
    ∀ (ds : List PyData) (ρ : En), Pv ds ρ → (∃ ρ', forGo b g ds ρ = pure (.nx ρ') ∧ Pv [] ρ') ∨ ∃ v, forGo b g ds ρ = pure (.rt v) ∧ Rt v
  | [], ρ, h => .inl ⟨ρ, rfl, h⟩
  | d :: ds, ρ, h => by
    obtain ⟨ρ1, e1, h1⟩ := hs d ds ρ h
    have e : forGo b g (d :: ds) ρ = (g ρ1 >>= fun fl => match fl with
        | .nx ρ' => forGo b g ds ρ'
        | .ct ρ' => forGo b g ds ρ'
        | .bk ρ' => pure (.nx ρ')
        | .rt d => pure (.rt d)) := by
      show (match b d ρ with
        | none => bad
        | some ρ1 => g ρ1 >>= fun fl => match fl with
          | .nx ρ' => forGo b g ds ρ'
          | .ct ρ' => forGo b g ds ρ'
          | .bk ρ' => pure (.nx ρ')
          | .rt d => pure (.rt d) : M Fl) = _
      rw [e1]
    rw [e]
    rcases h1 with ⟨ρ2, e2, h2⟩ | ⟨v, e2, h2⟩
    · rw [e2]; exact for_or Pv Rt hs ds ρ2 h2
    · rw [e2]; exact .inr ⟨v, rfl, h2⟩
theorem forOr_seq {fi : En → M (List PyData)} {b : PyData → En → Option En} {g h : En → M Fl} {ρ : En} {ds : List PyData} {m : M Fl} (Pv : List PyData → En → Prop) (Rt : PyData → Prop) (hf : fi ρ = pure ds) (h0 : Pv ds ρ) (hs : ∀ d ds ρ, Pv (d :: ds) ρ → ∃ ρ1, b d ρ = some ρ1 ∧ ((∃ ρ2, g ρ1 = pure (.nx ρ2) ∧ Pv ds ρ2) ∨ ∃ v, g ρ1 = pure (.rt v) ∧ Rt v))
    (hd : ∀ ρ', Pv [] ρ' → h ρ' = m) (hr : ∀ v, Rt v → pure (.rt v) = m) : sSeq (sFor fi b g) h ρ = m := by
  unfold sSeq sFor
  rw [hf, pure_b]
  rcases for_or Pv Rt hs ds ρ h0 with ⟨ρ', e, h1⟩ | ⟨v, e, h1⟩
  · rw [e]; exact hd ρ' h1
  · rw [e]; exact hr v h1
def total (s : List (List Nat)) : Nat := (s.map List.length).sum
def levGo (r : List (List Nat)) : Nat → List (List Nat) → Option (List (List Nat))
  | 0, s => if total s ≤ 2000 then some s else none
  | k + 1, s => if 500 < total s then none else levGo r k (nxt r s)
def orNon : Option (List (List Nat)) → PyData
  | some s => rl s
  | none => .none
theorem sum_ints (l : List Nat) : (l.map fun (n : Nat) => (n : Int)).sum = (l.sum : Nat) := by
  induction l with
  | nil => rfl
  | cons a l ih => rw [List.map_cons, List.sum_cons, List.sum_cons, ih]; omega
theorem gSum_of (s : List (List Nat)) : gSum [.list (s.map fun b => I b.length)] = some (I (total s)) := by
  have e : (s.map fun b => I b.length) = (s.map List.length).map I := by rw [List.map_map]; rfl
  rw [e]
  show (intsOf ((s.map List.length).map I)).map (fun bs => PyData.int bs.sum) = _
  rw [intsOf_map]
  show some (PyData.int ((s.map List.length).map fun (n : Nat) => (n : Int)).sum) = _
  rw [sum_ints]; rfl
theorem spr_len {r : List (List Nat)} {M : Nat} (hM : ∀ b ∈ r, b.length ≤ M) : ∀ w : List Nat, (spr r w).length ≤ w.length * M
  | [] => by simp [spr]
  | a :: w => by
    have e : spr r (a :: w) = r.getD a [] ++ spr r w := by simp [spr]
    have ih := spr_len hM w
    have h1 : (r.getD a []).length ≤ M := by
      by_cases h : a < r.length
      · exact hM _ (mem_getD h)
      · rw [List.getD_eq_getElem?_getD, List.getElem?_eq_none (by omega)]; simp
    rw [e, List.length_append, List.length_cons, Nat.succ_mul]; omega
theorem le_sum {a : Nat} : ∀ {l : List Nat}, a ∈ l → a ≤ l.sum
  | b :: l, h => by
    rw [List.sum_cons]
    rcases (List.mem_cons.mp h) with e | e
    · omega
    · have := le_sum e; omega
theorem len_total {s : List (List Nat)} {b : List Nat} (h : b ∈ s) : b.length ≤ total s := by
  exact le_sum (List.mem_map_of_mem h)
theorem nxt_len (r s : List (List Nat)) : (nxt r s).length = s.length := by unfold nxt; rw [List.length_map]
theorem f_level (r : List (List Nat)) (far M : Nat) (ok : OkR r) (hn : r.length ≤ 1000) (hM : ∀ b ∈ r, b.length ≤ M) (hM2 : M ≤ 10000) (h1 : 1 ≤ far) (hf : far < 1000000) : F__law_level [.d (rl r), .d (I far)] = pure (orNon (levGo r (far - 1) r)) := by
  have hsub : cBin gSub (getD 1) (cD (.int 1)) [some (.im (rl r)), some (.im (I far)), some (.im (rl r)), none, none] = pure (I (far - 1)) := by
    refine bin_of (x := I far) (y := .int 1) rfl rfl ?_
    show some (PyData.int ((far : Int) - 1)) = _
    unfold I; congr 2; omega
  have hsum : ∀ (s : List (List Nat)) (x : Option Sl), s.length = r.length → cCall gSum (aD (cLc (fun ρ => (getD 2) ρ >>= asT) [4] (bNm 4) yes (cCall gLen (aD (getD 4) aNil))) aNil) [some (.im (rl r)), some (.im (I far)), some (.im (rl s)), x, none] = pure (I (total s)) := fun s x hs => by
    refine call1_of (x := .list (s.map fun b => I b.length)) (lc_of (itT (l := s.map wd) rfl) ?_) (gSum_of s)
    exact (lc_map (e := wd) (h := fun b => I b.length) s [] (by simp; omega) fun b _ => ⟨_, rfl, call1_of (x := wd b) rfl (gLen_wd b)⟩).trans (by rw [List.nil_append])
  refine body_of (seq_of (asg_of' (x := rl r) rfl rfl) ?_)
  refine forOr_seq (ds := (List.range (far - 1)).map I) (fun ds ρ => ∃ (s : List (List Nat)) (x : Option Sl), s.length = r.length ∧ (∀ b ∈ s, ∀ a ∈ b, a < r.length) ∧ levGo r ds.length s = levGo r (far - 1) r ∧ ρ = [some (.im (rl r)), some (.im (I far)), some (.im (rl s)), x, none]) (fun v => v = .none ∧ levGo r (far - 1) r = none) (rg_at hsub (by omega)) ⟨r, none, rfl, ok.lt, by rw [List.length_map, List.length_range], rfl⟩ (fun d ds ρ hρ => ?_) (fun ρ' hρ => ?_) (fun v hv => ?_)
  · obtain ⟨s, x, hs, hlt, hg, rfl⟩ := hρ
    refine ⟨_, rfl, ?_⟩
    have test : cB (cBin gGt (cCall gSum (aD (cLc (fun ρ => (getD 2) ρ >>= asT) [4] (bNm 4) yes (cCall gLen (aD (getD 4) aNil))) aNil)) (cD (.int 500))) [some (.im (rl r)), some (.im (I far)), some (.im (rl s)), some (.im d), none] = pure (decide (500 < total s)) := by
      refine b_of (bin_of (x := I (total s)) (y := .int 500) (hsum s _ hs) rfl ?_)
      show some (PyData.bool (decide ((500 : Int) < (total s : Int)))) = _
      congr 2
      simp only [decide_eq_decide]; omega
    have eg : levGo r (d :: ds).length s = if 500 < total s then none else levGo r ds.length (nxt r s) := rfl
    by_cases h5 : 500 < total s
    · refine .inr ⟨.none, seqR_of (ifT_of (test.trans (by rw [decide_eq_true h5])) rfl), rfl, ?_⟩
      rw [← hg, eg, if_pos h5]
    · rw [eg, if_neg h5] at hg
      refine .inl ⟨_, seq_of (ifF_of (test.trans (by rw [decide_eq_false h5])) rfl) (asg_of' (x := rl (nxt r s)) ((tupOf_is (l := (nxt r s).map wd) (lc_of (itT (l := s.map wd) rfl) ?_)).trans rfl) rfl), nxt r s, some (.im d), by rw [nxt_len]; exact hs, ?_, hg, rfl⟩
      · refine (lc_map (e := wd) (h := fun b => wd (spr r b)) s [] (by simp; omega) fun b hb => ⟨_, rfl, (fn_of' (as := [.d (rl r), .d (wd b)]) rfl rfl).trans (f_lbecomes r b (hlt b hb) ?_)⟩).trans ?_
        · have h1 := spr_len hM b
          have h2 := len_total hb
          have h3 : b.length * M ≤ 500 * 10000 := Nat.mul_le_mul (by omega) hM2
          omega
        · unfold nxt
          rw [List.nil_append, List.map_map]; rfl
      · intro b hb a ha
        obtain ⟨c, _, rfl⟩ := List.mem_map.mp hb
        exact spr_lt ok a ha
  · obtain ⟨s, x, hs, hlt, hg, rfl⟩ := hρ
    rw [← hg]
    have test : cB (cBin gLe (cCall gSum (aD (cLc (fun ρ => (getD 2) ρ >>= asT) [4] (bNm 4) yes (cCall gLen (aD (getD 4) aNil))) aNil)) (cD (.int 2000))) [some (.im (rl r)), some (.im (I far)), some (.im (rl s)), x, none] = pure (decide (total s ≤ 2000)) := by
      refine b_of (bin_of (x := I (total s)) (y := .int 2000) (hsum s _ hs) rfl ?_)
      show some (PyData.bool (decide ((total s : Int) ≤ (2000 : Int)))) = _
      congr 2
      simp only [decide_eq_decide]; omega
    have eg : levGo r ([] : List PyData).length s = if total s ≤ 2000 then some s else none := rfl
    rw [eg]
    refine ret_s ?_
    unfold cIf
    rw [test, pure_b]
    by_cases h2 : total s ≤ 2000
    · rw [decide_eq_true h2, if_pos h2]; rfl
    · rw [decide_eq_false h2, if_neg h2]; rfl
  · obtain ⟨rfl, e⟩ := hv
    rw [e]; rfl
theorem levGo_some {r : List (List Nat)} : ∀ {k j : Nat} {t : List (List Nat)}, levGo r k (lvl r j) = some t → t = lvl r (j + k) ∧ total t ≤ 2000
  | 0, j, t, h => by
    have eg : levGo r 0 (lvl r j) = if total (lvl r j) ≤ 2000 then some (lvl r j) else none := rfl
    rw [eg] at h
    split at h
    · rename_i z; cases h; exact ⟨rfl, z⟩
    · cases h
  | k + 1, j, t, h => by
    have eg : levGo r (k + 1) (lvl r j) = if 500 < total (lvl r j) then none else levGo r k (lvl r (j + 1)) := rfl
    rw [eg] at h
    split at h
    · cases h
    · have := levGo_some h
      rw [show j + 1 + k = j + (k + 1) by omega] at this
      exact this
end K03
end

section
set_option Elab.async false
set_option linter.all false
set_option maxRecDepth 100000
set_option maxHeartbeats 4100000
namespace K03
open PySem E
theorem kw_of {F : Fn} {n m : Nat} {pm : List Nat} {fs : En → M (List Ag)} {ρ : En} {as bs : List Ag} (h : fs ρ = pure as) (h1 : as.length = m) (h2 : pick pm as = bs) (h3 : bs.length = n) : cKw' F n m pm fs ρ = F bs := by
  unfold cKw' argK
  rw [h, pure_b, h2]
  exact if_pos ⟨h1, h3⟩
section
variable {r : List (List Nat)}
theorem spr_ge (ok : OkR r) : ∀ {w : List Nat}, (∀ a ∈ w, a < r.length) → w.length ≤ (spr r w).length
  | [], _ => Nat.zero_le _
  | a :: w, h => by
    have e : spr r (a :: w) = r.getD a [] ++ spr r w := by simp [spr]
    have ih := spr_ge ok (w := w) fun x hx => h x (List.mem_cons_of_mem _ hx)
    have h1 : 0 < (r.getD a []).length := List.length_pos_iff.mpr (ok.bl _ (mem_getD (h a List.mem_cons_self)))
    rw [e, List.length_append, List.length_cons]; omega
theorem lvl_up (ok : OkR r) (j : Nat) : ∀ (k : Nat) {b : List Nat}, b ∈ lvl r j → ∃ b' ∈ lvl r (j + k), b.length ≤ b'.length
  | 0, b, h => ⟨b, h, Nat.le_refl _⟩
  | k + 1, b, h => by
    obtain ⟨b', h1, h2⟩ := lvl_up ok j k h
    exact ⟨spr r b', List.mem_map.mpr ⟨b', h1, rfl⟩, Nat.le_trans h2 (spr_ge ok (lvl_lt ok _ b' h1))⟩
theorem lvl_le (ok : OkR r) {j n m : Nat} (hj : j ≤ n) (hm : total (lvl r n) ≤ m) : ∀ b ∈ lvl r j, b.length ≤ m := fun b hb => by
  obtain ⟨b', h1, h2⟩ := lvl_up ok j (n - j) hb
  rw [show j + (n - j) = n by omega] at h1
  have := len_total h1
  omega
theorem lvl_ok (ok : OkR r) (j : Nat) : OkR (lvl r j) where
  ne := fun z => ok.ne (by have := lvl_len r j; rw [z] at this; exact List.length_eq_zero_iff.mp this.symm)
  bl := by
    cases j with
    | zero => exact ok.bl
    | succ j =>
      intro b hb
      obtain ⟨c, hc, rfl⟩ := List.mem_map.mp hb
      have h1 := spr_ge ok (lvl_lt ok j c hc)
      have h2 : 0 < c.length := List.length_pos_iff.mpr ((lvl_ok ok j).bl c hc)
      exact fun z => by rw [z] at h1; simp at h1; rw [h1] at h2; simp at h2
  lt := fun b hb a ha => by rw [lvl_len]; exact lvl_lt ok j b hb a ha
theorem lvl_pow (r : List (List Nat)) (e : Nat) (he : 1 ≤ e) : ∀ j, lvl (lvl r (e - 1)) j = lvl r (e * (j + 1) - 1)
  | 0 => by rw [Nat.zero_add, Nat.mul_one]; rfl
  | j + 1 => by
    show nxt (lvl r (e - 1)) (lvl (lvl r (e - 1)) j) = _
    rw [lvl_pow r e he j, nxt_lvl]
    have h1 : e * (j + 1 + 1) = e * (j + 1) + e := by rw [Nat.mul_succ]
    have h2 : 1 ≤ e * (j + 1) := Nat.mul_pos he (by omega)
    congr 1; omega
theorem spr_rev (r : List (List Nat)) : ∀ w : List Nat, spr (r.map List.reverse) w.reverse = (spr r w).reverse
  | [] => rfl
  | a :: w => by
    have e : spr r (a :: w) = r.getD a [] ++ spr r w := by simp [spr]
    have e2 : spr (r.map List.reverse) (w.reverse ++ [a]) = spr (r.map List.reverse) w.reverse ++ (r.map List.reverse).getD a [] := by simp [spr]
    have e3 : (r.map List.reverse).getD a [] = (r.getD a []).reverse := by
      rw [List.getD_eq_getElem?_getD]; rw [List.getD_eq_getElem?_getD, List.getElem?_map]
      cases r[a]? <;> rfl
    rw [e, List.reverse_cons, e2, spr_rev r w, e3, List.reverse_append]
theorem lvl_rev (r : List (List Nat)) : ∀ k, lvl (r.map List.reverse) k = (lvl r k).map List.reverse
  | 0 => rfl
  | k + 1 => by
    show (lvl (r.map List.reverse) k).map (spr (r.map List.reverse)) = ((lvl r k).map (spr r)).map List.reverse
    rw [lvl_rev r k, List.map_map, List.map_map]
    exact List.map_congr_left fun w _ => spr_rev r w
theorem rev_ok (ok : OkR r) : OkR (r.map List.reverse) where
  ne := fun z => ok.ne (List.map_eq_nil_iff.mp z)
  bl := fun b hb => by
    obtain ⟨c, hc, rfl⟩ := List.mem_map.mp hb
    exact fun z => ok.bl c hc (List.reverse_eq_nil_iff.mp z)
  lt := fun b hb a ha => by
    obtain ⟨c, hc, rfl⟩ := List.mem_map.mp hb
    rw [List.length_map]
    exact ok.lt c hc a (List.mem_reverse.mp ha)
end
theorem int2C_of {C : Int → Int → Bool} {f : Int → Int → PyData} {i j : Int} (h : C i j = true) : int2C C f (.int i) (.int j) = some (f i j) := by
  unfold int2C
  exact if_pos h
theorem gMul_I (a b : Nat) (h : a < 1000) : gMul (I a) (I b) = some (I (a * b)) := by
  have h64 : (2 : Int) ^ 64 = 18446744073709551616 := by decide
  have c : decide ((-(2 ^ 64) < (a : Int) ∧ (a : Int) < 2 ^ 64) ∨ (-(2 ^ 64) < (b : Int) ∧ (b : Int) < 2 ^ 64)) = true := decide_eq_true (.inl ⟨by rw [h64]; omega, by rw [h64]; omega⟩)
  have e : gMul (I a) (I b) = some (PyData.int ((a : Int) * (b : Int))) := int2C_of c
  rw [e]
  unfold I
  rw [Int.natCast_mul]
theorem par_of {i j : Nat} {fs : En → M (List Ag)} {ρ : En} {x y : PyData} (h : fs ρ = pure [.d x, .d y]) : sPar i j fs ρ = pure (.nx ((ρ.set i (some (.im x))).set j (some (.im y)))) := by
  unfold sPar
  rw [h, pure_b]
theorem f_powered (r : List (List Nat)) (e l : Nat) (ok : OkR r) (hn : r.length ≤ 12) (hM : ∀ b ∈ r, b.length ≤ 4) (he : 1 ≤ e) (he2 : e < 1000) (hl : 1 ≤ l) (hl2 : l < 100) : F__law_is_powered [.d (rl r), .d (I e), .d (I l)] = pure (.bool true) := by
  have hel : e * l < 100000 := by have := Nat.mul_le_mul (show e ≤ 999 by omega) (show l ≤ 99 by omega); omega
  have hel1 : 1 ≤ e * l := Nat.mul_pos he hl
  have hel2 : e ≤ e * l := Nat.le_mul_of_pos_right e hl
  have hmul : ∀ {ρ : En}, ρ[1]? = some (some (.im (I e))) → ρ[2]? = some (some (.im (I l))) → cBin gMul (getD 1) (getD 2) ρ = pure (I (e * l)) := fun {ρ} h1 h2 => by
    have g1 : getD 1 ρ = pure (I e) := by unfold getD; rw [h1]
    have g2 : getD 2 ρ = pure (I l) := by unfold getD; rw [h2]
    exact bin_of g1 g2 (gMul_I e l he2)
  have e1 : sPar 5 6 (aD (cFn (argN 2 F__law_level) (aD (getD 0) (aD (getD 1) aNil))) (aD (cFn (argN 2 F__law_level) (aD (getD 0) (aD (cBin gMul (getD 1) (getD 2)) aNil))) aNil)) (env0 8 [.d (rl r), .d (I e), .d (I l)]) = pure (.nx [some (.im (rl r)), some (.im (I e)), some (.im (I l)), none, none, some (.im (orNon (levGo r (e - 1) r))), some (.im (orNon (levGo r (e * l - 1) r))), none]) := by
    exact (par_of (x := orNon (levGo r (e - 1) r)) (y := orNon (levGo r (e * l - 1) r)) (d1_of ((fn_of' (as := [.d (rl r), .d (I e)]) rfl rfl).trans (f_level r e 4 ok (by omega) hM (by omega) he (by omega))) (d1_of ((fn_of' (as := [.d (rl r), .d (I (e * l))]) (d1_of rfl (d1_of (hmul rfl rfl) rfl)) rfl).trans (f_level r (e * l) 4 ok (by omega) hM (by omega) hel1 (by omega))) rfl))).trans rfl
  refine body_of (seq_of e1 ?_)
  cases hA : levGo r (e - 1) r with
  | none => exact seqR_of (ifT_of rfl rfl)
  | some A =>
    cases hB : levGo r (e * l - 1) r with
    | none => exact seqR_of (ifT_of rfl rfl)
    | some B =>
      obtain ⟨a1, a2⟩ := levGo_some (r := r) (j := 0) hA
      obtain ⟨b1, b2⟩ := levGo_some (r := r) (j := 0) hB
      rw [Nat.zero_add] at a1 b1
      subst a1 b1
      have hle : ∀ j, j ≤ e * l - 1 → ∀ b ∈ lvl r j, b.length ≤ 2000 := fun j hj => lvl_le ok hj b2
      have pA := f_power r ok e he (by omega) (by omega) fun j hj b hb => by have := hle j (by omega) b hb; omega
      have pB := f_power r ok (e * l) hel1 (by omega) (by omega) fun j hj b hb => by have := hle j (by omega) b hb; omega
      have pAB : F_power [.d (rl (lvl r (e - 1))), .d (I l)] = pure (rl (lvl r (e * l - 1))) := by
        have := f_power (lvl r (e - 1)) (lvl_ok ok _) l hl (by omega) (by rw [lvl_len]; omega) fun j hj b hb => by
          rw [lvl_pow r e he] at hb
          have h1 : e * (j + 1) ≤ e * l := Nat.mul_le_mul_left e hj
          have := hle _ (by omega) b hb
          omega
        rw [lvl_pow r e he, show l - 1 + 1 = l by omega] at this
        exact this
      have pT : F_turned [.d (rl r)] = pure (rl (r.map List.reverse)) := f_turned r ok (by omega)
      have pTA : F_turned [.d (rl (lvl r (e - 1)))] = pure (rl ((lvl r (e - 1)).map List.reverse)) := f_turned _ (lvl_ok ok _) (by rw [lvl_len]; omega)
      have pAT : F_power [.d (rl (r.map List.reverse)), .d (I e)] = pure (rl ((lvl r (e - 1)).map List.reverse)) := by
        have := f_power (r.map List.reverse) (rev_ok ok) e he (by omega) (by rw [List.length_map]; omega) fun j hj b hb => by
          rw [lvl_rev] at hb
          obtain ⟨c, hc, rfl⟩ := List.mem_map.mp hb
          rw [List.length_reverse]
          have := hle j (by omega) c hc
          omega
        rw [lvl_rev] at this
        exact this
      generalize hA' : lvl r (e - 1) = A at *
      generalize hB' : lvl r (e * l - 1) = B at *
      have sA : okD (rl A) = true ∧ (rl A).depth ≤ 50 ∧ nod (rl A) ≤ 50000 := by
        rw [← hA']
        refine small_rl (m := 2000) (fun b hb a ha => by have := lvl_lt ok _ b hb a ha; omega) (hle _ (by omega)) ?_
        rw [lvl_len]; omega
      have sB : okD (rl B) = true ∧ (rl B).depth ≤ 50 ∧ nod (rl B) ≤ 50000 := by
        rw [← hB']
        refine small_rl (m := 2000) (fun b hb a ha => by have := lvl_lt ok _ b hb a ha; omega) (hle _ (by omega)) ?_
        rw [lvl_len]; omega
      have sC : okD (rl (A.map List.reverse)) = true ∧ (rl (A.map List.reverse)).depth ≤ 50 ∧ nod (rl (A.map List.reverse)) ≤ 50000 := by
        rw [← hA']
        refine small_rl (m := 2000) (fun b hb a ha => ?_) (fun b hb => ?_) ?_
        · obtain ⟨c, hc, rfl⟩ := List.mem_map.mp hb
          have := lvl_lt ok _ c hc a (List.mem_reverse.mp ha); omega
        · obtain ⟨c, hc, rfl⟩ := List.mem_map.mp hb
          rw [List.length_reverse]; exact hle _ (by omega) c hc
        · rw [List.length_map, lvl_len]; omega
      refine seq_of (ifF_of rfl rfl) ?_
      refine seq_of (asg_of' (x := .list [rl A, rl A, rl B, rl B]) (lst_of (d1_of ((fn_of' (as := [.d (rl r), .d (I e)]) rfl rfl).trans pA) (d1_of ((kw_of (as := [.d (I e), .d (rl r)]) (bs := [.d (rl r), .d (I e)]) rfl rfl rfl rfl).trans pA) (d1_of ((fn_of' (as := [.d (rl A), .d (I l)]) (d1_of ((fn_of' (as := [.d (rl r), .d (I e)]) rfl rfl).trans pA) rfl) rfl).trans pAB) (d1_of ((fn_of' (as := [.d (rl r), .d (I (e * l))]) (d1_of rfl (d1_of (hmul rfl rfl) rfl)) rfl).trans pB) rfl)))) rfl) rfl) ?_
      refine seq_of (asg_of' (x := .list [rl A, rl A, rl B, rl B, rl (A.map List.reverse), rl (A.map List.reverse)]) (bin_of (x := .list [rl A, rl A, rl B, rl B]) (y := .list [rl (A.map List.reverse), rl (A.map List.reverse)]) rfl (lst_of (d1_of ((fn_of' (as := [.d (rl A)]) (d1_of ((fn_of' (as := [.d (rl r), .d (I e)]) rfl rfl).trans pA) rfl) rfl).trans pTA) (d1_of ((fn_of' (as := [.d (rl (r.map List.reverse)), .d (I e)]) (d1_of ((fn_of' (as := [.d (rl r)]) rfl rfl).trans pT) rfl) rfl).trans pAT) rfl)) rfl) rfl) rfl) ?_
      refine seq_of (asg_of' (x := rl (A.map List.reverse)) ((tupOf_is (l := (A.map List.reverse).map wd) (lc_of (itT (l := A.map wd) rfl) ?_)).trans rfl) rfl) ?_
      · refine (lc_map (e := wd) (h := fun b => wd b.reverse) A [] (by rw [← hA', lvl_len]; simp; omega) fun b _ => ⟨_, rfl, un_of' (x := wd b) rfl ?_⟩).trans ?_
        · show some (PyData.tuple (b.map I).reverse) = _
          rw [← List.map_reverse]; rfl
        · rw [List.nil_append, List.map_map]; rfl
      · refine ret_s ((fn_of' (as := [.d (.list [rl A, rl A, rl B, rl B, rl (A.map List.reverse), rl (A.map List.reverse)]), .d (.list [rl A, rl A, rl B, rl B, rl (A.map List.reverse), rl (A.map List.reverse)])]) rfl rfl).trans (f_same _ (fine_list (fun x hx => ?_) (by simp))))
        simp only [List.not_mem_nil, List.mem_cons, or_false] at hx
        rcases hx with rfl | rfl | rfl | rfl | rfl | rfl <;> assumption
end K03
end

section
set_option Elab.async false
set_option linter.all false
set_option maxRecDepth 100000
set_option maxHeartbeats 4100000
namespace K03
open PySem E
theorem T_seqP {g h : En → M Fl} {ρ ρ' : En} {Q : Fl → Prop} (hg : g ρ = pure (.nx ρ')) (hh : T (h ρ') Q) : T (sSeq g h ρ) Q := T_eq (seq_of hg rfl) hh
theorem same_of {fs : En → M (List Ag)} {ρ : En} {x : PyData} (h : fs ρ = pure [.d x, .d x]) (hf : fine x) : cFn (argN 2 F__law_same) fs ρ = pure (.bool true) := (fn_of' h rfl).trans (f_same x hf)
theorem T_rng {ρ : En} {n : Nat} {fi : En → M (List PyData)} {b : PyData → En → Option En} {gg : En → M Fl} {P : Fl → Prop} (hg : fi ρ = pure ((List.range n).map I)) (h : T (forGo b gg ((List.range n).map I) ρ) P) : T (sFor fi b gg ρ) P := T_eq (for_of hg rfl) h
theorem f_changed (r : List (List Nat)) (ok : OkR r) (hn : r.length ≤ 12) (hM : ∀ b ∈ r, b.length ≤ 4) : T (F__law_is_changed [.fd, .d (rl r)]) (fun d => d = .bool true) := by
  have hpos : 0 < r.length := List.length_pos_iff.mpr ok.ne
  have sr : ∀ {s : List (List Nat)}, s.length = r.length → (∀ b ∈ s, ∀ a ∈ b, a < r.length) → (∀ b ∈ s, b.length ≤ 4) → okD (rl s) = true ∧ (rl s).depth ≤ 50 ∧ nod (rl s) ≤ 50000 := fun {s} h1 h2 h3 =>
    small_rl (m := 4) (fun b hb a ha => by have := h2 b hb a ha; omega) h3 (by omega)
  have s1 := sr rfl ok.lt hM
  have s2 : okD (rl (r.map List.reverse)) = true ∧ (rl (r.map List.reverse)).depth ≤ 50 ∧ nod (rl (r.map List.reverse)) ≤ 50000 := by
    refine sr (List.length_map ..) (fun b hb a ha => ?_) fun b hb => ?_
    · have := (rev_ok ok).lt b hb a ha; rwa [List.length_map] at this
    · obtain ⟨c, hc, rfl⟩ := List.mem_map.mp hb
      rw [List.length_reverse]; exact hM c hc
  have frl : fine (rl r) := fine_of (.inr ⟨_, rfl⟩) s1
  have hrep : gRepr (rl r) = some (.str (rl r).shown) := gRepr_ok frl.1 frl.2.1 frl.2.2.1 frl.2.2.2
  have pT : F_turned [.d (rl r)] = pure (rl (r.map List.reverse)) := f_turned r ok (by omega)
  have pTT : F_turned [.d (rl (r.map List.reverse))] = pure (rl r) := by
    have := f_turned (r.map List.reverse) (rev_ok ok) (by rw [List.length_map]; omega)
    rw [List.map_map] at this
    rw [this]
    congr 2
    refine (List.map_congr_left fun b _ => ?_).trans (List.map_id r)
    exact List.reverse_reverse b
  have pP : F_power [.d (rl r), .d (I 1)] = pure (rl r) := f_power r ok 1 (by omega) (by omega) (by omega) fun j hj b hb => by
    have : j = 0 := by omega
    subst this
    have := hM b hb; omega
  have hlen : ∀ {ρ : En}, ρ[1]? = some (some (.im (rl r))) → cCall gLen (aD (getD 1) aNil) ρ = pure (I r.length) := fun {ρ} h => by
    have : getD 1 ρ = pure (rl r) := by unfold getD; rw [h]
    exact len_is this
  refine T_body ?_
  refine T_seqP (par_of (x := I r.length) (y := .str (rl r).shown) (d1_of (hlen rfl) (d1_of (un_of' (x := rl r) rfl hrep) rfl))) ?_
  refine T_seqP (asg_of' (x := rl (r.map List.reverse)) ((tupOf_is (l := (r.map List.reverse).map wd) (lc_of (itT (l := r.map wd) rfl) ?_)).trans rfl) rfl) ?_
  · refine (lc_map (e := wd) (h := fun b => wd b.reverse) r [] (by simp; omega) fun b _ => ⟨_, rfl, un_of' (x := wd b) rfl ?_⟩).trans ?_
    · show some (PyData.tuple (b.map I).reverse) = _
      rw [← List.map_reverse]; rfl
    · rw [List.nil_append, List.map_map]; rfl
  have pL := f_letters_of r ok
  refine T_seqP (asg_of' (x := .list [I r.length, I r.length, rl (r.map List.reverse), rl (r.map List.reverse), rl r, rl r]) (lst_of (d1_of ((fn_of' (as := [.d (rl r)]) rfl rfl).trans pL) (d1_of ((kw_of (as := [.d (rl r)]) (bs := [.d (rl r)]) rfl rfl rfl rfl).trans pL) (d1_of ((fn_of' (as := [.d (rl r)]) rfl rfl).trans pT) (d1_of ((kw_of (as := [.d (rl r)]) (bs := [.d (rl r)]) rfl rfl rfl rfl).trans pT) (d1_of ((fn_of' (as := [.d (rl (r.map List.reverse))]) (d1_of ((fn_of' (as := [.d (rl r)]) rfl rfl).trans pT) rfl) rfl).trans pTT) (d1_of ((fn_of' (as := [.d (rl r), .d (I 1)]) rfl rfl).trans pP) rfl)))))) rfl) rfl) ?_
  refine T_seqP (ifF_of (notb_of (b := true) (b_of (same_of (x := .list [I r.length, I r.length, rl (r.map List.reverse), rl (r.map List.reverse), rl r, rl r]) rfl (fine_list (fun x hx => ?_) (by simp))))) rfl) ?_
  · have si := small_I (a := r.length) (by omega)
    simp only [List.not_mem_nil, List.mem_cons, or_false] at hx
    rcases hx with rfl | rfl | rfl | rfl | rfl | rfl
    · exact si
    · exact si
    · exact s2
    · exact s2
    · exact s1
    · exact s1
  let Pv : List PyData → En → Prop := fun _ ρ => ∃ x2 x3 x4 x7 x8 x9 x10 x11 : Option Sl, ρ = [some .fd, some (.im (rl r)), x2, x3, x4, some (.im (I r.length)), some (.im (.str (rl r).shown)), x7, x8, x9, x10, x11, none, none]
  refine T_seq (P := fun fl => ∃ ρ', fl = .nx ρ' ∧ Pv [] ρ') (T_rng (n := 3) (rg_at (g := cD (.int 3)) (n := 3) rfl (by omega)) (T_for Pv (fun d ds ρ hρ => ?_) ⟨_, _, _, _, _, _, _, _, rfl⟩)) fun fl ⟨ρ', he, hρ'⟩ => ?_
  · obtain ⟨x2, x3, x4, x7, x8, x9, x10, x11, rfl⟩ := hρ
    refine ⟨_, rfl, ?_⟩
    refine T_seq (T_asg (fn_T (as := [.fd, .d (I r.length), .d (I 7)]) (af_of rfl (d1_of rfl (d1_of rfl rfl))) rfl (f_row r.length 7 hpos (by omega) (by omega)))) fun fl ⟨d7, ⟨w, hw, hlt, hl7⟩, he⟩ => ?_
    subst hw he
    have hl8 : (spr r w).length ≤ 28 := by have := spr_len hM w; have h2 : w.length * 4 ≤ 7 * 4 := Nat.mul_le_mul_right 4 hl7; omega
    have hl9 : (spr r (spr r w)).length ≤ 112 := by have := spr_len hM (spr r w); have h2 : (spr r w).length * 4 ≤ 28 * 4 := Nat.mul_le_mul_right 4 hl8; omega
    have lt8 : ∀ a ∈ spr r w, a < r.length := spr_lt ok
    have lt9 : ∀ a ∈ spr r (spr r w), a < r.length := spr_lt ok
    have b1 := f_becomes r w ok hlt (by omega) (by omega)
    have b2 := f_becomes r (spr r w) ok lt8 (by omega) (by omega)
    have c1 := f_lbecomes r w hlt (by omega)
    have c2 := f_lbecomes r (spr r w) lt8 (by omega)
    have sw : ∀ {v : List Nat}, (∀ a ∈ v, a < r.length) → v.length ≤ 200 → okD (wd v) = true ∧ (wd v).depth ≤ 50 ∧ nod (wd v) ≤ 50000 := fun h1 h2 => small_wd (fun a ha => by have := h1 a ha; omega) (by omega)
    have s8 := sw lt8 (by omega)
    have s9 := sw lt9 (by omega)
    refine T_seqP (asg_of' (x := wd (spr r w)) ((fn_of' (as := [.d (rl r), .d (wd w)]) rfl rfl).trans c1) rfl) ?_
    refine T_seqP (asg_of' (x := .list [wd (spr r w), wd (spr r w), wd (spr r (spr r w))]) (lst_of (d1_of ((fn_of' (as := [.d (rl r), .d (wd w)]) rfl rfl).trans b1) (d1_of ((kw_of (as := [.d (wd w), .d (rl r)]) (bs := [.d (rl r), .d (wd w)]) rfl rfl rfl rfl).trans b1) (d1_of ((fn_of' (as := [.d (rl r), .d (wd (spr r w))]) rfl rfl).trans b2) rfl))) rfl) rfl) ?_
    refine T_seqP (ifF_of (notb_of (b := true) (b_of (same_of (x := .list [wd (spr r w), wd (spr r w), wd (spr r (spr r w))]) (d1_of rfl (d1_of (lst_of (d1_of rfl (d1_of rfl (d1_of ((fn_of' (as := [.d (rl r), .d (wd (spr r w))]) rfl rfl).trans c2) rfl))) rfl) rfl)) (fine_list (fun x hx => ?_) (by simp))))) rfl) ?_
    · simp only [List.not_mem_nil, List.mem_cons, or_false] at hx
      rcases hx with rfl | rfl | rfl
      · exact s8
      · exact s8
      · exact s9
    refine T_seq (T_asg (fn_T (as := [.fd, .d (I r.length)]) (af_of rfl (d1_of rfl rfl)) rfl (f_about r.length (by omega)))) fun fl ⟨d9, ⟨c, hc, ho⟩, he⟩ => ?_
    subst hc he
    have hb : ∀ b ∈ r, b.length ≤ 16777216 := fun b hb => by have := hM b hb; omega
    have q1 := f_lcalled r c ok ho (by omega) hb
    have q2 := f_renamed r c ok ho (by omega) hb
    have hMr : ∀ b ∈ ren r c, b.length ≤ 4 := fun b hb => by
      obtain ⟨x, hx, rfl⟩ := List.mem_map.mp hb
      unfold nm
      rw [List.length_map]
      exact hM _ (mem_getD (ho.ix (List.mem_range.mp hx)).1)
    have okr := OkR_ren ok ho
    have hi : Ord (ren r c).length (inv r.length c) := by rw [ren_len]; exact ho.inv
    have q3 : F_renamed [.d (rl (ren r c)), .d (wd (inv r.length c))] = pure (rl r) := by
      have := f_renamed (ren r c) (inv r.length c) okr hi (by rw [ren_len]; omega) fun b hb => by have := hMr b hb; omega
      rwa [ren_inv ok ho] at this
    have hhome : cCall gTupOf (aD (cLc (fun ρ => (aD (getD 5) aNil) ρ >>= rg1) [13] (bNm 13) yes (cBin gIndex (getD 9) (getD 13))) aNil) [some .fd, some (.im (rl r)), x2, some (.im (.list [wd (spr r w), wd (spr r w), wd (spr r (spr r w))])), some (.im d), some (.im (I r.length)), some (.im (.str (rl r).shown)), some (.im (wd w)), some (.im (wd (spr r w))), some (.im (wd c)), x10, x11, none, none] = pure (wd (inv r.length c)) := by
      refine (tupOf_is (l := (inv r.length c).map I) (lc_of (rg_at (n := r.length) rfl (by omega)) ?_)).trans rfl
      refine (lc_map (e := I) (h := fun b => I (c.idxOf b)) (List.range r.length) [] (by simp; omega) fun b hb => ⟨_, rfl, bin_of (x := wd c) (y := I b) rfl rfl (gIndex_c ho (List.mem_range.mp hb))⟩).trans ?_
      unfold inv
      rw [List.nil_append, List.map_map]; rfl
    refine T_seqP (par_of (x := rl (ren r c)) (y := wd (inv r.length c)) (d1_of ((fn_of' (as := [.d (rl r), .d (wd c)]) rfl rfl).trans q1) (d1_of hhome rfl))) ?_
    refine T_seqP (asg_of' (x := .list [rl (ren r c), rl (ren r c), rl r]) (lst_of (d1_of ((fn_of' (as := [.d (rl r), .d (wd c)]) rfl rfl).trans q2) (d1_of ((kw_of (as := [.d (wd c), .d (rl r)]) (bs := [.d (rl r), .d (wd c)]) rfl rfl rfl rfl).trans q2) (d1_of ((fn_of' (as := [.d (rl (ren r c)), .d (wd (inv r.length c))]) rfl rfl).trans q3) rfl))) rfl) rfl) ?_
    have s10 : okD (rl (ren r c)) = true ∧ (rl (ren r c)).depth ≤ 50 ∧ nod (rl (ren r c)) ≤ 50000 := sr ren_len (fun b hb a ha => by have := okr.lt b hb a ha; rwa [ren_len] at this) hMr
    refine T_seqP (ifF_of (notb_of (b := true) (b_of (same_of (x := .list [rl (ren r c), rl (ren r c), rl r]) rfl (fine_list (fun x hx => ?_) (by simp))))) rfl) ?_
    · simp only [List.not_mem_nil, List.mem_cons, or_false] at hx
      rcases hx with rfl | rfl | rfl
      · exact s10
      · exact s10
      · exact s1
    have nmw : ∀ {v : List Nat} {ρ : En} {i : Nat}, (∀ a ∈ v, a < r.length) → v.length ≤ 200 → i ≠ 13 → ρ[i]? = some (some (.im (wd v))) → ρ[9]? = some (some (.im (wd c))) → 13 < ρ.length → cCall gTupOf (aD (cLc (fun ρ => (getD i) ρ >>= asT) [13] (bNm 13) yes (cBin gIx (getD 9) (getD 13))) aNil) ρ = pure (wd (nm c v)) := fun {v ρ i} h1 h2 h3 h4 h5 h6 => by
      have gi : getD i ρ = pure (wd v) := by unfold getD; rw [h4]
      refine (tupOf_is (l := (nm c v).map I) (lc_of (itT (l := v.map I) gi) ?_)).trans rfl
      refine (lc_map (e := I) (h := fun x => I (c.getD x 0)) v [] (by simp; omega) fun x hx => ⟨_, rfl, bin_of (x := wd c) (y := I x) ?_ ?_ (gIx_wd (by rw [ho.len]; exact h1 x hx))⟩).trans ?_
      · unfold getD wipeE wipeE
        rw [List.getElem?_set_ne (by decide), List.getElem?_set_ne (by decide), h5]
      · unfold getD wipeE wipeE
        rw [List.getElem?_set_self (by rw [List.length_set]; exact h6)]
      · unfold nm
        rw [List.nil_append, List.map_map]; rfl
    have bn : F_becomes [.d (rl (ren r c)), .d (wd (nm c w))] = pure (wd (nm c (spr r w))) := by
      have ew : (nm c w).length = w.length := by unfold nm; rw [List.length_map]
      have es : (nm c (spr r w)).length = (spr r w).length := by unfold nm; rw [List.length_map]
      have := f_becomes (ren r c) (nm c w) okr (by rw [ren_len]; exact nm_lt ho hlt) (by omega) (by rw [spr_ren ho hlt]; omega)
      rwa [spr_ren ho hlt] at this
    have s11 := sw (nm_lt ho lt8) (by unfold nm; rw [List.length_map]; omega)
    refine T_eq (ifF_of (notb_of (b := true) (b_of (same_of (x := wd (nm c (spr r w))) (d1_of ((fn_of' (as := [.d (rl (ren r c)), .d (wd (nm c w))]) (d1_of rfl (d1_of (nmw hlt (by omega) (by decide) rfl rfl (by simp)) rfl)) rfl).trans bn) (d1_of (nmw lt8 (by omega) (by decide) rfl rfl (by simp)) rfl)) (fine_of (.inr ⟨_, rfl⟩) s11)))) rfl) (T_pure ⟨_, rfl, _, _, _, _, _, _, _, _, rfl⟩)
  · obtain ⟨x2, x3, x4, x7, x8, x9, x10, x11, rfl⟩ := hρ'
    subst he
    refine T_eq (ret_s (bin_of (x := .str (rl r).shown) (y := .str (rl r).shown) (un_of' (x := rl r) rfl hrep) rfl (d := .bool true) ?_)) (T_pure ⟨_, rfl, rfl⟩)
    show some (PyData.bool (decide ((rl r).shown = (rl r).shown))) = _
    simp
end K03
end

section
set_option Elab.async false
set_option linter.all false
set_option maxRecDepth 100000
set_option maxHeartbeats 4100000
namespace K03
open PySem E
theorem T_kadd {f : En → M PyData} {ρ : En} {P : Nat → Prop} {x : PyData} (k : Nat) (hx : x = I k) (h : T (f ρ) (fun d => ∃ n, d = I n ∧ P n)) : T (cBin gAdd (cD x) f ρ) (fun d => ∃ n, d = I (k + n) ∧ P n) :=
  T_bin (P := fun y => y = I k) (T_c hx) h fun x y hx ⟨n, hy, hp⟩ => by
    subst hx hy
    refine ⟨I (k + n), ?_, n, rfl, hp⟩
    show some (PyData.int ((k : Int) + (n : Int))) = _
    unfold I; congr 2
theorem T_notB {f : En → M PyData} {ρ : En} (h : T (f ρ) (fun d => d = .bool true)) : T (cNotB (cB f) ρ) (fun b => b = false) :=
  T_bind (P := fun b => b = true) (T_bind h fun d hd => by subst hd; exact T_pure rfl) fun b hb => by subst hb; exact T_pure rfl
theorem T_orB {g h : En → M Bool} {ρ : En} (h1 : T (g ρ) (fun b => b = false)) (h2 : T (h ρ) (fun b => b = false)) : T (cOrB g h ρ) (fun b => b = false) :=
  T_bind h1 fun b hb => by subst hb; exact h2
theorem T_ifF {c : En → M Bool} {g h : En → M Fl} {ρ : En} {P : Fl → Prop} (hc : T (c ρ) (fun b => b = false)) (hh : T (h ρ) P) : T (sIf c g h ρ) P :=
  T_bind hc fun b hb => by subst hb; exact hh
theorem T_d {f : En → M PyData} {fs : En → M (List Ag)} {ρ : En} {P : PyData → Prop} {Q : List Ag → Prop} (h : T (f ρ) P) (hq : T (fs ρ) Q) : T (aD f fs ρ) (fun as => ∃ x r, as = .d x :: r ∧ P x ∧ Q r) :=
  T_bind h fun x hx => T_bind hq fun r hr => T_pure ⟨x, r, rfl, hx, hr⟩
theorem T_nil {ρ : En} : T (aNil ρ) (fun r => r = []) := T_pure rfl
def sing (g : List Nat) : List (List Nat) := g.map fun a => [a]
def iter (g : List Nat) (m : Nat) : Nat → List Nat
  | 0 => List.range m
  | k + 1 => (iter g m k).map fun a => g.getD a 0
section
variable {g : List Nat} {m : Nat}
theorem getD_lt (hg : g.length = m) (hl : ∀ a ∈ g, a < m) {a : Nat} (h : a < m) : g.getD a 0 < m := by
  have e : g.getD a 0 = g[a]'(by omega) := by rw [List.getD_eq_getElem?_getD, List.getElem?_eq_getElem (by omega)]; rfl
  rw [e]; exact hl _ (List.getElem_mem _)
theorem iter_lt (hg : g.length = m) (hl : ∀ a ∈ g, a < m) : ∀ k, ∀ a ∈ iter g m k, a < m
  | 0, a, h => List.mem_range.mp h
  | k + 1, a, h => by
    obtain ⟨b, hb, rfl⟩ := List.mem_map.mp h
    exact getD_lt hg hl (iter_lt hg hl k b hb)
theorem iter_len : ∀ k, (iter g m k).length = m
  | 0 => List.length_range
  | k + 1 => by show ((iter g m k).map _).length = m; rw [List.length_map, iter_len k]
theorem sing_get {a : Nat} (h : a < g.length) : (sing g).getD a [] = [g.getD a 0] := by
  unfold sing
  rw [List.getD_eq_getElem?_getD, List.getD_eq_getElem?_getD, List.getElem?_map, List.getElem?_eq_getElem h]; rfl
theorem sing_ok (hg : g.length = m) (hl : ∀ a ∈ g, a < m) (hm : 0 < m) : OkR (sing g) where
  ne := fun z => by have : (sing g).length = g.length := by unfold sing; rw [List.length_map]
                    rw [z] at this; simp at this; omega
  bl := fun b hb => by obtain ⟨a, _, rfl⟩ := List.mem_map.mp hb; simp
  lt := fun b hb a ha => by
    obtain ⟨c, hc, rfl⟩ := List.mem_map.mp hb
    have e : (sing g).length = m := by unfold sing; rw [List.length_map, hg]
    rw [e, List.mem_singleton.mp ha]
    exact hl c hc
theorem lvl_sing (hg : g.length = m) (hl : ∀ a ∈ g, a < m) : ∀ k, lvl (sing g) k = sing (iter g m (k + 1))
  | 0 => by
    show sing g = sing ((List.range m).map fun a => g.getD a 0)
    congr 1
    refine (List.ext_getElem? fun b => ?_).symm
    rw [List.getElem?_map]
    by_cases h : b < m
    · rw [List.getElem?_range h, List.getElem?_eq_getElem (by omega)]
      simp [List.getD_eq_getElem?_getD, List.getElem?_eq_getElem (show b < g.length by omega)]
    · rw [List.getElem?_eq_none (by rw [List.length_range]; omega), List.getElem?_eq_none (by omega)]; rfl
  | k + 1 => by
    show (lvl (sing g) k).map (spr (sing g)) = sing ((iter g m (k + 1)).map fun a => g.getD a 0)
    rw [lvl_sing hg hl k]
    unfold sing
    rw [List.map_map]; rw [List.map_map]
    refine List.map_congr_left fun a ha => ?_
    have h := iter_lt hg hl (k + 1) a ha
    show [a].flatMap (fun a => (sing g).getD a []) = [g.getD a 0]
    rw [List.flatMap_cons, List.flatMap_nil, List.append_nil, sing_get (by omega)]
end
theorem f_round : T (F__law_is_led_round [.fd]) (fun d => d = .bool true) := by
  refine T_body ?_
  refine T_seq (T_asg (T_kadd 2 rfl (draw_at (L := 4) rfl rfl (by decide) (by decide)))) fun fl ⟨d, ⟨n, hd, hn⟩, he⟩ => ?_
  subst hd he
  generalize hm : 2 + n = m
  have hm1 : 2 ≤ m := by omega
  have hm2 : m ≤ 5 := by omega
  refine T_seq (T_asg (P := fun d => ∃ g, d = rl (sing g) ∧ g.length = m ∧ ∀ a ∈ g, a < m) ?_) fun fl ⟨d, ⟨g0, hd, hg0, hl0⟩, he⟩ => ?_
  · refine T_imp (T_tupOf (P := fun l => ∃ g, l = (sing g).map wd ∧ g.length = m ∧ ∀ a ∈ g, a < m) ?_) fun d ⟨l, e, g, e2, h⟩ => ⟨g, by rw [e, e2]; rfl, h⟩
    refine T_bind (P := fun ds => ∃ g : List Nat, ds = g.map I ∧ g.length = m ∧ ∀ a ∈ g, a < m) ?_ fun ds ⟨g, e, h1, h2⟩ => ?_
    · refine T_bind (fn_T (as := [.fd, .d (I m)]) (af_of rfl (d1_of rfl rfl)) rfl (f_about m (by omega))) fun d ⟨c, e, h⟩ => ?_
      subst e
      exact T_pure ⟨c, rfl, h.len, h.lt⟩
    · subst e
      refine T_eq (lc_map (e := I) (h := fun a => wd [a]) g [] (by simp; omega) fun a _ => ⟨_, rfl, rfl⟩) (T_pure ⟨_, rfl, g, ?_, h1, h2⟩)
      unfold sing
      rw [List.nil_append, List.map_map]; rfl
  subst hd he
  refine T_seq (P := fun fl => ∃ g, g.length = m ∧ (∀ a ∈ g, a < m) ∧ fl = .nx [some .fd, some (.im (I m)), some (.im (rl (sing g))), none, none, none, none]) (T_if ?_ ?_ (T_pure ⟨g0, hg0, hl0, rfl⟩)) fun fl ⟨g, hg, hl, he⟩ => ?_
  · refine T_cB (T_bin (draw_at (L := 3) rfl rfl (by decide) (by decide)) (T_c (P := fun d => d = .int 0) rfl) fun x y ⟨k, hx, _⟩ hy => ?_)
    subst hx hy
    exact ⟨_, rfl, _, rfl⟩
  · refine T_imp (T_asg (P := fun d => ∃ g, d = rl (sing g) ∧ g.length = m ∧ ∀ a ∈ g, a < m) ?_) fun fl ⟨d, ⟨g, hd, h1, h2⟩, e⟩ => ⟨g, h1, h2, by subst hd e; rfl⟩
    refine T_imp (T_tupOf (P := fun l => ∃ g, l = (sing g).map wd ∧ g.length = m ∧ ∀ a ∈ g, a < m) ?_) fun d ⟨l, e, g, e2, h⟩ => ⟨g, by rw [e, e2]; rfl, h⟩
    refine T_bind (P := fun ds => ds = (List.range m).map I) (T_eq (rg_at rfl (by omega)) (T_pure rfl)) fun ds hds => ?_
    subst hds
    refine T_imp (T_lcM (h := fun a => wd [a]) (P := fun a => a < m) (List.range m) [] (by simp; omega) (fun a _ => ⟨_, rfl, ?_⟩) (by simp)) fun r ⟨ys, er, ly, py⟩ => ⟨_, er, ys, ?_, by rw [ly]; simp, py⟩
    · refine T_bind (T_d (draw_at (L := m) rfl rfl (by omega) (by omega)) T_nil) fun as ⟨x, r, e, ⟨k, hx, hk⟩, hr⟩ => ?_
      subst hx hr e
      exact T_pure ⟨k, rfl, hk⟩
    · unfold sing
      rw [List.map_map]; rfl
  subst he
  have ok := sing_ok hg hl (by omega)
  have slen : (sing g).length = m := by unfold sing; rw [List.length_map, hg]
  let Pv : List PyData → En → Prop := fun ds ρ => (∀ d ∈ ds, ∃ a : Nat, d = I a ∧ 1 ≤ a ∧ a < 2000) ∧ ∃ x3 x4 x5 : Option Sl, ρ = [some .fd, some (.im (I m)), some (.im (rl (sing g))), x3, x4, x5, none]
  refine T_seq (P := fun fl => ∃ ρ', fl = .nx ρ' ∧ Pv [] ρ') (T_bind (P := fun ds => ∀ d ∈ ds, ∃ a : Nat, d = I a ∧ 1 ≤ a ∧ a < 2000) ?_ fun ds hds => T_for Pv (fun d ds ρ hρ => ?_) ⟨hds, none, none, none, rfl⟩) fun fl ⟨ρ', he, hρ'⟩ => ?_
  · refine T_bind (P := fun d => ∃ a b : Nat, d = .list [I a, I b] ∧ 1 ≤ a ∧ a < 2000 ∧ 1 ≤ b ∧ b < 2000) ?_ fun d ⟨a, b, e, h1, h2, h3, h4⟩ => ?_
    · refine T_bind (T_d (T_kadd 201 rfl (draw_at (L := 900) rfl rfl (by decide) (by decide))) (T_d (T_kadd 1 rfl (draw_at (L := 300) rfl rfl (by decide) (by decide))) T_nil)) fun as ⟨x, r, e, ⟨k, hx, hk⟩, y, r2, e2, ⟨k2, hy, hk2⟩, hr⟩ => ?_
      subst hr e2 e hx hy
      exact T_pure ⟨_, _, rfl, by omega, by omega, by omega, by omega⟩
    · subst e
      refine T_pure (a := [I a, I b]) fun d hd => ?_
      simp only [List.mem_cons, List.not_mem_nil, or_false] at hd
      rcases hd with rfl | rfl
      · exact ⟨a, rfl, h1, h2⟩
      · exact ⟨b, rfl, h3, h4⟩
  · obtain ⟨hds, x3, x4, x5, rfl⟩ := hρ
    obtain ⟨far, hd, hf1, hf2⟩ := hds d List.mem_cons_self
    subst hd
    refine ⟨_, rfl, ?_⟩
    have e0 : gRgL (I m) = some (.list ((iter g m 0).map I)) := by
      show (if decide ((0:Int) ≤ (m : Int) ∧ (m : Int) ≤ 16777216) = true then some (PyData.list (rngD 0 (m : Int).toNat)) else none) = _
      rw [if_pos (decide_eq_true ⟨by omega, by omega⟩), Int.toNat_natCast, rngD_I]; rfl
    refine T_seqP (asg_of' (x := .list ((iter g m 0).map I)) (un_of' (x := I m) rfl e0) rfl) ?_
    let Qv : List PyData → En → Prop := fun ds ρ => ∃ (k : Nat) (x5 : Option Sl), ds.length + k = far ∧ ρ = [some .fd, some (.im (I m)), some (.im (rl (sing g))), some (.im (I far)), some (.im (.list ((iter g m k).map I))), x5, none]
    refine T_seq (P := fun fl => ∃ ρ', fl = .nx ρ' ∧ Qv [] ρ') (T_rng (n := far) (rg_at rfl (by omega)) (T_for Qv (fun d2 ds2 ρ hq => ?_) ⟨0, x5, by rw [List.length_map, List.length_range]; omega, rfl⟩)) fun fl ⟨ρ', he, k, y5, hk, hρ⟩ => ?_
    · obtain ⟨k, y5, hk, rfl⟩ := hq
      refine ⟨_, rfl, T_eq (asg_of' (x := .list ((iter g m (k + 1)).map I)) (lc_of (itL (l := (iter g m k).map I) rfl) ?_) rfl) (T_pure ⟨_, rfl, k + 1, some (.im d2), by rw [List.length_cons] at hk; omega, rfl⟩)⟩
      refine (lc_map (e := I) (h := fun a => I (g.getD a 0)) (iter g m k) [] (by rw [iter_len]; simp; omega) fun a ha => ⟨_, rfl, bin_of (x := wd [g.getD a 0]) (y := .int 0) ?_ rfl rfl⟩).trans ?_
      · have h := iter_lt hg hl k a ha
        have := gIx_rl (sing g) a (by omega)
        rw [sing_get (by omega)] at this
        exact bin_of (x := rl (sing g)) (y := I a) rfl rfl this
      · show _ = pure (PyData.list (((iter g m k).map fun a => g.getD a 0).map I))
        rw [List.nil_append, List.map_map]; rfl
    · have hk : k = far := by simpa using hk
      subst hk he hρ
      have hp : F_power [.d (rl (sing g)), .d (I k)] = pure (rl (sing (iter g m k))) := by
        have := f_power (sing g) ok k hf1 (by omega) (by omega) fun j hj b hb => by
          rw [lvl_sing hg hl] at hb
          obtain ⟨a, _, rfl⟩ := List.mem_map.mp hb
          simp
        rw [lvl_sing hg hl, show k - 1 + 1 = k by omega] at this
        exact this
      have htup : cCall gTupOf (aD (cLc (fun ρ => (getD 4) ρ >>= asL) [6] (bNm 6) yes (cTup (aD (getD 6) aNil))) aNil) [some .fd, some (.im (I m)), some (.im (rl (sing g))), some (.im (I k)), some (.im (.list ((iter g m k).map I))), y5, none] = pure (rl (sing (iter g m k))) := by
        refine (tupOf_is (l := (sing (iter g m k)).map wd) (lc_of (itL (l := (iter g m k).map I) rfl) ?_)).trans rfl
        refine (lc_map (e := I) (h := fun a => wd [a]) (iter g m k) [] (by rw [iter_len]; simp; omega) fun a _ => ⟨_, rfl, rfl⟩).trans ?_
        unfold sing
        rw [List.nil_append, List.map_map]; rfl
      have hfine : fine (rl (sing (iter g m k))) := by
        refine fine_of (.inr ⟨_, rfl⟩) (small_rl (m := 1) (fun b hb a ha => ?_) (fun b hb => ?_) ?_)
        · obtain ⟨c, hc, rfl⟩ := List.mem_map.mp hb
          have := iter_lt hg hl k c hc
          rw [List.mem_singleton.mp ha]; omega
        · obtain ⟨c, hc, rfl⟩ := List.mem_map.mp hb
          simp
        · unfold sing
          rw [List.length_map, iter_len]; omega
      refine T_eq (ifF_of (notb_of (b := true) (b_of (same_of (x := rl (sing (iter g m k))) (d1_of ((fn_of' (as := [.d (rl (sing g)), .d (I k)]) rfl rfl).trans hp) (d1_of htup rfl)) hfine))) rfl) (T_pure ⟨_, rfl, fun d hd => hds d (List.mem_cons_of_mem _ hd), _, _, _, rfl⟩)
  · subst he
    exact T_ret (T_c rfl)
end K03
end

section
set_option Elab.async false
set_option linter.all false
set_option maxRecDepth 100000
set_option maxHeartbeats 4100000
namespace K03
open PySem E
def gold : List (List Nat) := [[0, 1], [0]]
def wide : List (List Nat) := (List.range 12).map fun a => [a, (a + 7) % 12]
theorem gold_ok : OkR gold where
  ne := by decide
  bl := by decide
  lt := by decide
theorem wide_ok : OkR wide where
  ne := by decide
  bl := by decide
  lt := by decide
theorem one_ok : OkR [[0]] where
  ne := by decide
  bl := by decide
  lt := by decide
theorem gold_lev : ∀ k, k < 12 → levGo gold k gold = some (lvl gold k) := by decide +kernel
theorem gMod12 (a : Nat) : gMod (I a) (.int 12) = some (I (a % 12)) := by
  have c : decide ((12 : Int) ≠ 0) = true := by decide
  have e : gMod (I a) (.int 12) = some (PyData.int ((a : Int).fmod 12)) := int2C_of c
  rw [e, Int.fmod_eq_emod_of_nonneg _ (by decide)]
  unfold I; congr 2
theorem T_powered {r : List (List Nat)} {fs : En → M (List Ag)} {ρ : En} (ok : OkR r) (hn : r.length ≤ 12) (hM : ∀ b ∈ r, b.length ≤ 4) (h : T (fs ρ) (fun as => ∃ e l : Nat, as = [.d (rl r), .d (I e), .d (I l)] ∧ 1 ≤ e ∧ e < 1000 ∧ 1 ≤ l ∧ l < 100)) : T (cFn (argN 3 F__law_is_powered) fs ρ) (fun d => d = .bool true) := by
  unfold cFn
  refine T_bind h fun as ⟨e, l, ha, h1, h2, h3, h4⟩ => ?_
  subst ha
  exact T_eq (f_powered r e l ok hn hM h1 h2 h3 h4) (T_pure rfl)
theorem T_changed {r : List (List Nat)} {fs : En → M (List Ag)} {ρ : En} (ok : OkR r) (hn : r.length ≤ 12) (hM : ∀ b ∈ r, b.length ≤ 4) (h : fs ρ = pure [.fd, .d (rl r)]) : T (cFn (argN 2 F__law_is_changed) fs ρ) (fun d => d = .bool true) := fn_T h rfl (f_changed r ok hn hM)
theorem f_holds : T (F__law_holds [.fd]) (fun d => d = .bool true) := by
  refine T_body ?_
  let Pv : List PyData → En → Prop := fun ds ρ => (∀ d ∈ ds, ∃ a : Nat, d = I a ∧ 1 ≤ a ∧ a ≤ 12) ∧ ∃ x1 x3 x6 x7 : Option Sl, ρ = [some .fd, x1, none, x3, none, none, x6, x7, none]
  refine T_seq (P := fun fl => ∃ ρ', fl = .nx ρ' ∧ Pv [] ρ') (T_bind (P := fun ds => ds = [I 4, I 4, I 6]) (T_pure rfl) fun ds hds => ?_) fun fl ⟨ρ', he, _, x1, x3, x6, x7, hρ⟩ => ?_
  · subst hds
    refine T_for Pv (fun d ds ρ hρ => ?_) ⟨fun d hd => ?_, none, none, none, none, rfl⟩
    · obtain ⟨hds, x1, x3, x6, x7, rfl⟩ := hρ
      obtain ⟨most, hd, h1, h2⟩ := hds d List.mem_cons_self
      subst hd
      refine ⟨_, rfl, ?_⟩
      refine T_seq (T_asg (fn_T (as := [.fd, .d (I most)]) (af_of rfl (d1_of rfl rfl)) rfl (f_grow most h1 h2))) fun fl ⟨d, ⟨r, hd, ok, hn, hM⟩, he⟩ => ?_
      subst hd he
      have hn' : r.length ≤ 12 := by omega
      have hM' : ∀ b ∈ r, b.length ≤ 4 := fun b hb => by have := hM b hb; omega
      refine T_seq (T_ifF (P := fun fl => fl = .nx _) (T_notB (T_changed ok hn' hM' (af_of rfl (d1_of rfl rfl)))) (T_pure rfl)) fun fl he => ?_
      subst he
      refine T_seq (P := fun fl => ∃ e l : Nat, 1 ≤ e ∧ e < 1000 ∧ 1 ≤ l ∧ l < 100 ∧ fl = .nx [some .fd, some (.im (I most)), none, some (.im (rl r)), none, none, some (.im (I e)), some (.im (I l)), none]) ?_ fun fl ⟨e, l, a1, a2, a3, a4, he⟩ => ?_
      · refine T_bind (T_d (T_kadd 1 rfl (draw_at (L := 3) rfl rfl (by decide) (by decide))) (T_d (T_kadd 1 rfl (draw_at (L := 3) rfl rfl (by decide) (by decide))) T_nil)) fun as ⟨x, r', e, ⟨k, hx, hk⟩, y, r2, e2, ⟨k2, hy, hk2⟩, hr⟩ => ?_
        subst hr e2 e hx hy
        exact T_pure ⟨1 + k, 1 + k2, by omega, by omega, by omega, by omega, rfl⟩
      · subst he
        refine T_ifF (T_notB (T_powered ok hn' hM' (T_pure ⟨e, l, rfl, a1, a2, a3, a4⟩))) (T_pure ⟨_, rfl, fun d hd => hds d (List.mem_cons_of_mem _ hd), _, _, _, _, rfl⟩)
    · simp only [List.mem_cons, List.not_mem_nil, or_false] at hd
      rcases hd with rfl | rfl | rfl
      · exact ⟨4, rfl, by omega, by omega⟩
      · exact ⟨4, rfl, by omega, by omega⟩
      · exact ⟨6, rfl, by omega, by omega⟩
  subst he hρ
  refine T_seq (P := fun fl => ∃ far : Nat, 1 ≤ far ∧ far ≤ 12 ∧ fl = .nx [some .fd, x1, none, x3, some (.im (rl gold)), some (.im (I far)), x6, x7, none]) ?_ fun fl ⟨far, f1, f2, he⟩ => ?_
  · refine T_bind (T_d (P := fun d => d = rl gold) (T_pure rfl) (T_d (T_kadd 1 rfl (draw_at (L := 12) rfl rfl (by decide) (by decide))) T_nil)) fun as ⟨x, r', e, hx, y, r2, e2, ⟨k2, hy, hk2⟩, hr⟩ => ?_
    subst hr e2 e hx hy
    exact T_pure ⟨1 + k2, by omega, by omega, rfl⟩
  subst he
  have hl := gold_lev (far - 1) (by omega)
  obtain ⟨_, ht⟩ := levGo_some (r := gold) (j := 0) hl
  have hle : ∀ j, j ≤ far - 1 → ∀ b ∈ lvl gold j, b.length ≤ 2000 := fun j hj => lvl_le gold_ok hj ht
  have hp : F_power [.d (rl gold), .d (I far)] = pure (rl (lvl gold (far - 1))) := f_power gold gold_ok far f1 (by omega) (by decide) fun j hj b hb => by have := hle j (by omega) b hb; omega
  have hv : F__law_level [.d (rl gold), .d (I far)] = pure (rl (lvl gold (far - 1))) := by
    have := f_level gold far 2 gold_ok (by decide) (by decide) (by decide) f1 (by omega)
    rw [hl] at this
    exact this
  have hfine : fine (rl (lvl gold (far - 1))) := by
    refine fine_of (.inr ⟨_, rfl⟩) (small_rl (m := 2000) (fun b hb a ha => ?_) (hle _ (Nat.le_refl _)) ?_)
    · have := lvl_lt gold_ok _ b hb a ha
      have h2 : gold.length = 2 := rfl
      omega
    · rw [lvl_len]; decide
  refine T_seq (T_ifF (P := fun fl => fl = .nx _) (T_orB (T_notB (T_eq (same_of (x := rl (lvl gold (far - 1))) (d1_of ((fn_of' (as := [.d (rl gold), .d (I far)]) rfl rfl).trans hp) (d1_of ((fn_of' (as := [.d (rl gold), .d (I far)]) rfl rfl).trans hv) rfl)) hfine) (T_pure rfl))) (T_notB (fn_T (as := [.fd]) (af_of rfl rfl) rfl f_round))) (T_pure rfl)) fun fl he => ?_
  subst he
  refine T_seqP (asg_of' (x := rl wide) ((tupOf_is (l := wide.map wd) (lc_of (rg_at (g := cD (.int 12)) (n := 12) rfl (by decide)) ?_)).trans rfl) rfl) ?_
  · refine (lc_map (e := I) (h := fun a => wd [a, (a + 7) % 12]) (List.range 12) [] (by simp) fun a _ => ⟨_, rfl, ?_⟩).trans ?_
    · refine tup_of (as := [.d (I a), .d (I ((a + 7) % 12))]) (d1_of rfl (d1_of (bin_of (x := I (a + 7)) (y := .int 12) (un_of' (x := I (a + 7)) (bin_of (x := I a) (y := .int 7) rfl rfl ?_) rfl) rfl (gMod12 _)) rfl)) rfl
      show some (PyData.int ((a : Int) + 7)) = _
      unfold I; congr 2
    · unfold wide
      rw [List.nil_append, List.map_map]; rfl
  have wM : ∀ b ∈ wide, b.length ≤ 4 := by decide
  refine T_seq (T_ifF (P := fun fl => fl = .nx _) (T_orB (T_notB (T_changed wide_ok (by decide) wM (af_of rfl (d1_of rfl rfl)))) (T_notB (T_powered wide_ok (by decide) wM (T_pure ⟨2, 2, rfl, by decide, by decide, by decide, by decide⟩)))) (T_pure rfl)) fun fl he => ?_
  subst he
  refine T_ret (T_powered one_ok (by decide) (by decide) ?_)
  refine T_imp (T_d (P := fun d => d = rl [[0]]) (T_pure rfl) (T_d (P := fun d => d = I 40) (T_pure rfl) (T_d (T_kadd 1 rfl (draw_at (L := 9) rfl rfl (by decide) (by decide))) T_nil))) fun as ⟨x, r', e, hx, y, r2, e2, hy, z, r3, e3, ⟨k, hz, hk⟩, hr⟩ => ?_
  subst hr e3 e2 e hx hy hz
  exact ⟨40, 1 + k, rfl, by omega, by omega, by omega, by omega⟩
theorem math (S : Fd) : ∃ S', F__law_holds [.fd] S = .ok (.bool true) S' := by
  obtain ⟨d, S', e, h⟩ := f_holds S
  subst h
  exact ⟨S', e⟩
end K03
end

section
set_option Elab.async false
set_option linter.all false
set_option maxRecDepth 100000
set_option maxHeartbeats 0
namespace K03
open L2 PySem.Spec PyProof.Rows PySem E
abbrev MATH : Prop := ∀ S : Fd, ∃ S', F__law_holds [.fd] S = .ok (.bool true) S'
theorem kwb_of {K : PySem.W.Frag} {x qual : Str} {st : Stmt} {fa : Addr} {fd : FuncData} {ps ks : List Str} {pm : List Nat} (F : Fun K x qual st fa fd) (h : ∀ (kV doc pm' : Value) (an : Option Addr) (cdv ct : Value) (ws : List Value), ws.length = ks.length → bindArgs (PySem.W.fnOf x qual (defArgs st) (defBody st) (defScope st) .none kV doc pm' an cdv ct) ⟨[], ks.zip ws⟩ = pure (ps.zip (pick pm ws))) : KwB K fd ps ks pm := by
  obtain ⟨oc, od, kV, doc, pm', an, cdv, ct, osl, rfl, lk, hcd⟩ := F.ex
  exact ⟨fun s ws _ _ hl => .of_eq (h kV doc pm' an cdv ct ws hl)⟩
theorem all_mk {P : Program} {w : World} {K : PySem.W.Frag} {h : Heap} {mg : Str → Option Value} {fa C : Addr} (X : K.In h) (G : h.Ns mainGlobals mg) (hfa : mg "law" = some (.ref fa))
    {f5 : Addr} {od5 an5 : Option Addr} {sl5 : Array (Option Value)} {oc5 kV5 dc5 pm5 cd5 ct5 : Value}
    {f6 : Addr} {od6 an6 : Option Addr} {sl6 : Array (Option Value)} {oc6 kV6 dc6 pm6 cd6 ct6 : Value}
    {f7 : Addr} {od7 an7 : Option Addr} {sl7 : Array (Option Value)} {oc7 kV7 dc7 pm7 cd7 ct7 : Value}
    {f9 : Addr} {od9 an9 : Option Addr} {sl9 : Array (Option Value)} {oc9 kV9 dc9 pm9 cd9 ct9 : Value}
    {f10 : Addr} {od10 an10 : Option Addr} {sl10 : Array (Option Value)} {oc10 kV10 dc10 pm10 cd10 ct10 : Value}
    {f11 : Addr} {od11 an11 : Option Addr} {sl11 : Array (Option Value)} {oc11 kV11 dc11 pm11 cd11 ct11 : Value}
    {f12 : Addr} {od12 an12 : Option Addr} {sl12 : Array (Option Value)} {oc12 kV12 dc12 pm12 cd12 ct12 : Value}
    {f13 : Addr} {od13 an13 : Option Addr} {sl13 : Array (Option Value)} {oc13 kV13 dc13 pm13 cd13 ct13 : Value}
    {f14 : Addr} {od14 an14 : Option Addr} {sl14 : Array (Option Value)} {oc14 kV14 dc14 pm14 cd14 ct14 : Value}
    {f15 : Addr} {od15 an15 : Option Addr} {sl15 : Array (Option Value)} {oc15 kV15 dc15 pm15 cd15 ct15 : Value}
    {f16 : Addr} {od16 an16 : Option Addr} {sl16 : Array (Option Value)} {oc16 kV16 dc16 pm16 cd16 ct16 : Value}
    {f17 : Addr} {od17 an17 : Option Addr} {sl17 : Array (Option Value)} {oc17 kV17 dc17 pm17 cd17 ct17 : Value}
    {f19 : Addr} {od19 an19 : Option Addr} {sl19 : Array (Option Value)} {oc19 kV19 dc19 pm19 cd19 ct19 : Value}
    {f20 : Addr} {od20 an20 : Option Addr} {sl20 : Array (Option Value)} {oc20 kV20 dc20 pm20 cd20 ct20 : Value}
    {f21 : Addr} {od21 an21 : Option Addr} {sl21 : Array (Option Value)} {oc21 kV21 dc21 pm21 cd21 ct21 : Value}
    {f22 : Addr} {od22 an22 : Option Addr} {sl22 : Array (Option Value)} {oc22 kV22 dc22 pm22 cd22 ct22 : Value}
    {f23 : Addr} {od23 an23 : Option Addr} {sl23 : Array (Option Value)} {oc23 kV23 dc23 pm23 cd23 ct23 : Value}
    {f25 : Addr} {od25 an25 : Option Addr} {sl25 : Array (Option Value)} {oc25 kV25 dc25 pm25 cd25 ct25 : Value}
    {f26 : Addr} {od26 an26 : Option Addr} {sl26 : Array (Option Value)} {oc26 kV26 dc26 pm26 cd26 ct26 : Value}
    {f27 : Addr} {od27 an27 : Option Addr} {sl27 : Array (Option Value)} {oc27 kV27 dc27 pm27 cd27 ct27 : Value}
    {f28 : Addr} {od28 an28 : Option Addr} {sl28 : Array (Option Value)} {oc28 kV28 dc28 pm28 cd28 ct28 : Value}
    {f29 : Addr} {od29 an29 : Option Addr} {sl29 : Array (Option Value)} {oc29 kV29 dc29 pm29 cd29 ct29 : Value}
    {f30 : Addr} {od30 an30 : Option Addr} {sl30 : Array (Option Value)} {oc30 kV30 dc30 pm30 cd30 ct30 : Value}
    {f31 : Addr} {od31 an31 : Option Addr} {sl31 : Array (Option Value)} {oc31 kV31 dc31 pm31 cd31 ct31 : Value}
    {f32 : Addr} {od32 an32 : Option Addr} {sl32 : Array (Option Value)} {oc32 kV32 dc32 pm32 cd32 ct32 : Value}
    {f33 : Addr} {od33 an33 : Option Addr} {sl33 : Array (Option Value)} {oc33 kV33 dc33 pm33 cd33 ct33 : Value}
    {f34 : Addr} {od34 an34 : Option Addr} {sl34 : Array (Option Value)} {oc34 kV34 dc34 pm34 cd34 ct34 : Value}
    {f35 : Addr} {od35 an35 : Option Addr} {sl35 : Array (Option Value)} {oc35 kV35 dc35 pm35 cd35 ct35 : Value}
    {f36 : Addr} {od36 an36 : Option Addr} {sl36 : Array (Option Value)} {oc36 kV36 dc36 pm36 cd36 ct36 : Value}
    {f37 : Addr} {od37 an37 : Option Addr} {sl37 : Array (Option Value)} {oc37 kV37 dc37 pm37 cd37 ct37 : Value}
    {f38 : Addr} {od38 an38 : Option Addr} {sl38 : Array (Option Value)} {oc38 kV38 dc38 pm38 cd38 ct38 : Value}
    (aC : PySem.W.nsIn K mainGlobals "LedError" = some (some (.ref C)))
    (a5 : PySem.W.nsIn K mainGlobals "need" = some (some (.ref f5))) (l5 : K.lookup f5 = some ⟨oc5, od5, .func (PySem.W.fnOf "need" "need" (defArgs t_need) (defBody t_need) (defScope t_need) .none kV5 dc5 pm5 an5 cd5 ct5), sl5⟩) (c5 : PySem.W.codeIn K cd5 "need" = true) (k5 : PySem.W.keepIn K (.ref f5) = true)
    (a6 : PySem.W.nsIn K mainGlobals "spread" = some (some (.ref f6))) (l6 : K.lookup f6 = some ⟨oc6, od6, .func (PySem.W.fnOf "spread" "spread" (defArgs t_spread) (defBody t_spread) (defScope t_spread) .none kV6 dc6 pm6 an6 cd6 ct6), sl6⟩) (c6 : PySem.W.codeIn K cd6 "spread" = true) (k6 : PySem.W.keepIn K (.ref f6) = true)
    (a7 : PySem.W.nsIn K mainGlobals "next_blocks" = some (some (.ref f7))) (l7 : K.lookup f7 = some ⟨oc7, od7, .func (PySem.W.fnOf "next_blocks" "next_blocks" (defArgs t_next_blocks) (defBody t_next_blocks) (defScope t_next_blocks) .none kV7 dc7 pm7 an7 cd7 ct7), sl7⟩) (c7 : PySem.W.codeIn K cd7 "next_blocks" = true) (k7 : PySem.W.keepIn K (.ref f7) = true)
    (a9 : PySem.W.nsIn K mainGlobals "is_integer" = some (some (.ref f9))) (l9 : K.lookup f9 = some ⟨oc9, od9, .func (PySem.W.fnOf "is_integer" "is_integer" (defArgs t_is_integer) (defBody t_is_integer) (defScope t_is_integer) .none kV9 dc9 pm9 an9 cd9 ct9), sl9⟩) (c9 : PySem.W.codeIn K cd9 "is_integer" = true) (k9 : PySem.W.keepIn K (.ref f9) = true)
    (a10 : PySem.W.nsIn K mainGlobals "is_number" = some (some (.ref f10))) (l10 : K.lookup f10 = some ⟨oc10, od10, .func (PySem.W.fnOf "is_number" "is_number" (defArgs t_is_number) (defBody t_is_number) (defScope t_is_number) .none kV10 dc10 pm10 an10 cd10 ct10), sl10⟩) (c10 : PySem.W.codeIn K cd10 "is_number" = true) (k10 : PySem.W.keepIn K (.ref f10) = true)
    (a11 : PySem.W.nsIn K mainGlobals "is_rule" = some (some (.ref f11))) (l11 : K.lookup f11 = some ⟨oc11, od11, .func (PySem.W.fnOf "is_rule" "is_rule" (defArgs t_is_rule) (defBody t_is_rule) (defScope t_is_rule) .none kV11 dc11 pm11 an11 cd11 ct11), sl11⟩) (c11 : PySem.W.codeIn K cd11 "is_rule" = true) (k11 : PySem.W.keepIn K (.ref f11) = true)
    (a12 : PySem.W.nsIn K mainGlobals "is_below" = some (some (.ref f12))) (l12 : K.lookup f12 = some ⟨oc12, od12, .func (PySem.W.fnOf "is_below" "is_below" (defArgs t_is_below) (defBody t_is_below) (defScope t_is_below) .none kV12 dc12 pm12 an12 cd12 ct12), sl12⟩) (c12 : PySem.W.codeIn K cd12 "is_below" = true) (k12 : PySem.W.keepIn K (.ref f12) = true)
    (a13 : PySem.W.nsIn K mainGlobals "are_below" = some (some (.ref f13))) (l13 : K.lookup f13 = some ⟨oc13, od13, .func (PySem.W.fnOf "are_below" "are_below" (defArgs t_are_below) (defBody t_are_below) (defScope t_are_below) .none kV13 dc13 pm13 an13 cd13 ct13), sl13⟩) (c13 : PySem.W.codeIn K cd13 "are_below" = true) (k13 : PySem.W.keepIn K (.ref f13) = true)
    (a14 : PySem.W.nsIn K mainGlobals "is_full" = some (some (.ref f14))) (l14 : K.lookup f14 = some ⟨oc14, od14, .func (PySem.W.fnOf "is_full" "is_full" (defArgs t_is_full) (defBody t_is_full) (defScope t_is_full) .none kV14 dc14 pm14 an14 cd14 ct14), sl14⟩) (c14 : PySem.W.codeIn K cd14 "is_full" = true) (k14 : PySem.W.keepIn K (.ref f14) = true)
    (a15 : PySem.W.nsIn K mainGlobals "is_long" = some (some (.ref f15))) (l15 : K.lookup f15 = some ⟨oc15, od15, .func (PySem.W.fnOf "is_long" "is_long" (defArgs t_is_long) (defBody t_is_long) (defScope t_is_long) .none kV15 dc15 pm15 an15 cd15 ct15), sl15⟩) (c15 : PySem.W.codeIn K cd15 "is_long" = true) (k15 : PySem.W.keepIn K (.ref f15) = true)
    (a16 : PySem.W.nsIn K mainGlobals "is_order" = some (some (.ref f16))) (l16 : K.lookup f16 = some ⟨oc16, od16, .func (PySem.W.fnOf "is_order" "is_order" (defArgs t_is_order) (defBody t_is_order) (defScope t_is_order) .none kV16 dc16 pm16 an16 cd16 ct16), sl16⟩) (c16 : PySem.W.codeIn K cd16 "is_order" = true) (k16 : PySem.W.keepIn K (.ref f16) = true)
    (a17 : PySem.W.nsIn K mainGlobals "rule_fault" = some (some (.ref f17))) (l17 : K.lookup f17 = some ⟨oc17, od17, .func (PySem.W.fnOf "rule_fault" "rule_fault" (defArgs t_rule_fault) (defBody t_rule_fault) (defScope t_rule_fault) .none kV17 dc17 pm17 an17 cd17 ct17), sl17⟩) (c17 : PySem.W.codeIn K cd17 "rule_fault" = true) (k17 : PySem.W.keepIn K (.ref f17) = true)
    (a19 : PySem.W.nsIn K mainGlobals "letters_of" = some (some (.ref f19))) (l19 : K.lookup f19 = some ⟨oc19, od19, .func (PySem.W.fnOf "letters_of" "letters_of" (defArgs t_letters_of) (defBody t_letters_of) (defScope t_letters_of) .none kV19 dc19 pm19 an19 cd19 ct19), sl19⟩) (c19 : PySem.W.codeIn K cd19 "letters_of" = true) (k19 : PySem.W.keepIn K (.ref f19) = true)
    (a20 : PySem.W.nsIn K mainGlobals "becomes" = some (some (.ref f20))) (l20 : K.lookup f20 = some ⟨oc20, od20, .func (PySem.W.fnOf "becomes" "becomes" (defArgs t_becomes) (defBody t_becomes) (defScope t_becomes) .none kV20 dc20 pm20 an20 cd20 ct20), sl20⟩) (c20 : PySem.W.codeIn K cd20 "becomes" = true) (k20 : PySem.W.keepIn K (.ref f20) = true)
    (a21 : PySem.W.nsIn K mainGlobals "turned" = some (some (.ref f21))) (l21 : K.lookup f21 = some ⟨oc21, od21, .func (PySem.W.fnOf "turned" "turned" (defArgs t_turned) (defBody t_turned) (defScope t_turned) .none kV21 dc21 pm21 an21 cd21 ct21), sl21⟩) (c21 : PySem.W.codeIn K cd21 "turned" = true) (k21 : PySem.W.keepIn K (.ref f21) = true)
    (a22 : PySem.W.nsIn K mainGlobals "power" = some (some (.ref f22))) (l22 : K.lookup f22 = some ⟨oc22, od22, .func (PySem.W.fnOf "power" "power" (defArgs t_power) (defBody t_power) (defScope t_power) .none kV22 dc22 pm22 an22 cd22 ct22), sl22⟩) (c22 : PySem.W.codeIn K cd22 "power" = true) (k22 : PySem.W.keepIn K (.ref f22) = true)
    (a23 : PySem.W.nsIn K mainGlobals "renamed" = some (some (.ref f23))) (l23 : K.lookup f23 = some ⟨oc23, od23, .func (PySem.W.fnOf "renamed" "renamed" (defArgs t_renamed) (defBody t_renamed) (defScope t_renamed) .none kV23 dc23 pm23 an23 cd23 ct23), sl23⟩) (c23 : PySem.W.codeIn K cd23 "renamed" = true) (k23 : PySem.W.keepIn K (.ref f23) = true)
    (a25 : PySem.W.nsIn K mainGlobals "_law_feed" = some (some (.ref f25))) (l25 : K.lookup f25 = some ⟨oc25, od25, .func (PySem.W.fnOf "_law_feed" "_law_feed" (defArgs t__law_feed) (defBody t__law_feed) (defScope t__law_feed) .none kV25 dc25 pm25 an25 cd25 ct25), sl25⟩) (c25 : PySem.W.codeIn K cd25 "_law_feed" = true) (k25 : PySem.W.keepIn K (.ref f25) = true)
    (a26 : PySem.W.nsIn K mainGlobals "_law_draw" = some (some (.ref f26))) (l26 : K.lookup f26 = some ⟨oc26, od26, .func (PySem.W.fnOf "_law_draw" "_law_draw" (defArgs t__law_draw) (defBody t__law_draw) (defScope t__law_draw) .none kV26 dc26 pm26 an26 cd26 ct26), sl26⟩) (c26 : PySem.W.codeIn K cd26 "_law_draw" = true) (k26 : PySem.W.keepIn K (.ref f26) = true)
    (a27 : PySem.W.nsIn K mainGlobals "_law_same" = some (some (.ref f27))) (l27 : K.lookup f27 = some ⟨oc27, od27, .func (PySem.W.fnOf "_law_same" "_law_same" (defArgs t__law_same) (defBody t__law_same) (defScope t__law_same) .none kV27 dc27 pm27 an27 cd27 ct27), sl27⟩) (c27 : PySem.W.codeIn K cd27 "_law_same" = true) (k27 : PySem.W.keepIn K (.ref f27) = true)
    (a28 : PySem.W.nsIn K mainGlobals "_law_grow" = some (some (.ref f28))) (l28 : K.lookup f28 = some ⟨oc28, od28, .func (PySem.W.fnOf "_law_grow" "_law_grow" (defArgs t__law_grow) (defBody t__law_grow) (defScope t__law_grow) .none kV28 dc28 pm28 an28 cd28 ct28), sl28⟩) (c28 : PySem.W.codeIn K cd28 "_law_grow" = true) (k28 : PySem.W.keepIn K (.ref f28) = true)
    (a29 : PySem.W.nsIn K mainGlobals "_law_row" = some (some (.ref f29))) (l29 : K.lookup f29 = some ⟨oc29, od29, .func (PySem.W.fnOf "_law_row" "_law_row" (defArgs t__law_row) (defBody t__law_row) (defScope t__law_row) .none kV29 dc29 pm29 an29 cd29 ct29), sl29⟩) (c29 : PySem.W.codeIn K cd29 "_law_row" = true) (k29 : PySem.W.keepIn K (.ref f29) = true)
    (a30 : PySem.W.nsIn K mainGlobals "_law_becomes" = some (some (.ref f30))) (l30 : K.lookup f30 = some ⟨oc30, od30, .func (PySem.W.fnOf "_law_becomes" "_law_becomes" (defArgs t__law_becomes) (defBody t__law_becomes) (defScope t__law_becomes) .none kV30 dc30 pm30 an30 cd30 ct30), sl30⟩) (c30 : PySem.W.codeIn K cd30 "_law_becomes" = true) (k30 : PySem.W.keepIn K (.ref f30) = true)
    (a31 : PySem.W.nsIn K mainGlobals "_law_turned_about" = some (some (.ref f31))) (l31 : K.lookup f31 = some ⟨oc31, od31, .func (PySem.W.fnOf "_law_turned_about" "_law_turned_about" (defArgs t__law_turned_about) (defBody t__law_turned_about) (defScope t__law_turned_about) .none kV31 dc31 pm31 an31 cd31 ct31), sl31⟩) (c31 : PySem.W.codeIn K cd31 "_law_turned_about" = true) (k31 : PySem.W.keepIn K (.ref f31) = true)
    (a32 : PySem.W.nsIn K mainGlobals "_law_level" = some (some (.ref f32))) (l32 : K.lookup f32 = some ⟨oc32, od32, .func (PySem.W.fnOf "_law_level" "_law_level" (defArgs t__law_level) (defBody t__law_level) (defScope t__law_level) .none kV32 dc32 pm32 an32 cd32 ct32), sl32⟩) (c32 : PySem.W.codeIn K cd32 "_law_level" = true) (k32 : PySem.W.keepIn K (.ref f32) = true)
    (a33 : PySem.W.nsIn K mainGlobals "_law_called" = some (some (.ref f33))) (l33 : K.lookup f33 = some ⟨oc33, od33, .func (PySem.W.fnOf "_law_called" "_law_called" (defArgs t__law_called) (defBody t__law_called) (defScope t__law_called) .none kV33 dc33 pm33 an33 cd33 ct33), sl33⟩) (c33 : PySem.W.codeIn K cd33 "_law_called" = true) (k33 : PySem.W.keepIn K (.ref f33) = true)
    (a34 : PySem.W.nsIn K mainGlobals "_law_is_led_round" = some (some (.ref f34))) (l34 : K.lookup f34 = some ⟨oc34, od34, .func (PySem.W.fnOf "_law_is_led_round" "_law_is_led_round" (defArgs t__law_is_led_round) (defBody t__law_is_led_round) (defScope t__law_is_led_round) .none kV34 dc34 pm34 an34 cd34 ct34), sl34⟩) (c34 : PySem.W.codeIn K cd34 "_law_is_led_round" = true) (k34 : PySem.W.keepIn K (.ref f34) = true)
    (a35 : PySem.W.nsIn K mainGlobals "_law_is_powered" = some (some (.ref f35))) (l35 : K.lookup f35 = some ⟨oc35, od35, .func (PySem.W.fnOf "_law_is_powered" "_law_is_powered" (defArgs t__law_is_powered) (defBody t__law_is_powered) (defScope t__law_is_powered) .none kV35 dc35 pm35 an35 cd35 ct35), sl35⟩) (c35 : PySem.W.codeIn K cd35 "_law_is_powered" = true) (k35 : PySem.W.keepIn K (.ref f35) = true)
    (a36 : PySem.W.nsIn K mainGlobals "_law_is_changed" = some (some (.ref f36))) (l36 : K.lookup f36 = some ⟨oc36, od36, .func (PySem.W.fnOf "_law_is_changed" "_law_is_changed" (defArgs t__law_is_changed) (defBody t__law_is_changed) (defScope t__law_is_changed) .none kV36 dc36 pm36 an36 cd36 ct36), sl36⟩) (c36 : PySem.W.codeIn K cd36 "_law_is_changed" = true) (k36 : PySem.W.keepIn K (.ref f36) = true)
    (a37 : PySem.W.nsIn K mainGlobals "_law_holds" = some (some (.ref f37))) (l37 : K.lookup f37 = some ⟨oc37, od37, .func (PySem.W.fnOf "_law_holds" "_law_holds" (defArgs t__law_holds) (defBody t__law_holds) (defScope t__law_holds) .none kV37 dc37 pm37 an37 cd37 ct37), sl37⟩) (c37 : PySem.W.codeIn K cd37 "_law_holds" = true) (k37 : PySem.W.keepIn K (.ref f37) = true)
    (a38 : PySem.W.nsIn K mainGlobals "law" = some (some (.ref f38))) (l38 : K.lookup f38 = some ⟨oc38, od38, .func (PySem.W.fnOf "law" "law" (defArgs t_law) (defBody t_law) (defScope t_law) .none kV38 dc38 pm38 an38 cd38 ct38), sl38⟩) (c38 : PySem.W.codeIn K cd38 "law" = true) (k38 : PySem.W.keepIn K (.ref f38) = true)
    (z_all : PySem.W.nsIn K mainGlobals "all" = some none)
    (z_bool : PySem.W.nsIn K mainGlobals "bool" = some none)
    (z_enumerate : PySem.W.nsIn K mainGlobals "enumerate" = some none)
    (z_int : PySem.W.nsIn K mainGlobals "int" = some none)
    (z_isinstance : PySem.W.nsIn K mainGlobals "isinstance" = some none)
    (z_len : PySem.W.nsIn K mainGlobals "len" = some none)
    (z_list : PySem.W.nsIn K mainGlobals "list" = some none)
    (z_range : PySem.W.nsIn K mainGlobals "range" = some none)
    (z_repr : PySem.W.nsIn K mainGlobals "repr" = some none)
    (z_set : PySem.W.nsIn K mainGlobals "set" = some none)
    (z_sum : PySem.W.nsIn K mainGlobals "sum" = some none)
    (z_tuple : PySem.W.nsIn K mainGlobals "tuple" = some none)
    (math : MATH) :
    ∃ fd : FuncData, (∀ (s : Shared) (v : Value), BindsTo s fd ⟨[v], []⟩ [("_law_script", v)]) ∧ ∀ base : Heap, K.In base → base.Ns mainGlobals mg → FnG P w K mg base 10 fa fd ["_law_script"] (spLaw K) := by
  have e := hfa.symm.trans (PySem.W.mg_of X G a38)
  cases e
  have F5 := fun_mk (st := t_need) l5 c5 k5
  have F6 := fun_mk (st := t_spread) l6 c6 k6
  have F7 := fun_mk (st := t_next_blocks) l7 c7 k7
  have F9 := fun_mk (st := t_is_integer) l9 c9 k9
  have F10 := fun_mk (st := t_is_number) l10 c10 k10
  have F11 := fun_mk (st := t_is_rule) l11 c11 k11
  have F12 := fun_mk (st := t_is_below) l12 c12 k12
  have F13 := fun_mk (st := t_are_below) l13 c13 k13
  have F14 := fun_mk (st := t_is_full) l14 c14 k14
  have F15 := fun_mk (st := t_is_long) l15 c15 k15
  have F16 := fun_mk (st := t_is_order) l16 c16 k16
  have F17 := fun_mk (st := t_rule_fault) l17 c17 k17
  have F19 := fun_mk (st := t_letters_of) l19 c19 k19
  have F20 := fun_mk (st := t_becomes) l20 c20 k20
  have F21 := fun_mk (st := t_turned) l21 c21 k21
  have F22 := fun_mk (st := t_power) l22 c22 k22
  have F23 := fun_mk (st := t_renamed) l23 c23 k23
  have F25 := fun_mk (st := t__law_feed) l25 c25 k25
  have F26 := fun_mk (st := t__law_draw) l26 c26 k26
  have F27 := fun_mk (st := t__law_same) l27 c27 k27
  have F28 := fun_mk (st := t__law_grow) l28 c28 k28
  have F29 := fun_mk (st := t__law_row) l29 c29 k29
  have F30 := fun_mk (st := t__law_becomes) l30 c30 k30
  have F31 := fun_mk (st := t__law_turned_about) l31 c31 k31
  have F32 := fun_mk (st := t__law_level) l32 c32 k32
  have F33 := fun_mk (st := t__law_called) l33 c33 k33
  have F34 := fun_mk (st := t__law_is_led_round) l34 c34 k34
  have F35 := fun_mk (st := t__law_is_powered) l35 c35 k35
  have F36 := fun_mk (st := t__law_is_changed) l36 c36 k36
  have F37 := fun_mk (st := t__law_holds) l37 c37 k37
  have F38 := fun_mk (st := t_law) l38 c38 k38
  let f : Nat → Addr := fun i => match i with
    | 5 => f5
    | 6 => f6
    | 7 => f7
    | 9 => f9
    | 10 => f10
    | 11 => f11
    | 12 => f12
    | 13 => f13
    | 14 => f14
    | 15 => f15
    | 16 => f16
    | 17 => f17
    | 19 => f19
    | 20 => f20
    | 21 => f21
    | 22 => f22
    | 23 => f23
    | 25 => f25
    | 26 => f26
    | 27 => f27
    | 28 => f28
    | 29 => f29
    | 30 => f30
    | 31 => f31
    | 32 => f32
    | 33 => f33
    | 34 => f34
    | 35 => f35
    | 36 => f36
    | 37 => f37
    | 38 => fa
    | _ => 0
  let fd : Nat → FuncData := fun i => match i with
    | 5 => PySem.W.fnOf "need" "need" (defArgs t_need) (defBody t_need) (defScope t_need) .none kV5 dc5 pm5 an5 cd5 ct5
    | 6 => PySem.W.fnOf "spread" "spread" (defArgs t_spread) (defBody t_spread) (defScope t_spread) .none kV6 dc6 pm6 an6 cd6 ct6
    | 7 => PySem.W.fnOf "next_blocks" "next_blocks" (defArgs t_next_blocks) (defBody t_next_blocks) (defScope t_next_blocks) .none kV7 dc7 pm7 an7 cd7 ct7
    | 9 => PySem.W.fnOf "is_integer" "is_integer" (defArgs t_is_integer) (defBody t_is_integer) (defScope t_is_integer) .none kV9 dc9 pm9 an9 cd9 ct9
    | 10 => PySem.W.fnOf "is_number" "is_number" (defArgs t_is_number) (defBody t_is_number) (defScope t_is_number) .none kV10 dc10 pm10 an10 cd10 ct10
    | 11 => PySem.W.fnOf "is_rule" "is_rule" (defArgs t_is_rule) (defBody t_is_rule) (defScope t_is_rule) .none kV11 dc11 pm11 an11 cd11 ct11
    | 12 => PySem.W.fnOf "is_below" "is_below" (defArgs t_is_below) (defBody t_is_below) (defScope t_is_below) .none kV12 dc12 pm12 an12 cd12 ct12
    | 13 => PySem.W.fnOf "are_below" "are_below" (defArgs t_are_below) (defBody t_are_below) (defScope t_are_below) .none kV13 dc13 pm13 an13 cd13 ct13
    | 14 => PySem.W.fnOf "is_full" "is_full" (defArgs t_is_full) (defBody t_is_full) (defScope t_is_full) .none kV14 dc14 pm14 an14 cd14 ct14
    | 15 => PySem.W.fnOf "is_long" "is_long" (defArgs t_is_long) (defBody t_is_long) (defScope t_is_long) .none kV15 dc15 pm15 an15 cd15 ct15
    | 16 => PySem.W.fnOf "is_order" "is_order" (defArgs t_is_order) (defBody t_is_order) (defScope t_is_order) .none kV16 dc16 pm16 an16 cd16 ct16
    | 17 => PySem.W.fnOf "rule_fault" "rule_fault" (defArgs t_rule_fault) (defBody t_rule_fault) (defScope t_rule_fault) .none kV17 dc17 pm17 an17 cd17 ct17
    | 19 => PySem.W.fnOf "letters_of" "letters_of" (defArgs t_letters_of) (defBody t_letters_of) (defScope t_letters_of) .none kV19 dc19 pm19 an19 cd19 ct19
    | 20 => PySem.W.fnOf "becomes" "becomes" (defArgs t_becomes) (defBody t_becomes) (defScope t_becomes) .none kV20 dc20 pm20 an20 cd20 ct20
    | 21 => PySem.W.fnOf "turned" "turned" (defArgs t_turned) (defBody t_turned) (defScope t_turned) .none kV21 dc21 pm21 an21 cd21 ct21
    | 22 => PySem.W.fnOf "power" "power" (defArgs t_power) (defBody t_power) (defScope t_power) .none kV22 dc22 pm22 an22 cd22 ct22
    | 23 => PySem.W.fnOf "renamed" "renamed" (defArgs t_renamed) (defBody t_renamed) (defScope t_renamed) .none kV23 dc23 pm23 an23 cd23 ct23
    | 25 => PySem.W.fnOf "_law_feed" "_law_feed" (defArgs t__law_feed) (defBody t__law_feed) (defScope t__law_feed) .none kV25 dc25 pm25 an25 cd25 ct25
    | 26 => PySem.W.fnOf "_law_draw" "_law_draw" (defArgs t__law_draw) (defBody t__law_draw) (defScope t__law_draw) .none kV26 dc26 pm26 an26 cd26 ct26
    | 27 => PySem.W.fnOf "_law_same" "_law_same" (defArgs t__law_same) (defBody t__law_same) (defScope t__law_same) .none kV27 dc27 pm27 an27 cd27 ct27
    | 28 => PySem.W.fnOf "_law_grow" "_law_grow" (defArgs t__law_grow) (defBody t__law_grow) (defScope t__law_grow) .none kV28 dc28 pm28 an28 cd28 ct28
    | 29 => PySem.W.fnOf "_law_row" "_law_row" (defArgs t__law_row) (defBody t__law_row) (defScope t__law_row) .none kV29 dc29 pm29 an29 cd29 ct29
    | 30 => PySem.W.fnOf "_law_becomes" "_law_becomes" (defArgs t__law_becomes) (defBody t__law_becomes) (defScope t__law_becomes) .none kV30 dc30 pm30 an30 cd30 ct30
    | 31 => PySem.W.fnOf "_law_turned_about" "_law_turned_about" (defArgs t__law_turned_about) (defBody t__law_turned_about) (defScope t__law_turned_about) .none kV31 dc31 pm31 an31 cd31 ct31
    | 32 => PySem.W.fnOf "_law_level" "_law_level" (defArgs t__law_level) (defBody t__law_level) (defScope t__law_level) .none kV32 dc32 pm32 an32 cd32 ct32
    | 33 => PySem.W.fnOf "_law_called" "_law_called" (defArgs t__law_called) (defBody t__law_called) (defScope t__law_called) .none kV33 dc33 pm33 an33 cd33 ct33
    | 34 => PySem.W.fnOf "_law_is_led_round" "_law_is_led_round" (defArgs t__law_is_led_round) (defBody t__law_is_led_round) (defScope t__law_is_led_round) .none kV34 dc34 pm34 an34 cd34 ct34
    | 35 => PySem.W.fnOf "_law_is_powered" "_law_is_powered" (defArgs t__law_is_powered) (defBody t__law_is_powered) (defScope t__law_is_powered) .none kV35 dc35 pm35 an35 cd35 ct35
    | 36 => PySem.W.fnOf "_law_is_changed" "_law_is_changed" (defArgs t__law_is_changed) (defBody t__law_is_changed) (defScope t__law_is_changed) .none kV36 dc36 pm36 an36 cd36 ct36
    | 37 => PySem.W.fnOf "_law_holds" "_law_holds" (defArgs t__law_holds) (defBody t__law_holds) (defScope t__law_holds) .none kV37 dc37 pm37 an37 cd37 ct37
    | 38 => PySem.W.fnOf "law" "law" (defArgs t_law) (defBody t_law) (defScope t_law) .none kV38 dc38 pm38 an38 cd38 ct38
    | _ => PySem.W.fnOf "law" "law" (defArgs t_law) (defBody t_law) (defScope t_law) .none kV38 dc38 pm38 an38 cd38 ct38
  have T : TX K mg f fd := {
    d5 := F5, g5 := PySem.W.mg_of X G a5, b5 := F5.binds (ps := ["fine", "name"]) fun _ _ _ _ _ _ us hl => match us, hl with | [_, _], _ => rfl,
    d6 := F6, g6 := PySem.W.mg_of X G a6, b6 := F6.binds (ps := ["blocks", "word"]) fun _ _ _ _ _ _ us hl => match us, hl with | [_, _], _ => rfl,
    d7 := F7, g7 := PySem.W.mg_of X G a7, b7 := F7.binds (ps := ["rule", "blocks"]) fun _ _ _ _ _ _ us hl => match us, hl with | [_, _], _ => rfl,
    d9 := F9, g9 := PySem.W.mg_of X G a9, b9 := F9.binds (ps := ["thing"]) fun _ _ _ _ _ _ us hl => match us, hl with | [_], _ => rfl,
    d10 := F10, g10 := PySem.W.mg_of X G a10, b10 := F10.binds (ps := ["thing"]) fun _ _ _ _ _ _ us hl => match us, hl with | [_], _ => rfl,
    d11 := F11, g11 := PySem.W.mg_of X G a11, b11 := F11.binds (ps := ["thing"]) fun _ _ _ _ _ _ us hl => match us, hl with | [_], _ => rfl,
    d12 := F12, g12 := PySem.W.mg_of X G a12, b12 := F12.binds (ps := ["thing", "many"]) fun _ _ _ _ _ _ us hl => match us, hl with | [_, _], _ => rfl,
    d13 := F13, g13 := PySem.W.mg_of X G a13, b13 := F13.binds (ps := ["thing", "many"]) fun _ _ _ _ _ _ us hl => match us, hl with | [_, _], _ => rfl,
    d14 := F14, g14 := PySem.W.mg_of X G a14, b14 := F14.binds (ps := ["thing"]) fun _ _ _ _ _ _ us hl => match us, hl with | [_], _ => rfl,
    d15 := F15, g15 := PySem.W.mg_of X G a15, b15 := F15.binds (ps := ["thing", "length"]) fun _ _ _ _ _ _ us hl => match us, hl with | [_, _], _ => rfl,
    d16 := F16, g16 := PySem.W.mg_of X G a16, b16 := F16.binds (ps := ["thing", "many"]) fun _ _ _ _ _ _ us hl => match us, hl with | [_, _], _ => rfl,
    d17 := F17, g17 := PySem.W.mg_of X G a17, b17 := F17.binds (ps := ["thing"]) fun _ _ _ _ _ _ us hl => match us, hl with | [_], _ => rfl,
    d19 := F19, g19 := PySem.W.mg_of X G a19, b19 := F19.binds (ps := ["rule"]) fun _ _ _ _ _ _ us hl => match us, hl with | [_], _ => rfl,
    d20 := F20, g20 := PySem.W.mg_of X G a20, b20 := F20.binds (ps := ["rule", "word"]) fun _ _ _ _ _ _ us hl => match us, hl with | [_, _], _ => rfl,
    d21 := F21, g21 := PySem.W.mg_of X G a21, b21 := F21.binds (ps := ["rule"]) fun _ _ _ _ _ _ us hl => match us, hl with | [_], _ => rfl,
    d22 := F22, g22 := PySem.W.mg_of X G a22, b22 := F22.binds (ps := ["rule", "n"]) fun _ _ _ _ _ _ us hl => match us, hl with | [_, _], _ => rfl,
    d23 := F23, g23 := PySem.W.mg_of X G a23, b23 := F23.binds (ps := ["rule", "names"]) fun _ _ _ _ _ _ us hl => match us, hl with | [_, _], _ => rfl,
    d25 := F25, g25 := PySem.W.mg_of X G a25, b25 := F25.binds (ps := ["_law_script"]) fun _ _ _ _ _ _ us hl => match us, hl with | [_], _ => rfl,
    d26 := F26, g26 := PySem.W.mg_of X G a26, b26 := F26.binds (ps := ["_law_feed_here", "_law_limit"]) fun _ _ _ _ _ _ us hl => match us, hl with | [_, _], _ => rfl,
    d27 := F27, g27 := PySem.W.mg_of X G a27, b27 := F27.binds (ps := ["_law_told", "_law_due"]) fun _ _ _ _ _ _ us hl => match us, hl with | [_, _], _ => rfl,
    d28 := F28, g28 := PySem.W.mg_of X G a28, b28 := F28.binds (ps := ["_law_feed_here", "_law_most"]) fun _ _ _ _ _ _ us hl => match us, hl with | [_, _], _ => rfl,
    d29 := F29, g29 := PySem.W.mg_of X G a29, b29 := F29.binds (ps := ["_law_feed_here", "_law_many", "_law_most"]) fun _ _ _ _ _ _ us hl => match us, hl with | [_, _, _], _ => rfl,
    d30 := F30, g30 := PySem.W.mg_of X G a30, b30 := F30.binds (ps := ["_law_grow_here", "_law_row_here"]) fun _ _ _ _ _ _ us hl => match us, hl with | [_, _], _ => rfl,
    d31 := F31, g31 := PySem.W.mg_of X G a31, b31 := F31.binds (ps := ["_law_feed_here", "_law_many"]) fun _ _ _ _ _ _ us hl => match us, hl with | [_, _], _ => rfl,
    d32 := F32, g32 := PySem.W.mg_of X G a32, b32 := F32.binds (ps := ["_law_grow_here", "_law_far"]) fun _ _ _ _ _ _ us hl => match us, hl with | [_, _], _ => rfl,
    d33 := F33, g33 := PySem.W.mg_of X G a33, b33 := F33.binds (ps := ["_law_grow_here", "_law_calls"]) fun _ _ _ _ _ _ us hl => match us, hl with | [_, _], _ => rfl,
    d34 := F34, g34 := PySem.W.mg_of X G a34, b34 := F34.binds (ps := ["_law_feed_here"]) fun _ _ _ _ _ _ us hl => match us, hl with | [_], _ => rfl,
    d35 := F35, g35 := PySem.W.mg_of X G a35, b35 := F35.binds (ps := ["_law_grow_here", "_law_early", "_law_late"]) fun _ _ _ _ _ _ us hl => match us, hl with | [_, _, _], _ => rfl,
    d36 := F36, g36 := PySem.W.mg_of X G a36, b36 := F36.binds (ps := ["_law_feed_here", "_law_grow_here"]) fun _ _ _ _ _ _ us hl => match us, hl with | [_, _], _ => rfl,
    d37 := F37, g37 := PySem.W.mg_of X G a37, b37 := F37.binds (ps := ["_law_feed_here"]) fun _ _ _ _ _ _ us hl => match us, hl with | [_], _ => rfl,
    d38 := F38, g38 := PySem.W.mg_of X G a38, b38 := F38.binds (ps := ["_law_script"]) fun _ _ _ _ _ _ us hl => match us, hl with | [_], _ => rfl,
    k20_word_rule := kwb_of F20 fun _ _ _ _ _ _ ws hl => match ws, hl with | [_, _], _ => rfl,
    k19_rule := kwb_of F19 fun _ _ _ _ _ _ ws hl => match ws, hl with | [_], _ => rfl,
    k22_n_rule := kwb_of F22 fun _ _ _ _ _ _ ws hl => match ws, hl with | [_, _], _ => rfl,
    k23_names_rule := kwb_of F23 fun _ _ _ _ _ _ ws hl => match ws, hl with | [_, _], _ => rfl,
    k21_rule := kwb_of F21 fun _ _ _ _ _ _ ws hl => match ws, hl with | [_], _ => rfl,
    m_all := PySem.W.mg_none_of X G z_all,
    m_bool := PySem.W.mg_none_of X G z_bool,
    m_enumerate := PySem.W.mg_none_of X G z_enumerate,
    m_int := PySem.W.mg_none_of X G z_int,
    m_isinstance := PySem.W.mg_none_of X G z_isinstance,
    m_len := PySem.W.mg_none_of X G z_len,
    m_list := PySem.W.mg_none_of X G z_list,
    m_range := PySem.W.mg_none_of X G z_range,
    m_repr := PySem.W.mg_none_of X G z_repr,
    m_set := PySem.W.mg_none_of X G z_set,
    m_sum := PySem.W.mg_none_of X G z_sum,
    m_tuple := PySem.W.mg_none_of X G z_tuple,
  }
  exact ⟨_, fun s v => .of_eq rfl, fun base _ _ => ok_law T ⟨_, PySem.W.mg_of X G aC⟩ math⟩
theorem walk {l : PySem.W.OpenLaw} {q : Program} {loose : List Str} {XP : (Str → Option Value) → Heap → Prop} {YP : World → Heap → Prop} {d : DefRec} {K : Params → PySem.W.Frag} (hn : l.most = some 63) (hdf : d.params.defaults = []) (hY : ∀ (w : World) (h : Heap), YP w h → (K w.params).In h)
    (F : ∀ (w : World) (mg : Str → Option Value) (fa : Addr) (h : Heap), (K w.params).In h → h.Ns mainGlobals mg → mg d.name = some (.ref fa) → ∃ fd : FuncData, (∀ (s : Shared) (u : Value), BindsTo s fd ⟨[u], []⟩ [("_law_script", u)]) ∧ ∀ base : Heap, (K w.params).In base → base.Ns mainGlobals mg → FnG l.prog w (K w.params) mg base 10 fa fd ["_law_script"] (spLaw (K w.params))) :
    PySem.W.WalkO q loose XP YP l.row.toRowW d [] fun f vs => PySem.call f vs :=
  walkG (n := 63) (k := 10) (x := "_law_script") (sp := fun w => spLaw (K w.params)) hn (by decide) hdf ⟨⟨rfl, by decide, by decide⟩, rfl⟩ hY F fun _ _ a ns _ _ hS => ⟨rfl, a, ns, rfl, hS, fun _ => rfl⟩
end K03
end

section
set_option Elab.async false
set_option linter.all false
open PySem.W PyProof.Rows PySem
set_option maxRecDepth 110000 in
set_option maxHeartbeats 0 in
theorem PySem.Challenge.cw_ledalong_k03_whole_rules_changed_holds : PySem.Challenge.rw_ledalong_k03_whole_rules_changed.Holds := by
  w_on; o_law
  k_head; (case hw => w_witness2)
  k_fill
  refine K03.walk (l := PySem.Challenge.rw_ledalong_k03_whole_rules_changed) rfl rfl (fun w h Y => PySem.W.kIn_of Y) ?F
  case F =>
    intro w mg fa h KX G hmg
    refine' K03.all_mk KX G hmg ?aC ?a5 ?l5 ?c5 ?k5 ?a6 ?l6 ?c6 ?k6 ?a7 ?l7 ?c7 ?k7 ?a9 ?l9 ?c9 ?k9 ?a10 ?l10 ?c10 ?k10 ?a11 ?l11 ?c11 ?k11 ?a12 ?l12 ?c12 ?k12 ?a13 ?l13 ?c13 ?k13 ?a14 ?l14 ?c14 ?k14 ?a15 ?l15 ?c15 ?k15 ?a16 ?l16 ?c16 ?k16 ?a17 ?l17 ?c17 ?k17 ?a19 ?l19 ?c19 ?k19 ?a20 ?l20 ?c20 ?k20 ?a21 ?l21 ?c21 ?k21 ?a22 ?l22 ?c22 ?k22 ?a23 ?l23 ?c23 ?k23 ?a25 ?l25 ?c25 ?k25 ?a26 ?l26 ?c26 ?k26 ?a27 ?l27 ?c27 ?k27 ?a28 ?l28 ?c28 ?k28 ?a29 ?l29 ?c29 ?k29 ?a30 ?l30 ?c30 ?k30 ?a31 ?l31 ?c31 ?k31 ?a32 ?l32 ?c32 ?k32 ?a33 ?l33 ?c33 ?k33 ?a34 ?l34 ?c34 ?k34 ?a35 ?l35 ?c35 ?k35 ?a36 ?l36 ?c36 ?k36 ?a37 ?l37 ?c37 ?k37 ?a38 ?l38 ?c38 ?k38 ?z_all ?z_bool ?z_enumerate ?z_int ?z_isinstance ?z_len ?z_list ?z_range ?z_repr ?z_set ?z_sum ?z_tuple K03.math
    (case aC => k_is)
    (case a5 => k_is)
    (case l5 => k_is)
    (case c5 => k_is)
    (case k5 => k_is)
    (case a6 => k_is)
    (case l6 => k_is)
    (case c6 => k_is)
    (case k6 => k_is)
    (case a7 => k_is)
    (case l7 => k_is)
    (case c7 => k_is)
    (case k7 => k_is)
    (case a9 => k_is)
    (case l9 => k_is)
    (case c9 => k_is)
    (case k9 => k_is)
    (case a10 => k_is)
    (case l10 => k_is)
    (case c10 => k_is)
    (case k10 => k_is)
    (case a11 => k_is)
    (case l11 => k_is)
    (case c11 => k_is)
    (case k11 => k_is)
    (case a12 => k_is)
    (case l12 => k_is)
    (case c12 => k_is)
    (case k12 => k_is)
    (case a13 => k_is)
    (case l13 => k_is)
    (case c13 => k_is)
    (case k13 => k_is)
    (case a14 => k_is)
    (case l14 => k_is)
    (case c14 => k_is)
    (case k14 => k_is)
    (case a15 => k_is)
    (case l15 => k_is)
    (case c15 => k_is)
    (case k15 => k_is)
    (case a16 => k_is)
    (case l16 => k_is)
    (case c16 => k_is)
    (case k16 => k_is)
    (case a17 => k_is)
    (case l17 => k_is)
    (case c17 => k_is)
    (case k17 => k_is)
    (case a19 => k_is)
    (case l19 => k_is)
    (case c19 => k_is)
    (case k19 => k_is)
    (case a20 => k_is)
    (case l20 => k_is)
    (case c20 => k_is)
    (case k20 => k_is)
    (case a21 => k_is)
    (case l21 => k_is)
    (case c21 => k_is)
    (case k21 => k_is)
    (case a22 => k_is)
    (case l22 => k_is)
    (case c22 => k_is)
    (case k22 => k_is)
    (case a23 => k_is)
    (case l23 => k_is)
    (case c23 => k_is)
    (case k23 => k_is)
    (case a25 => k_is)
    (case l25 => k_is)
    (case c25 => k_is)
    (case k25 => k_is)
    (case a26 => k_is)
    (case l26 => k_is)
    (case c26 => k_is)
    (case k26 => k_is)
    (case a27 => k_is)
    (case l27 => k_is)
    (case c27 => k_is)
    (case k27 => k_is)
    (case a28 => k_is)
    (case l28 => k_is)
    (case c28 => k_is)
    (case k28 => k_is)
    (case a29 => k_is)
    (case l29 => k_is)
    (case c29 => k_is)
    (case k29 => k_is)
    (case a30 => k_is)
    (case l30 => k_is)
    (case c30 => k_is)
    (case k30 => k_is)
    (case a31 => k_is)
    (case l31 => k_is)
    (case c31 => k_is)
    (case k31 => k_is)
    (case a32 => k_is)
    (case l32 => k_is)
    (case c32 => k_is)
    (case k32 => k_is)
    (case a33 => k_is)
    (case l33 => k_is)
    (case c33 => k_is)
    (case k33 => k_is)
    (case a34 => k_is)
    (case l34 => k_is)
    (case c34 => k_is)
    (case k34 => k_is)
    (case a35 => k_is)
    (case l35 => k_is)
    (case c35 => k_is)
    (case k35 => k_is)
    (case a36 => k_is)
    (case l36 => k_is)
    (case c36 => k_is)
    (case k36 => k_is)
    (case a37 => k_is)
    (case l37 => k_is)
    (case c37 => k_is)
    (case k37 => k_is)
    (case a38 => k_is)
    (case l38 => k_is)
    (case c38 => k_is)
    (case k38 => k_is)
    (case z_all => k_is)
    (case z_bool => k_is)
    (case z_enumerate => k_is)
    (case z_int => k_is)
    (case z_isinstance => k_is)
    (case z_len => k_is)
    (case z_list => k_is)
    (case z_range => k_is)
    (case z_repr => k_is)
    (case z_set => k_is)
    (case z_sum => k_is)
    (case z_tuple => k_is)
end
