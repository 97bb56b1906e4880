import PyProof.Rows.All
import Wide.All
import OpenK.AllK
import Wide.FinOn
import HandS.ForMost
import HandS.IsInst
import HandS.WideBits
import HandS.Zip
import HandS.Conv
import HandS.Style
import HandS.SetFor
import HandS.Strs
import HandS.ForExc
import HandS.Lambda
import HandS.ExcInit
import HandS.ExcField
import HandS.EndTab
import PyProof.Draws
import PyProof.EnumMake
import PyProof.ReprRoads
import HandS.TryOnly
import HandS.WordsExc
import HandS.TupAny
import HandS.ExcIs
import KE.KExcIs
import HandS.TupMul
import KE.DataFind
import HandS.SetBool
import HandS.RaiseMore
import PySem.Challenge.RW_ledalong_k15_blocks_and_places_told
section
set_option Elab.async false
set_option linter.all false
set_option maxRecDepth 100000
set_option maxHeartbeats 2100000
namespace G
open L2 PySem.Spec PyProof.Rows PySem
abbrev St := L2.St

/-! ### heaps seen without some addresses -/
def msk (av : List Addr) (H : Hp) : Hp := fun b => if b ∈ av then none else H b
def Ext (av : List Addr) (H H' : Hp) : Prop := ∀ b o, b ∉ av → H b = some o → H' b = some o
theorem Ext.refl {av : List Addr} (H : Hp) : Ext av H H := fun _ _ _ h => h
theorem Ext.trans {av : List Addr} {H H1 H2 : Hp} (a : Ext av H H1) (b : Ext av H1 H2) : Ext av H H2 := fun c o n h => b c o n (a c o n h)
theorem Ext.more {av aw : List Addr} {H H1 : Hp} (a : Ext av H H1) (h : ∀ p ∈ av, p ∈ aw) : Ext aw H H1 := fun c o n => a c o fun z => n (h c z)
theorem Ext.of_same {av : List Addr} {H H1 : Hp} (a : Same H H1) : Ext av H H1 := fun c o _ h => a c o h
theorem Ext.new {av : List Addr} {H : Hp} {p : Addr} {o : HO} (h : H p = none) : Ext av H (upd H p o) := fun b u _ q => by
  rw [upd_ne (ne_of_none q h)]; exact q
theorem msk_some {av : List Addr} {H : Hp} {b : Addr} {o : HO} (h : msk av H b = some o) : b ∉ av ∧ H b = some o := by
  unfold msk at h
  split at h
  · cases h
  · exact ⟨by assumption, h⟩
theorem msk_of {av : List Addr} {H : Hp} {b : Addr} {o : HO} (n : b ∉ av) (h : H b = some o) : msk av H b = some o := by
  unfold msk; rw [if_neg n]; exact h
theorem Ext.same {av aw : List Addr} {H H1 : Hp} (a : Ext av H H1) (h : ∀ p ∈ av, p ∈ aw) : Same (msk aw H) (msk aw H1) := fun b o q =>
  let ⟨n, z⟩ := msk_some q; msk_of n (a b o (fun y => n (h b y)) z)
theorem msk_less {av aw : List Addr} {H : Hp} (h : ∀ p ∈ av, p ∈ aw) : Same (msk aw H) (msk av H) := fun b o q =>
  let ⟨n, z⟩ := msk_some q; msk_of (fun y => n (h b y)) z
theorem msk_all {av : List Addr} {H : Hp} : Same (msk av H) H := fun b o q => (msk_some q).2

theorem sqT_same {K : PySem.W.Frag} {H H' : Hp} {a : Addr} {xs : List V} (e : Same H H') (h : SqT K H a xs) : SqT K H' a xs := by
  rcases h with (h | ⟨o, g⟩) | h
  · exact .inl (.inl (e _ _ h))
  · exact .inl (.inr ⟨o, e _ _ g⟩)
  · exact .inr h
/-- a plain object -/
def Pl (o : Obj) : Prop := o.dict = none ∧ o.slots = #[]
/-- a tuple that has no dict of its own -/
def TupN (K : PySem.W.Frag) (H : Hp) (a : Addr) : Prop := (∃ o u, H a = some (.frz o u) ∧ Pl o) ∨ ∃ o, K.lookup a = some o ∧ o.cls = .type "tuple" ∧ Pl o
theorem tupN_same {K : PySem.W.Frag} {H H' : Hp} {a : Addr} (e : Same H H') (h : TupN K H a) : TupN K H' a := by
  rcases h with ⟨o, u, h, z⟩ | h
  · exact .inl ⟨o, u, e _ _ h, z⟩
  · exact .inr h
mutual
/-- data at any depth, as it stands -/
inductive Dx (K : PySem.W.Frag) (H : Hp) : V → PyData → Prop
  | non : Dx K H .non .none
  | bl (b : Bool) : Dx K H (.bl b) (.bool b)
  | int (i : Int) : Dx K H (.int i) (.int i)
  | str (x : Str) : Dx K H (.str x) (.str x)
  | lst {a : Addr} {vs : List V} {ds : List PyData} : H a = some (.lst vs) → DxAll K H vs ds → Dx K H (.ref a) (.list ds)
  | tup {a : Addr} {vs : List V} {ds : List PyData} : SqT K H a vs → TupN K H a → DxAll K H vs ds → Dx K H (.ref a) (.tuple ds)
inductive DxAll (K : PySem.W.Frag) (H : Hp) : List V → List PyData → Prop
  | nil : DxAll K H [] []
  | cons {v : V} {vs : List V} {d : PyData} {ds : List PyData} : Dx K H v d → DxAll K H vs ds → DxAll K H (v :: vs) (d :: ds)
end
mutual
theorem dx_dp {K : PySem.W.Frag} {H : Hp} : ∀ (d : PyData) (v : V), Dx K H v d → Dp K H v d
  | .none, _, h => by cases h; exact .non
  | .bool _, _, h => by cases h; exact .bl _
  | .int _, _, h => by cases h; exact .int _
  | .str _, _, h => by cases h; exact .str _
  | .list ds, _, h => by
    cases h with
    | lst hs ha => exact .lst (.inl (.inl hs)) (dxs_dps ds _ ha)
  | .tuple ds, _, h => by
    cases h with
    | tup hs hn ha => exact .tup hs (dxs_dps ds _ ha)
  | .dict _, _, h => by cases h
theorem dxs_dps {K : PySem.W.Frag} {H : Hp} : ∀ (ds : List PyData) (vs : List V), DxAll K H vs ds → DpAll K H vs ds
  | [], _, h => by cases h; exact .nil
  | d :: ds, _, h => by
    cases h with
    | cons h1 h2 => exact .cons (dx_dp d _ h1) (dxs_dps ds _ h2)
end
mutual
theorem dp_same {K : PySem.W.Frag} {H H' : Hp} (e : Same H H') : ∀ (d : PyData) (v : V), Dx K H v d → Dx K H' v d
  | .none, _, h => by cases h; exact .non
  | .bool _, _, h => by cases h; exact .bl _
  | .int _, _, h => by cases h; exact .int _
  | .str _, _, h => by cases h; exact .str _
  | .list ds, _, h => by
    cases h with
    | lst hs ha => exact .lst (e _ _ hs) (dps_same e ds _ ha)
  | .tuple ds, _, h => by
    cases h with
    | tup hs hn ha => exact .tup (sqT_same e hs) (tupN_same e hn) (dps_same e ds _ ha)
  | .dict _, _, h => by cases h
theorem dps_same {K : PySem.W.Frag} {H H' : Hp} (e : Same H H') : ∀ (ds : List PyData) (vs : List V), DxAll K H vs ds → DxAll K H' vs ds
  | [], _, h => by cases h; exact .nil
  | d :: ds, _, h => by
    cases h with
    | cons h1 h2 => exact .cons (dp_same e d _ h1) (dps_same e ds _ h2)
end
theorem dps_get {K : PySem.W.Frag} {H : Hp} : ∀ {vs : List V} {ds : List PyData} {i : Nat} {d : PyData}, DxAll K H vs ds → ds[i]? = some d → ∃ v, vs[i]? = some v ∧ Dx K H v d
  | _, _, _, _, .nil, e => (by simp at e)
  | _, _, 0, _, .cons r _, e => (by simp at e; subst e; exact ⟨_, rfl, r⟩)
  | _, _, i + 1, _, .cons _ t, e => by
    obtain ⟨u, h1, h2⟩ := dps_get (i := i) t (by simpa using e)
    exact ⟨u, (by simpa using h1), h2⟩
theorem dps_getV {K : PySem.W.Frag} {H : Hp} : ∀ {vs : List V} {ds : List PyData} {i : Nat} {v : V}, DxAll K H vs ds → vs[i]? = some v → ∃ d, ds[i]? = some d ∧ Dx K H v d
  | _, _, _, _, .nil, e => (by simp at e)
  | _, _, 0, _, .cons r _, e => (by simp at e; subst e; exact ⟨_, rfl, r⟩)
  | _, _, i + 1, _, .cons _ t, e => by
    obtain ⟨u, h1, h2⟩ := dps_getV (i := i) t (by simpa using e)
    exact ⟨u, (by simpa using h1), h2⟩
theorem dps_len {K : PySem.W.Frag} {H : Hp} : ∀ {vs : List V} {ds : List PyData}, DxAll K H vs ds → vs.length = ds.length
  | _, _, .nil => rfl
  | _, _, .cons _ t => by simp [dps_len t]
theorem dps_app {K : PySem.W.Frag} {H : Hp} : ∀ {vs ws : List V} {ds es : List PyData}, DxAll K H vs ds → DxAll K H ws es → DxAll K H (vs ++ ws) (ds ++ es)
  | _, _, _, _, .nil, s => s
  | _, _, _, _, .cons r t, s => .cons r (dps_app t s)
theorem dps_one {K : PySem.W.Frag} {H : Hp} {v : V} {d : PyData} (h : Dx K H v d) : DxAll K H [v] [d] := .cons h .nil
theorem dps_rev {K : PySem.W.Frag} {H : Hp} : ∀ {vs : List V} {ds : List PyData}, DxAll K H vs ds → DxAll K H vs.reverse ds.reverse
  | _, _, .nil => .nil
  | _, _, .cons r t => by
    rw [List.reverse_cons]; rw [List.reverse_cons]
    exact dps_app (dps_rev t) (dps_one r)

/-! ### what is drawn from -/
/-- how the law names what it draws from -/
inductive Ks where
  | a | b | c | d | l
  deriving DecidableEq
structure Fd where
  ks : Ks
  cells : List Int
  place : Int
  rest : Int
  turn : Int
/-- what may change all the time: the feed, the tables of code objects -/
structure Pt where
  a : Addr
  c : Addr
  /-- the lists of before that a slot may hold -/
  o : Nat → Addr → Prop
/-- the tables of the code objects that make lambdas -/
class LamT where
  ts : List (Addr × Str)
variable [LamT]
def feedO (q : Pt) (S : Fd) : HO := match S.ks with
  | .a => .dK [(.inr "cells", .ref q.c), (.inr "place", .int S.place), (.inr "rest", .int S.rest), (.inr "turn", .int S.turn)]
  | .b => .dK [(.inr "cells", .ref q.c), (.inr "spot", .int S.place), (.inr "left", .int S.rest), (.inr "drawn", .int S.turn)]
  | .c => .dK [(.inr "cells", .ref q.c), (.inr "at", .int S.place), (.inr "left", .int S.rest), (.inr "count", .int S.turn)]
  | .d => .dK [(.inr "cells", .ref q.c), (.inr "next", .int S.place), (.inr "left", .int S.rest), (.inr "turn", .int S.turn)]
  | .l => .lst [.ref q.c, .int S.place, .int S.rest, .int S.turn]
def mv (q : Pt) : List Addr := q.a :: LamT.ts.map (·.1)
def FeedAt (av : List Addr) (q : Pt) (S : Fd) (H : Hp) : Prop := (∀ p ∈ mv q, p ∈ av) ∧ q.c ∉ av ∧ H q.a = some (feedO q S) ∧ H q.c = some (.lst (S.cells.map V.int)) ∧ LamX.Tabs LamT.ts H
theorem FeedAt.less {av aw : List Addr} {q : Pt} {S : Fd} {H : Hp} (f : FeedAt aw q S H) (h : ∀ p ∈ av, p ∈ aw) (hq : ∀ p ∈ mv q, p ∈ av) : FeedAt av q S H :=
  let ⟨_, n, r⟩ := f; ⟨hq, fun z => n (h _ z), r⟩
theorem FeedAt.a_in {av : List Addr} {q : Pt} {S : Fd} {H : Hp} (f : FeedAt av q S H) : q.a ∈ av := f.1 _ List.mem_cons_self

/-! ### answers -/
structure Xn where
  cls : Nat
  fs : List PyData
/-- the errors of the program, by numbers; their fields, the last one stored first -/
def clsNm : Nat → Str
  | 0 => "LedError"
  | 1 => "PaperError"
  | 2 => "WorldError"
  | 3 => "LiveError"
  | 4 => "TextError"
  | 5 => "InvalidPaper"
  | 6 => "NotUsable"
  | 7 => "InvalidEvent"
  | 8 => "NothingToUndo"
  | 9 => "InvalidText"
  | 10 => "InvalidRow"
  | _ => ""
def fldNm : Nat → List Str
  | 5 => ["at", "word"]
  | 6 => ["at", "word"]
  | 7 => ["reason", "event"]
  | 8 => ["steps"]
  | 9 => ["field", "line"]
  | 10 => ["row"]
  | _ => []
def clOf (K : PySem.W.Frag) (c : Nat) : Addr := match PySem.W.nsIn K mainGlobals (clsNm c) with
  | some (some (.ref C)) => C
  | _ => 0
inductive R (α : Type) where
  | ok (a : α) (S : Fd)
  | ex (x : Xn) (S : Fd)
  | bad
abbrev M (α : Type) := Fd → R α
def R.post {α : Type} (r : R α) (k : α → Fd → Prop) (x : Xn → Fd → Prop) : Prop := match r with
  | .ok a S => k a S
  | .ex e S => x e S
  | .bad => False
def M.bind {α β : Type} (m : M α) (f : α → M β) : M β := fun S => match m S with
  | .ok a S' => f a S'
  | .ex e S' => .ex e S'
  | .bad => .bad
instance : Monad M where
  pure a := fun S => .ok a S
  bind := M.bind
def bad {α : Type} : M α := fun _ => .bad
def lift {α : Type} (o : Option α) : M α := match o with
  | some a => pure a
  | none => bad
theorem R.post_imp {α : Type} {r : R α} {k k' : α → Fd → Prop} {x x' : Xn → Fd → Prop} (h : r.post k x) (hk : ∀ a S, k a S → k' a S) (hx : ∀ e S, x e S → x' e S) : r.post k' x' := by
  cases r with
  | ok a S => exact hk a S h
  | ex e S => exact hx e S h
  | bad => exact h
theorem post_bind {α β : Type} {m : M α} {f : α → M β} {S : Fd} {k : β → Fd → Prop} {x : Xn → Fd → Prop} (h : ((m >>= f) S).post k x) : (m S).post (fun a S' => (f a S').post k x) x := by
  have h' : (M.bind m f S).post k x := h
  unfold M.bind at h'
  cases e : m S with
  | ok a S' => rw [e] at h'; exact h'
  | ex a S' => rw [e] at h'; exact h'
  | bad => rw [e] at h'; exact h'
theorem post_lift {α : Type} {o : Option α} {S : Fd} {k : α → Fd → Prop} {x : Xn → Fd → Prop} (h : (lift o S).post k x) : ∃ a, o = some a ∧ k a S := by
  cases o with
  | none => exact False.elim h
  | some a => exact ⟨a, rfl, h⟩

/-! ### slots -/
/-- what an own list holds; whether it was made since the loop at hand began -/
abbrev Ol := List PyData × Bool
inductive Sl where
  | im (d : PyData)
  | ow (l : Ol)
  | fd
  | xn (a dd : Addr) (x : Xn)
abbrev En := List (Option Sl)
/-- an error's dict -/
def XdAt (K : PySem.W.Frag) (av : List Addr) (H : Hp) (dd : Addr) (x : Xn) : Prop := dd ∉ av ∧ ∃ vs, H dd = some (.xd ((fldNm x.cls).zip vs)) ∧ DxAll K (msk av H) vs x.fs
theorem XdAt.keep {K : PySem.W.Frag} {av aw : List Addr} {H H1 : Hp} {dd : Addr} {x : Xn} (h : XdAt K av H dd x) (sm : Same (msk av H) (msk aw H1)) : XdAt K aw H1 dd x :=
  let ⟨n, vs, h1, h2⟩ := h; ⟨(msk_some (sm dd _ (msk_of n h1))).1, vs, (msk_some (sm dd _ (msk_of n h1))).2, dps_same sm _ vs h2⟩
def SlOk (K : PySem.W.Frag) (av : List Addr) (q : Pt) (H : Hp) (s : Sl) (v : V) : Prop := match s with
  | .im d => Dx K (msk av H) v d
  | .ow l => ∃ p vs, v = .ref p ∧ p ∈ av ∧ p ∉ mv q ∧ H p = some (.lst vs) ∧ DxAll K (msk av H) vs l.1
  | .fd => v = .ref q.a
  | .xn a dd x => v = .ref a ∧ XdAt K av H dd x
structure At (K : PySem.W.Frag) (av : List Addr) (q : Pt) (ρ : En) (S : Fd) (σ : G.St) (H : Hp) : Prop where
  len : σ.length = ρ.length
  slot : ∀ (i : Nat) (s : Sl), ρ[i]? = some (some s) → ∃ v, σ[i]? = some (some v) ∧ SlOk K av q H s v
  inj : ∀ (i j : Nat) (l l' : Ol) (v : V), ρ[i]? = some (some (Sl.ow l)) → ρ[j]? = some (some (Sl.ow l')) → σ[i]? = some (some v) → σ[j]? = some (some v) → i = j
  feed : FeedAt av q S H
  trk : ∀ p ∈ av, ∃ o, H p = some o
theorem SlOk.ext {K : PySem.W.Frag} {av : List Addr} {q : Pt} {H H1 : Hp} {s : Sl} {v : V} (h : SlOk K av q H s v) (hq : ∀ p ∈ mv q, p ∈ av) (e : Ext (mv q) H H1) : SlOk K av q H1 s v := by
  have sm : Same (msk av H) (msk av H1) := e.same hq
  cases s with
  | im d => exact dp_same sm d v h
  | ow l =>
    obtain ⟨p, vs, rfl, hp, hne, ho, ha⟩ := h
    exact ⟨p, vs, rfl, hp, hne, e p _ hne ho, dps_same sm l.1 vs ha⟩
  | fd => exact h
  | xn a dd x => exact ⟨h.1, h.2.keep sm⟩
theorem FeedAt.trk1 {av : List Addr} {q : Pt} {S : Fd} {H H1 : Hp} (f : FeedAt av q S H1) (t : ∀ p ∈ av, ∃ o, H p = some o) (e : Ext (mv q) H H1) : ∀ p ∈ av, ∃ o, H1 p = some o := fun p hp => by
  by_cases z : p ∈ mv q
  · obtain ⟨_, _, h, _, t⟩ := f
    rcases List.mem_cons.mp z with y | y
    · rw [y]; exact ⟨_, h⟩
    · obtain ⟨r, hr, e⟩ := List.mem_map.mp y
      obtain ⟨ps, h1, _⟩ := t r hr
      rw [← e]; exact ⟨_, h1⟩
  · obtain ⟨o, h⟩ := t p hp
    exact ⟨o, e p o z h⟩
section
variable {K : PySem.W.Frag} {av : List Addr} {q : Pt} {ρ : En} {S S1 : Fd} {σ : G.St} {H H1 : Hp} {W : WX}
theorem At.ext (A : At K av q ρ S σ H) (e : Ext (mv q) H H1) (f : FeedAt av q S1 H1) : At K av q ρ S1 σ H1 :=
  ⟨A.len, fun i s h => let ⟨v, h1, h2⟩ := A.slot i s h; ⟨v, h1, h2.ext f.1 e⟩, A.inj, f, f.trk1 A.trk e⟩
theorem ext_dp (hq : ∀ p ∈ mv q, p ∈ av) (e : Ext (mv q) H H1) {v : V} {d : PyData} (h : Dx K (msk av H) v d) : Dx K (msk av H1) v d :=
  dp_same (e.same hq) d v h
theorem ext_dps (hq : ∀ p ∈ mv q, p ∈ av) (e : Ext (mv q) H H1) {v : List V} {d : List PyData} (h : DxAll K (msk av H) v d) : DxAll K (msk av H1) v d :=
  dps_same (e.same hq) d v h
theorem feed_same (f : FeedAt av q S H) (e : Same H H1) : FeedAt av q S H1 := let ⟨h, n, a, b, t⟩ := f; ⟨h, n, e _ _ a, e _ _ b, t.ext e⟩
theorem not_av {p : Addr} (t : ∀ p ∈ av, ∃ o, H p = some o) (n : H p = none) : p ∉ av := fun z => by
  obtain ⟨o, h⟩ := t p z
  rw [n] at h; cases h
theorem same_new {p : Addr} {o : HO} (h : H p = none) : Same H (upd H p o) := fun b u q => by rw [upd_ne (ne_of_none q h)]; exact q
theorem msk_same (e : Same H H1) : Same (msk av H) (msk av H1) := fun b o q => let ⟨n, z⟩ := msk_some q; msk_of n (e b o z)
/-- an object that is neither the feed nor a table changes: both stay -/
theorem feed_put {p : Addr} {o : HO} (f : FeedAt av q S H) (hp : p ∈ av) (n : p ∉ mv q) (hc : ∀ c, H p ≠ some (LamX.CodeO p c)) : FeedAt av q S (upd H p o) := by
  obtain ⟨h, m, a, b, t⟩ := f
  refine ⟨h, m, ?_, ?_, fun r hr => ?_⟩
  · rw [upd_ne fun y => n (by rw [← y]; exact List.mem_cons_self)]; exact a
  · rw [upd_ne fun y => m (by rw [y]; exact hp)]; exact b
  · obtain ⟨ps, h1, h2, h3⟩ := t r hr
    refine ⟨ps, ?_, h2, fun pos cv hcv => ?_⟩
    · rw [upd_ne fun y => n (by rw [← y]; exact List.mem_cons_of_mem _ (List.mem_map.mpr ⟨r, hr, rfl⟩))]; exact h1
    · obtain ⟨c, e1, e2⟩ := h3 pos cv hcv
      refine ⟨c, e1, ?_⟩
      rw [upd_ne fun y => hc r.2 (by rw [← y]; exact e2)]; exact e2

/-! ### readings by data -/
/-- what is wanted of an error -/
def xE (K : PySem.W.Frag) (E : XK) (av : List Addr) (q : Pt) (H : Hp) : Xn → Fd → Prop := fun x S' => ∀ dd H', Ext (mv q) H H' → FeedAt av q S' H' → XdAt K av H' dd x → E (.ref (clOf K x.cls)) (some dd) H'
abbrev wa (W : WX) (σ : G.St) : XK := fun c d h => W c d σ h
theorem xE_ext {E : XK} {x : Xn} {S' : Fd} (e : Ext (mv q) H H1) (h : xE K E av q H x S') : xE K E av q H1 x S' := fun dd H' e1 f d => h dd H' (e.trans e1) f d
theorem post_ext {α : Type} {r : R α} {k : α → Fd → Prop} {E : XK} (e : Ext (mv q) H H1) (h : r.post k (xE K E av q H)) : r.post k (xE K E av q H1) := R.post_imp h (fun _ _ z => z) fun _ _ z => xE_ext e z
/-- an answer r, wanted: Q of what it is at any later heap -/
def wE (K : PySem.W.Frag) (av : List Addr) (q : Pt) (H : Hp) (r : R PyData) (Q : VK) (E : XK) : Prop :=
  r.post (fun d S' => ∀ v H', Ext (mv q) H H' → FeedAt av q S' H' → Dx K (msk av H') v d → Q v H') (xE K E av q H)
def tE (K : PySem.W.Frag) (W : WX) (f : En → M PyData) : TE := fun σ H Q => ∃ av q ρ S, At K av q ρ S σ H ∧ wE K av q H (f ρ S) Q (wa W σ)
/-- the most that a context takes of errors -/
def wx (X : Cx) : WX := fun cls d σ H => ∀ e s', XE X (fun c d' σ' H' => c = cls ∧ d' = d ∧ σ' = σ ∧ H' = H) e s' → X.xe e s'
theorem takes_wx {X : Cx} : Takes X (wx X) := fun u s' ⟨a, B, sI, pins, σ, H, cls, d, e, I, nb, up, sky, na, os, ag, w⟩ => w u s' ⟨a, B, sI, pins, σ, H, cls, d, e, I, nb, up, sky, na, os, ag, rfl, rfl, rfl, rfl⟩
theorem wx_of {X : Cx} {W : WX} (tk : Takes X W) {c : Value} {d : Option Addr} {σ : G.St} {H : Hp} (w : W c d σ H) : wx X c d σ H := fun e s' ⟨a, B, sI, pins, σ', H', cls, d', e1, I, nb, up, sky, na, os, ag, e2, e3, e4, e5⟩ => by
  subst e2 e3 e4 e5
  exact tk e s' ⟨a, B, sI, pins, _, _, _, _, e1, I, nb, up, sky, na, os, ag, w⟩
/-- nothing is let out -/
def W0 : WX := fun _ _ _ _ => False
def PD (X : Cx) (e : Expr) (f : En → M PyData) : Prop := PE X e (tE X.K (wx X) f)
theorem PE_imp {X : Cx} {e : Expr} {t t' : TE} (h : PE X e t) (i : ∀ σ H Q, t' σ H Q → t σ H Q) : PE X e t' := ⟨fun pins s σ H Q I q => h.run pins s σ H Q I (i σ H Q q)⟩
theorem tE_w {f : En → M PyData} {W W' : WX} (h : ∀ c d σ H, W' c d σ H → W c d σ H) {Q : VK} (t : tE K W' f σ H Q) : tE K W f σ H Q :=
  let ⟨av, q, ρ, S, A, p⟩ := t; ⟨av, q, ρ, S, A, R.post_imp p (fun _ _ z => z) fun _ _ z dd H' e f d => h _ _ _ _ (z dd H' e f d)⟩
theorem PD.w0 {X : Cx} {e : Expr} {f : En → M PyData} (h : PD X e f) : PE X e (tE X.K W0 f) := PE_imp h fun _ _ _ t => tE_w (fun _ _ _ _ z => z.elim) t
/-- f first, then what wants its answer -/
theorem tE_step {f : En → M PyData} {α : Type} {g : PyData → M α} {k : α → Fd → Prop} {Q : VK} (A : At K av q ρ S σ H)
    (p : ((f ρ >>= g) S).post k (xE K (wa W σ) av q H)) (h : ∀ x S1 v H1, (g x S1).post k (xE K (wa W σ) av q H1) → Ext (mv q) H H1 → At K av q ρ S1 σ H1 → Dx K (msk av H1) v x → Q v H1) : tE K W f σ H Q :=
  ⟨av, q, ρ, S, A, R.post_imp (post_bind p) (fun x S1 hx v H1 e1 f1 d1 => h x S1 v H1 (post_ext e1 hx) e1 (A.ext e1 f1) d1) fun _ _ z => z⟩
/-- a test -/
def tD (K : PySem.W.Frag) (W : WX) (f : En → M Bool) : TT := fun σ H Q => ∃ av q ρ S, At K av q ρ S σ H ∧
  (f ρ S).post (fun b S' => ∀ H', Ext (mv q) H H' → FeedAt av q S' H' → Q b H') (xE K (wa W σ) av q H)
def PB (X : Cx) (e : Expr) (f : En → M Bool) : Prop := PT X e (tD X.K (wx X) f)
theorem PT_imp {X : Cx} {e : Expr} {t t' : TT} (h : PT X e t) (i : ∀ σ H Q, t' σ H Q → t σ H Q) : PT X e t' := ⟨fun pins s σ H Q I q => h.run pins s σ H Q I (i σ H Q q)⟩
theorem tD_w {f : En → M Bool} {W W' : WX} (h : ∀ c d σ H, W' c d σ H → W c d σ H) {Q : Bool → Hp → Prop} (t : tD K W' f σ H Q) : tD K W f σ H Q :=
  let ⟨av, q, ρ, S, A, p⟩ := t; ⟨av, q, ρ, S, A, R.post_imp p (fun _ _ z => z) fun _ _ z dd H' e f d => h _ _ _ _ (z dd H' e f d)⟩
theorem tD_step {f : En → M Bool} {α : Type} {g : Bool → M α} {k : α → Fd → Prop} {Q : Bool → Hp → Prop} (A : At K av q ρ S σ H)
    (p : ((f ρ >>= g) S).post k (xE K (wa W σ) av q H)) (h : ∀ x S1 H1, (g x S1).post k (xE K (wa W σ) av q H1) → Ext (mv q) H H1 → At K av q ρ S1 σ H1 → Q x H1) : tD K W f σ H Q :=
  ⟨av, q, ρ, S, A, R.post_imp (post_bind p) (fun x S1 hx H1 e1 f1 => h x S1 H1 (post_ext e1 hx) e1 (A.ext e1 f1)) fun _ _ z => z⟩
/-- where nothing may be let out, an error is bad -/
def sil {α : Type} (m : M α) : M α := fun S => match m S with
  | .ok a S' => .ok a S'
  | _ => .bad
theorem post_sil {α : Type} {m : M α} {S : Fd} {k : α → Fd → Prop} {x x' : Xn → Fd → Prop} (h : (sil m S).post k x) : (m S).post k x' := by
  unfold sil at h
  cases e : m S with
  | ok a S' => rw [e] at h; exact h
  | ex a S' => rw [e] at h; exact False.elim h
  | bad => rw [e] at h; exact False.elim h
theorem tE_sil {f : En → M PyData} {α : Type} {g : PyData → M α} {k : α → Fd → Prop} {Q : VK} {E : XK} (A : At K av q ρ S σ H)
    (p : ((sil (f ρ) >>= g) S).post k (xE K E av q H)) (h : ∀ x S1 v H1, (g x S1).post k (xE K E av q H1) → Ext (mv q) H H1 → At K av q ρ S1 σ H1 → Dx K (msk av H1) v x → Q v H1) : tE K W f σ H Q :=
  ⟨av, q, ρ, S, A, R.post_imp (post_sil (post_bind p)) (fun x S1 hx v H1 e1 f1 d1 => h x S1 v H1 (post_ext e1 hx) e1 (A.ext e1 f1) d1) fun _ _ z => z⟩
theorem tD_sil {f : En → M Bool} {α : Type} {g : Bool → M α} {k : α → Fd → Prop} {Q : Bool → Hp → Prop} {E : XK} (A : At K av q ρ S σ H)
    (p : ((sil (f ρ) >>= g) S).post k (xE K E av q H)) (h : ∀ x S1 H1, (g x S1).post k (xE K E av q H1) → Ext (mv q) H H1 → At K av q ρ S1 σ H1 → Q x H1) : tD K W f σ H Q :=
  ⟨av, q, ρ, S, A, R.post_imp (post_sil (post_bind p)) (fun x S1 hx H1 e1 f1 => h x S1 H1 (post_ext e1 hx) e1 (A.ext e1 f1)) fun _ _ z => z⟩

/-! ### arguments -/
inductive Ag where
  | d (x : PyData)
  | fd
def AgOk (K : PySem.W.Frag) (av : List Addr) (q : Pt) (H : Hp) (a : Ag) (v : V) : Prop := match a with
  | .d x => Dx K (msk av H) v x
  | .fd => v = .ref q.a
inductive AgsOk (K : PySem.W.Frag) (av : List Addr) (q : Pt) (H : Hp) : List Ag → List V → Prop
  | nil : AgsOk K av q H [] []
  | cons {a : Ag} {v : V} {as : List Ag} {vs : List V} : AgOk K av q H a v → AgsOk K av q H as vs → AgsOk K av q H (a :: as) (v :: vs)
theorem AgOk.ext {a : Ag} {v : V} (h : AgOk K av q H a v) (hq : ∀ p ∈ mv q, p ∈ av) (e : Ext (mv q) H H1) : AgOk K av q H1 a v := by
  cases a with
  | d x => exact ext_dp hq e h
  | fd => exact h
theorem AgsOk.ext {as : List Ag} {vs : List V} (h : AgsOk K av q H as vs) (hq : ∀ p ∈ mv q, p ∈ av) (e : Ext (mv q) H H1) : AgsOk K av q H1 as vs := by
  induction h with
  | nil => exact .nil
  | cons a _ ih => exact .cons (a.ext hq e) ih
theorem AgsOk.len {as : List Ag} {vs : List V} (h : AgsOk K av q H as vs) : vs.length = as.length := by
  induction h with
  | nil => rfl
  | cons a _ ih => simp [ih]
def tAg (K : PySem.W.Frag) (W : WX) (f : En → M (List Ag)) : TA := fun σ H Q => ∃ av q ρ S, At K av q ρ S σ H ∧
  (f ρ S).post (fun as S' => ∀ vs H', Ext (mv q) H H' → FeedAt av q S' H' → AgsOk K av q H' as vs → Q vs H') (xE K (wa W σ) av q H)
def PG_A (X : Cx) (es : List Expr) (f : En → M (List Ag)) : Prop := PA X es (tAg X.K (wx X) f)
theorem PA_imp {X : Cx} {e : List Expr} {t t' : TA} (h : PA X e t) (i : ∀ σ H Q, t' σ H Q → t σ H Q) : PA X e t' := ⟨fun pos pins s σ H Q I q => h.run pos pins s σ H Q I (i σ H Q q)⟩
theorem tAg_step {f : En → M (List Ag)} {α : Type} {g : List Ag → M α} {k : α → Fd → Prop} {Q : List V → Hp → Prop} (A : At K av q ρ S σ H)
    (p : ((f ρ >>= g) S).post k (xE K (wa W σ) av q H)) (h : ∀ x S1 vs H1, (g x S1).post k (xE K (wa W σ) av q H1) → Ext (mv q) H H1 → At K av q ρ S1 σ H1 → AgsOk K av q H1 x vs → Q vs H1) : tAg K W f σ H Q :=
  ⟨av, q, ρ, S, A, R.post_imp (post_bind p) (fun x S1 hx v H1 e1 f1 d1 => h x S1 v H1 (post_ext e1 hx) e1 (A.ext e1 f1) d1) fun _ _ z => z⟩
end
end G
end

section
set_option Elab.async false
set_option linter.all false
set_option maxRecDepth 100000
set_option maxHeartbeats 2100000
namespace G
open L2 PySem.Spec PyProof.Rows PySem
variable [LamT]
section
variable {X : Cx}

/-! ### names, constants -/
def getD (i : Nat) (ρ : En) : M PyData := match ρ[i]? with
  | some (some (.im d)) => pure d
  | _ => bad
def getF (i : Nat) (ρ : En) : M Unit := match ρ[i]? with
  | some (some .fd) => pure ()
  | _ => bad
theorem getD_post {i : Nat} {ρ : En} {S : Fd} {k : PyData → Fd → Prop} {x : Xn → Fd → Prop} (h : (getD i ρ S).post k x) : ∃ d, ρ[i]? = some (some (.im d)) ∧ k d S := by
  unfold getD at h
  cases e : ρ[i]? with
  | none => rw [e] at h; exact False.elim h
  | some o =>
    rw [e] at h
    cases o with
    | none => exact False.elim h
    | some s =>
      cases s with
      | im d => exact ⟨d, rfl, h⟩
      | ow l => exact False.elim h
      | fd => exact False.elim h
      | xn _ _ _ => exact False.elim h
theorem getF_post {i : Nat} {ρ : En} {S : Fd} {k : Unit → Fd → Prop} {x : Xn → Fd → Prop} (h : (getF i ρ S).post k x) : ρ[i]? = some (some .fd) ∧ k () S := by
  unfold getF at h
  cases e : ρ[i]? with
  | none => rw [e] at h; exact False.elim h
  | some o =>
    rw [e] at h
    cases o with
    | none => exact False.elim h
    | some s =>
      cases s with
      | im d => exact False.elim h
      | ow l => exact False.elim h
      | fd => exact ⟨rfl, h⟩
      | xn _ _ _ => exact False.elim h
theorem d_var {x : Str} {pos : Pos} (i : Nat) (hN : X.N[i]? = some x := by rfl) (hv : Vis X.env.scope x := by first | exact Or.inl rfl | exact Or.inr (Or.inl rfl) | exact Or.inr (Or.inr rfl)) (hd : (x == ("__debug__" : Str)) = false := by decide)
    (hcd : (x == ("__classdict__" : Str)) = false := by decide) : PD X (.Name x pos) (getD i) := PE_imp (pe_var hN hv hd hcd) fun σ H Q ⟨av, q, ρ, S, A, p⟩ => by
  obtain ⟨d, e, k⟩ := getD_post p
  obtain ⟨v, h1, h2⟩ := A.slot i _ e
  exact ⟨v, h1, k v H (Ext.refl H) A.feed h2⟩
def cD (d : PyData) : En → M PyData := fun _ => pure d
theorem tC_of {K : PySem.W.Frag} {Wx : WX} {v : V} {d : PyData} (h : ∀ H, Dx K H v d) (σ : G.St) (H : Hp) (Q : VK) (t : tE K Wx (cD d) σ H Q) : tC v σ H Q := by
  obtain ⟨av, q, ρ, S, A, p⟩ := t
  exact p v H (Ext.refl H) A.feed (h _)
theorem d_int {i j pos} : PD X (.Constant (.int i) j pos) (cD (.int i)) := PE_imp pe_int (tC_of fun _ => .int i)
theorem d_bl {b j pos} : PD X (.Constant (.bool b) j pos) (cD (.bool b)) := PE_imp pe_bl (tC_of fun _ => .bl b)
theorem d_non {j pos} : PD X (.Constant .none j pos) (cD .none) := PE_imp pe_non (tC_of fun _ => .non)
theorem d_str {x j pos} : PD X (.Constant (.str x) j pos) (cD (.str x)) := PE_imp pe_str (tC_of fun _ => .str x)

/-! ### operators -/
def OpD (K : PySem.W.Frag) (r : R2) (g : PyData → PyData → Option PyData) : Prop := ∀ (av : List Addr) (H : Hp) (x y d : PyData) (v w : V) (Q : VK), (∀ p ∈ av, ∃ o, H p = some o) → g x y = some d →
  Dx K (msk av H) v x → Dx K (msk av H) w y → (∀ u H', Same H H' → Dx K (msk av H') u d → Q u H') → r v w H Q
def cBin (g : PyData → PyData → Option PyData) (fa fb : En → M PyData) : En → M PyData := fun ρ => fa ρ >>= fun x => fb ρ >>= fun y => lift (g x y)
theorem tOp_of {K : PySem.W.Frag} {Wx : WX} {r : R2} {g : PyData → PyData → Option PyData} (hg : OpD K r g) {fa fb : En → M PyData} (σ : G.St) (H : Hp) (Q : VK) (t : tE K Wx (cBin g fa fb) σ H Q) : tOp r (tE K Wx fa) (tE K Wx fb) σ H Q := by
  obtain ⟨av, q, ρ, S, A, p⟩ := t
  refine tE_step A p fun x S1 v H1 p1 e1 A1 d1 => ?_
  refine tE_step A1 p1 fun y S2 w H2 p2 e2 A2 d2 => ?_
  obtain ⟨d, hd, k⟩ := post_lift p2
  exact hg av H2 x y d v w Q A2.trk hd (ext_dp A.feed.1 e2 d1) d2 fun u H' sm du => k u H' ((e1.trans e2).trans (Ext.of_same sm)) (feed_same A2.feed sm) du
theorem d_bin {op : Operator} {r : R2} {g : PyData → PyData → Option PyData} {a b : Expr} {fa fb : En → M PyData} {pos : Pos} (ho : OpR X (binaryOp op) r) (hg : OpD X.K r g) (ha : PD X a fa) (hb : PD X b fb) : PD X (.BinOp a op b pos) (cBin g fa fb) :=
  PE_imp (pe_op ho ha hb) (tOp_of hg)
theorem d_cmp {op : CmpOp} {r : R2} {g : PyData → PyData → Option PyData} {a b : Expr} {fa fb : En → M PyData} {pos : Pos} (ho : OpR X (compareOp op) r) (hg : OpD X.K r g) (ha : PD X a fa) (hb : PD X b fb) (hm : behindInMarks op b = false := by rfl) : PD X (.Compare a [op] [b] pos) (cBin g fa fb) :=
  PE_imp (pe_cmpR ho ha hb hm) (tOp_of hg)
theorem d_ix {r : R2} {g : PyData → PyData → Option PyData} {a b : Expr} {fa fb : En → M PyData} {pos : Pos} (ho : IxR X r) (hg : OpD X.K r g) (ha : PD X a fa) (hb : PD X b fb) (hs : PlainIx b := by exact fun _ _ => rfl) : PD X (.Subscript a b pos) (cBin g fa fb) :=
  PE_imp (pe_ix ho ha hb hs) (tOp_of hg)
def int2 (f : Int → Int → PyData) (x y : PyData) : Option PyData := match x, y with
  | .int i, .int j => some (f i j)
  | _, _ => none
def int2C (C : Int → Int → Bool) (f : Int → Int → PyData) (x y : PyData) : Option PyData := match x, y with
  | .int i, .int j => if C i j then some (f i j) else none
  | _, _ => none
theorem opD_int {K : PySem.W.Frag} {f : Int → Int → PyData} {fv : Int → Int → V} (h : ∀ i j H, Dx K H (fv i j) (f i j)) : OpD K (rI0 fv) (int2 f) := fun av H x y d v w Q _ hd hx hy k => by
  unfold int2 at hd
  split at hd
  · cases hx; cases hy; cases hd
    exact ⟨_, _, rfl, rfl, k _ H (Same.refl H) (h _ _ _)⟩
  · cases hd
theorem opD_intC {K : PySem.W.Frag} {C : Int → Int → Bool} {Cp : Int → Int → Prop} {f : Int → Int → PyData} {fv : Int → Int → V} (hC : ∀ i j, C i j = true → Cp i j) (h : ∀ i j H, Dx K H (fv i j) (f i j)) : OpD K (rI Cp fv) (int2C C f) := fun av H x y d v w Q _ hd hx hy k => by
  unfold int2C at hd
  split at hd
  · split at hd
    · rename_i hc
      cases hx; cases hy; cases hd
      exact ⟨_, _, rfl, rfl, hC _ _ hc, k _ H (Same.refl H) (h _ _ _)⟩
    · cases hd
  · cases hd
def gAdd := int2 fun i j => .int (i + j)
def gSub := int2 fun i j => .int (i - j)
def gMul := int2C (fun i j => decide ((-(2 ^ 64) < i ∧ i < 2 ^ 64) ∨ (-(2 ^ 64) < j ∧ j < 2 ^ 64))) fun i j => .int (i * j)
def gMod := int2C (fun i j => decide (j ≠ 0)) fun i j => .int (i.fmod j)
def gDiv := int2C (fun i j => decide (j ≠ 0 ∧ j.natAbs < 1073741824)) fun i j => .int (i.fdiv j)
def gShr := int2C (fun i j => decide (0 ≤ j)) fun i j => .int (i / 2 ^ j.toNat)
def gAnd := int2 fun i j => .int (Builtin.bitAnd i j)
def gPow := int2C (fun i j => decide (0 ≤ j ∧ j ≤ 1000000 ∧ i.natAbs < 2 ^ 64)) fun i j => .int (i ^ j.toNat)
def gLt := int2 fun i j => .bool (decide (i < j))
def gLe := int2 fun i j => .bool (decide (i ≤ j))
def gGt := int2 fun i j => .bool (decide (j < i))
def gGe := int2 fun i j => .bool (decide (j ≤ i))
variable {a b c : Expr} {fa fb : En → M PyData} {pos : Pos}
theorem d_add (ha : PD X a fa) (hb : PD X b fb) : PD X (.BinOp a .Add b pos) (cBin gAdd fa fb) := d_bin op_add (opD_int fun _ _ _ => .int _) ha hb
theorem d_sub (ha : PD X a fa) (hb : PD X b fb) : PD X (.BinOp a .Sub b pos) (cBin gSub fa fb) := d_bin op_sub (opD_int fun _ _ _ => .int _) ha hb
theorem d_mul (ha : PD X a fa) (hb : PD X b fb) : PD X (.BinOp a .Mult b pos) (cBin gMul fa fb) := d_bin op_mul (opD_intC (fun _ _ h => by simpa [CMul] using h) fun _ _ _ => .int _) ha hb
theorem d_mod (ha : PD X a fa) (hb : PD X b fb) : PD X (.BinOp a .Mod b pos) (cBin gMod fa fb) := d_bin op_modN (opD_intC (fun _ _ h => by simpa using h) fun _ _ _ => .int _) ha hb
theorem d_div (ha : PD X a fa) (hb : PD X b fb) : PD X (.BinOp a .FloorDiv b pos) (cBin gDiv fa fb) := d_bin op_fdivN (opD_intC (fun _ _ h => by simpa [CDivN] using h) fun _ _ _ => .int _) ha hb
theorem d_shr (ha : PD X a fa) (hb : PD X b fb) : PD X (.BinOp a .RShift b pos) (cBin gShr fa fb) := d_bin op_shr (opD_intC (fun _ _ h => by simpa using h) fun _ _ _ => .int _) ha hb
theorem d_band (ha : PD X a fa) (hb : PD X b fb) : PD X (.BinOp a .BitAnd b pos) (cBin gAnd fa fb) := d_bin op_and (opD_int fun _ _ _ => .int _) ha hb
theorem d_pow (ha : PD X a fa) (hb : PD X b fb) : PD X (.BinOp a .Pow b pos) (cBin gPow fa fb) := d_bin op_pow (opD_intC (fun _ _ h => by simpa [CPow] using h) fun _ _ _ => .int _) ha hb
theorem d_lt (ha : PD X a fa) (hb : PD X b fb) (hm : behindInMarks .Lt b = false := by exact nomark _) : PD X (.Compare a [.Lt] [b] pos) (cBin gLt fa fb) := d_cmp op_lt (opD_int fun _ _ _ => .bl _) ha hb hm
theorem d_le (ha : PD X a fa) (hb : PD X b fb) (hm : behindInMarks .LtE b = false := by exact nomark _) : PD X (.Compare a [.LtE] [b] pos) (cBin gLe fa fb) := d_cmp op_le (opD_int fun _ _ _ => .bl _) ha hb hm
theorem d_gt (ha : PD X a fa) (hb : PD X b fb) (hm : behindInMarks .Gt b = false := by exact nomark _) : PD X (.Compare a [.Gt] [b] pos) (cBin gGt fa fb) := d_cmp op_gt (opD_int fun _ _ _ => .bl _) ha hb hm
theorem d_ge (ha : PD X a fa) (hb : PD X b fb) (hm : behindInMarks .GtE b = false := by exact nomark _) : PD X (.Compare a [.GtE] [b] pos) (cBin gGe fa fb) := d_cmp op_ge (opD_int fun _ _ _ => .bl _) ha hb hm
/-- == of scalars of one kind, or with None -/
def gEq (x y : PyData) : Option PyData := match x, y with
  | .int i, .int j => some (.bool (decide (i = j)))
  | .str i, .str j => some (.bool (decide (i = j)))
  | .bool i, .bool j => some (.bool (decide (i = j)))
  | _, _ => none
def gNe (x y : PyData) : Option PyData := match x, y with
  | .int i, .int j => some (.bool (!decide (i = j)))
  | .str i, .str j => some (.bool (!decide (i = j)))
  | .bool i, .bool j => some (.bool (!decide (i = j)))
  | _, _ => none
theorem opD_eq {K : PySem.W.Frag} : OpD K rEq gEq := fun av H x y d v w Q _ hd hx hy k => by
  unfold gEq at hd
  split at hd
  · cases hx; cases hy; cases hd
    refine ⟨rfl, ?_⟩
    rename_i i j
    have e : decide (V.int i = V.int j) = decide (i = j) := by simp
    rw [e]; exact k _ H (Same.refl H) (.bl _)
  · cases hx; cases hy; cases hd
    refine ⟨rfl, ?_⟩
    rename_i i j
    have e : decide (V.str i = V.str j) = decide (i = j) := by simp
    rw [e]; exact k _ H (Same.refl H) (.bl _)
  · cases hx; cases hy; cases hd
    refine ⟨rfl, ?_⟩
    rename_i i j
    have e : decide (V.bl i = V.bl j) = decide (i = j) := by simp
    rw [e]; exact k _ H (Same.refl H) (.bl _)
  · cases hd
theorem d_eq (ha : PD X a fa) (hb : PD X b fb) (hm : behindInMarks .Eq b = false := by exact nomark _) : PD X (.Compare a [.Eq] [b] pos) (cBin gEq fa fb) := d_cmp op_eq opD_eq ha hb hm
def isNon (x : PyData) : Bool := match x with
  | .none => true
  | _ => false
def gIsN (x y : PyData) : Option PyData := match y with
  | .none => some (.bool (isNon x))
  | _ => none
def gNotN (x y : PyData) : Option PyData := match y with
  | .none => some (.bool (!(isNon x)))
  | _ => none
theorem dp_isN {K : PySem.W.Frag} {H : Hp} {x : PyData} {v : V} (h : Dx K H v x) : decide (v = .non) = (isNon x) := by
  cases h <;> simp [isNon]
theorem d_isN (ha : PD X a fa) (hb : PD X b fb) (hm : behindInMarks .Is b = false := by exact nomark _) : PD X (.Compare a [.Is] [b] pos) (cBin gIsN fa fb) := d_cmp op_isN (fun av H x y d v w Q _ hd hx hy k => by
  unfold gIsN at hd
  split at hd
  · cases hy; cases hd
    refine ⟨rfl, ?_⟩
    rw [dp_isN hx]; exact k _ H (Same.refl H) (.bl _)
  · cases hd) ha hb hm
theorem d_notN (ha : PD X a fa) (hb : PD X b fb) (hm : behindInMarks .IsNot b = false := by exact nomark _) : PD X (.Compare a [.IsNot] [b] pos) (cBin gNotN fa fb) := d_cmp op_notN (fun av H x y d v w Q _ hd hx hy k => by
  unfold gNotN at hd
  split at hd
  · cases hy; cases hd
    refine ⟨rfl, ?_⟩
    rw [dp_isN hx]; exact k _ H (Same.refl H) (.bl _)
  · cases hd) ha hb hm
/-! an item -/
def gIx (x y : PyData) : Option PyData := match x, y with
  | .tuple ds, .int i => atI ds i
  | .list ds, .int i => atI ds i
  | _, _ => none
theorem atI_dp {K : PySem.W.Frag} {H : Hp} {vs : List V} {ds : List PyData} {i : Int} {d : PyData} (h : DxAll K H vs ds) (e : atI ds i = some d) : ∃ v, atI vs i = some v ∧ Dx K H v d := by
  unfold atI at e ⊢
  rw [dps_len h]
  cases q : ixN ds.length i with
  | none => (rw [q] at e; cases e)
  | some j =>
    rw [q] at e
    obtain ⟨v, h1, h2⟩ := dps_get h e
    exact ⟨v, h1, h2⟩
theorem opD_ix {K : PySem.W.Frag} : OpD K (rIx K) gIx := fun av H x y d v w Q _ hd hx hy k => by
  unfold gIx at hd
  split at hd
  · cases hy
    cases hx with
    | tup hs hn ha =>
      obtain ⟨v, h1, h2⟩ := atI_dp ha hd
      exact .inr (.inl ⟨_, _, _, v, rfl, rfl, sqT_same msk_all hs, h1, k v H (Same.refl H) h2⟩)
  · cases hy
    cases hx with
    | lst hs ha =>
      obtain ⟨v, h1, h2⟩ := atI_dp ha hd
      exact .inl ⟨_, _, _, v, rfl, rfl, SqL.of (msk_some hs).2, h1, k v H (Same.refl H) h2⟩
  · cases hd
theorem d_at (ha : PD X a fa) (hb : PD X b fb) (hs : PlainIx b := by exact fun _ _ => rfl) : PD X (.Subscript a b pos) (cBin gIx fa fb) := d_ix ix_seq opD_ix ha hb hs
theorem d_neg (ha : PD X a fa) : PD X (.UnaryOp .USub a pos) (fun ρ => fa ρ >>= fun x => lift (match x with | .int i => some (.int (-i)) | _ => none)) := PE_imp (pe_un un_neg ha) fun σ H Q ⟨av, q, ρ, S, A, p⟩ => by
  refine tE_step A p fun x S1 v H1 p1 e1 A1 d1 => ?_
  obtain ⟨d, hd, k⟩ := post_lift p1
  split at hd
  · cases d1; cases hd
    exact ⟨_, rfl, k _ H1 e1 A1.feed (.int _)⟩
  · cases hd

/-! ### truth -/
def asB (x : PyData) : M Bool := match x with
  | .bool b => pure b
  | _ => bad
def cB (f : En → M PyData) : En → M Bool := fun ρ => f ρ >>= asB
theorem b_val (ha : PD X a fa) (he : ∀ whole, isTrue a X.env whole = (do let v ← whole; standAt a.pos; holding [v] (truthy v)) := by intro _; rfl) : PB X a (cB fa) := PT_imp (pt_val ha he) fun σ H Q ⟨av, q, ρ, S, A, p⟩ => by
  refine tE_step A p fun x S1 v H1 p1 e1 A1 d1 => ?_
  unfold asB at p1
  split at p1
  · cases d1
    exact ⟨_, rfl, p1 H1 e1 A1.feed⟩
  · exact False.elim p1
variable {ga gb : En → M Bool} {rest : List Expr}
def cNotB (g : En → M Bool) : En → M Bool := fun ρ => g ρ >>= fun b => pure (!b)
theorem b_not (ha : PB X a ga) : PB X (.UnaryOp .Not a pos) (cNotB ga) := PT_imp (pt_not ha) fun σ H Q ⟨av, q, ρ, S, A, p⟩ => by
  refine tD_step A p fun x S1 H1 p1 e1 A1 => ?_
  exact p1 H1 e1 A1.feed
def PWB (X : Cx) (e : Expr) (f : En → M Bool) : Prop := PW X e (tD X.K (wx X) f)
theorem PW_imp {e : Expr} {t t' : TT} (h : PW X e t) (i : ∀ σ H Q, t' σ H Q → t σ H Q) : PW X e t' := ⟨fun w pins s σ H Q I q => h.run w pins s σ H Q I (i σ H Q q)⟩
def cAndB (g h : En → M Bool) : En → M Bool := fun ρ => g ρ >>= fun b => if b then h ρ else pure false
def cOrB (g h : En → M Bool) : En → M Bool := fun ρ => g ρ >>= fun b => if b then pure true else h ρ
theorem w_and1 (ha : PB X a ga) : PWB X (.BoolOp .And [a] pos) ga := pw_and1 ha
theorem w_or1 (ha : PB X a ga) : PWB X (.BoolOp .Or [a] pos) ga := pw_or1 ha
theorem w_and (ha : PB X a ga) (hb : PWB X (.BoolOp .And (b :: rest) pos) gb) : PWB X (.BoolOp .And (a :: b :: rest) pos) (cAndB ga gb) := PW_imp (pw_and ha hb) fun σ H Q ⟨av, q, ρ, S, A, p⟩ => by
  refine tD_step A p fun x S1 H1 p1 e1 A1 => ?_
  cases x with
  | true => exact iteT ⟨av, q, ρ, S1, A1, R.post_imp p1 (fun b S2 k H' e f => k H' (e1.trans e) f) fun _ _ z => z⟩
  | false => exact iteF (p1 H1 e1 A1.feed)
theorem w_or (ha : PB X a ga) (hb : PWB X (.BoolOp .Or (b :: rest) pos) gb) : PWB X (.BoolOp .Or (a :: b :: rest) pos) (cOrB ga gb) := PW_imp (pw_or ha hb) fun σ H Q ⟨av, q, ρ, S, A, p⟩ => by
  refine tD_step A p fun x S1 H1 p1 e1 A1 => ?_
  cases x with
  | true => exact iteT (p1 H1 e1 A1.feed)
  | false => exact iteF ⟨av, q, ρ, S1, A1, R.post_imp p1 (fun b S2 k H' e f => k H' (e1.trans e) f) fun _ _ z => z⟩
theorem b_w (h : PWB X a ga) : PB X a ga := h.pt
/-- and, or, not as values: all but the last True or False -/
def cAnd (f h : En → M PyData) : En → M PyData := fun ρ => cB f ρ >>= fun b => if b then h ρ else pure (.bool false)
def cOr (f h : En → M PyData) : En → M PyData := fun ρ => cB f ρ >>= fun b => if b then pure (.bool true) else h ρ
def cNot (f : En → M PyData) : En → M PyData := fun ρ => cB f ρ >>= fun b => pure (.bool (!b))
theorem cB_step {K : PySem.W.Frag} {Wx : WX} {av : List Addr} {q : Pt} {ρ : En} {S : Fd} {σ : G.St} {H : Hp} {f : En → M PyData} {α : Type} {g : Bool → M α} {k : α → Fd → Prop} {Q : VK} (A : At K av q ρ S σ H)
    (p : ((cB f ρ >>= g) S).post k (xE K (wa Wx σ) av q H)) (h : ∀ x S1 v H1, (g x S1).post k (xE K (wa Wx σ) av q H1) → Ext (mv q) H H1 → At K av q ρ S1 σ H1 → v = V.bl x → Q v H1) : tE K Wx f σ H Q := by
  have p' := post_bind (post_bind p)
  refine ⟨av, q, ρ, S, A, R.post_imp p' (fun x S1 hx v H1 e1 f1 d1 => ?_) fun _ _ z => z⟩
  unfold asB at hx
  split at hx
  · cases d1
    exact h _ S1 _ H1 (post_ext e1 hx) e1 (A.ext e1 f1) rfl
  · exact False.elim hx
theorem d_and (ha : PD X a fa) (hb : PD X (.BoolOp .And (b :: rest) pos) fb) : PD X (.BoolOp .And (a :: b :: rest) pos) (cAnd fa fb) := PE_imp (pe_and ha hb) fun σ H Q ⟨av, q, ρ, S, A, p⟩ => by
  refine cB_step A p fun x S1 v H1 p1 e1 A1 ev => ⟨x, ev, ?_⟩
  cases x with
  | true => exact iteT ⟨av, q, ρ, S1, A1, R.post_imp p1 (fun b S2 k v H' e f => k v H' (e1.trans e) f) fun _ _ z => z⟩
  | false => exact iteF (p1 _ H1 e1 A1.feed (.bl false))
theorem d_or (ha : PD X a fa) (hb : PD X (.BoolOp .Or (b :: rest) pos) fb) : PD X (.BoolOp .Or (a :: b :: rest) pos) (cOr fa fb) := PE_imp (pe_or ha hb) fun σ H Q ⟨av, q, ρ, S, A, p⟩ => by
  refine cB_step A p fun x S1 v H1 p1 e1 A1 ev => ⟨x, ev, ?_⟩
  cases x with
  | true => exact iteT (p1 _ H1 e1 A1.feed (.bl true))
  | false => exact iteF ⟨av, q, ρ, S1, A1, R.post_imp p1 (fun b S2 k v H' e f => k v H' (e1.trans e) f) fun _ _ z => z⟩
theorem d_one {op} (h : PD X a fa) : PD X (.BoolOp op [a] pos) fa := pe_one h
theorem d_not (ha : PD X a fa) : PD X (.UnaryOp .Not a pos) (cNot fa) := PE_imp (pe_not ha) fun σ H Q ⟨av, q, ρ, S, A, p⟩ =>
  cB_step A p fun x S1 v H1 p1 e1 A1 ev => ⟨x, ev, p1 _ H1 e1 A1.feed (.bl _)⟩
def cIf (g : En → M Bool) (f h : En → M PyData) : En → M PyData := fun ρ => g ρ >>= fun b => if b then f ρ else h ρ
theorem d_if (hc : PB X c ga) (ha : PD X a fa) (hb : PD X b fb) : PD X (.IfExp c a b pos) (cIf ga fa fb) := PE_imp (pe_ifExp hc ha hb) fun σ H Q ⟨av, q, ρ, S, A, p⟩ => by
  refine tD_step A p fun x S1 H1 p1 e1 A1 => ?_
  cases x with
  | true => exact iteT ⟨av, q, ρ, S1, A1, R.post_imp p1 (fun b S2 k v H' e f => k v H' (e1.trans e) f) fun _ _ z => z⟩
  | false => exact iteF ⟨av, q, ρ, S1, A1, R.post_imp p1 (fun b S2 k v H' e f => k v H' (e1.trans e) f) fun _ _ z => z⟩
end
end G
end

section
set_option Elab.async false
set_option linter.all false
set_option maxRecDepth 100000
set_option maxHeartbeats 2100000
namespace G
open L2 PySem.Spec PyProof.Rows PySem
variable [LamT]
section
variable {X : Cx}

/-! ### argument lists, displays -/
def aNil : En → M (List Ag) := fun _ => pure []
def aD (f : En → M PyData) (fs : En → M (List Ag)) : En → M (List Ag) := fun ρ => f ρ >>= fun x => fs ρ >>= fun r => pure (.d x :: r)
def aF (i : Nat) (fs : En → M (List Ag)) : En → M (List Ag) := fun ρ => getF i ρ >>= fun _ => fs ρ >>= fun r => pure (.fd :: r)
theorem a_nil : PG_A X [] aNil := PA_imp pa_nil fun σ H Q ⟨av, q, ρ, S, A, p⟩ => p [] H (Ext.refl H) A.feed .nil
theorem a_d {e : Expr} {es : List Expr} {f : En → M PyData} {fs : En → M (List Ag)} (h : PD X e f) (hs : PG_A X es fs) (hst : starEach (e :: es) X.env = (false, eval e X.env) :: starEach es X.env := by rfl) : PG_A X (e :: es) (aD f fs) := PA_imp (pa_cons h hs hst) fun σ H Q ⟨av, q, ρ, S, A, p⟩ => by
  refine tE_step A p fun x S1 v H1 p1 e1 A1 d1 => ?_
  refine tAg_step A1 p1 fun r S2 vs H2 p2 e2 A2 d2 => ?_
  exact p2 _ H2 (e1.trans e2) A2.feed (.cons (ext_dp A.feed.1 e2 d1) d2)
theorem a_f {x : Str} {pos : Pos} {es : List Expr} {fs : En → M (List Ag)} (i : Nat) (hs : PG_A X es fs) (hN : X.N[i]? = some x := by rfl) (hv : Vis X.env.scope x := by first | exact Or.inl rfl | exact Or.inr (Or.inl rfl) | exact Or.inr (Or.inr rfl)) (hd : (x == ("__debug__" : Str)) = false := by decide)
    (hcd : (x == ("__classdict__" : Str)) = false := by decide) (hst : starEach (.Name x pos :: es) X.env = (false, eval (.Name x pos) X.env) :: starEach es X.env := by rfl) : PG_A X (.Name x pos :: es) (aF i fs) := PA_imp (pa_cons (pe_var hN hv hd hcd) hs hst) fun σ H Q ⟨av, q, ρ, S, A, p⟩ => by
  obtain ⟨e, k⟩ := getF_post (post_bind p)
  obtain ⟨v, h1, h2⟩ := A.slot i _ e
  refine ⟨v, h1, tAg_step A k fun r S2 vs H2 p2 e2 A2 d2 => ?_⟩
  exact p2 _ H2 e2 A2.feed (.cons h2 d2)
def dats : List Ag → Option (List PyData)
  | [] => some []
  | .d x :: r => match dats r with
    | some xs => some (x :: xs)
    | none => none
  | .fd :: _ => none
theorem dats_ok {K : PySem.W.Frag} {av : List Addr} {q : Pt} {H : Hp} : ∀ {as : List Ag} {vs : List V} {ds : List PyData}, AgsOk K av q H as vs → dats as = some ds → DxAll K (msk av H) vs ds
  | [], _, _, h, e => by cases h; cases e; exact .nil
  | .d x :: r, _, _, h, e => by
    cases h with
    | cons a t =>
      unfold dats at e
      cases z : dats r with
      | none => rw [z] at e; cases e
      | some xs => rw [z] at e; cases e; exact .cons a (dats_ok t z)
  | .fd :: _, _, _, _, e => by cases e
def small (ds : List PyData) : Bool := decide (ds.length ≤ 16777216)
theorem small_ok {ds : List PyData} (h : small ds = true) : ds.length ≤ sizeLine := by
  rw [sizeLine_eq]; exact of_decide_eq_true h
def mkTup (as : List Ag) : Option PyData := (dats as).bind fun ds => if small ds then some (.tuple ds) else none
def mkLst (as : List Ag) : Option PyData := (dats as).bind fun ds => if small ds then some (.list ds) else none
def cTup (fs : En → M (List Ag)) : En → M PyData := fun ρ => fs ρ >>= fun as => lift (mkTup as)
def cLst (fs : En → M (List Ag)) : En → M PyData := fun ρ => fs ρ >>= fun as => lift (mkLst as)
theorem dp_newTup {K : PySem.W.Frag} {av : List Addr} {H : Hp} {p : Addr} {o : Obj} {vs : List V} {ds : List PyData} (t : ∀ p ∈ av, ∃ o, H p = some o) (n : H p = none) (ho : Pl o) (h : DxAll K (msk av H) vs ds) : Dx K (msk av (upd H p (.frz o (.tup vs)))) (.ref p) (.tuple ds) :=
  .tup (.inl (.inr ⟨o, msk_of (not_av t n) upd_same⟩)) (.inl ⟨o, _, msk_of (not_av t n) upd_same, ho⟩) (dps_same (msk_same (same_new n)) ds vs h)
def tTupF (t : TA) : TE := fun σ H Q => t σ H fun xs H1 => xs.length ≤ sizeLine ∧ ∀ p o, H1 p = none → Pl o → Q (.ref p) (upd H1 p (.frz o (.tup xs)))
theorem frz_ok {P : Program} {w : World} {H : Hp} {h : Heap} {xs : List V} {us : List Value} (hz : xs.length ≤ sizeLine) (r : Vals xs us) : ObjOk P w (upd H h.objs.size (.frz { cls := .type "tuple", data := .seq us.toArray } (.tup xs))) (h.push { cls := .type "tuple", data := .seq us.toArray }) h.objs.size (.frz { cls := .type "tuple", data := .seq us.toArray } (.tup xs)) :=
  ⟨Heap.get?_push_size _ rfl, hz, us, r, IsTup.new _ _⟩
theorem pe_tupF {es : List Expr} {t : TA} {x1} {pos : Pos} (h : PA X es t) : PE X (.Tuple es x1 pos) (tTupF t) := by
  refine ⟨fun pins s σ H Q I hq => wpAny_Tuple_spliced (thn (h.run pos pins s σ H _ I hq) fun us s1 ⟨xs, H1, I1, r, z, q⟩ => ⟨by rw [← r.length]; exact z, ?_⟩)⟩
  exact ⟨.ref s1.heap.objs.size, _, I1.laid (t' := s1.toks) (fun b u e => Heap.get?_push_of_some _ e) (Nat.le_refl _) (frz_ok z r), rfl, q _ _ (I1.hok.fresh (Nat.le_refl _)) ⟨rfl, rfl⟩⟩
theorem dp_newLst {K : PySem.W.Frag} {av : List Addr} {H : Hp} {p : Addr} {vs : List V} {ds : List PyData} (t : ∀ p ∈ av, ∃ o, H p = some o) (n : H p = none) (h : DxAll K (msk av H) vs ds) : Dx K (msk av (upd H p (.lst vs))) (.ref p) (.list ds) :=
  .lst (msk_of (not_av t n) upd_same) (dps_same (msk_same (same_new n)) ds vs h)
theorem d_tup {es : List Expr} {fs : En → M (List Ag)} {x1} {pos : Pos} (h : PG_A X es fs) : PD X (.Tuple es x1 pos) (cTup fs) := PE_imp (pe_tupF h) fun σ H Q ⟨av, q, ρ, S, A, p⟩ => by
  refine tAg_step A p fun as S1 vs H1 p1 e1 A1 d1 => ?_
  obtain ⟨d, hd, k⟩ := post_lift p1
  unfold mkTup at hd
  cases z : dats as with
  | none => rw [z] at hd; cases hd
  | some ds =>
    rw [z] at hd
    have hd' : (if small ds then some (PyData.tuple ds) else none) = some d := hd
    split at hd'
    · cases hd'
      have hz := dats_ok d1 z
      refine ⟨by rw [dps_len hz]; exact small_ok (by assumption), fun p o hp ho => ?_⟩
      exact k _ _ (e1.trans (Ext.new hp)) (feed_same A1.feed (same_new hp)) (dp_newTup A1.trk hp ho hz)
    · cases hd'
theorem d_lst {es : List Expr} {fs : En → M (List Ag)} {pos : Pos} (h : PG_A X es fs) : PD X (.List es pos) (cLst fs) := PE_imp (pe_lst h) fun σ H Q ⟨av, q, ρ, S, A, p⟩ => by
  refine tAg_step A p fun as S1 vs H1 p1 e1 A1 d1 => ?_
  obtain ⟨d, hd, k⟩ := post_lift p1
  unfold mkLst at hd
  cases z : dats as with
  | none => rw [z] at hd; cases hd
  | some ds =>
    rw [z] at hd
    have hd' : (if small ds then some (PyData.list ds) else none) = some d := hd
    split at hd'
    · cases hd'
      have hz := dats_ok d1 z
      refine ⟨by rw [dps_len hz]; exact small_ok (by assumption), fun p hp => ?_⟩
      exact k _ _ (e1.trans (Ext.new hp)) (feed_same A1.feed (same_new hp)) (dp_newLst A1.trk hp hz)
    · cases hd'

/-! ### calls of built-ins by values -/
def CallD (K : PySem.W.Frag) (r : List V → Hp → VK → Prop) (g : List PyData → Option PyData) : Prop := ∀ (av : List Addr) (H : Hp) (ds : List PyData) (d : PyData) (vs : List V) (Q : VK), (∀ p ∈ av, ∃ o, H p = some o) → g ds = some d →
  DxAll K (msk av H) vs ds → (∀ u H', Same H H' → Dx K (msk av H') u d → Q u H') → r vs H Q
def cCall (g : List PyData → Option PyData) (fs : En → M (List Ag)) : En → M PyData := fun ρ => fs ρ >>= fun as => lift ((dats as).bind g)
theorem tCB_of {K : PySem.W.Frag} {Wx : WX} {r : List V → Hp → VK → Prop} {g : List PyData → Option PyData} (hg : CallD K r g) {fs : En → M (List Ag)} (σ : G.St) (H : Hp) (Q : VK) (t : tE K Wx (cCall g fs) σ H Q) : tCB r (tAg K Wx fs) σ H Q := by
  obtain ⟨av, q, ρ, S, A, p⟩ := t
  refine tAg_step A p fun as S1 vs H1 p1 e1 A1 d1 => ?_
  obtain ⟨d, hd, k⟩ := post_lift p1
  cases z : dats as with
  | none => rw [z] at hd; cases hd
  | some ds =>
    rw [z] at hd
    exact hg av H1 ds d vs Q A1.trk hd (dats_ok d1 z) fun u H' sm du => k u H' (e1.trans (Ext.of_same sm)) (feed_same A1.feed sm) du
theorem d_callB {id : String} {x : Str} {p pos : Pos} {e : Expr} {es : List Expr} {r : List V → Hp → VK → Prop} {g : List PyData → Option PyData} {fs : En → M (List Ag)} (hc : CallR X (.builtin id) r) (hgd : CallD X.K r g) (hm : X.mg x = none) (ha : PG_A X (e :: es) fs)
    (hg : Gl X x := by rfl) (hv : bootBuiltins x = some (.builtin id) := by decide +kernel) (hn : x ≠ "__name__" := by decide) (hdb : (x == ("__debug__" : Str)) = false := by decide)
    (he : starEach (e :: es) X.env = (false, eval e X.env) :: starEach es X.env := by rfl) (hpl : (backTo pos (starEach es X.env)).any (·.1) = false := by rfl) : PD X (.Call (.Name x p) (e :: es) [] pos) (cCall g fs) :=
  PE_imp (pe_callB hc hg hm hv ha hn hdb he hpl) (tCB_of hgd)
theorem d_callTy {id : String} {x : Str} {p pos : Pos} {e : Expr} {es : List Expr} {r : List V → Hp → VK → Prop} {g : List PyData → Option PyData} {fs : En → M (List Ag)} (hc : CallR X (.type id) r) (hgd : CallD X.K r g) (hm : X.mg x = none) (ha : PG_A X (e :: es) fs)
    (hg : Gl X x := by rfl) (hv : bootBuiltins x = some (.type id) := by decide +kernel) (hn : x ≠ "__name__" := by decide) (hdb : (x == ("__debug__" : Str)) = false := by decide)
    (he : starEach (e :: es) X.env = (false, eval e X.env) :: starEach es X.env := by rfl) (hpl : (backTo pos (starEach es X.env)).any (·.1) = false := by rfl) : PD X (.Call (.Name x p) (e :: es) [] pos) (cCall g fs) :=
  PE_imp (pe_callTy hc hg hm hv ha hn hdb he hpl) (tCB_of hgd)
def gLen (ds : List PyData) : Option PyData := match ds with
  | [.tuple xs] => some (.int xs.length)
  | [.list xs] => some (.int xs.length)
  | _ => none
theorem callD_len {K : PySem.W.Frag} : CallD K (fun xs H Q => ∃ p ys, xs = [.ref p] ∧ (SqL K H p ys ∨ SqT K H p ys) ∧ Q (.int ys.length) H) gLen := fun av H ds d vs Q t hd ha k => by
  unfold gLen at hd
  split at hd
  · cases hd
    cases ha with
    | cons h1 h2 =>
      cases h2
      cases h1 with
      | tup hs hn hx =>
        refine ⟨_, _, rfl, .inr (sqT_same msk_all hs), ?_⟩
        rw [dps_len hx]; exact k _ H (Same.refl H) (.int _)
  · cases hd
    cases ha with
    | cons h1 h2 =>
      cases h2
      cases h1 with
      | lst hs hx =>
        refine ⟨_, _, rfl, .inl (SqL.of (msk_some hs).2), ?_⟩
        rw [dps_len hx]; exact k _ H (Same.refl H) (.int _)
  · cases hd
def gTupOf (ds : List PyData) : Option PyData := match ds with
  | [.tuple xs] => some (.tuple xs)
  | [.list xs] => some (.tuple xs)
  | _ => none
def rTupOf (K : PySem.W.Frag) : List V → Hp → VK → Prop := fun xs H Q => ∃ p ys, xs = [.ref p] ∧ ((SqL K H p ys ∧ ∀ l o, H l = none → Pl o → Q (.ref l) (upd H l (.frz o (.tup ys)))) ∨ (SqT K H p ys ∧ Q (.ref p) H))
theorem call_tupF : CallR X (.type "tuple") (rTupOf X.K) := fun pins s σ H xs us Q I rel ⟨p, ys, one, way⟩ => by
  subst one
  obtain ⟨u, rfl, isRef⟩ := rel.one
  cases isRef
  match way with
  | .inr ⟨isT, same⟩ =>
    obtain ⟨_, _, body, _⟩ := I.tuple isT
    exact call_tuple_same body ⟨.ref p, H, I, rfl, same⟩
  | .inl ⟨isL, fresh⟩ =>
    obtain ⟨items, reads, body, fits⟩ := I.list isL
    have count := reads.length
    refine call_tuple_list body.isList (fun h1 kept => ?_) (by rw [List.size_toArray]; omega)
    have after : Inv X pins σ H { s with heap := h1 } := I.kept (t' := s.toks) kept
    exact ⟨.ref h1.objs.size, _, after.laid (t' := s.toks) (fun _ _ => Heap.get?_push_of_some _) (Nat.le_refl _) (frz_ok fits reads), rfl, fresh _ _ (after.hok.fresh (Nat.le_refl _)) ⟨rfl, rfl⟩⟩
theorem callD_tupOf {K : PySem.W.Frag} : CallD K (rTupOf K) gTupOf := fun av H ds d vs Q t hd ha k => by
  unfold gTupOf at hd
  split at hd
  · cases hd
    cases ha with
    | cons h1 h2 =>
      cases h2
      have h1' := h1
      cases h1 with
      | tup hs hn hx => exact ⟨_, _, rfl, .inr ⟨sqT_same msk_all hs, k _ H (Same.refl H) h1'⟩⟩
  · cases hd
    cases ha with
    | cons h1 h2 =>
      cases h2
      cases h1 with
      | lst hs hx => exact ⟨_, _, rfl, .inl ⟨SqL.of (msk_some hs).2, fun l o hl ho => k _ _ (same_new hl) (dp_newTup t hl ho hx)⟩⟩
  · cases hd
def gListOf (ds : List PyData) : Option PyData := match ds with
  | [.tuple xs] => some (.list xs)
  | [.list xs] => some (.list xs)
  | _ => none
theorem callD_listOf {K : PySem.W.Frag} : CallD K (fun xs H Q => ∃ p ys, xs = [.ref p] ∧ (SqL K H p ys ∨ SqT K H p ys) ∧ ∀ l, H l = none → Q (.ref l) (upd H l (.lst ys))) gListOf := fun av H ds d vs Q t hd ha k => by
  unfold gListOf at hd
  split at hd
  · cases hd
    cases ha with
    | cons h1 h2 =>
      cases h2
      cases h1 with
      | tup hs hn hx => exact ⟨_, _, rfl, .inr (sqT_same msk_all hs), fun l hl => k _ _ (same_new hl) (dp_newLst t hl hx)⟩
  · cases hd
    cases ha with
    | cons h1 h2 =>
      cases h2
      cases h1 with
      | lst hs hx => exact ⟨_, _, rfl, .inl (SqL.of (msk_some hs).2), fun l hl => k _ _ (same_new hl) (dp_newLst t hl hx)⟩
  · cases hd
def boolsOf : List PyData → Option (List Bool)
  | [] => some []
  | .bool b :: r => (boolsOf r).map (b :: ·)
  | _ => none
def intsOf : List PyData → Option (List Int)
  | [] => some []
  | .int b :: r => (intsOf r).map (b :: ·)
  | _ => none
theorem bools_dp {K : PySem.W.Frag} {H : Hp} : ∀ {ds : List PyData} {vs : List V} {bs : List Bool}, DxAll K H vs ds → boolsOf ds = some bs → vs = bs.map V.bl
  | [], _, _, h, e => by cases h; cases e; rfl
  | d :: ds, _, bs, h, e => by
    cases h with
    | cons h1 h2 =>
      cases h1 <;> first | (unfold boolsOf at e; cases e; done) | skip
      rename_i b
      unfold boolsOf at e
      cases z : boolsOf ds with
      | none => rw [z] at e; cases e
      | some r => rw [z] at e; cases e; rw [bools_dp h2 z]; rfl
theorem ints_dp {K : PySem.W.Frag} {H : Hp} : ∀ {ds : List PyData} {vs : List V} {bs : List Int}, DxAll K H vs ds → intsOf ds = some bs → vs = bs.map V.int
  | [], _, _, h, e => by cases h; cases e; rfl
  | d :: ds, _, bs, h, e => by
    cases h with
    | cons h1 h2 =>
      cases h1 <;> first | (unfold intsOf at e; cases e; done) | skip
      rename_i b
      unfold intsOf at e
      cases z : intsOf ds with
      | none => rw [z] at e; cases e
      | some r => rw [z] at e; cases e; rw [ints_dp h2 z]; rfl
def gAll (ds : List PyData) : Option PyData := match ds with
  | [.list xs] => (boolsOf xs).map fun bs => .bool (bs.all id)
  | _ => none
def gAny (ds : List PyData) : Option PyData := match ds with
  | [.list xs] => (boolsOf xs).map fun bs => .bool (bs.any id)
  | _ => none
def gSum (ds : List PyData) : Option PyData := match ds with
  | [.list xs] => (intsOf xs).map fun bs => .int bs.sum
  | _ => none
theorem callD_all {K : PySem.W.Frag} : CallD K (rAll K) gAll := fun av H ds d vs Q t hd ha k => by
  unfold gAll at hd
  split at hd
  · rename_i xs
    cases z : boolsOf xs with
    | none => rw [z] at hd; cases hd
    | some bs =>
      rw [z] at hd; cases hd
      cases ha with
      | cons h1 h2 =>
        cases h2
        cases h1 with
        | lst hs hx => exact ⟨_, bs, rfl, by rw [← bools_dp hx z]; exact SqL.of (msk_some hs).2, k _ H (Same.refl H) (.bl _)⟩
  · cases hd
theorem callD_any {K : PySem.W.Frag} : CallD K (rAny K) gAny := fun av H ds d vs Q t hd ha k => by
  unfold gAny at hd
  split at hd
  · rename_i xs
    cases z : boolsOf xs with
    | none => rw [z] at hd; cases hd
    | some bs =>
      rw [z] at hd; cases hd
      cases ha with
      | cons h1 h2 =>
        cases h2
        cases h1 with
        | lst hs hx => exact ⟨_, bs, rfl, by rw [← bools_dp hx z]; exact SqL.of (msk_some hs).2, k _ H (Same.refl H) (.bl _)⟩
  · cases hd
theorem callD_sum {K : PySem.W.Frag} : CallD K (rSum K) gSum := fun av H ds d vs Q t hd ha k => by
  unfold gSum at hd
  split at hd
  · rename_i xs
    cases z : intsOf xs with
    | none => rw [z] at hd; cases hd
    | some bs =>
      rw [z] at hd; cases hd
      cases ha with
      | cons h1 h2 =>
        cases h2
        cases h1 with
        | lst hs hx => exact ⟨_, bs, rfl, by rw [← ints_dp hx z]; exact SqL.of (msk_some hs).2, k _ H (Same.refl H) (.int _)⟩
  · cases hd
def gInt1 (ds : List PyData) : Option PyData := match ds with
  | [.int i] => some (.int i)
  | _ => none
/-- isinstance(x, T) for a type by name -/
def tyNm (x : PyData) : String := match x with
  | .none => "NoneType"
  | .bool _ => "bool"
  | .int _ => "int"
  | .str _ => "str"
  | .list _ => "list"
  | .tuple _ => "tuple"
  | .dict _ => "dict"
theorem tyX_dp {K : PySem.W.Frag} {av : List Addr} {H : Hp} {v : V} {d : PyData} (h : Dx K (msk av H) v d) : TyX K H v (.type (tyNm d)) := by
  cases h with
  | non => exact .base .non
  | bl b => exact .base (.bl b)
  | int i => exact .base (.int i)
  | str x => exact .base (.str x)
  | lst hs _ => exact .base (.lst (msk_some hs).2)
  | tup hs hn _ =>
    rcases hs with (hs | ⟨o, hs⟩) | ⟨o, its, n, hl, hc, _⟩
    · exact .base (.tup (msk_some hs).2)
    · exact .fTuple (msk_some hs).2
    · exact .kTuple hl hc
def cIsi (T : String) (f : En → M PyData) : En → M PyData := fun ρ => f ρ >>= fun x => lift ((kitB (tyNm x) T).map PyData.bool)
theorem d_isi {T : String} {t : Str} {p p2 pos : Pos} {e : Expr} {f : En → M PyData} (hm : X.mg "isinstance" = none) (hmt : X.mg t = none) (ha : PD X e f) (hv : bootBuiltins t = some (.type T) := by decide +kernel) (hg : Gl X "isinstance" := by rfl) (hgt : Gl X t := by rfl)
    (hvi : bootBuiltins "isinstance" = some (.builtin "isinstance") := by decide +kernel) (hn : t ≠ "__name__" := by decide) (hdb : (t == ("__debug__" : Str)) = false := by decide)
    (he : starEach (e :: [Expr.Name t p2]) X.env = (false, eval e X.env) :: starEach [Expr.Name t p2] X.env := by rfl) (he2 : starEach [Expr.Name t p2] X.env = (false, eval (Expr.Name t p2) X.env) :: starEach [] X.env := by rfl) (hpl : (backTo pos (starEach [Expr.Name t p2] X.env)).any (·.1) = false := by rfl) :
    PD X (.Call (.Name "isinstance" p) [e, .Name t p2] [] pos) (cIsi T f) :=
  PE_imp (pe_callB call_isi hg hm hvi (pa_cons ha (pa_cons (pe_bltn (v := .ty T) hgt hmt hv rfl hn hdb) pa_nil he2) he) (by decide) (by decide) he hpl) fun σ H Q ⟨av, q, ρ, S, A, p⟩ => by
    refine tE_step A p fun x S1 v H1 p1 e1 A1 d1 => ?_
    obtain ⟨d, hd, k⟩ := post_lift p1
    cases z : kitB (tyNm x) T with
    | none => rw [z] at hd; cases hd
    | some b =>
      rw [z] at hd; cases hd
      exact ⟨v, .ty T, _, _, b, rfl, .ty T, tyX_dp d1, kit_ty z, k _ H1 e1 A1.feed (.bl b)⟩

/-! ### slices a[lo:hi] of lists; of tuples -/
def sIxD (n d : Nat) (o : Option PyData) : Option (Option Int) := match o with
  | none => some none
  | some (.int i) => some (some i)
  | _ => none

/-! ### calls of defs -/
abbrev Fn := List Ag → M PyData
def spD (K : PySem.W.Frag) (n : Nat) (F : Fn) : Sp := fun vs H Q E => vs.length = n ∧ ∃ av q S as, AgsOk K av q H as vs ∧ (∀ p ∈ av, ∃ o, H p = some o) ∧ FeedAt av q S H ∧ wE K av q H (F as S) Q E
def cFn (F : Fn) (fs : En → M (List Ag)) : En → M PyData := fun ρ => fs ρ >>= F
theorem ags_n {K : PySem.W.Frag} {av : List Addr} {q : Pt} {H : Hp} {as : List Ag} {vs : List V} {n : Nat} (h : AgsOk K av q H as vs) (e : as.length = n) : vs.length = n := by rw [h.len, e]
def argN (n : Nat) (F : Fn) : Fn := fun as => if as.length = n then F as else bad
end
end G
end

section
set_option Elab.async false
set_option linter.all false
set_option maxRecDepth 100000
set_option maxHeartbeats 4100000
namespace G
open L2 PySem.Spec PyProof.Rows PySem
variable [LamT]
section
variable {K : PySem.W.Frag} {av av0 x0 : List Addr} {q : Pt} {ρ ρ' : En} {S S' : Fd} {σ σ' : G.St} {H H' H0 : Hp}
theorem At.set (A : At K av q ρ S σ H) {i : Nat} {d : PyData} {v : V} (h : Dx K (msk av H) v d) : At K av q (ρ.set i (some (.im d))) S (σ.set i (some v)) H where
  len := by simp [A.len]
  slot := fun j s e => by
    by_cases z : i = j
    · subst z
      have hl : i < ρ.length := by
        have := (List.getElem?_eq_some_iff.mp e).1
        simpa using this
      rw [List.getElem?_set_self hl] at e
      cases e
      exact ⟨v, by rw [List.getElem?_set_self (by rw [A.len]; exact hl)], h⟩
    · rw [List.getElem?_set_ne z] at e
      obtain ⟨w, h1, h2⟩ := A.slot j s e
      exact ⟨w, by rw [List.getElem?_set_ne z]; exact h1, h2⟩
  inj := fun a b l l' w e1 e2 e3 e4 => by
    have no : ∀ c m, (ρ.set i (some (.im d)))[c]? = some (some (Sl.ow m)) → i ≠ c ∧ ρ[c]? = some (some (Sl.ow m)) := fun c m e => by
      by_cases z : i = c
      · subst z
        have hl : i < ρ.length := by
          have := (List.getElem?_eq_some_iff.mp e).1
          simpa using this
        rw [List.getElem?_set_self hl] at e; cases e
      · rw [List.getElem?_set_ne z] at e; exact ⟨z, e⟩
    obtain ⟨n1, e1⟩ := no _ _ e1
    obtain ⟨n2, e2⟩ := no _ _ e2
    rw [List.getElem?_set_ne n1] at e3
    rw [List.getElem?_set_ne n2] at e4
    exact A.inj a b l l' w e1 e2 e3 e4
  feed := A.feed
  trk := A.trk
theorem At.off (A : At K av q ρ S σ H) (i : Nat) : At K av q (ρ.set i none) S (σ.set i none) H where
  len := by simp [A.len]
  slot := fun j s e => by
    by_cases z : i = j
    · subst z
      have hl : i < ρ.length := by
        have := (List.getElem?_eq_some_iff.mp e).1
        simpa using this
      rw [List.getElem?_set_self hl] at e; cases e
    · rw [List.getElem?_set_ne z] at e
      obtain ⟨w, h1, h2⟩ := A.slot j s e
      exact ⟨w, by rw [List.getElem?_set_ne z]; exact h1, h2⟩
  inj := fun a b l l' w e1 e2 e3 e4 => by
    have no : ∀ c m, (ρ.set i none)[c]? = some (some (Sl.ow m)) → i ≠ c ∧ ρ[c]? = some (some (Sl.ow m)) := fun c m e => by
      by_cases z : i = c
      · subst z
        have hl : i < ρ.length := by
          have := (List.getElem?_eq_some_iff.mp e).1
          simpa using this
        rw [List.getElem?_set_self hl] at e; cases e
      · rw [List.getElem?_set_ne z] at e; exact ⟨z, e⟩
    obtain ⟨n1, e1⟩ := no _ _ e1
    obtain ⟨n2, e2⟩ := no _ _ e2
    rw [List.getElem?_set_ne n1] at e3
    rw [List.getElem?_set_ne n2] at e4
    exact A.inj a b l l' w e1 e2 e3 e4
  feed := A.feed
  trk := A.trk
def wipeE (ρ : En) : List Nat → En
  | [] => ρ
  | v :: vs => (wipeE ρ vs).set v none
theorem At.wipe (A : At K av q ρ S σ H) : ∀ vs : List Nat, At K av q (wipeE ρ vs) S (L2.wipe σ vs) H
  | [] => A
  | v :: vs => (At.wipe A vs).off v

/-! ### what is walked -/
def Wk (K : PySem.W.Frag) (av : List Addr) (H : Hp) (J : It) (ds : List PyData) : Prop := ∀ (av' : List Addr) (H' : Hp), (∀ p ∈ av, p ∈ av') → (∀ p ∈ av', p ∉ av → H p = none) → Ext av H H' → (∀ p ∈ av', ∃ o, H' p = some o) → ∀ i : Nat,
  (∀ d, ds[i]? = some d → J.go i H' ∧ ∀ x H'', J.yld i H' x H'' → Same H' H'' ∧ Dx K (msk av' H'') x d) ∧ (ds.length ≤ i → J.stop i H')
theorem wk_same {av' : List Addr} (h1 : ∀ p ∈ av, p ∈ av') (h2 : ∀ p ∈ av', p ∉ av → H p = none) (e : Ext av H H') : Same (msk av H) (msk av' H') := fun b o h => by
  obtain ⟨n, z⟩ := msk_some h
  exact msk_of (fun y => by rw [h2 b y n] at z; cases z) (e b o n z)
theorem sqL_at {a : Addr} {vs : List V} (h : msk av H a = some (.lst vs)) : SqL K H a vs := SqL.of (msk_some h).2
theorem sqT_at {a : Addr} {vs : List V} (h : SqT K (msk av H) a vs) : SqT K H a vs := sqT_same msk_all h
theorem wk_list {a : Addr} {vs : List V} {ds : List PyData} (h : msk av H a = some (.lst vs)) (hd : DxAll K (msk av H) vs ds) : Wk K av H (Itl K a) ds := fun av' H' h1 h2 e t i => by
  have sm := wk_same h1 h2 e
  have hs : SqL K H' a vs := sqL_at (sm _ _ h)
  refine ⟨fun d hd' => ?_, fun hl => ⟨vs, hs, by rw [dps_len hd]; exact hl⟩⟩
  obtain ⟨v, hv, hdv⟩ := dps_get hd hd'
  refine ⟨⟨vs, v, hs, hv⟩, fun x H'' y => ?_⟩
  obtain ⟨e1, y⟩ := y
  subst e1
  have z := y vs hs
  rw [hv] at z; cases z
  exact ⟨Same.refl _, dp_same sm d v hdv⟩
theorem wk_tup {a : Addr} {vs : List V} {ds : List PyData} (h : SqT K (msk av H) a vs) (hd : DxAll K (msk av H) vs ds) : Wk K av H (Itt K a) ds := fun av' H' h1 h2 e t i => by
  have sm := wk_same h1 h2 e
  have hs : SqT K H' a vs := sqT_at (sqT_same sm h)
  refine ⟨fun d hd' => ?_, fun hl => ⟨vs, hs, by rw [dps_len hd]; exact hl⟩⟩
  obtain ⟨v, hv, hdv⟩ := dps_get hd hd'
  refine ⟨⟨vs, v, hs, hv⟩, fun x H'' y => ?_⟩
  obtain ⟨e1, y⟩ := y
  subst e1
  have z := y vs hs
  rw [hv] at z; cases z
  exact ⟨Same.refl _, dp_same sm d v hdv⟩
def rngD (lo : Int) (n : Nat) : List PyData := (List.range n).map fun (k : Nat) => .int (lo + k)
theorem wk_rng {lo : Int} {n : Nat} : Wk K av H (Itr lo n) (rngD lo n) := fun av' H' h1 h2 e t i => by
  refine ⟨fun d hd => ?_, fun hl => by show n ≤ i; simpa [rngD] using hl⟩
  have hi : i < n := by
    have := (List.getElem?_eq_some_iff.mp hd).1
    simpa [rngD] using this
  refine ⟨hi, fun x H'' y => ?_⟩
  obtain ⟨e1, e2⟩ := y
  subst e1 e2
  have z : rngD lo n = (List.range n).map fun (k : Nat) => PyData.int (lo + k) := rfl
  rw [z, List.getElem?_map, List.getElem?_range hi] at hd
  cases hd
  exact ⟨Same.refl _, .int _⟩
def rngC (lo c : Int) (n : Nat) : List PyData := (List.range n).map fun (k : Nat) => .int (lo + k * c)
theorem wk_rngC {lo c : Int} {n : Nat} : Wk K av H (Itc lo c n) (rngC lo c n) := fun av' H' h1 h2 e t i => by
  refine ⟨fun d hd => ?_, fun hl => by show n ≤ i; simpa [rngC] using hl⟩
  have hi : i < n := by
    have := (List.getElem?_eq_some_iff.mp hd).1
    simpa [rngC] using this
  refine ⟨hi, fun x H'' y => ?_⟩
  obtain ⟨e1, e2⟩ := y
  subst e1 e2
  have z : rngC lo c n = (List.range n).map fun (k : Nat) => PyData.int (lo + k * c) := rfl
  rw [z, List.getElem?_map, List.getElem?_range hi] at hd
  cases hd
  exact ⟨Same.refl _, .int _⟩
def tI (K : PySem.W.Frag) (W : WX) (f : En → M (List PyData)) : TI := fun σ H R => ∃ av q ρ S, At K av q ρ S σ H ∧
  (f ρ S).post (fun ds S' => ∀ J H', Ext (mv q) H H' → FeedAt av q S' H' → Wk K av H' J ds → R J H') (xE K (wa W σ) av q H)
end
section
variable {X : Cx}
def PID (X : Cx) (tg iter : Expr) (f : En → M (List PyData)) : Prop := PI X tg iter (tI X.K (wx X) f)
theorem tI_w {K : PySem.W.Frag} {f : En → M (List PyData)} {W W' : WX} (h : ∀ c d σ H, W' c d σ H → W c d σ H) {σ : G.St} {H : Hp} {Ro : It → Hp → Prop} (t : tI K W' f σ H Ro) : tI K W f σ H Ro :=
  let ⟨av, q, ρ, S, A, p⟩ := t; ⟨av, q, ρ, S, A, R.post_imp p (fun _ _ z => z) fun _ _ z dd H' e f d => h _ _ _ _ (z dd H' e f d)⟩
theorem PI_imp {tg iter : Expr} {t t' : TI} (h : PI X tg iter t) (i : ∀ σ H Q, t' σ H Q → t σ H Q) : PI X tg iter t' := ⟨fun pins s σ H R I q => h.run pins s σ H R I (i σ H R q)⟩
theorem PID.w0 {tg iter : Expr} {f : En → M (List PyData)} (h : PID X tg iter f) : PI X tg iter (tI X.K W0 f) := PI_imp h fun _ _ _ t => tI_w (fun _ _ _ _ z => z.elim) t
def asL (x : PyData) : M (List PyData) := match x with
  | .list ds => pure ds
  | _ => bad
def asT (x : PyData) : M (List PyData) := match x with
  | .tuple ds => pure ds
  | _ => bad
theorem i_list {tg e : Expr} {f : En → M PyData} (h : PD X e f) : PID X tg e (fun ρ => f ρ >>= asL) := PI_imp (pi_list h) fun σ H R ⟨av, q, ρ, S, A, p⟩ => by
  refine tE_step A p fun x S1 v H1 p1 e1 A1 d1 => ?_
  unfold asL at p1
  split at p1
  · cases d1 with
    | lst hs hx => exact ⟨_, rfl, ⟨_, sqL_at hs⟩, p1 _ H1 e1 A1.feed (wk_list hs hx)⟩
  · exact False.elim p1
theorem i_tup {tg e : Expr} {f : En → M PyData} (h : PD X e f) : PID X tg e (fun ρ => f ρ >>= asT) := PI_imp (pi_tup h) fun σ H R ⟨av, q, ρ, S, A, p⟩ => by
  refine tE_step A p fun x S1 v H1 p1 e1 A1 d1 => ?_
  unfold asT at p1
  split at p1
  · cases d1 with
    | tup hs hn hx => exact ⟨_, rfl, ⟨_, sqT_at hs⟩, p1 _ H1 e1 A1.feed (wk_tup hs hx)⟩
  · exact False.elim p1
def inRg (i : Int) : Bool := decide (-(2 ^ 62) ≤ i ∧ i < 2 ^ 62)
def rg1 (as : List Ag) : M (List PyData) := match as with
  | [.d (.int j)] => if inRg j then pure (rngD 0 j.toNat) else bad
  | _ => bad
def rg2 (as : List Ag) : M (List PyData) := match as with
  | [.d (.int i), .d (.int j)] => if inRg i && inRg j then pure (rngD i (j - i).toNat) else bad
  | _ => bad
def rg3 (as : List Ag) : M (List PyData) := match as with
  | [.d (.int i), .d (.int j), .d (.int c)] => if decide (c ≠ 0 ∧ c.natAbs < 1073741824 ∧ Builtin.Range.small i j c = true ∧ 0 ≤ Builtin.Range.rangeSize i j c) then pure (rngC i c (Builtin.Range.rangeSize i j c).toNat) else bad
  | _ => bad
theorem i_rg1 {tg a : Expr} {p pos : Pos} {fs : En → M (List Ag)} (hm : X.mg "range" = none) (ha : PG_A X [a] fs) (hg : Gl X "range" := by rfl) (hs : starEach [a] X.env = [(false, eval a X.env)] := by rfl) : PID X tg (.Call (.Name "range" p) [a] [] pos) (fun ρ => fs ρ >>= rg1) := PI_imp (pi_range1 hg hm ha hs) fun σ H R ⟨av, q, ρ, S, A, p⟩ => by
  refine tAg_step A p fun as S1 vs H1 p1 e1 A1 d1 => ?_
  unfold rg1 at p1
  split at p1
  · split at p1
    · rename_i hr
      cases d1 with
      | cons h1 h2 =>
        cases h2
        cases h1
        have hr' := of_decide_eq_true hr
        exact ⟨_, rfl, hr'.1, hr'.2, p1 _ H1 e1 A1.feed wk_rng⟩
    · exact False.elim p1
  · exact False.elim p1
theorem i_rg2 {tg a b : Expr} {p pos : Pos} {fs : En → M (List Ag)} (hm : X.mg "range" = none) (ha : PG_A X [a, b] fs) (hg : Gl X "range" := by rfl) (hs : starEach [a, b] X.env = [(false, eval a X.env), (false, eval b X.env)] := by rfl) (hs2 : starEach [b] X.env = [(false, eval b X.env)] := by rfl) :
    PID X tg (.Call (.Name "range" p) [a, b] [] pos) (fun ρ => fs ρ >>= rg2) := PI_imp (pi_range2 hg hm ha hs hs2) fun σ H R ⟨av, q, ρ, S, A, p⟩ => by
  refine tAg_step A p fun as S1 vs H1 p1 e1 A1 d1 => ?_
  unfold rg2 at p1
  split at p1
  · split at p1
    · rename_i hr
      rw [Bool.and_eq_true] at hr
      cases d1 with
      | cons h1 h2 =>
        cases h2 with
        | cons h3 h4 =>
          cases h4
          cases h1
          cases h3
          have hr1 := of_decide_eq_true hr.1
          have hr2 := of_decide_eq_true hr.2
          exact ⟨_, _, rfl, ⟨hr1.1, hr1.2, hr2.1, hr2.2⟩, p1 _ H1 e1 A1.feed wk_rng⟩
    · exact False.elim p1
  · exact False.elim p1
theorem i_rg3 {tg a b c : Expr} {p pos : Pos} {fs : En → M (List Ag)} (hm : X.mg "range" = none) (ha : PG_A X [a, b, c] fs) (hg : Gl X "range" := by rfl) (he : starEach [a, b, c] X.env = (false, eval a X.env) :: starEach [b, c] X.env := by rfl) (hpl : (backTo pos (starEach [b, c] X.env)).any (·.1) = false := by rfl) :
    PID X tg (.Call (.Name "range" p) [a, b, c] [] pos) (fun ρ => fs ρ >>= rg3) := PI_imp (pi_range3 hg hm ha he hpl) fun σ H R ⟨av, q, ρ, S, A, p⟩ => by
  refine tAg_step A p fun as S1 vs H1 p1 e1 A1 d1 => ?_
  unfold rg3 at p1
  split at p1
  · split at p1
    · rename_i hr
      have hr' := of_decide_eq_true hr
      cases d1 with
      | cons h1 h2 =>
        cases h2 with
        | cons h3 h4 =>
          cases h4 with
          | cons h5 h6 =>
            cases h6
            cases h1
            cases h3
            cases h5
            exact ⟨_, _, _, _, rfl, ⟨hr'.1, hr'.2.1, hr'.2.2.1, (Int.toNat_of_nonneg hr'.2.2.2).symm⟩, p1 _ H1 e1 A1.feed wk_rngC⟩
    · exact False.elim p1
  · exact False.elim p1

/-! ### targets -/
/-- own lists stay where they are -/
def OwSub (is : List Nat) (ρ ρ' : En) : Prop := ∀ (i : Nat) (l : Ol), ρ'[i]? = some (some (Sl.ow l)) → i ∉ is ∧ ρ[i]? = some (some (Sl.ow l))
theorem owSub_set {ρ : En} {i : Nat} {d : PyData} : OwSub [i] ρ (ρ.set i (some (.im d))) := fun j l e => by
  by_cases z : i = j
  · subst z
    have hl : i < ρ.length := by
      have := (List.getElem?_eq_some_iff.mp e).1
      simpa using this
    rw [List.getElem?_set_self hl] at e; cases e
  · rw [List.getElem?_set_ne z] at e
    exact ⟨by simpa using fun y => z y.symm, e⟩
theorem OwSub.trans {is js : List Nat} {a b c : En} (h1 : OwSub is a b) (h2 : OwSub js b c) : OwSub (is ++ js) a c := fun i l e => by
  obtain ⟨n2, e2⟩ := h2 i l e
  obtain ⟨n1, e1⟩ := h1 i l e2
  exact ⟨by simp [n1, n2], e1⟩
def tGd (K : PySem.W.Frag) (is : List Nat) (b : PyData → En → Option En) : TG := fun v σ H Q => ∃ av q ρ S d, At K av q ρ S σ H ∧ Dx K (msk av H) v d ∧ ∃ ρ', b d ρ = some ρ' ∧
  ∀ σ', At K av q ρ' S σ' H → σ'.length = σ.length → (∀ j, j ∉ is → σ'[j]? = σ[j]?) → OwSub is ρ ρ' → Q σ' H
def PGD (X : Cx) (tg : Expr) (is : List Nat) (b : PyData → En → Option En) : Prop := PG X tg (tGd X.K is b)
def tGsd (K : PySem.W.Frag) (is : List Nat) (b : List PyData → En → Option En) : TGs := fun vs σ H Q => ∃ av q ρ S ds, At K av q ρ S σ H ∧ DxAll K (msk av H) vs ds ∧ ∃ ρ', b ds ρ = some ρ' ∧
  ∀ σ', At K av q ρ' S σ' H → σ'.length = σ.length → (∀ j, j ∉ is → σ'[j]? = σ[j]?) → OwSub is ρ ρ' → Q σ' H
def PGsD (X : Cx) (ts : List Expr) (is : List Nat) (b : List PyData → En → Option En) : Prop := PGs X ts (tGsd X.K is b)
theorem PG_imp {tg : Expr} {t t' : TG} (h : PG X tg t) (i : ∀ v σ H Q, t' v σ H Q → t v σ H Q) : PG X tg t' := ⟨fun pins s σ H v u Q I r q => h.run pins s σ H v u Q I r (i v σ H Q q)⟩
theorem PGs_imp {tg : List Expr} {t t' : TGs} (h : PGs X tg t) (i : ∀ v σ H Q, t' v σ H Q → t v σ H Q) : PGs X tg t' := ⟨fun pins s σ H v u Q I r q => h.run pins s σ H v u Q I r (i v σ H Q q)⟩
def bNm (i : Nat) (d : PyData) (ρ : En) : Option En := some (ρ.set i (some (.im d)))
theorem g_nm {x : Str} {pos : Pos} (i : Nat) (hN : X.N.Nodup) (hi : X.N[i]? = some x := by rfl) (hx : Loc X.env.scope x := by first | exact Or.inl rfl | exact Or.inr rfl) (hf : X.fn x = true ∨ X.env.scope.names.lookup x = some .local := by first | exact .inl rfl | exact .inr rfl | assumption) : PGD X (.Name x pos) [i] (bNm i) :=
  PG_imp (pg_name hN hi hx hf) fun v σ H Q ⟨av, q, ρ, S, d, A, hd, ρ', e, k⟩ => by
    cases e
    refine k _ (A.set hd) (by simp) (fun j hj => ?_) owSub_set
    rw [List.getElem?_set_ne (by simpa using fun z => hj (by simp [z]))]
def bsNil (ds : List PyData) (ρ : En) : Option En := match ds with
  | [] => some ρ
  | _ => none
def bsCons (b : PyData → En → Option En) (bs : List PyData → En → Option En) (ds : List PyData) (ρ : En) : Option En := match ds with
  | d :: r => (b d ρ).bind (bs r)
  | _ => none
theorem gs_nil : PGsD X [] [] bsNil := PGs_imp pgs_nil fun vs σ H Q ⟨av, q, ρ, S, ds, A, hd, ρ', e, k⟩ => by
  unfold bsNil at e
  split at e
  · cases hd; cases e
    exact ⟨rfl, k σ A rfl (fun _ _ => rfl) fun i l e => ⟨by simp, e⟩⟩
  · cases e
theorem gs_cons {e : Expr} {es : List Expr} {is js : List Nat} {b : PyData → En → Option En} {bs : List PyData → En → Option En} (h1 : PGD X e is b) (h2 : PGsD X es js bs)
    (hst : (assignEach (e :: es) X.env).map (·.2) = assign e X.env :: (assignEach es X.env).map (·.2) := by rfl) : PGsD X (e :: es) (is ++ js) (bsCons b bs) := PGs_imp (pgs_cons h1 h2 hst) fun vs σ H Q ⟨av, q, ρ, S, ds, A, hd, ρ', e, k⟩ => by
  cases ds with
  | nil => cases e
  | cons d r =>
    have e : (b d ρ).bind (bs r) = some ρ' := e
    cases hd with
    | cons r1 r2 =>
      cases z : b d ρ with
      | none => rw [z] at e; cases e
      | some ρ1 =>
        rw [z] at e
        refine ⟨_, _, rfl, av, q, ρ, S, d, A, r1, ρ1, z, fun σ1 A1 l1 o1 w1 => ?_⟩
        refine ⟨av, q, ρ1, S, r, A1, r2, ρ', e, fun σ2 A2 l2 o2 w2 => ?_⟩
        exact k σ2 A2 (l2.trans l1) (fun j hj => by
          rw [List.mem_append] at hj
          rw [o2 j fun z => hj (.inr z), o1 j fun z => hj (.inl z)]) (w1.trans w2)
def bTup (n : Nat) (bs : List PyData → En → Option En) (d : PyData) (ρ : En) : Option En := match d with
  | .tuple ds => if ds.length = n then bs ds ρ else none
  | _ => none
theorem g_tup {es : List Expr} {k : Nat} {n : Nat} {pos : Pos} {is : List Nat} {bs : List PyData → En → Option En} (hc : X.calm = true) (h : PGsD X es is bs)
    (hn : (assignEach es X.env).length = n := by rfl) (hst : (assignEach es X.env).findIdx? (·.1) = none := by rfl) : PGD X (.Tuple es k pos) is (bTup n bs) := PG_imp (pg_tup hc h hn hst) fun v σ H Q ⟨av, q, ρ, S, d, A, hd, ρ', e, k⟩ => by
  unfold bTup at e
  split at e
  · split at e
    · cases hd with
      | tup hs hn hx => exact ⟨_, _, rfl, sqT_at hs, by rw [dps_len hx]; assumption, av, q, ρ, S, _, A, hx, ρ', e, k⟩
    · cases e
  · cases e

/-! ### list comprehensions -/
theorem wipe_off : ∀ {vs is : List Nat} {σ σ' : G.St}, (∀ i ∈ is, i ∈ vs) → σ'.length = σ.length → (∀ j, j ∉ is → σ'[j]? = σ[j]?) → L2.wipe σ' vs = L2.wipe σ vs := fun {vs is σ σ'} h hl ho => by
  apply List.ext_getElem?
  intro j
  by_cases hj : j ∈ vs
  · have z : ∀ τ : G.St, τ.length = σ.length → (L2.wipe τ vs)[j]? = if j < σ.length then some none else none := fun τ ht => by
      have key : ∀ (ws : List Nat), j ∈ ws → (L2.wipe τ ws)[j]? = if j < τ.length then some none else none := fun ws => by
        induction ws with
        | nil => intro m; cases m
        | cons w ws ih =>
          intro m
          show ((L2.wipe τ ws).set w none)[j]? = _
          by_cases e : w = j
          · subst e
            by_cases hlt : w < τ.length
            · rw [List.getElem?_set_self (by rw [wipe_length]; exact hlt), if_pos hlt]
            · rw [if_neg hlt, List.getElem?_eq_none (by rw [List.length_set, wipe_length]; omega)]
          · rw [List.getElem?_set_ne e]
            exact ih (by
              rcases List.mem_cons.mp m with z | z
              · exact absurd z.symm e
              · exact z)
      rw [key vs hj, ht]
    rw [z σ' hl, z σ rfl]
  · rw [wipe_out hj, wipe_out hj]
    exact ho j fun z => hj (h j z)
theorem wipe_idem {vs : List Nat} {σ : G.St} : L2.wipe (L2.wipe σ vs) vs = L2.wipe σ vs := wipe_off (is := vs) (fun _ h => h) (wipe_length σ vs) fun j hj => wipe_out hj
def lcGo (vs : List Nat) (b : PyData → En → Option En) (t : En → M Bool) (fe : En → M PyData) (ρ : En) : List PyData → Nat → List PyData → M PyData
  | [], _, acc => pure (.list acc.reverse)
  | d :: ds, n, acc => match b d (wipeE ρ vs) with
    | none => bad
    | some ρ1 => sil (t ρ1) >>= fun c => if c then sil (fe ρ1) >>= fun y => if Nat.blt n 16777216 then lcGo vs b t fe ρ ds (n + 1) (y :: acc) else bad else lcGo vs b t fe ρ ds n acc
def cLc (fi : En → M (List PyData)) (vs : List Nat) (b : PyData → En → Option En) (t : En → M Bool) (fe : En → M PyData) : En → M PyData := fun ρ => fi ρ >>= fun ds => lcGo vs b t fe ρ ds 0 []
def PTsD (X : Cx) (ifs : List Expr) (f : En → M Bool) : Prop := PTs X ifs (tD X.K W0 f)
def yes : En → M Bool := fun _ => pure true
theorem t_nil : PTsD X [] yes := ⟨fun pins s σ H Q I ⟨av, q, ρ, S, A, p⟩ => pts_nil.run pins s σ H Q I (p H (Ext.refl H) A.feed)⟩
theorem t_one {c : Expr} {f : En → M Bool} (h : PB X c f) : PTsD X [c] f := pts_one (PT_imp h fun _ _ _ t => tD_w (fun _ _ _ _ z => z.elim) t)
/-- a list under way at D -/
theorem at_new {K : PySem.W.Frag} {av : List Addr} {q : Pt} {D : Addr} {ρ : En} {S : Fd} {σ : G.St} {H : Hp} (A : At K av q ρ S σ H) (hD : H D = none) : At K (D :: av) q ρ S σ (upd H D (.lst [])) where
  len := A.len
  slot := fun i s hs => by
    obtain ⟨v, h1, h2⟩ := A.slot i s hs
    have sm : Same (msk av H) (msk (D :: av) (upd H D (.lst []))) := fun b o z => by
      obtain ⟨n, z⟩ := msk_some z
      have nb : b ≠ D := ne_of_none z hD
      exact msk_of (by simp [n, nb]) (same_new hD b o z)
    refine ⟨v, h1, ?_⟩
    cases s with
    | im d => exact dp_same sm d v h2
    | ow l =>
      obtain ⟨p, vs, rfl, hp, hne, ho, ha⟩ := h2
      exact ⟨p, vs, rfl, by simp [hp], hne, same_new hD _ _ ho, dps_same sm l.1 vs ha⟩
    | fd => exact h2
    | xn a dd x => exact ⟨h2.1, h2.2.keep sm⟩
  inj := A.inj
  feed := by
    obtain ⟨hq, hc, a, b, tt⟩ := A.feed
    exact ⟨fun p h => List.mem_cons_of_mem _ (hq p h), by simp [hc, ne_of_none b hD], same_new hD _ _ a, same_new hD _ _ b, tt.ext (same_new hD)⟩
  trk := fun p hp => by
    rcases List.mem_cons.mp hp with z | z
    · rw [z]; exact ⟨_, upd_same⟩
    · obtain ⟨o, h⟩ := A.trk p z
      exact ⟨o, same_new hD _ _ h⟩
def NotOw (ρ : En) (σ : G.St) (D : Addr) : Prop := ∀ (i : Nat) (l : Ol), ρ[i]? = some (some (Sl.ow l)) → σ[i]? ≠ some (some (V.ref D))
theorem notOw_new {K : PySem.W.Frag} {av : List Addr} {q : Pt} {D : Addr} {ρ : En} {S : Fd} {σ : G.St} {H : Hp} (A : At K av q ρ S σ H) (hD : H D = none) : NotOw ρ σ D := fun i l e z => by
  obtain ⟨v, h1, p, vs, rfl, hp, hne, ho, ha⟩ := A.slot i _ e
  rw [h1] at z
  cases z
  rw [hD] at ho; cases ho
theorem at_put {K : PySem.W.Frag} {av : List Addr} {q : Pt} {D : Addr} {ρ : En} {S : Fd} {σ : G.St} {H : Hp} {vs : List V} {o' : HO} (A : At K av q ρ S σ H) (hin : D ∈ av) (n : NotOw ρ σ D) (hm : D ∉ mv q) (hD : H D = some (.lst vs)) : At K av q ρ S σ (upd H D o') where
  len := A.len
  slot := fun i s hs => by
    obtain ⟨v, h1, h2⟩ := A.slot i s hs
    have sm : Same (msk av H) (msk av (upd H D o')) := fun b o z => by
      obtain ⟨nb, z⟩ := msk_some z
      exact msk_of nb (by rw [upd_ne fun y => nb (by rw [y]; exact hin)]; exact z)
    refine ⟨v, h1, ?_⟩
    cases s with
    | im d => exact dp_same sm d v h2
    | ow l =>
      obtain ⟨p, ws, rfl, hp, hne, ho, ha⟩ := h2
      have hpD : p ≠ D := fun y => n i l hs (by rw [h1, y])
      exact ⟨p, ws, rfl, hp, hne, by rw [upd_ne hpD]; exact ho, dps_same sm l.1 ws ha⟩
    | fd => exact h2
    | xn a dd x => exact ⟨h2.1, h2.2.keep sm⟩
  inj := A.inj
  feed := feed_put A.feed hin hm fun c z => by
    rw [hD] at z
    have z' : HO.lst vs = HO.ext _ := Option.some.inj z
    cases z'
  trk := fun p hp => by
    by_cases z : p = D
    · rw [z]; exact ⟨_, upd_same⟩
    · rw [upd_ne z]; exact A.trk p hp
theorem notOw_wipe {ρ : En} {σ : G.St} {D : Addr} (n : NotOw ρ σ D) : ∀ vs : List Nat, NotOw (wipeE ρ vs) (L2.wipe σ vs) D
  | [] => n
  | v :: vs => fun i l e z => by
    have ih := notOw_wipe n vs
    by_cases y : v = i
    · subst y
      have hl : v < (wipeE ρ vs).length := by
        have := (List.getElem?_eq_some_iff.mp e).1
        simpa [wipeE] using this
      have e' : ((wipeE ρ vs).set v none)[v]? = some (some (Sl.ow l)) := e
      rw [List.getElem?_set_self hl] at e'; cases e'
    · have e' : ((wipeE ρ vs).set v none)[i]? = some (some (Sl.ow l)) := e
      have z' : ((L2.wipe σ vs).set v none)[i]? = some (some (V.ref D)) := z
      rw [List.getElem?_set_ne y] at e' z'
      exact ih i l e' z'
theorem tLc_of {K : PySem.W.Frag} {Wx : WX} {fi : En → M (List PyData)} {is vs0 : List Nat} {b : PyData → En → Option En} {t : En → M Bool} {fe : En → M PyData} (his : ∀ i ∈ is, i ∈ vs0) (σ : G.St) (H : Hp) (Q : VK) (h : tE K Wx (cLc fi vs0 b t fe) σ H Q) :
    tLc (tI K Wx fi) (tGd K is b) (tD K W0 t) (tE K W0 fe) vs0 σ H Q := by
  obtain ⟨av, q, ρ, S, A, p⟩ := h
  refine ⟨av, q, ρ, S, A, R.post_imp (post_bind p) (fun ds S1 p1 J H1 e1 f1 wk => ?_) fun _ _ z => z⟩
  have A1 := A.ext e1 f1
  have hmv := A1.feed.1
  intro D hD
  have Hq : D ∉ mv q := fun z => by
    obtain ⟨o, h⟩ := A1.trk D (hmv D z)
    rw [hD] at h; cases h
  refine ⟨fun i m H' => m = ds.length - i ∧ i ≤ ds.length ∧ ∃ (S' : Fd) (acc : List PyData) (vs : List V), At K (D :: av) q ρ S' σ H' ∧ Ext (mv q) H1 H' ∧ H' D = some (.lst vs) ∧ DxAll K (msk (D :: av) H') vs acc.reverse ∧
      (lcGo vs0 b t fe ρ (ds.drop i) acc.length acc S').post (fun d S' => ∀ v H', Ext (mv q) H H' → FeedAt av q S' H' → Dx K (msk av H') v d → Q v H') (xE K (wa Wx σ) av q H), ⟨ds.length, by simp, Nat.zero_le _, S1, [], [], at_new A1 hD, Ext.new hD, upd_same, .nil, p1⟩, ?_⟩
  rintro i m H' ⟨rfl, hi, S', acc, vs, A', e', hvs, hacc, p'⟩
  have w := wk (D :: av) H' (fun p h => by simp [h]) (fun p h n => by
    rcases (List.mem_cons.mp h) with z | z
    · rw [z]; exact hD
    · exact absurd z n) (e'.more hmv) A'.trk i
  by_cases hlt : i < ds.length
  · have hd : ds[i]? = some ds[i] := by simp [hlt]
    obtain ⟨go, y⟩ := w.1 _ hd
    have dr : ds.drop i = ds[i] :: ds.drop (i + 1) := by rw [List.drop_eq_getElem_cons hlt]
    rw [dr] at p'
    refine .inr ⟨go, fun H'' => ∃ (S' : Fd) (acc : List PyData) (vs : List V), At K (D :: av) q ρ S' σ H'' ∧ Ext (mv q) H1 H'' ∧ H'' D = some (.lst vs) ∧ DxAll K (msk (D :: av) H'') vs acc.reverse ∧
      (lcGo vs0 b t fe ρ (ds.drop (i + 1)) acc.length acc S').post (fun d S' => ∀ v H', Ext (mv q) H H' → FeedAt av q S' H' → Dx K (msk av H') v d → Q v H') (xE K (wa Wx σ) av q H), fun H'' h => ⟨ds.length - (i + 1), by omega, rfl, hlt, h⟩, fun x H2 yl => ?_⟩
    obtain ⟨sm, dx⟩ := y x H2 yl
    have A2 : At K (D :: av) q ρ S' σ H2 := A'.ext (Ext.of_same sm) (feed_same A'.feed sm)
    have p2 : (match b ds[i] (wipeE ρ vs0) with
      | none => bad
      | some ρ1 => sil (t ρ1) >>= fun c => if c then sil (fe ρ1) >>= fun y => if Nat.blt acc.length 16777216 then lcGo vs0 b t fe ρ (ds.drop (i + 1)) (acc.length + 1) (y :: acc) else bad else lcGo vs0 b t fe ρ (ds.drop (i + 1)) acc.length acc : M PyData) S' |>.post (fun d S' => ∀ v H', Ext (mv q) H H' → FeedAt av q S' H' → Dx K (msk av H') v d → Q v H') (xE K (wa Wx σ) av q H) := p'
    cases hb : b ds[i] (wipeE ρ vs0) with
    | none => rw [hb] at p2; exact False.elim p2
    | some ρ1 =>
      rw [hb] at p2
      refine ⟨D :: av, q, wipeE ρ vs0, S', ds[i], A2.wipe _, dx, ρ1, hb, fun σ2 A3 hl ho _ => ?_⟩
      refine ⟨(wipe_off his hl ho).trans wipe_idem, ?_⟩
      have ext0 : ∀ {H3 : Hp}, Ext (mv q) H2 H3 → Ext (mv q) H H3 := fun {H3} e b o n hb => e b o n (sm b o (e' b o n (e1 b o n hb)))
      refine ⟨D :: av, q, ρ1, S', A3, R.post_imp (post_sil (post_bind p2)) (fun c S2 p3 H3 e3 f3 => ?_) fun _ _ z => z⟩
      have A4 := A3.ext e3 f3
      have B2 := A'.ext (Ext.of_same sm) (feed_same A'.feed sm)
      have B3 := B2.ext e3 A4.feed
      have v2 : H2 D = some (.lst vs) := sm D _ hvs
      have v3 : H3 D = some (.lst vs) := e3 D _ Hq v2
      have inD : ∀ p ∈ mv q, p ∈ D :: av := fun p h => List.mem_cons_of_mem D (hmv p h)
      cases c with
      | true =>
        refine iteT ⟨D :: av, q, ρ1, S2, A4, R.post_imp (post_sil (post_bind p3)) (fun y S3 p4 v H4 e4 f4 d5 => ?_) fun _ _ z => z⟩
        have A5 := A4.ext e4 f4
        have v4 : H4 D = some (.lst vs) := e4 D _ Hq v3
        have B4 := B3.ext e4 A5.feed
        have k4 : DxAll K (msk (D :: av) H4) vs acc.reverse := ext_dps inD e4 (ext_dps inD e3 (ext_dps inD (Ext.of_same sm) hacc))
        have p5 : ((if Nat.blt acc.length 16777216 then lcGo vs0 b t fe ρ (ds.drop (i + 1)) (acc.length + 1) (y :: acc) else bad : M PyData) S3).post (fun d S' => ∀ v H', Ext (mv q) H H' → FeedAt av q S' H' → Dx K (msk av H') v d → Q v H') (xE K (wa Wx σ) av q H) := p4
        split at p5
        · rename_i hz
          have hz : acc.length < 16777216 := by simpa [Nat.blt_eq] using hz
          refine ⟨vs, v4, by rw [dps_len hacc, List.length_reverse, sizeLine_eq]; exact hz, S3, y :: acc, vs ++ [v], at_put B4 (by simp) (notOw_new A1 hD) Hq v4, ?_, upd_same, ?_, p5⟩
          · intro b o nb hb
            rw [upd_ne (ne_of_none hb hD)]
            exact e4 b o nb (e3 b o nb (sm b o (e' b o nb hb)))
          · have sm4 : Same (msk (D :: av) H4) (msk (D :: av) (upd H4 D (.lst (vs ++ [v])))) := fun b o z => by
              obtain ⟨nb, z⟩ := msk_some z
              exact msk_of nb (by rw [upd_ne fun y => nb (by simp [y])]; exact z)
            rw [List.reverse_cons]
            exact dps_app (dps_same sm4 _ _ k4) (dps_one (dp_same sm4 _ _ d5))
        · exact False.elim p5
      | false =>
        refine iteF ⟨S2, acc, vs, B3, ?_, v3, ext_dps inD e3 (ext_dps inD (Ext.of_same sm) hacc), p3⟩
        intro b o nb hb
        exact e3 b o nb (sm b o (e' b o nb hb))
  · have e : i = ds.length := by omega
    subst e
    rw [List.drop_length] at p'
    have kk : ∀ v H', Ext (mv q) H H' → FeedAt av q S' H' → Dx K (msk av H') v (.list acc.reverse) → Q v H' := p'
    refine .inl ⟨w.2 (Nat.le_refl _), kk _ H' (e1.trans e') (A'.feed.less (fun p h => by simp [h]) hmv) ?_⟩
    exact .lst (msk_of (not_av A1.trk hD) hvs) (dps_same (msk_less fun p h => by simp [h]) acc.reverse vs hacc)
theorem d_lc {elt tg iter : Expr} {ifs : List Expr} {scope : Scope} {own : List (Str × Nat)} {pos : Pos} {fi : En → M (List PyData)} {is : List Nat} {b : PyData → En → Option En} {t : En → M Bool} {fe : En → M PyData} (hc : X.calm = true) (hN : X.N.Nodup) (hi : PID X tg iter fi) (ok : BlkOk X.N X.env.scope scope own)
    (hg : ∀ (s : Shared) (H : Hp) (C : Addr) (cl : List (Str × Addr)) (fp : List Addr), PGD (X.blk s H scope (compEnvC scope cl C X.env) fp) tg is b) (ht : ∀ (s : Shared) (H : Hp) (C : Addr) (cl : List (Str × Addr)) (fp : List Addr), PTsD (X.blk s H scope (compEnvC scope cl C X.env) fp) ifs t)
    (he : ∀ (s : Shared) (H : Hp) (C : Addr) (cl : List (Str × Addr)) (fp : List Addr), PD (X.blk s H scope (compEnvC scope cl C X.env) fp) elt fe) (his : ∀ i ∈ is, i ∈ own.map (·.2) := by decide) (hs : ∀ x, foldedSetIterable iter X.env x = pure x := by intro _; rfl) :
    PD X (.ListComp elt [⟨tg, iter, ifs, 0⟩] scope pos) (cLc fi (own.map (·.2)) b t fe) := PE_imp (pe_lc (g := tGd X.K is b) (tt := tD X.K W0 t) (te := tE X.K W0 fe) hc hN hi ok hg ht (fun s H C cl fp => (he s H C cl fp).w0) hs) (tLc_of his)
end
end G
end

section
set_option Elab.async false
set_option linter.all false
set_option maxRecDepth 100000
set_option maxHeartbeats 4100000
namespace G
open L2 PySem.Spec PyProof.Rows PySem
variable [LamT]
inductive Fl where
  | nx (ρ : En)
  | rt (d : PyData)
  | bk (ρ : En)
  | ct (ρ : En)
structure EnvW (K : PySem.W.Frag) (H0 : Hp) (av0 x0 av : List Addr) (q : Pt) (ρ : En) (S : Fd) (σ : G.St) (H : Hp) : Prop where
  e0 : Ext x0 H0 H
  qx : ∀ p ∈ mv q, p ∈ x0
  xs : ∀ p ∈ x0, p ∈ av0
  s0 : ∀ p ∈ av0, p ∈ av
  n0 : ∀ p ∈ av, p ∉ av0 → H0 p = none
  at' : At K av q ρ S σ H
  ow : ∀ (i : Nat) (l : Ol) (p : Addr), ρ[i]? = some (some (Sl.ow l)) → σ[i]? = some (some (V.ref p)) → p ∉ av0 ∨ (p ∈ x0 ∧ q.o i p)
  nw : ∀ (i : Nat) (l : Ol) (p : Addr), ρ[i]? = some (some (Sl.ow l)) → l.2 = true → σ[i]? = some (some (V.ref p)) → p ∉ av0
theorem EnvW.sub {K : PySem.W.Frag} {H0 : Hp} {av0 x0 av : List Addr} {q : Pt} {ρ ρ' : En} {S : Fd} {σ σ' : G.St} {H : Hp} {is : List Nat} (W : EnvW K H0 av0 x0 av q ρ S σ H) (A : At K av q ρ' S σ' H) (h : OwSub is ρ ρ') (o : ∀ j, j ∉ is → σ'[j]? = σ[j]?) : EnvW K H0 av0 x0 av q ρ' S σ' H :=
  ⟨W.e0, W.qx, W.xs, W.s0, W.n0, A, fun i l p e1 e2 => by
    obtain ⟨n, e⟩ := h i l e1
    exact W.ow i l p e (by rw [← o i n]; exact e2), fun i l p e1 z e2 => by
    obtain ⟨n, e⟩ := h i l e1
    exact W.nw i l p e z (by rw [← o i n]; exact e2)⟩
/-- what is hidden from what is given back: the frame's own lists are not -/
def vis (av0 x0 : List Addr) (q : Pt) : List Addr := mv q ++ av0.filter fun p => decide (p ∉ x0)
theorem vis_mem {av0 x0 : List Addr} {q : Pt} {p : Addr} (h : p ∈ vis av0 x0 q) : p ∈ mv q ∨ (p ∈ av0 ∧ p ∉ x0) := by
  rcases (List.mem_append.mp h) with z | z
  · exact .inl z
  · have y := List.mem_filter.mp z
    exact .inr ⟨y.1, by simpa using y.2⟩
theorem EnvW.vis_sub {K : PySem.W.Frag} {H0 H : Hp} {av0 x0 av : List Addr} {q : Pt} {ρ : En} {S : Fd} {σ : G.St} (W : EnvW K H0 av0 x0 av q ρ S σ H) : ∀ p ∈ vis av0 x0 q, p ∈ av := fun p h => by
  rcases vis_mem h with z | z
  · exact W.s0 p (W.xs p (W.qx p z))
  · exact W.s0 p z.1
theorem EnvW.mv0 {K : PySem.W.Frag} {H0 H : Hp} {av0 x0 av : List Addr} {q : Pt} {ρ : En} {S : Fd} {σ : G.St} (W : EnvW K H0 av0 x0 av q ρ S σ H) : ∀ p ∈ mv q, p ∈ av0 := fun p h => W.xs p (W.qx p h)
theorem vis_fn {av : List Addr} {q : Pt} : ∀ p ∈ av, p ∈ vis av (mv q) q := fun p h => by
  by_cases z : p ∈ mv q
  · exact (List.mem_append_left _ z)
  · exact List.mem_append_right _ (List.mem_filter.mpr ⟨h, by simpa using z⟩)
def flP (K : PySem.W.Frag) (H0 : Hp) (av0 x0 : List Addr) (q : Pt) (D : Ends) (fl : Fl) (S' : Fd) : Prop := match fl with
  | .nx ρ' => ∀ av' σ' H', EnvW K H0 av0 x0 av' q ρ' S' σ' H' → D.nx σ' H'
  | .rt d => ∀ v H', Ext x0 H0 H' → FeedAt av0 q S' H' → Dx K (msk (vis av0 x0 q) H') v d → D.rt v H'
  | .bk ρ' => ∀ av' σ' H', EnvW K H0 av0 x0 av' q ρ' S' σ' H' → D.bk σ' H'
  | .ct ρ' => ∀ av' σ' H', EnvW K H0 av0 x0 av' q ρ' S' σ' H' → D.ct σ' H'
/-- errors that leave a def's body -/
def flX (K : PySem.W.Frag) (Wx : WX) (H0 : Hp) (av0 x0 : List Addr) (q : Pt) : Xn → Fd → Prop := fun x S' => ∀ σ dd H', Ext x0 H0 H' → FeedAt av0 q S' H' → XdAt K (vis av0 x0 q) H' dd x → Wx (.ref (clOf K x.cls)) (some dd) σ H'
theorem XdAt.less {K : PySem.W.Frag} {av aw : List Addr} {H : Hp} {dd : Addr} {x : Xn} (h : XdAt K aw H dd x) (l : ∀ p ∈ av, p ∈ aw) : XdAt K av H dd x := let ⟨n, vs, h1, h2⟩ := h; ⟨fun z => n (l _ z), vs, h1, dps_same (msk_less l) _ vs h2⟩
theorem EnvW.flx {K : PySem.W.Frag} {Wx : WX} {H0 H : Hp} {av0 x0 av : List Addr} {q : Pt} {ρ : En} {S : Fd} {σ : G.St} (W : EnvW K H0 av0 x0 av q ρ S σ H) {x : Xn} {S' : Fd} (h : flX K Wx H0 av0 x0 q x S') : xE K (wa Wx σ) av q H x S' := fun dd H' e f d =>
  h σ dd H' (W.e0.trans (e.more W.qx)) (f.less W.s0 W.mv0) (d.less W.vis_sub)
def tS (K : PySem.W.Frag) (Wx : WX) (g : En → M Fl) : TS := fun D σ H => ∃ H0 av0 x0 av q ρ S, EnvW K H0 av0 x0 av q ρ S σ H ∧ (g ρ S).post (flP K H0 av0 x0 q D) (flX K Wx H0 av0 x0 q)
section
variable {K : PySem.W.Frag} {H0 H H1 : Hp} {av0 x0 av : List Addr} {q : Pt} {ρ : En} {S S1 : Fd} {σ : G.St}
theorem EnvW.ext (W : EnvW K H0 av0 x0 av q ρ S σ H) (e : Ext (mv q) H H1) (A : At K av q ρ S1 σ H1) : EnvW K H0 av0 x0 av q ρ S1 σ H1 :=
  ⟨W.e0.trans (e.more W.qx), W.qx, W.xs, W.s0, W.n0, A, W.ow, W.nw⟩
theorem EnvW.ret {d : PyData} {v : V} {D : Ends} (W : EnvW K H0 av0 x0 av q ρ S σ H) (h : Dx K (msk av H) v d) (k : ∀ v H', Ext x0 H0 H' → FeedAt av0 q S H' → Dx K (msk (vis av0 x0 q) H') v d → D.rt v H') : D.rt v H :=
  k v H W.e0 (W.at'.feed.less W.s0 W.mv0) (dp_same (msk_less W.vis_sub) d v h)
end
section
variable {K : PySem.W.Frag} {Wx : WX} {H0 H H1 : Hp} {av0 x0 av : List Addr} {q : Pt} {ρ : En} {S S1 : Fd} {σ : G.St}
theorem tE_stepS {f : En → M PyData} {α : Type} {g : PyData → M α} {k : α → Fd → Prop} {Q : VK} (W : EnvW K H0 av0 x0 av q ρ S σ H)
    (p : ((f ρ >>= g) S).post k (flX K Wx H0 av0 x0 q)) (h : ∀ x S1 v H1, (g x S1).post k (flX K Wx H0 av0 x0 q) → Ext (mv q) H H1 → At K av q ρ S1 σ H1 → Dx K (msk av H1) v x → Q v H1) : tE K Wx f σ H Q :=
  ⟨av, q, ρ, S, W.at', R.post_imp (post_bind p) (fun x S1 hx v H1 e1 f1 d1 => h x S1 v H1 hx e1 (W.at'.ext e1 f1) d1) fun _ _ z => W.flx z⟩
theorem tE_stepA {f : En → M PyData} {α : Type} {g : PyData → M α} {k : α → Fd → Prop} {Q : VK} {x0' : Xn → Fd → Prop} (A : At K av q ρ S σ H) (hx : ∀ x S', x0' x S' → xE K (wa Wx σ) av q H x S')
    (p : ((f ρ >>= g) S).post k x0') (h : ∀ x S1 v H1, (g x S1).post k x0' → Ext (mv q) H H1 → At K av q ρ S1 σ H1 → Dx K (msk av H1) v x → Q v H1) : tE K Wx f σ H Q :=
  ⟨av, q, ρ, S, A, R.post_imp (post_bind p) (fun x S1 hx v H1 e1 f1 d1 => h x S1 v H1 hx e1 (A.ext e1 f1) d1) fun x S' z => hx x S' z⟩
theorem tD_stepS {f : En → M Bool} {α : Type} {g : Bool → M α} {k : α → Fd → Prop} {Q : Bool → Hp → Prop} (W : EnvW K H0 av0 x0 av q ρ S σ H)
    (p : ((f ρ >>= g) S).post k (flX K Wx H0 av0 x0 q)) (h : ∀ x S1 H1, (g x S1).post k (flX K Wx H0 av0 x0 q) → Ext (mv q) H H1 → At K av q ρ S1 σ H1 → Q x H1) : tD K Wx f σ H Q :=
  ⟨av, q, ρ, S, W.at', R.post_imp (post_bind p) (fun x S1 hx H1 e1 f1 => h x S1 H1 hx e1 (W.at'.ext e1 f1)) fun _ _ z => W.flx z⟩
theorem tAg_stepS {f : En → M (List Ag)} {α : Type} {g : List Ag → M α} {k : α → Fd → Prop} {Q : List V → Hp → Prop} (W : EnvW K H0 av0 x0 av q ρ S σ H)
    (p : ((f ρ >>= g) S).post k (flX K Wx H0 av0 x0 q)) (h : ∀ x S1 vs H1, (g x S1).post k (flX K Wx H0 av0 x0 q) → Ext (mv q) H H1 → At K av q ρ S1 σ H1 → AgsOk K av q H1 x vs → Q vs H1) : tAg K Wx f σ H Q :=
  ⟨av, q, ρ, S, W.at', R.post_imp (post_bind p) (fun x S1 hx v H1 e1 f1 d1 => h x S1 v H1 hx e1 (W.at'.ext e1 f1) d1) fun _ _ z => W.flx z⟩
end
section
variable {X : Cx} {e : Expr} {f : En → M PyData} {pos : Pos}
def PSD (X : Cx) (st : Stmt) (g : En → M Fl) : Prop := PS X st (tS X.K (wx X) g)
def PSsD (X : Cx) (st : List Stmt) (g : En → M Fl) : Prop := PSs X st (tS X.K (wx X) g)
theorem PS_imp {st : Stmt} {t t' : TS} (h : PS X st t) (i : ∀ D σ H, t' D σ H → t D σ H) : PS X st t' := ⟨fun pins s σ H D I q => h.run pins s σ H D I (i D σ H q)⟩
theorem PSs_imp {st : List Stmt} {t t' : TS} (h : PSs X st t) (i : ∀ D σ H, t' D σ H → t D σ H) : PSs X st t' := ⟨fun pins s σ H D I q => h.run pins s σ H D I (i D σ H q)⟩
def sRet (f : En → M PyData) : En → M Fl := fun ρ => f ρ >>= fun d => pure (.rt d)
theorem s_ret (h : PD X e f) : PSD X (.Return (some e) pos) (sRet f) := PS_imp (ps_ret h) fun D σ H ⟨H0, av0, x0, av, q, ρ, S, W, p⟩ =>
  tE_stepS W p fun x S1 v H1 p1 e1 A1 d1 => (W.ext e1 A1).ret d1 p1
def sAsg (f : En → M PyData) (b : PyData → En → Option En) : En → M Fl := fun ρ => f ρ >>= fun d => lift ((b d ρ).map Fl.nx)
theorem asg_of {K : PySem.W.Frag} {Wx : WX} {is : List Nat} {b : PyData → En → Option En} (D : Ends) (σ : G.St) (H : Hp) (h : tS K Wx (sAsg f b) D σ H) : tAsg (tE K Wx f) (tGd K is b) D σ H := by
  obtain ⟨H0, av0, x0, av, q, ρ, S, W, p⟩ := h
  refine tE_stepS W p fun x S1 v H1 p1 e1 A1 d1 => ?_
  obtain ⟨fl, hf, k⟩ := post_lift p1
  cases z : b x ρ with
  | none => rw [z] at hf; cases hf
  | some ρ' =>
    rw [z] at hf; cases hf
    exact ⟨av, q, ρ, S1, x, A1, d1, ρ', z, fun σ' A' _ o w => k av σ' H1 ((W.ext e1 A1).sub A' w o)⟩
theorem s_asg {tg : Expr} {is : List Nat} {b : PyData → En → Option En} (h : PD X e f) (hg : PGD X tg is b) (hs : swapsWithSole [tg] e pos.line X.env = pure false := by rfl) (hw : swappedStores [tg] e X.env = pure none := by rfl) (h1 : (assignEach [tg] X.env).map (·.2) = [assign tg X.env] := by rfl) : PSD X (.Assign [tg] e pos) (sAsg f b) :=
  PS_imp (ps_asg (te := tE X.K (wx X) f) (g := tGd X.K is b) h hg hs hw h1) asg_of
def sExpr (f : En → M PyData) : En → M Fl := fun ρ => f ρ >>= fun _ => pure (.nx ρ)
theorem s_expr (h : PD X e f) (hs : swapsWith e none pos.line X.env = pure false := by exact rfl) : PSD X (.Expr e pos) (sExpr f) := PS_imp (ps_expr h hs) fun D σ H ⟨H0, av0, x0, av, q, ρ, S, W, p⟩ =>
  tE_stepS W p fun x S1 v H1 p1 e1 A1 d1 => p1 av σ H1 (W.ext e1 A1)
theorem tS_sub {K : PySem.W.Frag} {Wx : WX} {g : En → M Fl} {D : Ends} {H0 H : Hp} {av0 x0 av : List Addr} {q : Pt} {ρ : En} {S : Fd} {σ : G.St} (W : EnvW K H0 av0 x0 av q ρ S σ H) (p : (g ρ S).post (flP K H0 av0 x0 q D) (flX K Wx H0 av0 x0 q)) : tS K Wx g D σ H := ⟨H0, av0, x0, av, q, ρ, S, W, p⟩
def sIf (c : En → M Bool) (g h : En → M Fl) : En → M Fl := fun ρ => c ρ >>= fun b => if b then g ρ else h ρ
theorem s_if {c : Expr} {st su : List Stmt} {fc : En → M Bool} {g h : En → M Fl} (hc : PB X c fc) (ha : PSsD X st g) (hb : PSsD X su h) : PSD X (.If c st su pos) (sIf fc g h) := PS_imp (ps_if hc ha hb) fun D σ H ⟨H0, av0, x0, av, q, ρ, S, W, p⟩ => by
  refine tD_stepS W p fun x S1 H1 p1 e1 A1 => ?_
  cases x with
  | true => exact iteT (tS_sub (W.ext e1 A1) p1)
  | false => exact iteF (tS_sub (W.ext e1 A1) p1)
def sNil : En → M Fl := fun ρ => pure (.nx ρ)
def sSeq (g h : En → M Fl) : En → M Fl := fun ρ => g ρ >>= fun fl => match fl with
  | .nx ρ' => h ρ'
  | o => pure o
theorem ss_nil : PSsD X [] sNil := PSs_imp pss_nil fun D σ H ⟨H0, av0, x0, av, q, ρ, S, W, p⟩ => p av σ H W
theorem ss_one {st : Stmt} {g : En → M Fl} (h : PSD X st g) : PSsD X [st] g := pss_one h
theorem ss_cons {st : Stmt} {rest : List Stmt} {g h : En → M Fl} (h1 : PSD X st g) (h2 : PSsD X rest h) : PSsD X (st :: rest) (sSeq g h) := PSs_imp (pss_cons h1 h2) fun D σ H ⟨H0, av0, x0, av, q, ρ, S, W, p⟩ => by
  refine tS_sub W (R.post_imp (post_bind p) (fun fl S1 p1 => ?_) fun _ _ z => z)
  cases fl with
  | nx ρ' => exact fun av' σ' H' W' => tS_sub W' p1
  | rt d => exact p1
  | bk ρ' => exact p1
  | ct ρ' => exact p1
theorem s_never {st : Stmt} : PSD X st (fun _ => bad) := PS_imp (t := fun _ _ _ => False) ⟨fun _ _ _ _ _ _ h => h.elim⟩ fun D σ H ⟨H0, av0, x0, av, q, ρ, S, W, p⟩ => p
theorem s_pass : PSD X (.Pass pos) sNil := PS_imp ps_pass fun D σ H ⟨H0, av0, x0, av, q, ρ, S, W, p⟩ => p av σ H W

/-! ### for -/
def forGo (b : PyData → En → Option En) (g : En → M Fl) : List PyData → En → M Fl
  | [], ρ => pure (.nx ρ)
  | d :: ds, ρ => match b d ρ with
    | none => bad
    | some ρ1 => g ρ1 >>= fun fl => match fl with
      | .nx ρ' => forGo b g ds ρ'
      | .ct ρ' => forGo b g ds ρ'
      | .bk ρ' => pure (.nx ρ')
      | .rt d => pure (.rt d)
/-- at a loop's start no list is new -/
def age1 : Option Sl → Option Sl
  | some (.ow l) => some (.ow (l.1, false))
  | s => s
def age (ρ : En) : En := ρ.map age1
def new1 : Option Sl → Option Sl
  | some (.ow l) => some (.ow (l.1, true))
  | s => s
/-- behind a loop: what was new in a slot, or not there, is new -/
def ren1 (s0 s : Option Sl) : Option Sl := match s0 with
  | some (.ow (_, false)) => s
  | _ => new1 s
def renew : En → En → En
  | s0 :: ρ, s :: ρ' => ren1 s0 s :: renew ρ ρ'
  | _, ρ' => ρ'
def renewF (ρ : En) : Fl → Fl
  | .nx ρ' => .nx (renew ρ ρ')
  | o => o
theorem age_ow {ρ : En} {i : Nat} {l : Ol} (h : (age ρ)[i]? = some (some (Sl.ow l))) : l.2 = false ∧ ∃ l', ρ[i]? = some (some (Sl.ow l')) ∧ l'.1 = l.1 := by
  unfold age at h
  rw [List.getElem?_map] at h
  cases e : ρ[i]? with
  | none => rw [e] at h; cases h
  | some s =>
    rw [e] at h
    have h : age1 s = some (Sl.ow l) := Option.some.inj h
    cases s with
    | none => cases h
    | some s =>
      cases s with
      | ow m => cases h; exact ⟨rfl, m, rfl, rfl⟩
      | im _ => cases h
      | fd => cases h
      | xn _ _ _ => cases h
theorem new1_ow {s : Option Sl} {l : Ol} (h : new1 s = some (Sl.ow l)) : ∃ l', s = some (Sl.ow l') ∧ l'.1 = l.1 := by
  cases s with
  | none => cases h
  | some s =>
    cases s with
    | ow m => cases h; exact ⟨m, rfl, rfl⟩
    | im _ => cases h
    | fd => cases h
    | xn _ _ _ => cases h
theorem ren1_ow {s0 s : Option Sl} {l : Ol} (h : ren1 s0 s = some (Sl.ow l)) : ∃ l', s = some (Sl.ow l') ∧ l'.1 = l.1 ∧ ((∃ m, s0 = some (.ow (m, false))) → l' = l) := by
  unfold ren1 at h
  split at h
  · exact ⟨l, h, rfl, fun _ => rfl⟩
  · rename_i ne
    obtain ⟨l', h1, h2⟩ := new1_ow h
    exact ⟨l', h1, h2, fun ⟨m, z⟩ => absurd z (ne m)⟩
theorem renew_ow : ∀ {ρ ρ' : En} {i : Nat} {l : Ol}, (renew ρ ρ')[i]? = some (some (Sl.ow l)) → ∃ l', ρ'[i]? = some (some (Sl.ow l')) ∧ l'.1 = l.1 ∧ (((∃ m, ρ[i]? = some (some (.ow (m, false)))) ∨ ρ[i]? = none) → l' = l)
  | [], ρ', i, l, h => ⟨l, by simpa [renew] using h, rfl, fun _ => rfl⟩
  | s0 :: ρ, [], i, l, h => by simp [renew] at h
  | s0 :: ρ, s :: ρ', 0, l, h => by
    have h : ren1 s0 s = some (Sl.ow l) := by simpa [renew] using h
    obtain ⟨l', h1, h2, h3⟩ := ren1_ow h
    refine ⟨l', by simpa using h1, h2, fun z => ?_⟩
    rcases z with ⟨m, z⟩ | z
    · exact h3 ⟨m, by simpa using z⟩
    · simp at z
  | s0 :: ρ, s :: ρ', i + 1, l, h => by
    have h : (renew ρ ρ')[i]? = some (some (Sl.ow l)) := by simpa [renew] using h
    obtain ⟨l', h1, h2, h3⟩ := renew_ow h
    exact ⟨l', by simpa using h1, h2, by simpa using h3⟩
theorem renew_at : ∀ {ρ ρ' : En} {i : Nat} {s : Sl}, (renew ρ ρ')[i]? = some (some s) → ρ'[i]? = some (some s) ∨ ∃ l z, ρ'[i]? = some (some (.ow l)) ∧ s = .ow (l.1, z)
  | [], ρ', i, s, h => .inl (by simpa [renew] using h)
  | s0 :: ρ, [], i, s, h => by simp [renew] at h
  | s0 :: ρ, s1 :: ρ', 0, s, h => by
    have h : ren1 s0 s1 = some s := by simpa [renew] using h
    unfold ren1 at h
    split at h
    · exact .inl (by simpa using h)
    · cases s1 with
      | none => cases h
      | some s1 =>
        cases s1 with
        | ow m => cases h; exact .inr ⟨m, true, rfl, rfl⟩
        | im _ => cases h; exact .inl rfl
        | fd => cases h; exact .inl rfl
        | xn _ _ _ => cases h; exact .inl rfl
  | s0 :: ρ, s1 :: ρ', i + 1, s, h => by
    have h : (renew ρ ρ')[i]? = some (some s) := by simpa [renew] using h
    simpa using renew_at h
theorem renew_len : ∀ (ρ ρ' : En), (renew ρ ρ').length = ρ'.length
  | [], ρ' => rfl
  | _ :: _, [] => rfl
  | _ :: ρ, _ :: ρ' => by simp [renew, renew_len ρ ρ']
theorem At.flags {K : PySem.W.Frag} {av : List Addr} {q : Pt} {ρ : En} {S : Fd} {σ : G.St} {H : Hp} (A : At K av q ρ S σ H) (f : Option Sl → Option Sl) (hf : ∀ s, f s = s ∨ ∃ l z, s = some (.ow l) ∧ f s = some (.ow (l.1, z))) : At K av q (ρ.map f) S σ H where
  len := by rw [List.length_map]; exact A.len
  slot := fun i s e => by
    rw [List.getElem?_map] at e
    cases e0 : ρ[i]? with
    | none => rw [e0] at e; cases e
    | some s0 =>
      rw [e0] at e
      have e : f s0 = some s := Option.some.inj e
      rcases hf s0 with z | ⟨l, b, z1, z2⟩
      · rw [z] at e; subst e; exact A.slot i s e0
      · rw [z2] at e; cases e; subst z1
        exact A.slot i (.ow l) e0
  inj := fun i j l l' v e1 e2 e3 e4 => by
    have key : ∀ {i : Nat} {l : Ol}, (ρ.map f)[i]? = some (some (Sl.ow l)) → ∃ m, ρ[i]? = some (some (Sl.ow m)) := fun {i l} e => by
      rw [List.getElem?_map] at e
      cases e0 : ρ[i]? with
      | none => rw [e0] at e; cases e
      | some s0 =>
        rw [e0] at e
        have e : f s0 = some (Sl.ow l) := Option.some.inj e
        rcases hf s0 with z | ⟨m, b, z1, z2⟩
        · rw [z] at e; subst e; exact ⟨l, rfl⟩
        · subst z1; exact ⟨m, rfl⟩
    obtain ⟨m1, k1⟩ := key e1
    obtain ⟨m2, k2⟩ := key e2
    exact A.inj i j m1 m2 v k1 k2 e3 e4
  feed := A.feed
  trk := A.trk
theorem At.age {K : PySem.W.Frag} {av : List Addr} {q : Pt} {ρ : En} {S : Fd} {σ : G.St} {H : Hp} (A : At K av q ρ S σ H) : At K av q (age ρ) S σ H := A.flags age1 fun s => by
  cases s with
  | none => exact .inl rfl
  | some s => cases s with
    | ow l => exact .inr ⟨l, false, rfl, rfl⟩
    | _ => exact .inl rfl
theorem At.renew {K : PySem.W.Frag} {av : List Addr} {q : Pt} {ρ0 ρ : En} {S : Fd} {σ : G.St} {H : Hp} (A : At K av q ρ S σ H) : At K av q (renew ρ0 ρ) S σ H where
  len := by rw [renew_len]; exact A.len
  slot := fun i s e => by
    rcases renew_at e with e1 | ⟨l, z, e1, e2⟩
    · exact A.slot i s e1
    · subst e2
      exact A.slot i (.ow l) e1
  inj := fun i j l l' v e1 e2 e3 e4 => by
    obtain ⟨m1, k1, _⟩ := renew_ow e1
    obtain ⟨m2, k2, _⟩ := renew_ow e2
    exact A.inj i j m1 m2 v k1 k2 e3 e4
  feed := A.feed
  trk := A.trk
/-- the feed and the tables are the same -/
theorem At.pt {K : PySem.W.Frag} {av : List Addr} {q : Pt} {ρ : En} {S : Fd} {σ : G.St} {H : Hp} (A : At K av q ρ S σ H) (o : Nat → Addr → Prop) : At K av ⟨q.a, q.c, o⟩ ρ S σ H := ⟨A.len, A.slot, A.inj, A.feed, A.trk⟩
theorem At.tp {K : PySem.W.Frag} {av : List Addr} {q : Pt} {ρ : En} {S : Fd} {σ : G.St} {H : Hp} {o : Nat → Addr → Prop} (A : At K av ⟨q.a, q.c, o⟩ ρ S σ H) : At K av q ρ S σ H := ⟨A.len, A.slot, A.inj, A.feed, A.trk⟩
/-- what a loop may change: the feed, the tables, the lists of one's own -/
noncomputable def loopX (q : Pt) (av : List Addr) (ρ : En) (σ : G.St) : List Addr := av.filter fun p => @decide (p ∈ mv q ∨ ∃ (i : Nat) (l : Ol), ρ[i]? = some (some (Sl.ow l)) ∧ σ[i]? = some (some (V.ref p))) (Classical.propDecidable _)
theorem loopX_mem {q : Pt} {av : List Addr} {ρ : En} {σ : G.St} {p : Addr} : p ∈ loopX q av ρ σ ↔ p ∈ av ∧ (p ∈ mv q ∨ ∃ (i : Nat) (l : Ol), ρ[i]? = some (some (Sl.ow l)) ∧ σ[i]? = some (some (V.ref p))) := by
  unfold loopX
  rw [List.mem_filter]
  exact and_congr_right fun _ => @decide_eq_true_iff _ (Classical.propDecidable _)
/-- what the slots hold at a loop's start -/
def holds (ρ : En) (σ : G.St) : Nat → Addr → Prop := fun i p => ∃ l, ρ[i]? = some (some (Sl.ow l)) ∧ σ[i]? = some (some (V.ref p))
abbrev loopQ (q : Pt) (ρ : En) (σ : G.St) : Pt := ⟨q.a, q.c, holds ρ σ⟩
section
variable {K : PySem.W.Frag} {H0 H H1 H' : Hp} {av0 x0 av av' : List Addr} {q : Pt} {ρ ρ' : En} {S S1 S' : Fd} {σ σ' : G.St}
theorem EnvW.loopIn (W : EnvW K H0 av0 x0 av q ρ S σ H) : EnvW K H av (loopX q av ρ σ) av (loopQ q ρ σ) (age ρ) S σ H :=
  ⟨Ext.refl _, fun p h => loopX_mem.mpr ⟨W.s0 p (W.mv0 p h), .inl h⟩, fun p h => (loopX_mem.mp h).1, fun p h => h, fun p h n => absurd h n, W.at'.age.pt _, fun i l p h1 h2 => by
    obtain ⟨_, m, h3, _⟩ := age_ow h1
    obtain ⟨v, e, p', vs, rfl, hp, _⟩ := W.at'.slot i _ h3
    rw [h2] at e; cases e
    exact .inr ⟨loopX_mem.mpr ⟨hp, .inr ⟨i, m, h3, h2⟩⟩, m, h3, h2⟩, fun i l p h1 h2 => by
    rw [(age_ow h1).1] at h2; cases h2⟩
theorem EnvW.back (W : EnvW K H0 av0 x0 av q ρ S σ H) (e : Ext (loopX q av ρ σ) H H') : Ext x0 H0 H' := fun b o n h => by
  refine e b o (fun z => ?_) (W.e0 b o n h)
  obtain ⟨z1, z2⟩ := loopX_mem.mp z
  rcases z2 with z2 | ⟨i, l, h1, h2⟩
  · exact n (W.qx b z2)
  · rcases W.ow i l b h1 h2 with y | y
    · rw [W.n0 b z1 y] at h; cases h
    · exact n y.1
theorem EnvW.visx (W : EnvW K H0 av0 x0 av q ρ S σ H) : ∀ p ∈ vis av0 x0 q, p ∈ vis av (loopX q av ρ σ) q := fun p h => by
  rcases vis_mem h with z | z
  · exact (List.mem_append_left _ z)
  · by_cases y : p ∈ mv q
    · exact (List.mem_append_left _ y)
    · refine List.mem_append_right _ (List.mem_filter.mpr ⟨W.s0 p z.1, decide_eq_true fun u => ?_⟩)
      rcases (loopX_mem.mp u).2 with u | ⟨i, l, h1, h2⟩
      · exact y u
      · rcases W.ow i l p h1 h2 with u | u
        · exact u z.1
        · exact z.2 u.1
theorem EnvW.loopOut (W : EnvW K H0 av0 x0 av q ρ S σ H) (w : EnvW K H av (loopX q av ρ σ) av' (loopQ q ρ σ) ρ' S' σ' H') : EnvW K H0 av0 x0 av' q (renew ρ ρ') S' σ' H' := by
  refine ⟨W.back w.e0, W.qx, W.xs, fun p h => w.s0 p (W.s0 p h), fun p h n => ?_, w.at'.tp.renew, fun i l p h1 h2 => ?_, fun i l p h1 hz h2 => ?_⟩
  · by_cases z : p ∈ av
    · exact W.n0 p z n
    · have y := w.n0 p h z
      cases y0 : H0 p with
      | none => rfl
      | some o =>
        have nx : p ∉ x0 := fun z => n (W.xs p z)
        rw [W.e0 p o nx y0] at y; cases y
  · obtain ⟨m, h3, _⟩ := renew_ow h1
    rcases w.ow i m p h3 h2 with z | ⟨z, l', e1, e2⟩
    · exact .inl fun y => z (W.s0 p y)
    · exact W.ow i l' p e1 e2
  · obtain ⟨m, h3, _, hm⟩ := renew_ow h1
    rcases w.ow i m p h3 h2 with y | ⟨y, l', e1, e2⟩
    · exact fun u => y (W.s0 p u)
    · obtain ⟨l0, z⟩ := l'
      cases z with
      | true => exact W.nw i _ p e1 rfl e2
      | false =>
        have e := hm (.inl ⟨l0, e1⟩)
        subst e
        exact fun y => w.nw i m p h3 hz h2 (W.s0 p y)
end
def sFor (fi : En → M (List PyData)) (b : PyData → En → Option En) (g : En → M Fl) : En → M Fl := fun ρ => fi ρ >>= fun ds => forGo b g ds (age ρ) >>= fun fl => pure (renewF ρ fl)
theorem s_for {tg iter : Expr} {body : List Stmt} {fi : En → M (List PyData)} {is : List Nat} {b : PyData → En → Option En} {g : En → M Fl} (hp : PassesOwn (model X.prog X.w) X.A X.env X.xe) (hc : X.calm = true) (hi : PID X tg iter fi) (hg : PGD X tg is b) (hb : PSsD X body g) (hs : ∀ x, foldedSetIterable iter X.env x = pure x := by intro _; rfl) :
    PSD X (.For tg iter body [] pos) (sFor fi b g) := PS_imp (ps_for (g := tGd X.K is b) hp hc hi hg hb hs) fun D σ H ⟨H0, av0, x0, av, q, ρ, S, W, p⟩ => by
  refine ⟨av, q, ρ, S, W.at', R.post_imp (post_bind p) (fun ds S1 p1 J H1 e1 f1 wk => ?_) fun _ _ z => W.flx z⟩
  have A1 := W.at'.ext e1 f1
  have W1 := W.ext e1 A1
  have p1 := post_bind p1
  -- what is wanted behind the loop
  let fin : Fl → Fd → Prop := fun fl S' => flP X.K H0 av0 x0 q D (renewF ρ fl) S'
  refine ⟨fun i m σ' H' => m = ds.length - i ∧ i ≤ ds.length ∧ ∃ av' ρ' S', EnvW X.K H1 av (loopX q av ρ σ) av' (loopQ q ρ σ) ρ' S' σ' H' ∧ (forGo b g (ds.drop i) ρ' S').post fin (flX X.K (wx X) H0 av0 x0 q),
    ⟨ds.length, by simp, Nat.zero_le _, av, age ρ, S1, W1.loopIn, p1⟩, ?_⟩
  rintro i m σ' H' ⟨rfl, hi', av', ρ', S', W', p'⟩
  have w := wk av' H' W'.s0 W'.n0 (W'.e0.more fun p h => (loopX_mem.mp h).1) W'.at'.trk i
  by_cases hlt : i < ds.length
  · have hd : ds[i]? = some ds[i] := by simp [hlt]
    obtain ⟨go, y⟩ := w.1 _ hd
    have dr : ds.drop i = ds[i] :: ds.drop (i + 1) := by rw [List.drop_eq_getElem_cons hlt]
    rw [dr] at p'
    refine .inr ⟨go, fun σ'' H'' => ∃ av' ρ' S', EnvW X.K H1 av (loopX q av ρ σ) av' (loopQ q ρ σ) ρ' S' σ'' H'' ∧ (forGo b g (ds.drop (i + 1)) ρ' S').post fin (flX X.K (wx X) H0 av0 x0 q),
      fun σ'' H'' h => ⟨ds.length - (i + 1), by omega, rfl, hlt, h⟩, fun x H2 yl => ?_⟩
    obtain ⟨sm, dx⟩ := y x H2 yl
    have A2 := W'.at'.ext (Ext.of_same sm) (feed_same W'.at'.feed sm)
    have W2 := W'.ext (Ext.of_same sm) A2
    have p2 : (match b ds[i] ρ' with
      | none => bad
      | some ρ1 => g ρ1 >>= fun fl => match fl with
        | .nx ρ' => forGo b g (ds.drop (i + 1)) ρ'
        | .ct ρ' => forGo b g (ds.drop (i + 1)) ρ'
        | .bk ρ' => pure (.nx ρ')
        | .rt d => pure (.rt d) : M Fl) S' |>.post fin (flX X.K (wx X) H0 av0 x0 q) := p'
    cases hbd : b ds[i] ρ' with
    | none => rw [hbd] at p2; exact False.elim p2
    | some ρ1 =>
      rw [hbd] at p2
      refine ⟨av', loopQ q ρ σ, ρ', S', ds[i], A2, dx, ρ1, hbd, fun σ2 A3 _ o3 w3 => ?_⟩
      refine tS_sub (W2.sub A3 w3 o3) (R.post_imp (post_bind p2) (fun fl S3 p3 => ?_) fun x S3 z τ dd H3 e3 f3 d3 => z τ dd H3 (W1.back e3) (f3.less W.s0 W.mv0) (d3.less W1.visx))
      cases fl with
      | nx ρ3 => exact fun av3 σ3 H3 W3 => ⟨av3, ρ3, S3, W3, p3⟩
      | ct ρ3 => exact fun av3 σ3 H3 W3 => ⟨av3, ρ3, S3, W3, p3⟩
      | bk ρ3 => exact fun av3 σ3 H3 W3 => (show flP X.K H0 av0 x0 q D (.nx (renew ρ ρ3)) S3 from p3) av3 σ3 H3 (W1.loopOut W3)
      | rt d => exact fun v H3 e3 f3 d3 => (show flP X.K H0 av0 x0 q D (.rt d) S3 from p3) v H3 (W1.back e3) (f3.less W.s0 W.mv0) (dp_same (msk_less W1.visx) d v d3)
  · have e : i = ds.length := by omega
    subst e
    rw [List.drop_length] at p'
    exact .inl ⟨w.2 (Nat.le_refl _), (show flP X.K H0 av0 x0 q D (.nx (renew ρ ρ')) S' from p') av' σ' H' (W1.loopOut W')⟩

/-! ### a def by its body -/
def ofAg : Ag → Sl
  | .d x => .im x
  | .fd => .fd
def env0 (n : Nat) (as : List Ag) : En := as.map (fun a => some (ofAg a)) ++ List.replicate (n - as.length) none
def runB (n : Nat) (g : En → M Fl) : Fn := fun as => g (env0 n as) >>= fun fl => match fl with
  | .rt d => pure d
  | .nx _ => pure .none
  | _ => bad
theorem env0_now {n i : Nat} {as : List Ag} {l : Ol} (e1 : (env0 n as)[i]? = some (some (Sl.ow l))) : False := by
  unfold env0 at e1
  have key : ∀ {as : List Ag} {i k : Nat}, (as.map (fun a => some (ofAg a)) ++ List.replicate k none)[i]? = some (some (Sl.ow l)) → False := by
    intro as
    induction as with
    | nil =>
      intro i k e
      simp only [List.map_nil, List.nil_append, List.getElem?_replicate] at e
      split at e <;> cases e
    | cons a t ih =>
      intro i k e
      cases i with
      | zero =>
        simp only [List.map_cons, List.cons_append, List.getElem?_cons_zero, Option.some.injEq] at e
        cases a <;> cases e
      | succ i =>
        simp only [List.map_cons, List.cons_append, List.getElem?_cons_succ] at e
        exact ih e
  exact key e1
theorem env0_at {K : PySem.W.Frag} {av : List Addr} {q : Pt} {S : Fd} {H : Hp} {as : List Ag} {vs : List V} {N : List Str} (h : AgsOk K av q H as vs) (t : ∀ p ∈ av, ∃ o, H p = some o) (f : FeedAt av q S H) : At K av q (env0 N.length as) S (L2.start N vs) H where
  len := by simp [env0, L2.start, h.len]
  slot := fun i s e => by
    unfold env0 at e
    unfold L2.start
    have key : ∀ {as : List Ag} {vs : List V} {i : Nat} {k k' : Nat}, AgsOk K av q H as vs → (as.map (fun a => some (ofAg a)) ++ List.replicate k none)[i]? = some (some s) → ∃ v, (vs.map some ++ List.replicate k' none)[i]? = some (some v) ∧ SlOk K av q H s v := by
      intro as vs i k k' h
      induction h generalizing i  with
      | nil =>
        intro e
        simp only [List.map_nil, List.nil_append, List.getElem?_replicate] at e
        split at e <;> cases e
      | cons a t ih =>
        rename_i a0 v0 as0 vs0
        intro e
        cases i with
        | zero =>
          simp only [List.map_cons, List.cons_append, List.getElem?_cons_zero, Option.some.injEq] at e
          subst e
          refine ⟨v0, by simp, ?_⟩
          cases a0 with
          | d x => exact a
          | fd => exact a
        | succ i =>
          simp only [List.map_cons, List.cons_append, List.getElem?_cons_succ] at e ⊢
          exact ih e
    exact key h e
  inj := fun i j l l' v e1 _ _ _ => (env0_now e1).elim
  feed := f
  trk := t
end
end G
end

section
set_option Elab.async false
set_option linter.all false
set_option maxRecDepth 100000
set_option maxHeartbeats 4100000
namespace G
open L2 PySem.Spec PyProof.Rows PySem
variable [LamT]
/-! ### enumerate(tuple) -/
section
variable {A : Around} {E : Value → Shared → Prop} {s : Shared} {prog : Program} {w : World}
theorem nextT_item {it t : Addr} {i : Nat} {vals : Array Value} {x : Value} {Q : Value → Shared → Prop} (h1 : IsTupIter s.heap it t i) (h2 : IsTup s.heap t vals) (h3 : vals[i]? = some x)
    (k : ∀ h', IsTupIter h' it t (i + 1) → Heap.SameBut it s.heap h' → Q x { s with heap := h' }) : wpAny (model prog w) A (Builtin.SmallTypes.nextOf (.ref it)) Q E s := by
  obtain ⟨o1ₐ, g1ₐ, c1ₐ, d1ₐ⟩ := id h1
  obtain ⟨o2ₐ, g2ₐ, _, n2ₐ, d2ₐ⟩ := h2
  unfold PySem.Builtin.SmallTypes.nextOf
  refine wpAny_bind (wpAny_callSpecial?_slot (name := Str.ofString "__next__") h1.typeIs slot_tupleiter_next (wpAny_call_entry slot_tupleiter_next h1.typeIs entry_tupleiter_next ?_ (args_tupleiter_next _)))
  show wpAny _ _ (field (.ref it) 0 >>= _) _ _ s; refine wpAny_bind (wpAny_field g1ₐ d1ₐ (x := .ref t) rfl ?_)
  show wpAny _ _ (if (Value.ref t == Value.none) = true then _ else _) _ _ s; rw [if_neg (show ¬ ((Value.ref t == Value.none) = true) from Bool.false_ne_true)]
  show wpAny _ _ (field (.ref it) 1 >>= _) _ _ s; refine wpAny_bind (wpAny_field g1ₐ d1ₐ (x := .int i 0) rfl ?_)
  show wpAny _ _ (seqItems? (.ref t) >>= _) _ _ s; refine wpAny_bind (wpAny_seqItems g2ₐ d2ₐ ?_)
  simp only [Int.toNat_natCast, h3]
  refine wpAny_bind (wpAny_setField g1ₐ d1ₐ (by simp) (wpAny_pure ⟨x, rfl, wpAny_pure (k _ ?_ (Heap.SameBut.update ..))⟩))
  exact ⟨_, Heap.get?_update_self _ g1ₐ (Obj.isFreed_of_fields (Obj.data_mapFields d1ₐ _)), (Obj.cls_mapFields ..).trans c1ₐ, by rw [Obj.data_mapFields d1ₐ]; simp [rawInt]⟩
theorem nextT_end {it t : Addr} {i : Nat} {vals : Array Value} {Q : Value → Shared → Prop} (hh : A.handled = none) (h1 : IsTupIter s.heap it t i) (h2 : IsTup s.heap t vals) (h3 : vals[i]? = none)
    (k : ∀ h' e, Heap.ExtBut it s.heap h' → (∃ o, h'.get? e = some o ∧ o.cls = .type "StopIteration") → E (.ref e) { s with heap := h' }) : wpAny (model prog w) A (Builtin.SmallTypes.nextOf (.ref it)) Q E s := by
  obtain ⟨o1ₐ, g1ₐ, c1ₐ, d1ₐ⟩ := id h1
  obtain ⟨o2ₐ, g2ₐ, _, n2ₐ, d2ₐ⟩ := h2
  unfold PySem.Builtin.SmallTypes.nextOf
  refine wpAny_bind (wpAny_callSpecial?_slot (name := Str.ofString "__next__") h1.typeIs slot_tupleiter_next (wpAny_call_entry slot_tupleiter_next h1.typeIs entry_tupleiter_next ?_ (args_tupleiter_next _)))
  show wpAny _ _ (field (.ref it) 0 >>= _) _ _ s; refine wpAny_bind (wpAny_field g1ₐ d1ₐ (x := .ref t) rfl ?_)
  show wpAny _ _ (if (Value.ref t == Value.none) = true then _ else _) _ _ s; rw [if_neg (show ¬ ((Value.ref t == Value.none) = true) from Bool.false_ne_true)]
  show wpAny _ _ (field (.ref it) 1 >>= _) _ _ s; refine wpAny_bind (wpAny_field g1ₐ d1ₐ (x := .int i 0) rfl ?_)
  show wpAny _ _ (seqItems? (.ref t) >>= _) _ _ s; refine wpAny_bind (wpAny_seqItems g2ₐ d2ₐ ?_)
  simp only [Int.toNat_natCast, h3]
  refine wpAny_bind (wpAny_rule (wpAny_bind (wpAny_setField g1ₐ d1ₐ (by simp) ?_)))
  show wpAny _ _ (newExc (.type "StopIteration") [] >>= _) _ _ _; refine wpAny_bind ?_
  simp only [newExc, newTuple]; refine wpAny_bind (wpAny_newObj_type ?_ (by size_fits))
  refine wpAny_bind (m := firstArgMember _ _) (wpAny_of_eq (a := Value.none) (by first | rfl | (simp only [firstArgMember]; rfl)) ?_); refine wpAny_newObj_type ?_ (by size_fits)
  simp only [raiseNew]; refine wpAny_bind (wpAny_handled ?_)
  first | rw [hh] | rw [show A.in1.handled = none from hh]
  refine wpAny_bind (wpAny_pure (wpAny_throw ?_)); exact k _ _ (((Heap.SameBut.update ..).extBut.push _).push _) ⟨_, Heap.get?_push_size _ rfl, rfl⟩
end
theorem tupIter_at {h h' : Heap} {a t : Addr} {i : Nat} (x : IsTupIter h a t i) (e : ∀ o, h.get? a = some o → h'.get? a = some o) : IsTupIter h' a t i := let ⟨o, ho, r⟩ := x; ⟨o, e o ho, r⟩
theorem tup_at {h h' : Heap} {a : Addr} {v : Array Value} (x : IsTup h a v) (e : ∀ o, h.get? a = some o → h'.get? a = some o) : IsTup h' a v := let ⟨o, ho, r⟩ := x; ⟨o, e o ho, r⟩
theorem drawsT {prog : Program} {w : World} {A : Around} (hh : A.handled = none) (it t : Addr) (hne : t ≠ it) (vals : Array Value) :
    Draws prog w A it [it, t] vals.size (fun i v => vals[i]? = some v) (fun i h => IsTupIter h it t i ∧ IsTup h t vals) where
  live := fun _ _ st => by obtain ⟨⟨o, ho, _⟩, _⟩ := st; exact ⟨o, ho⟩
  frame := fun _ _ _ st hk => ⟨tupIter_at st.1 fun o e => hk it (by simp) o e, tup_at st.2 fun o e => hk t (by simp) o e⟩
  item := fun i s Q E hi st hQ => nextT_item st.1 st.2 (x := vals[i]) (by simp [hi]) fun h' a b => hQ _ h' s.toks (by simp [hi]) ⟨a, st.2.extBut b.extBut hne⟩ b
  done := fun s Q E st hE => nextT_end hh st.1 st.2 (by simp) hE
theorem meets_enumT (t : Addr) (vals : Array Value) (n : Nat) (dct : Option Addr) (sl : Array (Option Value)) :
    Meets (Builtin.«enumerate.__new__» ⟨[.type "enumerate", .ref t], []⟩) (fun _ R s => s.heap.get? t = some { cls := .type "tuple", dict := dct, data := .seq vals n, slots := sl } ∧
      R (.ok (.ret (.ref (s.heap.push { cls := .type "tuple_iterator", data := .fields #[.ref t, .int 0 0] }).objs.size)))
        { s with heap := (s.heap.push { cls := .type "tuple_iterator", data := .fields #[.ref t, .int 0 0] }).push { cls := .type "enumerate", data := .fields #[.none, .bool false, .ref s.heap.objs.size, rawInt 0, .none, .none] } }) :=
  .of_wp fun prog w A R s hₐ => by
    obtain ⟨hpₐ, gₐ, dₐ, tkₐ, osₐ⟩ := s; obtain ⟨htₐ, hₐ⟩ := hₐ; have hsubₐ := sub_enumerate
    have hTₐ : IsTup (Shared.heap ⟨hpₐ, gₐ, dₐ, tkₐ, osₐ⟩) t vals := ⟨_, htₐ, rfl, n, rfl⟩
    wp_walk using AutoSeq1.wpAny_loadPart' htₐ
    refine wpAny_stack_any fun stₐ => wpAny_pure ?_; split
    · rename_i cₐ _ _ _ _ _
      cases (cₐ == Value.type "enumerate")
      · wp_walk using AutoSeq1.wpAny_loadPart' htₐ, iter_tuple hTₐ
        exact ⟨_, rfl, hₐ⟩
      · wp_walk using AutoSeq1.wpAny_loadPart' htₐ, iter_tuple hTₐ
        exact ⟨_, rfl, hₐ⟩
    · wp_walk using AutoSeq1.wpAny_loadPart' htₐ, iter_tuple hTₐ
      exact ⟨_, rfl, hₐ⟩
theorem call_enumT {prog : Program} {w : World} {A : Around} {E : Value → Shared → Prop} {s : Shared} {t : Addr} {vals : Array Value} {Q : Value → Shared → Prop} (hT : IsTup s.heap t vals)
    (h : ∀ h', IsEnum h' (s.heap.objs.size + 1) s.heap.objs.size 0 .none → IsTupIter h' s.heap.objs.size t 0 → (∀ b o, s.heap.get? b = some o → h'.get? b = some o) → Q (.ref (s.heap.objs.size + 1)) { s with heap := h' }) :
    wpAny (model prog w) A (call (.type "enumerate") [.ref t]) Q E s := by
  obtain ⟨⟨c, dct, dt, sl⟩, ht, hc, n, hd⟩ := hT
  replace hc : c = .type "tuple" := hc
  replace hd : dt = .seq vals n := hd
  subst hc hd
  refine callType_new F.called_enumerate (by decide) (F.typeCall_enumerate_1 _) (F.newCall_enumerate_1 _) (fun obj => F.args_object_init_2 obj _) F.entry_enumerate_new (meets_enumT t vals n dct sl) ⟨ht, ?_⟩
  have hz : (s.heap.push { cls := .type "tuple_iterator", data := .fields #[.ref t, .int 0 0] }).objs.size = s.heap.objs.size + 1 := Heap.size_push ..
  show _ ∧ _; rw [hz]
  have he : IsEnum ((s.heap.push { cls := .type "tuple_iterator", data := .fields #[.ref t, .int 0 0] }).push { cls := .type "enumerate", data := .fields #[.none, .bool false, .ref s.heap.objs.size, rawInt 0, .none, .none] }) (s.heap.objs.size + 1) s.heap.objs.size 0 .none := by
    have z := Heap.get?_push_size (s.heap.push { cls := .type "tuple_iterator", data := .fields #[.ref t, .int 0 0] }) (o := { cls := .type "enumerate", data := .fields #[.none, .bool false, .ref s.heap.objs.size, rawInt 0, .none, .none] }) rfl
    rw [hz] at z; exact z
  exact ⟨⟨_, he, rfl⟩, h _ he ⟨_, Heap.get?_push_of_some _ (Heap.get?_push_size _ rfl), rfl, rfl⟩ fun b o x => Heap.get?_push_of_some _ (Heap.get?_push_of_some _ x)⟩
theorem enumT_end {prog : Program} {w : World} {A : Around} {E : Value → Shared → Prop} {s : Shared} {e it t : Addr} {i : Nat} {vals : Array Value} {j : Int} {old : Value} {Q : Option Value → Shared → Prop} (hh : A.handled = none)
    (he : IsEnum s.heap e it j old) (h1 : IsTupIter s.heap it t i) (h2 : IsTup s.heap t vals) (h3 : vals[i]? = none) (hQ : ∀ h', Heap.ExtBut it s.heap h' → Q none { s with heap := h' }) : wpAny (model prog w) A (pyNext (.ref e)) Q E s := by
  have kind : Shared.TypeIs s (.ref e) "enumerate" := ⟨_, he, rfl⟩
  have inner : wpAny (model prog w) A.in1 (Builtin.SmallTypes.nextOf (.ref it)) (fun _ _ => False) (fun ex s' => ∃ a h', ex = .ref a ∧ s' = { s with heap := h' } ∧ Heap.ExtBut it s.heap h' ∧ ∃ o, h'.get? a = some o ∧ o.cls = .type "StopIteration") s :=
    nextT_end (A := A.in1) (show A.in1.handled = none from hh) h1 h2 h3 fun h' a but stop => ⟨a, h', rfl, rfl, but, stop⟩
  unfold pyNext
  refine wpAny_bind (wpAny_attempt (wpAny_callSpecial?_slot (name := Str.ofString "__next__") kind F.slot_enumerate_next (wpAny_call_entry F.slot_enumerate_next kind F.entry_enumerate_next ?_ (F.args_enumerate_next_1 _))))
  show wpAny _ _ (field (.ref e) 2 >>= _) _ _ _
  refine wpAny_bind (wpAny_field he rfl (x := .ref it) rfl (wpAny_bind (wpAny_mono inner (fun _ _ z => z.elim) fun ex s' ⟨a, h', e1, e2, but, o, there, cls⟩ => ?_)))
  subst e1 e2
  exact wpAny_bind (wpAny_isInstance (T := "StopIteration") (b := true) ⟨o, there, cls⟩ isSubtype_stop (wpAny_pure (hQ _ but)))
/-- two values go into a pair that nobody changes: it is laid at the heap's end, and what the walk keeps for itself stays untold -/
theorem pair_laid {X : Cx} {pins : List (Addr × Obj)} {σ : L2.St} {H : Hp} {s : Shared} {mine : List Addr} {h2 : Heap} {tk : Nat} {x y : V} {u v : Value} (I : Inv X pins σ H s) (off : ∀ b ∈ mine, FpOk X pins H b) (old : ∀ b ∈ mine, b < s.heap.objs.size)
    (kept : ∀ b o, b ∉ mine → s.heap.get? b = some o → h2.get? b = some o) (laid : h2.get? s.heap.objs.size = some { cls := .type "tuple", data := .seq #[u, v] }) (hx : RelV x u) (hy : RelV y v) :
    ∃ o, Pl o ∧ H s.heap.objs.size = none ∧ Inv X pins σ (upd H s.heap.objs.size (.frz o (.tup [x, y]))) { s with heap := h2, toks := tk } ∧ ∀ b ∈ mine, upd H s.heap.objs.size (.frz o (.tup [x, y])) b = none :=
  have two : [x, y].length ≤ sizeLine := by show 2 ≤ sizeLine; decide
  ⟨{ cls := .type "tuple", data := .seq #[u, v] }, ⟨rfl, rfl⟩, I.hok.fresh (Nat.le_refl _), I.turnedNew kept off (Nat.le_refl _) ⟨laid, two, [u, v], .cons hx (.cons hy .nil), _, laid, rfl, _, rfl⟩,
    fun b hb => (upd_ne (Nat.ne_of_lt (old b hb))).trans (off b hb).1⟩
/-- what has just been made is nobody's -/
theorem off_new {X : Cx} {pins : List (Addr × Obj)} {σ : L2.St} {H : Hp} {s : Shared} (I : Inv X pins σ H s) {mine : List Addr} (new : ∀ b ∈ mine, s.heap.objs.size ≤ b) : ∀ b ∈ mine, FpOk X pins H b := fun b hb => I.fpOk (new b hb) (I.hok.fresh (new b hb))
/-- the tuple at a, each item in a new pair -/
def ItEt (K : PySem.W.Frag) (a : Addr) : It :=
  ⟨fun i H => ∃ (xs : List V) (x : V), SqT K H a xs ∧ xs[i]? = some x, fun i H v H' => ∃ T x o, v = .ref T ∧ H T = none ∧ Pl o ∧ H' = upd H T (.frz o (.tup [.int (i : Nat), x])) ∧ ∀ xs, SqT K H a xs → xs[i]? = some x, fun i H => ∃ xs : List V, SqT K H a xs ∧ xs.length ≤ i⟩
theorem turn_enumT {P : Program} {w : World} {K : PySem.W.Frag} {elts : List Expr} {kk : Nat} {tpos : Pos} (a e it : Addr) :
    Turn P w K (.Tuple elts kk tpos) (ItEt K a) [e, it] e (fun i h => (∃ old, IsEnum h e it ((i : Nat) : Int) old) ∧ IsTupIter h it a i ∧ e ≠ it ∧ a ≠ it ∧ e ≠ a) where
  mem := List.mem_cons_self
  self := fun _ _ _ _ _ ⟨⟨_, en⟩, _⟩ given => wpAny_pyIter_enum en given
  keep := fun _ _ _ ⟨⟨was, en⟩, walk, apart⟩ same => ⟨⟨was, same e (by simp) _ en⟩, tupIter_at walk (same it (by simp)), apart⟩
  obj := fun _ _ ⟨⟨_, en⟩, ⟨o, there, _, raw⟩, _⟩ => by
    simp only [List.mem_cons, List.not_mem_nil, or_false, forall_eq_or_imp, forall_eq]
    exact ⟨⟨_, en, fun _ z => nomatch z⟩, o, there, fun _ z => by rw [raw] at z; cases z⟩
  done := fun X hP hw hK calm i pins s σ H E I off ⟨⟨_, en⟩, walk, _⟩ ⟨xs, isT, short⟩ => by
    subst hP hw hK
    obtain ⟨items, reads, body, _⟩ := I.tuple isT
    have count := reads.length
    exact enumT_end (I.ok.hd calm) en walk body (by simp; omega) fun h1 but => ⟨rfl, I.turnedL (t' := s.toks) (ch := [e, it]) (fun b o nb => but b o fun z => nb (by simp [z])) off⟩
  item := fun X hP hw hK calm i pins s σ H E I off ⟨⟨was, en⟩, walk, n1, n2, n3⟩ ⟨xs, x, isT, atI⟩ => by
    subst hP hw hK
    obtain ⟨items, reads, body, _⟩ := I.tuple isT
    obtain ⟨u, atU, rel⟩ := reads.get atI
    have bound : i < items.toArray.size := by simpa using (List.getElem?_eq_some_iff.mp atU).1
    have old : ∀ b ∈ [e, it], b < s.heap.objs.size := by
      obtain ⟨o, there, _⟩ := walk
      simpa using ⟨Heap.lt_size en, Heap.lt_size there⟩
    refine wpAny_pyNext_enum_itemD (drawsT (A := X.A.in1) (show X.A.in1.handled = none from I.ok.hd calm) it a n2 items.toArray) en ⟨walk, body⟩ bound n1 (by simp [n1, n3]) fun u' h1 tk same out on laid _ kept => ?_
    have again : items[i]? = some u' := by simpa using same
    cases atU.symm.trans again
    refine ⟨_, rfl, wpAny_letOwnedTupleGo_enum (s := { s with heap := h1, toks := tk + 1 }) out fun h2 en' but => ?_⟩
    obtain ⟨o, pl, new, I2, still⟩ := pair_laid (x := .int (i : Nat)) (tk := tk + 1) I off old (fun b o nb q => (but.2 b fun z => nb (by simp [z])).trans (kept b o (fun z => nb (by simp [z])) (fun z => nb (by simp [z])) q)) ((but.2 _ (Nat.ne_of_gt (old e (by simp)))).trans laid) ⟨_, rfl⟩ rel
    exact ⟨.ref _, _, I2, rfl, ⟨_, x, o, rfl, new, pl, rfl, fun ys isY => by rw [I.tuple_inj isY isT]; exact atI⟩, ⟨⟨u, by rw [Int.natCast_add]; exact en'⟩, tupIter_at on.1 fun o q => (but.2 it (Ne.symm n1)).trans q, n1, n2, n3⟩, still⟩
def iEnT (K : PySem.W.Frag) (ta : TA) : TI := fun σ H R => ta σ H fun vs H1 => ∃ a xs, vs = [.ref a] ∧ SqT K H1 a xs ∧ R (ItEt K a) H1
theorem pi_enT {X : Cx} {e : Expr} {ta : TA} {p pos tpos : Pos} {elts : List Expr} {kk : Nat} (hg : Gl X "enumerate") (hm : X.mg "enumerate" = none) (ha : PA X [e] ta) (hs : starEach [e] X.env = [(false, eval e X.env)] := by rfl) :
    PI X (.Tuple elts kk tpos) (.Call (.Name "enumerate" p) [e] [] pos) (iEnT X.K ta) :=
  ⟨fun pins s σ H R I asked => Call_ (ld_blt I hg hm boot_enumerate (PyProof.Rows.callWith_type1 (thn (ha.run pos pins s σ H _ I asked) fun us s1 ⟨vs, H1, I1, rel, a, xs, one, isT, rest⟩ => by
    subst one
    obtain ⟨w, rfl, isRef⟩ := rel.one
    cases isRef
    obtain ⟨items, _, body, _⟩ := I1.tuple isT
    exact call_enumT body fun h1 en walk kept => wpAny_pyIter_enum en ⟨_, _, _, _, H1, rfl, I1.kept (t' := s1.toks) kept, turn_enumT a (s1.heap.objs.size + 1) s1.heap.objs.size, ⟨⟨.none, en⟩, walk, Nat.succ_ne_self _, Nat.ne_of_lt body.lt, Nat.ne_of_gt (Nat.lt_succ_of_lt body.lt)⟩, off_new I1 (by simp), rest⟩) hs rfl))⟩
def enD (ds : List PyData) : List PyData := ds.zipIdx.map fun p => .tuple [.int (p.2 : Nat), p.1]
theorem enD_get {ds : List PyData} {i : Nat} {d : PyData} (h : (enD ds)[i]? = some d) : ∃ x, ds[i]? = some x ∧ d = .tuple [.int (i : Nat), x] := by
  unfold enD at h
  rw [List.getElem?_map, List.getElem?_zipIdx] at h
  cases e : ds[i]? with
  | none => (rw [e] at h; cases h)
  | some x =>
    rw [e] at h
    refine ⟨x, rfl, ?_⟩
    simp at h
    exact h.symm
theorem wk_enT {K : PySem.W.Frag} {av : List Addr} {H : Hp} {a : Addr} {vs : List V} {ds : List PyData} (h : SqT K (msk av H) a vs) (hd : DxAll K (msk av H) vs ds) : Wk K av H (ItEt K a) (enD ds) := fun av' H' h1 h2 e t i => by
  have sm := wk_same h1 h2 e
  have hs : SqT K H' a vs := sqT_at (sqT_same sm h)
  refine ⟨fun d hd' => ?_, fun hl => ⟨vs, hs, by rw [dps_len hd]; simpa [enD] using hl⟩⟩
  obtain ⟨x, hx, rfl⟩ := enD_get hd'
  obtain ⟨v, hv, hdv⟩ := dps_get hd hx
  refine ⟨⟨vs, v, hs, hv⟩, fun y H'' yl => ?_⟩
  obtain ⟨T, u, o, e1, hT, ho, e2, yl⟩ := yl
  subst e1 e2
  have z := yl vs hs
  rw [hv] at z; cases z
  exact ⟨same_new hT, dp_newTup t hT ho (.cons (.int _) (.cons (dp_same sm x v hdv) .nil))⟩
def asEn (as : List Ag) : M (List PyData) := match as with
  | [.d (.tuple ds)] => pure (enD ds)
  | _ => bad
theorem i_enT {X : Cx} {e : Expr} {p pos tpos : Pos} {elts : List Expr} {kk : Nat} {fs : En → M (List Ag)} (hm : X.mg "enumerate" = none) (ha : PG_A X [e] fs) (hg : Gl X "enumerate" := by rfl) (hs : starEach [e] X.env = [(false, eval e X.env)] := by rfl) :
    PID X (.Tuple elts kk tpos) (.Call (.Name "enumerate" p) [e] [] pos) (fun ρ => fs ρ >>= asEn) := PI_imp (pi_enT hg hm ha hs) fun σ H R ⟨av, q, ρ, S, A, p⟩ => by
  refine tAg_step A p fun as S1 vs H1 p1 e1 A1 d1 => ?_
  unfold asEn at p1
  split at p1
  · cases d1 with
    | cons h1 h2 =>
      cases h2
      cases h1 with
      | tup hs hn hx => exact ⟨_, _, rfl, sqT_at hs, p1 _ H1 e1 A1.feed (wk_enT hs hx)⟩
  · exact False.elim p1
end G
end

section
set_option Elab.async false
set_option linter.all false
set_option maxRecDepth 100000
set_option maxHeartbeats 4100000
namespace G
open L2 PySem.Spec PyProof.Rows PySem
variable [LamT]
/-! ### promises that are kept where nothing is being shown -/
structure RoomG (k : Nat) (A : Around) : Prop where
  r : Room k A
  g : A.guards = some []
theorem RoomG.mono {j k : Nat} {A : Around} (r : RoomG k A) (h : j ≤ k) : RoomG j A := ⟨r.r.mono h, r.g⟩
structure FnG (P : Program) (w : World) (K : PySem.W.Frag) (mg : Str → Option Value) (base : Heap) (k : Nat) (f : Addr) (fd : FuncData) (ps : List Str) (sp : Sp) : Prop where
  len : ∀ xs H Q E, sp xs H Q E → xs.length = ps.length
  run : ∀ (A : Around) (outer : List Env) (s : Shared) (H : Hp) (args : Args) (us : List Value) (vs : List V) (Q : VK) (E : XK), RoomG k A → Env0 P w K mg base A outer s H → BindsTo s fd args (ps.zip us) → Vals vs us → sp vs H Q E →
    codeAny (model P w) A (.call (.ref f) args) (CR (L2.CX P w) outer P w H s Q E) s
theorem FnG.mono {P : Program} {w : World} {K : PySem.W.Frag} {mg : Str → Option Value} {base : Heap} {j k : Nat} {f : Addr} {fd : FuncData} {ps : List Str} {sp : Sp} (F : FnG P w K mg base j f fd ps sp) (h : j ≤ k) : FnG P w K mg base k f fd ps sp :=
  ⟨F.len, fun A o s H a us vs Q E hr => F.run A o s H a us vs Q E (hr.mono h)⟩
/-- behind a call: its answer, or what it lets out -/
theorem ret_of {outer : List Env} {H : Hp} {s s' : Shared} {Q : VK} {Ex : XK} {X : Cx} {pins : List (Addr × Obj)} {σ : L2.St} {r : Result} (I : Inv X pins σ H s) (ho : outer = X.stack) (hx : ∀ c d H', Ex c d H' → wx X c d σ H') (hq : CR (L2.CX X.prog X.w) outer X.prog X.w H s Q Ex r s') : match r with
    | .ok (.ret u) => EP X pins σ Q u s'
    | .error e => X.xe e s'
    | _ => False := by
  subst ho
  cases r with
  | error eₐ => exact takes_wx _ _ (XE.of_call I hx hq)
  | ok flₐ =>
    cases flₐ with
    | ret u => exact I.after hq
    | next => exact False.elim hq
    | brk => exact False.elim hq
    | cont => exact False.elim hq
theorem fn_ofG {P : Program} {w : World} {K : PySem.W.Frag} {mg : Str → Option Value} {base : Heap} {k : Nat} {f : Addr} {name qual : Str} {params : Arguments} {body : List Stmt} {scope : Scope} {dV kV doc pm cdv ct oc : Value} {an od : Option Addr}
    {osl : Array (Option Value)} {N ps : List Str} {sp : Sp} (lk : K.lookup f = some ⟨oc, od, .func (PySem.W.fnOf name qual params body scope dV kV doc pm an cdv ct), osl⟩) (hcd : PySem.W.codeIn K cdv qual = true) (S : FnScope N ps scope) (len : ∀ vs H Q E, sp vs H Q E → vs.length = ps.length)
    (hbody : ∀ (A : Around) (outer : List Env) (s : Shared) (H : Hp) (vs : List V) (Q : VK) (E : XK), RoomG k (A.deeper (envOfC qual scope s.heap.objs.size f cdv)) → sp vs H Q E →
      ∃ t, PSs (cxOf (L2.CX P w) P w K mg base N qual scope f cdv A outer s H E) body t ∧ t { nx := fun _ H' => Q .non H', rt := Q } (L2.start N vs) H) :
    FnG P w K mg base (k + 1) f (PySem.W.fnOf name qual params body scope dV kV doc pm an cdv ct) ps sp := ⟨len, fun A outer s H given us vs Q E room e0 binds rel told => by
  obtain ⟨t, text, way⟩ := hbody A outer s H vs Q E ⟨room.r.deeper _, room.g⟩ told
  have here : ∀ b o, base.get? b = some o → s.heap.get? b = some o := fun b o q => (e0.bs b o q).1
  have code : K.In s.heap := e0.mod.kin.keeps here
  have names : ∀ y ∈ ps.zip us, scope.names.lookup y.1 = some .local ∨ (scope.names.lookup y.1 = some .cell ∧ ((cellsFrom (s.heap.objs.size + 1) scope.names []).lookup y.1).isSome = true) := fun y hy =>
    (S.par y.1 (List.of_mem_zip (a := y.1) (b := y.2) hy).1).imp id fun c => ⟨c, PySem.W.cellsFrom_some _ _ _ (.inl c)⟩
  refine codeAny_call_function room.r.depth (code _ _ lk) rfl S.co S.gen rfl (PySem.W.codeRec_of code hcd) (binds _ _ _ _ (wpAny_newFunctionEnv_cells S.kind names fun env isEnv s1 x => ?_))
  subst isEnv
  refine ⟨(e0.mod.nolimit.keeps here).keeps x.toInCall.keep, codeAny_func (wpAny_mono (text.run [] s1 (L2.start N vs) H _ (inv_start S room.r.hd e0 (len _ _ _ _ told) rel x) way) (fun fl s2 ends => ?_) fun _ _ z => z)⟩
  match fl, ends with
  | .ret u, ⟨v, _, H', J, rv, q⟩ => exact ⟨v, H', J.os, J.bare, J.base, J.hok, rv, q⟩
  | .next, ⟨_, H', J, q⟩ => exact ⟨.non, H', J.os, J.bare, J.base, J.hok, rfl, q⟩
  | .brk, ⟨_, _, _, q⟩ => exact q.elim
  | .cont, ⟨_, _, _, q⟩ => exact q.elim⟩
section
variable {X : Cx}
theorem d_fn {k n : Nat} {f : Addr} {fd : FuncData} {ps : List Str} {F : Fn} {x : Str} {p pos : Pos} {e : Expr} {es : List Expr} {fs : En → M (List Ag)} (Gf : FnG X.prog X.w X.K X.mg X.base k f fd ps (spD X.K n F)) (hr : RoomG k X.A) (hm : X.mg x = some (.ref f)) (hk : PySem.W.keepIn X.K (.ref f) = true) (hb : Binds X.K fd ps [])
    (ha : PG_A X (e :: es) fs) (hg : Gl X x := by rfl) (hdb : (x == ("__debug__" : Str)) = false := by decide) (he : starEach (e :: es) X.env = (false, eval e X.env) :: starEach es X.env := by rfl) (hpl : (backTo pos (starEach es X.env)).any (·.1) = false := by rfl) :
    PD X (.Call (.Name x p) (e :: es) [] pos) (cFn (argN n F) fs) := by
  refine ⟨fun pins s σ H Q I h => wpAny_Call_Name_kw (ld_glob I hg hm ?_ hdb)⟩
  obtain ⟨av, q, ρ, S, A, p⟩ := h
  have h' : tAg X.K (wx X) fs σ H (fun vs H1 => spD X.K n F vs H1 Q (wa (wx X) σ)) := tAg_step A p fun as S1 vs H1 p1 e1 A1 d1 => by
    unfold argN at p1
    split at p1
    · exact ⟨ags_n d1 (by assumption), av, q, S1, as, d1, A1.trk, A1.feed, R.post_imp p1 (fun b S2 k v H' e f => k v H' (e1.trans e) f) fun _ _ z => z⟩
    · exact False.elim p1
  refine PySem.W.callWith_K (h₀ := X.base) I.ok.mod.kin hk (thn (ha.run pos pins s σ H _ I h') fun us s1 ⟨vs, H1, I1, r, hsp⟩ => ⟨I1.kIn, ?_⟩) he hpl
  have hl : us.length = ps.length := by rw [← r.length]; exact Gf.len _ _ _ _ hsp
  have hbn := hb s1 us I1.kIn (by rw [List.append_nil]; exact hl)
  rw [List.append_nil] at hbn
  refine wpAny_call (codeAny_mono (Gf.run X.A X.stack s1 H1 ⟨us, []⟩ us vs Q (wa (wx X) σ) hr I1.env0 hbn r hsp) fun r' s' hq => ?_)
  have z := ret_of I1 rfl (fun _ _ _ z => z) hq
  cases r' with
  | error e => exact z
  | ok fl =>
    cases fl with
    | ret u => exact z
    | next => exact z.elim
    | brk => exact z.elim
    | cont => exact z.elim
/-- f(k = e, ..): the keywords' values, then in the parameters' order -/
def pick {α : Type} (pm : List Nat) (l : List α) : List α := pm.filterMap fun i => l[i]?
theorem pick_vals {pm : List Nat} {vs : List V} {us : List Value} (r : Vals vs us) : Vals (pick pm vs) (pick pm us) := by
  induction pm with
  | nil => exact .nil
  | cons i pm ih =>
    unfold pick
    rw [List.filterMap_cons, List.filterMap_cons]
    cases e : vs[i]? with
    | none => rw [r.none_of e]; exact ih
    | some v =>
      obtain ⟨u, h1, h2⟩ := r.get e
      rw [h1]
      exact .cons h2 ih
theorem ags_get {K : PySem.W.Frag} {av : List Addr} {q : Pt} {H : Hp} {as : List Ag} {vs : List V} (h : AgsOk K av q H as vs) : ∀ i : Nat, (as[i]? = none ∧ vs[i]? = none) ∨ ∃ a v, as[i]? = some a ∧ vs[i]? = some v ∧ AgOk K av q H a v := by
  induction h with
  | nil => exact fun i => .inl ⟨by simp, by simp⟩
  | cons a _ ih =>
    intro i
    cases i with
    | zero => exact .inr ⟨_, _, rfl, rfl, a⟩
    | succ i => simpa using ih i
theorem pick_ags {K : PySem.W.Frag} {av : List Addr} {q : Pt} {H : Hp} {pm : List Nat} {as : List Ag} {vs : List V} (h : AgsOk K av q H as vs) : AgsOk K av q H (pick pm as) (pick pm vs) := by
  induction pm with
  | nil => exact .nil
  | cons i pm ih =>
    unfold pick
    rw [List.filterMap_cons, List.filterMap_cons]
    rcases ags_get h i with ⟨e1, e2⟩ | ⟨a, v, e1, e2, z⟩
    · rw [e1, e2]; exact ih
    · rw [e1, e2]; exact .cons z ih
def PKD (X : Cx) (kws : List Keyword) (f : En → M (List Ag)) : Prop := PK X kws (tAg X.K (wx X) f)
theorem PK_imp {kws : List Keyword} {t t' : TA} (h : PK X kws t) (i : ∀ σ H Q, t' σ H Q → t σ H Q) : PK X kws t' := ⟨fun pos pins s σ H Q I q => h.run pos pins s σ H Q I (i σ H Q q)⟩
theorem k_nil : PKD X [] aNil := PK_imp pk_nil fun σ H Q ⟨av, q, ρ, S, A, p⟩ => p [] H (Ext.refl H) A.feed .nil
theorem k_d {nm : Option Str} {kpos : Pos} {e : Expr} {kws : List Keyword} {f : En → M PyData} {fs : En → M (List Ag)} (h : PD X e f) (hs : PKD X kws fs) : PKD X (⟨nm, e, kpos⟩ :: kws) (aD f fs) := PK_imp (pk_cons h hs) fun σ H Q ⟨av, q, ρ, S, A, p⟩ => by
  refine tE_step A p fun x S1 v H1 p1 e1 A1 d1 => ?_
  refine tAg_step A1 p1 fun r S2 vs H2 p2 e2 A2 d2 => ?_
  exact p2 _ H2 (e1.trans e2) A2.feed (.cons (ext_dp A.feed.1 e2 d1) d2)
def cKw (F : Fn) (pm : List Nat) (fs : En → M (List Ag)) : En → M PyData := fun ρ => fs ρ >>= fun as => F (pick pm as)
structure KwB (K : PySem.W.Frag) (fd : FuncData) (ps ks : List Str) (pm : List Nat) : Prop where
  to : ∀ (s : Shared) (ws : List Value), K.In s.heap → (pick pm ws).length = ps.length → ws.length = ks.length → BindsTo s fd ⟨[], ks.zip ws⟩ (ps.zip (pick pm ws))
def argK (n m : Nat) (pm : List Nat) (F : Fn) : Fn := fun as => if as.length = m ∧ (pick pm as).length = n then F (pick pm as) else bad
def cKw' (F : Fn) (n m : Nat) (pm : List Nat) (fs : En → M (List Ag)) : En → M PyData := fun ρ => fs ρ >>= argK n m pm F
theorem d_kw {k n m : Nat} {f : Addr} {fd : FuncData} {ps ks : List Str} {pm : List Nat} {F : Fn} {x : Str} {p pos : Pos} {kws : List Keyword} {fs : En → M (List Ag)} (Gf : FnG X.prog X.w X.K X.mg X.base k f fd ps (spD X.K n F)) (hr : RoomG k X.A) (hm : X.mg x = some (.ref f)) (hk : PySem.W.keepIn X.K (.ref f) = true) (hb : KwB X.K fd ps ks pm)
    (ha : PKD X kws fs) (hmks : m = ks.length := by rfl) (hg : Gl X x := by rfl) (hdb : (x == ("__debug__" : Str)) = false := by decide) (hall : (backToKw pos (keywordEach kws X.env)).all (·.1.isSome) = true := by rfl) (hks : (backToKw pos (keywordEach kws X.env)).filterMap (·.1) = ks := by rfl)
    (hpl : ((backTo pos (starEach [] X.env)).any (·.1) || (backToKw pos (keywordEach kws X.env)).any (·.1.isNone)) = false := by exact rfl) :
    PD X (.Call (.Name x p) [] kws pos) (cKw' F n m pm fs) := by
  refine ⟨fun pinsₐ s σₐ Hₐ Qₐ Iₐ hₐ => wpAny_Call_Name_kw (ld_glob Iₐ hg hm ?_ hdb)⟩
  obtain ⟨avₐ, qₐ, ρₐ, Sₐ, A, p⟩ := hₐ
  have h'ₐ : tAg X.K (wx X) fs σₐ Hₐ (fun vsₐ H1ₐ => vsₐ.length = ks.length ∧ spD X.K n F (pick pm vsₐ) H1ₐ Qₐ (wa (wx X) σₐ)) := tAg_step A p fun asₐ S1ₐ vsₐ H1ₐ p1ₐ e1ₐ A1ₐ d1ₐ => by
    unfold argK at p1ₐ
    split at p1ₐ
    · rename_i hhₐ
      exact ⟨by rw [d1ₐ.len, hhₐ.1, hmks], ags_n (pick_ags d1ₐ) hhₐ.2, avₐ, qₐ, S1ₐ, _, pick_ags d1ₐ, A1ₐ.trk, A1ₐ.feed, R.post_imp p1ₐ (fun bₐ S2ₐ k vₐ H'ₐ eₐ f => k vₐ H'ₐ (e1ₐ.trans eₐ) f) fun _ _ zₐ => zₐ⟩
    · exact False.elim p1ₐ
  refine PySem.W.callWith_KW0 (h₀ := X.base) Iₐ.ok.mod.kin hk hall (thn (ha.run pos pinsₐ s σₐ Hₐ _ Iₐ h'ₐ) fun usₐ s1ₐ ⟨vsₐ, H1ₐ, I1ₐ, rₐ, hvₐ, hspₐ⟩ => ⟨I1ₐ.kIn, ?_⟩) hpl
  rw [hks]
  have r2ₐ := pick_vals (pm := pm) rₐ
  have hlₐ : (pick pm usₐ).length = ps.length := by rw [← r2ₐ.length]; exact Gf.len _ _ _ _ hspₐ
  have hbnₐ := hb.to s1ₐ usₐ I1ₐ.kIn hlₐ (by rw [← rₐ.length]; exact hvₐ)
  refine wpAny_call (codeAny_mono (Gf.run X.A X.stack s1ₐ H1ₐ ⟨[], ks.zip usₐ⟩ (pick pm usₐ) (pick pm vsₐ) Qₐ (wa (wx X) σₐ) hr I1ₐ.env0 hbnₐ r2ₐ hspₐ) fun r'ₐ s'ₐ hqₐ => ?_)
  have zₐ := ret_of I1ₐ rfl (fun _ _ _ z => z) hqₐ
  cases r'ₐ with
  | error eₐ => exact zₐ
  | ok flₐ =>
    cases flₐ with
    | ret uₐ => exact zₐ
    | next => exact zₐ.elim
    | brk => exact zₐ.elim
    | cont => exact zₐ.elim
end
theorem fn_bodyG {P : Program} {w : World} {K : PySem.W.Frag} {mg : Str → Option Value} {base : Heap} {x qual : Str} {st : Stmt} {fa : Addr} {fd : FuncData} {N ps : List Str} {k n : Nat} {g : En → M Fl} (F : Fun K x qual st fa fd) (Sc : FnScope N ps (defScope st)) (hn : n = ps.length)
    (hbody : ∀ (cdv : Value) (A : Around) (outer : List Env) (s : Shared) (H : Hp) (E : XK), RoomG k (A.deeper (envOfC qual (defScope st) s.heap.objs.size fa cdv)) →
      PassesOwn (model P w) (cxOf (L2.CX P w) P w K mg base N qual (defScope st) fa cdv A outer s H E).A (cxOf (L2.CX P w) P w K mg base N qual (defScope st) fa cdv A outer s H E).env (cxOf (L2.CX P w) P w K mg base N qual (defScope st) fa cdv A outer s H E).xe →
      PSsD (cxOf (L2.CX P w) P w K mg base N qual (defScope st) fa cdv A outer s H E) (defBody st) g) : FnG P w K mg base (k + 1) fa fd ps (spD K n (runB N.length g)) := by
  subst hn
  obtain ⟨ocₐ, odₐ, kVₐ, docₐ, pmₐ, anₐ, cdv, ct, oslₐ, rfl, lkₐ, hcdₐ⟩ := F.ex
  refine fn_ofG lkₐ hcdₐ Sc (fun vsₐ H Qₐ E hₐ => hₐ.1) fun A outer s H vsₐ Qₐ E hrₐ hₐ => ⟨_, hbody cdv A outer s H E hrₐ (passes_of rfl), ?_⟩
  obtain ⟨hlₐ, avₐ, qₐ, Sₐ, asₐ, haₐ, htₐ, hfₐ, pₐ⟩ := hₐ
  refine ⟨H, avₐ, mv qₐ, avₐ, qₐ, env0 N.length asₐ, Sₐ, ⟨Ext.refl _, fun _ h => h, hfₐ.1, fun pₐ hₐ => hₐ, fun pₐ hₐ n => absurd hₐ n, env0_at haₐ htₐ hfₐ, fun iₐ lₐ pₐ eₐ _ => (env0_now eₐ).elim, fun iₐ lₐ pₐ eₐ _ _ => (env0_now eₐ).elim⟩, ?_⟩
  refine R.post_imp (post_bind pₐ) (fun flₐ S1ₐ p1ₐ => ?_) fun x S1 z σ dd H' e f d => wx_of (takes_of rfl rfl rfl rfl) (z dd H' e f (d.less vis_fn))
  cases flₐ with
  | rt dₐ => exact fun v H1 e1 f1 d1 => p1ₐ v H1 e1 f1 (dp_same (msk_less vis_fn) dₐ v d1)
  | nx ρ'ₐ => exact fun av'ₐ σ'ₐ H'ₐ Wₐ => p1ₐ .non H'ₐ Wₐ.e0 (Wₐ.at'.feed.less Wₐ.s0 Wₐ.mv0) .non
  | bk ρ'ₐ => exact False.elim p1ₐ
  | ct ρ'ₐ => exact False.elim p1ₐ
end G
end

section
set_option Elab.async false
set_option linter.all false
set_option maxRecDepth 100000
set_option maxHeartbeats 4100000
namespace G
open L2 PySem.Spec PyProof.Rows PySem
variable [LamT]
/-! ### t[::-1] of a tuple -/
section
variable {A : Around} {E : Value → Shared → Prop} {s : Shared} {prog : Program} {w : World}
theorem revApplied {sl : Addr} {vs : Value} {n : Nat} {Q : Int × Int × Nat → Shared → Prop} (hs : s.heap.IsSliceOf sl .none .none vs) (pk : IsPart vs (some (-1))) (h : Q ((n : Int) - 1, -1, n) s) :
    wpAny (model prog w) A (PySem.Builtin.Slice.sliceApplied (.ref sl) (pure (n : Int))) Q E s := by
  obtain ⟨o1ₐ, g1ₐ, c1ₐ, d1ₐ⟩ := id hs
  unfold PySem.Builtin.Slice.sliceApplied PySem.Builtin.Slice.sliceFields
  refine wpAny_bind (wpAny_bind (wpAny_field g1ₐ d1ₐ (x := .none) rfl (wpAny_bind (wpAny_field g1ₐ d1ₐ (x := .none) rfl (wpAny_bind (wpAny_field g1ₐ d1ₐ (x := vs) rfl (wpAny_pure ?_)))))))
  refine wpAny_bind (HT.slicePart_ pk ?_)
  show wpAny _ _ (if ((-1 : Int) == 0) = true then _ else _) _ _ s; rw [if_neg (by decide)]
  refine wpAny_bind (slicePart_none (wpAny_bind (slicePart_none (wpAny_bind (wpAny_pure ?_)))))
  show wpAny _ _ (pure ((n : Int) - 1, (-1 : Int), Builtin.Slice.slicePlaces ((n : Int) - 1) (-1) (-1))) _ _ s
  have eₐ : Builtin.Slice.slicePlaces ((n : Int) - 1) (-1) (-1) = n := by
    unfold PySem.Builtin.Slice.slicePlaces
    rw [if_neg (by decide)]
    split
    · have : ((n : Int) - 1 - -1 - 1) / (- -1) + 1 = (n : Int) := by simp
      rw [this]; simp
    · have : n = 0 := by omega
      subst this; rfl
  rw [eₐ]; exact wpAny_pure h
theorem fm_congr {α β : Type} {f g : α → Option β} : ∀ {l : List α}, (∀ a ∈ l, f a = g a) → l.filterMap f = l.filterMap g
  | [], _ => rfl
  | a :: l, h => by
    have ih := fm_congr (l := l) fun b hb => h b (List.mem_cons_of_mem _ hb)
    rw [List.filterMap_cons, List.filterMap_cons, h a List.mem_cons_self, ih]
theorem all_range {α : Type} : ∀ (l : List α), (List.range l.length).filterMap (fun m => l[m]?) = l
  | [] => rfl
  | a :: l => by
    rw [List.length_cons, List.range_succ_eq_map, List.filterMap_cons]
    show a :: ((List.range l.length).map Nat.succ).filterMap (fun m => (a :: l)[m]?) = _
    rw [List.filterMap_map]
    exact congrArg (a :: ·) (all_range l)
theorem pick_rev (xs : Array Value) : ((List.range xs.size).filterMap fun (m : Nat) => xs[((xs.size : Int) - 1 + (m : Int) * (-1)).toNat]?).toArray = xs.toList.reverse.toArray := by
  have e : ((List.range xs.size).filterMap fun (m : Nat) => xs[((xs.size : Int) - 1 + (m : Int) * (-1)).toNat]?) = (List.range xs.size).filterMap fun m => xs.toList.reverse[m]? := by
    apply fm_congr
    intro m hm
    have hm := List.mem_range.mp hm
    have q : ((xs.size : Int) - 1 + (m : Int) * (-1)).toNat = xs.size - 1 - m := by omega
    rw [q, List.getElem?_reverse (by simpa using hm)]
    simp
  rw [e]
  have z := all_range xs.toList.reverse
  rw [List.length_reverse, Array.length_toList] at z
  rw [z]
theorem getItem_tupRev {t sl : Addr} {vals : Array Value} {vs : Value} {Q : Value → Shared → Prop} (ht : IsTup s.heap t vals) (hs : s.heap.IsSliceOf sl .none .none vs) (pk : IsPart vs (some (-1)))
    (h : Q (.ref s.heap.objs.size) { s with heap := s.heap.push { cls := .type "tuple", data := .seq vals.toList.reverse.toArray } }) (hsz : vals.size ≤ sizeLine) : wpAny (model prog w) A (getItem (.ref t) (.ref sl)) Q E s := by
  have fitₐ : sizeOk (.seq vals.toList.reverse.toArray) := by show vals.toList.reverse.toArray.size ≤ sizeLine; simpa using hsz
  obtain ⟨o1ₐ, g1ₐ, c1ₐ, d1ₐ⟩ := id hs
  have hTsₐ : s.TypeIs (.ref sl) "slice" := ⟨o1ₐ, g1ₐ, c1ₐ⟩
  unfold getItem
  try (with_reducible refine wpAny_holding ?_)
  try (refine wpAny_bind (wpAny_pure ?_))
  refine wpAny_bind (wpAny_sequenceKey (ht.typeIs) (by decide) ?_)
  refine wpAny_bind (wpAny_callSpecial?_slot (name := Str.ofString "__getitem__") ht.typeIs PyProof.Rows.slot_tuple_getitem (wpAny_call_entry PyProof.Rows.slot_tuple_getitem ht.typeIs entry_tuple_getitem ?_ (args_tuple_getitem _ _)))
  show wpAny _ _ (Builtin.Tuple.tupleItemsOf (.ref t) >>= _) _ _ s; refine wpAny_bind (tupleItemsOf_ ht (wpAny_bind (wpAny_typeOf hTsₐ ?_)))
  rw [if_pos (by decide)]; refine wpAny_bind (revApplied hs pk ?_)
  have hnoₐ : ¬ ((((vals.size : Int) - 1) == 0 && (-1 : Int) == 1 && vals.size == vals.size) = true) := by simp
  show wpAny _ _ (if ((((vals.size : Int) - 1) == 0 && (-1 : Int) == 1 && vals.size == vals.size) = true) then _ else _) _ _ s
  rw [if_neg hnoₐ, pick_rev]
  first
    | exact wpAny_bind (m := Builtin.Tuple.tupleExact _) (wpAny_newObj_type (wpAny_pure ⟨_, rfl, wpAny_pure h⟩) fitₐ)
    | exact wpAny_bind (m := Builtin.Tuple.tupleExact _) (wpAny_newObj_type (wpAny_bind (wpAny_pure (wpAny_pure ⟨_, rfl, wpAny_pure h⟩))) fitₐ)
end
def tRevT (K : PySem.W.Frag) (te : TE) : TE := fun σ H Q => te σ H fun x H1 => ∃ a xs, x = .ref a ∧ SqT K H1 a xs ∧ ∀ p o, H1 p = none → Pl o → Q (.ref p) (upd H1 p (.frz o (.tup xs.reverse)))
section
variable {X : Cx}
theorem pe_revT {e : Expr} {te : TE} {k : Nat} {p1 p2 p3 pos : Pos} (he : PE X e te) : PE X (.Subscript e (.Slice none none (some (.UnaryOp .USub (.Constant (.int 1) k p1) p2)) p3) pos) (tRevT X.K te) := ⟨fun pins s σ H Q I asked =>
  Subscript_ (thn (he.run pins s σ H _ I asked) fun v s1 ⟨x, H1, I1, r1, a, xs, ex, isT, rest⟩ => by
    subst ex
    cases r1
    have minus : PO X (some (.UnaryOp .USub (.Constant (.int 1) k p1) p2)) (tPart (tUn (rU fun i => .int (-i)) (tC (.int 1)))) :=
      po_some (pe_un un_neg pe_int)
    refine wpAny_Slice (thn (po_none.run pins s1 σ H1 (fun o h => o = none ∧ H1 = h) I1 ⟨rfl, rfl⟩) fun lo s2 ⟨_, _, I2, isLo, z1, z2⟩ => ?_)
    subst z1 z2
    refine thn (po_none.run pins s2 σ H1 (fun o h => o = none ∧ H1 = h) I2 ⟨rfl, rfl⟩) fun hi s3 ⟨_, _, I3, isHi, z1, z2⟩ => ?_
    subst z1 z2
    refine thn (minus.run pins s3 σ H1 (fun o h => o = some (-1) ∧ H1 = h) I3 ⟨1, rfl, -1, rfl, rfl, rfl⟩) fun st s4 ⟨_, _, I4, isSt, z1, z2⟩ => ?_
    subst z1 z2
    cases (show lo = .none by cases isLo; rfl)
    cases (show hi = .none by cases isHi; rfl)
    generalize at' : s4.heap.push { cls := .type "slice", data := .fields #[.none, .none, st] } = h5
    have I5 : Inv X pins σ H1 { s4 with heap := h5 } := I4.kept (t' := s4.toks) fun _ _ q => at' ▸ Heap.get?_push_of_some _ q
    obtain ⟨items, reads, body, small⟩ := I5.tuple isT
    have count := reads.length
    have back := frz_ok (P := X.prog) (w := X.w) (H := H1) (h := h5) (xs := xs.reverse) (us := items.reverse) (by rw [List.length_reverse]; exact small) reads.reverse
    show wpAny (model X.prog X.w) X.A (subscriptTail e _ (.ref a) (.ref s4.heap.objs.size)) (EP X pins σ Q) X.xe { s4 with heap := h5 }
    refine tail_any (ops := [.ref a, .ref s4.heap.objs.size]) body.typeIs (PyProof.Rows.slot_tuple_getitem.lookup) (getItem_tupRev body (at' ▸ Heap.IsSliceOf.new _ .none .none st) isSt ?_ (by rw [List.size_toArray]; omega)) (by with_unfolding_all rfl)
    exact ⟨.ref _, _, I5.laid (t' := s4.toks) (fun _ _ q => Heap.get?_push_of_some _ q) (Nat.le_refl _) (by simpa using back), rfl, rest _ _ (I5.hok.fresh (Nat.le_refl _)) ⟨rfl, rfl⟩⟩)⟩
def gRevT (x : PyData) : Option PyData := match x with
  | .tuple ds => some (.tuple ds.reverse)
  | _ => none
def cUn (g : PyData → Option PyData) (f : En → M PyData) : En → M PyData := fun ρ => f ρ >>= fun x => lift (g x)
theorem d_revT {e : Expr} {f : En → M PyData} {k : Nat} {p1 p2 p3 pos : Pos} (h : PD X e f) : PD X (.Subscript e (.Slice none none (some (.UnaryOp .USub (.Constant (.int 1) k p1) p2)) p3) pos) (cUn gRevT f) := PE_imp (pe_revT h) fun σ H Q ⟨av, q, ρ, S, A, p⟩ => by
  refine tE_step A p fun x S1 v H1 p1 e1 A1 d1 => ?_
  obtain ⟨d, hd, k⟩ := post_lift p1
  unfold gRevT at hd
  split at hd
  · cases hd
    cases d1 with
    | tup hs hn hx => exact ⟨_, _, rfl, sqT_at hs, fun p o hp ho => k _ _ (e1.trans (Ext.new hp)) (feed_same A1.feed (same_new hp)) (dp_newTup A1.trk hp ho (dps_rev hx))⟩
  · cases hd

/-! ### repr -/
def gRepr (x : PyData) : Option PyData := match x with
  | .tuple ds => if (PyData.tuple ds).showable && (!(PyData.tuple ds).hasDict) && decide ((PyData.tuple ds).depth ≤ 100) && decide ((PyData.tuple ds).shown.length ≤ 16777216) then some (.str (PyData.tuple ds).shown) else none
  | .list ds => if (PyData.list ds).showable && (!(PyData.list ds).hasDict) && decide ((PyData.list ds).depth ≤ 100) && decide ((PyData.list ds).shown.length ≤ 16777216) then some (.str (PyData.list ds).shown) else none
  | _ => none
def rRepr (K : PySem.W.Frag) : List V → Hp → VK → Prop := fun xs H Q => ∃ a d, xs = [.ref a] ∧ Dp K H (.ref a) d ∧ d.showable = true ∧ d.hasDict = false ∧ d.depth ≤ 100 ∧ d.shown.length ≤ sizeLine ∧ Q (.str d.shown) H
theorem call_repr {k : Nat} (hr : RoomG k X.A) : CallR X (.builtin "repr") (rRepr X.K) := by
  intro pinsₐ s σₐ Hₐ xsₐ usₐ Qₐ Iₐ rxₐ hₐ
  obtain ⟨aₐ, dₐ, rfl, hdₐ, h1ₐ, h2ₐ, h3ₐ, h4ₐ, qₐ⟩ := hₐ
  cases rxₐ with
  | cons rₐ rrₐ =>
    cases rrₐ
    cases rₐ
    obtain ⟨asₐ, hRₐ⟩ := Dp.reads Iₐ dₐ _ _ hdₐ rfl
    have := hr.r.un
    exact repr_of_reads' hRₐ h1ₐ (fun zₐ => by rw [h2ₐ] at zₐ; cases zₐ) hr.g (by omega) (fun _ _ eₐ => eₐ) (fun h'ₐ uₐ tkₐ hkₐ => ⟨.str dₐ.shown, Hₐ, Iₐ.kept hkₐ, ⟨uₐ, rfl⟩, qₐ⟩) h4ₐ
theorem d_repr {k : Nat} {p pos : Pos} {e : Expr} {f : En → M PyData} (hr : RoomG k X.A) (hm : X.mg "repr" = none) (ha : PD X e f) (hg : Gl X "repr" := by rfl) (hv : bootBuiltins "repr" = some (.builtin "repr") := by decide +kernel)
    (he : starEach (e :: []) X.env = (false, eval e X.env) :: starEach [] X.env := by rfl) (hpl : (backTo pos (starEach [] X.env)).any (·.1) = false := by rfl) : PD X (.Call (.Name "repr" p) [e] [] pos) (cUn gRepr f) :=
  PE_imp (pe_callB (call_repr hr) hg hm hv (pa_cons ha pa_nil he) (by decide) (by decide) he hpl) fun σ H Q ⟨av, q, ρ, S, A, p⟩ => by
    refine tE_step A p fun x S1 v H1 p1 e1 A1 d1 => ?_
    obtain ⟨d, hd, k⟩ := post_lift p1
    have d1' := dx_dp x v (dp_same msk_all x v d1)
    unfold gRepr at hd
    split at hd
    · split at hd
      · rename_i hc
        simp only [Bool.and_eq_true, decide_eq_true_eq, Bool.not_eq_true'] at hc
        cases hd
        have hl := hc.2
        rw [← sizeLine_eq] at hl
        have kk := k (.str _) H1 e1 A1.feed (.str _)
        cases d1 with
        | tup hs hn hx => exact ⟨_, _, rfl, d1', hc.1.1.1, hc.1.1.2, hc.1.2, hl, kk⟩
      · cases hd
    · split at hd
      · rename_i hc
        simp only [Bool.and_eq_true, decide_eq_true_eq, Bool.not_eq_true'] at hc
        cases hd
        have hl := hc.2
        rw [← sizeLine_eq] at hl
        have kk := k (.str _) H1 e1 A1.feed (.str _)
        cases d1 with
        | lst hs hx => exact ⟨_, _, rfl, d1', hc.1.1.1, hc.1.1.2, hc.1.2, hl, kk⟩
      · cases hd
    · cases hd
end
end G
end

section
set_option Elab.async false
set_option linter.all false
set_option maxRecDepth 100000
set_option maxHeartbeats 4100000
namespace G
open L2 PySem.Spec PyProof.Rows PySem
variable [LamT]
section
variable {X : Cx}
/-! ### t.index(x) for ints -/
theorem mt_tupIx : MtR X "tuple.index" (fun x xs H Q => ∃ (a : Addr) (ys : List V) (y : V) (j : Nat) (z : V), x = V.ref a ∧ xs = [y] ∧ SqT X.K H a ys ∧ flatV y = true ∧ ys.all flatV = true ∧ ys[j]? = some z ∧ eqV z y = true ∧ (∀ (m : Nat) (z' : V), m < j → ys[m]? = some z' → eqV z' y = false) ∧ Q (.int (j : Nat)) H) :=
  fun pins s σ H x xs v us Q I rx rxs ⟨a, ys, y, j, z, ex, one, isT, fy, fys, atJ, hit, miss, rest⟩ => by
    subst ex one
    cases rx
    obtain ⟨uy, rfl, ry⟩ := rxs.one
    obtain ⟨items, reads, ⟨⟨cls, dct, data, slots⟩, there, isTup, n, isSeq⟩, _⟩ := I.tuple isT
    simp only at isTup isSeq
    subst isTup isSeq
    have count := reads.length
    -- what == says of the m-th item is what it says of its reading
    have says : ∀ (m : Nat) (w : V) (lt : m < items.toArray.size), ys[m]? = some w → eqU y items.toArray[m] = eqV w y := fun m w lt at' => by
      obtain ⟨u, hu, ru⟩ := reads.get at'
      obtain ⟨_, e⟩ := List.getElem?_eq_some_iff.mp hu
      have e' : items.toArray[m] = u := by simpa using e
      rw [e', eqU_of ru (flat_at fys at')]
    have bound : j < items.toArray.size := by
      obtain ⟨u, hu, _⟩ := reads.get atJ
      simpa using (List.getElem?_eq_some_iff.mp hu).1
    refine call_meets PySem.F.slot_tuple_index ⟨_, there, rfl⟩ PySem.F.entry_tuple_index (PySem.F.args_tuple_index_2 _ _) (TI.tuple_indexAt a items.toArray n dct slots uy (eqU y) j bound ((says j z bound atJ).trans hit) fun m lt before => ?_)
      ⟨there, fun u' hu' => mem_eqAt ry fy reads fys u' (by simpa using hu'), .int (j : Nat), H, I.tok _, ⟨_, rfl⟩, rest⟩
    have inside : m < ys.length := by rw [List.size_toArray] at lt; omega
    rw [says m ys[m] lt (List.getElem?_eq_getElem inside)]
    exact miss m _ before (List.getElem?_eq_getElem inside)
def ixOf (x : Int) : List Int → Nat → Option Nat
  | [], _ => none
  | y :: ys, k => if y = x then some k else ixOf x ys (k + 1)
def gIndex (x y : PyData) : Option PyData := match x, y with
  | .tuple ds, .int i => (intsOf ds).bind fun ns => (ixOf i ns 0).map fun j => .int (j : Nat)
  | _, _ => none
theorem ixOf_spec {x : Int} : ∀ {ys : List Int} {k j : Nat}, ixOf x ys k = some j → ∃ i, j = k + i ∧ ys[i]? = some x ∧ ∀ m, m < i → ys[m]? ≠ some x
  | [], _, _, h => by cases h
  | y :: ys, k, j, h => by
    unfold ixOf at h
    split at h
    · cases h
      rename_i e
      exact ⟨0, rfl, by rw [← e]; rfl, fun m hm => absurd hm (Nat.not_lt_zero _)⟩
    · rename_i e
      obtain ⟨i, h1, h2, h3⟩ := ixOf_spec h
      refine ⟨i + 1, by omega, by simpa using h2, fun m hm => ?_⟩
      cases m with
      | zero => simpa using e
      | succ m => simpa using h3 m (by omega)
theorem flat_ints (ns : List Int) : (ns.map V.int).all flatV = true := by
  rw [List.all_map]
  exact List.all_eq_true.mpr (fun _ _ => rfl)
theorem eqV_int {i j : Int} : eqV (.int i) (.int j) = decide (i = j) := rfl
/-- a method of a tuple -/
def tBMT (K : PySem.W.Frag) (r : V → List V → Hp → VK → Prop) (to : TE) (t : TA) : TE := fun σ H Q => to σ H fun x H1 => (∃ a xs, x = .ref a ∧ SqT K H1 a xs ∧ TupN K H1 a) ∧ t σ H1 fun xs H2 => r x xs H2 Q
theorem pe_bmT {o e : Expr} {es : List Expr} {to : TE} {t : TA} {name : Str} {apos cpos : Pos} {id : String} {r : V → List V → Hp → VK → Prop} (slot : Slot "tuple" name id) (hty : typeOf (.builtin id) = pure (.type "method_descriptor")) (hm : MtR X id r) (ho : PE X o to) (ha : PA X (e :: es) t)
    (hbase : attributeBase o name X.env (eval o X.env) = eval o X.env := by exact rfl)
    (hfew : ((backTo cpos (starEach (e :: es) X.env)).all (fun xₐ => !xₐ.1) && (backToKw cpos (keywordEach [] X.env)).all (fun xₐ => xₐ.1.isSome) && decide ((e :: es).length + ([] : List Keyword).length + (if ([] : List Keyword).isEmpty then 0 else 1) < 30)) = true := by rfl)
    (hline : (apos.endLine == cpos.line) = true := by exact rfl) (hs : starEach (e :: es) X.env = (false, eval e X.env) :: starEach es X.env := by rfl) (hplain : (backTo cpos (starEach es X.env)).any (·.1) = false := by rfl) :
    PE X (.Call (.Attribute o name apos) (e :: es) [] cpos) (tBMT X.K r to t) := by
  refine ⟨fun pinsₐ s σₐ Hₐ Qₐ Iₐ hₐ => wpAny_Call_method_late hbase hfew hline rfl (thn (ho.run pinsₐ s σₐ Hₐ _ Iₐ hₐ) fun vₐ s1ₐ ⟨xₐ, H1ₐ, I1ₐ, r1ₐ, tyₐ, q1ₐ⟩ => ?_)⟩
  obtain ⟨aₐ, xsₐ, rfl, hqₐ, hnₐ⟩ := tyₐ
  cases r1ₐ
  obtain ⟨itsₐ, rvₐ, pₐ, _⟩ := I1ₐ.tuple hqₐ
  have hdₐ : ∃ ob, s1ₐ.heap.get? aₐ = some ob ∧ ob.dict = none := by
    rcases hnₐ with ⟨o, uₐ, hnₐ, zₐ⟩ | ⟨o, hlₐ, _, zₐ⟩
    · exact ⟨o, (I1ₐ.hok aₐ _ hnₐ).1, zₐ.1⟩
    · exact ⟨o, I1ₐ.kIn aₐ o hlₐ, zₐ.1⟩
  refine ⟨"tuple", id, PySem.F.plainAttrs_tuple, slot, hty, pₐ.typeIs, fun bₐ e => (by cases e; exact hdₐ), ?_⟩
  have hAₐ := ha.run cpos pinsₐ s1ₐ σₐ H1ₐ _ I1ₐ q1ₐ
  rw [hs] at hAₐ ⊢
  refine Calls.callWith_builtin (by show (false || (backTo cpos (starEach es X.env)).any (·.1)) = false; rw [hplain] <;> rfl) (Calls.evalArgs_plain (thn hAₐ fun usₐ s2ₐ ⟨vsₐ, H2ₐ, I2ₐ, r2ₐ, q2ₐ⟩ => hm pinsₐ s2ₐ σₐ H2ₐ (.ref aₐ) vsₐ (.ref aₐ) usₐ Qₐ I2ₐ rfl r2ₐ q2ₐ))
def isTupD (x : PyData) : Bool := match x with
  | .tuple _ => true
  | _ => false
def isLstD (x : PyData) : Bool := match x with
  | .list _ => true
  | _ => false
/-- the first one's kind is looked at ahead of the second one -/
def cBinK (chk : PyData → Bool) (g : PyData → PyData → Option PyData) (fa fb : En → M PyData) : En → M PyData := fun ρ => fa ρ >>= fun x => match chk x with
  | true => fb ρ >>= fun y => lift (g x y)
  | false => bad
theorem d_index {a b : Expr} {apos cpos : Pos} {fa fb : En → M PyData} (ha : PD X a fa) (hb : PD X b fb) (hbase : attributeBase a "index" X.env (eval a X.env) = eval a X.env := by rfl)
    (hfew : ((backTo cpos (starEach (b :: []) X.env)).all (fun x => !x.1) && (backToKw cpos (keywordEach [] X.env)).all (fun x => x.1.isSome) && decide ((b :: []).length + ([] : List Keyword).length + (if ([] : List Keyword).isEmpty then 0 else 1) < 30)) = true := by rfl)
    (hline : (apos.endLine == cpos.line) = true := by exact rfl) (hs : starEach (b :: []) X.env = (false, eval b X.env) :: starEach [] X.env := by rfl) (hplain : (backTo cpos (starEach [] X.env)).any (·.1) = false := by rfl) :
    PD X (.Call (.Attribute a "index" apos) [b] [] cpos) (cBinK isTupD gIndex fa fb) :=
  PE_imp (pe_bmT PySem.F.slot_tuple_index PySem.F.type_tuple_index mt_tupIx ha (pa_cons hb pa_nil hs) hbase hfew hline hs hplain) fun σ H Q ⟨av, q, ρ, S, A, p⟩ => by
    refine tE_step A p fun x S1 v H1 p1 e1 A1 d1 => ?_
    have hx : ∃ ds, x = .tuple ds := by
      cases x with
      | tuple ds => exact ⟨ds, rfl⟩
      | _ => exact False.elim p1
    obtain ⟨ds, rfl⟩ := hx
    have d1' := d1
    cases d1 with
    | tup hs hn hx =>
      refine ⟨⟨_, _, rfl, sqT_at hs, tupN_same msk_all hn⟩, ?_⟩
      refine tE_step A1 p1 fun y S2 w H2 p2 e2 A2 d2 => ?_
      obtain ⟨d, hd, k⟩ := post_lift p2
      have d3 := ext_dp A.feed.1 e2 d1'
      cases y with
      | int i =>
        cases d2
        cases z : intsOf ds with
        | none =>
          have hd' : (intsOf ds).bind (fun ns => (ixOf i ns 0).map fun (j : Nat) => PyData.int (j : Nat)) = some d := hd
          rw [z] at hd'; cases hd'
        | some ns =>
          have hd' : (intsOf ds).bind (fun ns => (ixOf i ns 0).map fun (j : Nat) => PyData.int (j : Nat)) = some d := hd
          rw [z] at hd'
          have hd2 : (ixOf i ns 0).map (fun (j : Nat) => PyData.int (j : Nat)) = some d := hd'
          cases y0 : ixOf i ns 0 with
          | none => rw [y0] at hd2; cases hd2
          | some j =>
            rw [y0] at hd2; cases hd2
            obtain ⟨j', hj, hat, hno⟩ := ixOf_spec y0
            rw [Nat.zero_add] at hj
            subst hj
            cases d3 with
            | tup hs3 hn3 hx3 =>
              have hv := ints_dp hx3 z
              subst hv
              refine ⟨_, _, .int i, j, .int i, rfl, rfl, sqT_at hs3, rfl, flat_ints ns, by rw [List.getElem?_map, hat]; rfl, by rw [eqV_int]; simp, fun m z' hm hz' => ?_, k _ H2 (e1.trans e2) A2.feed (.int _)⟩
              rw [List.getElem?_map] at hz'
              cases y1 : ns[m]? with
              | none => rw [y1] at hz'; cases hz'
              | some u =>
                rw [y1] at hz'; cases hz'
                rw [eqV_int]
                exact decide_eq_false fun z => hno m hm (by rw [y1, z])
      | _ => cases hd
/-! ### len(set(t)) of ints, no two the same -/
def cLenSet (f : En → M PyData) : En → M PyData := fun ρ => f ρ >>= fun x => lift (match x with
  | .tuple ds => (intsOf ds).bind fun ns => if ns.length ≤ 4000 then some (.int (ns.eraseDups.length : Nat)) else none
  | _ => none)
/-! ### n.bit_length(), list(range(n)) -/
def gBits (x : PyData) : Option PyData := match x with
  | .int i => some (.int (Builtin.Int.intBits i : Nat))
  | _ => none
theorem d_bits {o : Expr} {f : En → M PyData} {apos pos : Pos} (ho : PD X o f) (hbase : attributeBase o "bit_length" X.env (eval o X.env) = eval o X.env := by rfl) (hline : (apos.endLine == pos.line) = true := by rfl) : PD X (.Call (.Attribute o "bit_length" apos) [] [] pos) (cUn gBits f) :=
  PE_imp (pe_bits ho hbase hline) fun σ H Q ⟨av, q, ρ, S, A, p⟩ => by
    refine tE_step A p fun x S1 v H1 p1 e1 A1 d1 => ?_
    obtain ⟨d, hd, k⟩ := post_lift p1
    unfold gBits at hd
    split at hd
    · cases hd; cases d1
      exact ⟨_, rfl, k _ H1 e1 A1.feed (.int _)⟩
    · cases hd
theorem rgV_dp {K : PySem.W.Frag} {H : Hp} (n : Int) : DxAll K H (rgV 0 n) (rngD 0 n.toNat) := by
  unfold rgV rngD
  have key : ∀ (l : List Nat), DxAll K H (l.map fun i => V.int (0 + (i : Nat))) (l.map fun (k : Nat) => PyData.int (0 + k)) := fun l => by
    induction l with
    | nil => exact .nil
    | cons a l ih => exact .cons (.int _) ih
  have e : (n - 0).toNat = n.toNat := by omega
  rw [e]
  exact key _
def gRgL (x : PyData) : Option PyData := match x with
  | .int i => if decide (0 ≤ i ∧ i ≤ 16777216) then some (.list (rngD 0 i.toNat)) else none
  | _ => none
theorem d_listRg {a : Expr} {f : En → M PyData} {p p2 pos pos2 : Pos} (hc : X.calm = true) (hm : X.mg "list" = none) (hm2 : X.mg "range" = none) (ha : PD X a f) (hg : Gl X "list" := by rfl) (hg2 : Gl X "range" := by rfl) (na : starEach [a] X.env = (false, eval a X.env) :: starEach [] X.env := by rfl)
    (nb : starEach [Expr.Call (.Name "range" p2) [a] [] pos2] X.env = (false, eval (Expr.Call (.Name "range" p2) [a] [] pos2) X.env) :: starEach [] X.env := by rfl) : PD X (.Call (.Name "list" p) [.Call (.Name "range" p2) [a] [] pos2] [] pos) (cUn gRgL f) :=
  PE_imp (pe_listRg hc hg hm (prg_1 hg2 hm2 ha na) nb) fun σ H Q ⟨av, q, ρ, S, A, p⟩ => by
    refine tE_step A p fun x S1 v H1 p1 e1 A1 d1 => ?_
    obtain ⟨d, hd, k⟩ := post_lift p1
    unfold gRgL at hd
    split at hd
    · split at hd
      · rename_i hh
        have hh := of_decide_eq_true hh
        cases hd; cases d1
        exact ⟨_, rfl, RgOk.of_le (by omega) hh.2 (by omega) hh.1, fun p hp => k _ _ (e1.trans (Ext.new hp)) (feed_same A1.feed (same_new hp)) (dp_newLst A1.trk hp (rgV_dp _))⟩
      · cases hd
    · cases hd
/-! ### a, b = x, y -/
def sPar (i j : Nat) (fs : En → M (List Ag)) : En → M Fl := fun ρ => fs ρ >>= fun as => match as with
  | [.d x, .d y] => pure (.nx ((ρ.set i (some (.im x))).set j (some (.im y))))
  | _ => bad
theorem s_par {i j : Nat} {x y : Str} {a b : Expr} {fs : En → M (List Ag)} {px py pt pos : Pos} {kt k2 pt2} (hc : X.calm = true) (hN : X.N.Nodup) (ha : PG_A X [a, b] fs) (hi : X.N[i]? = some x := by rfl) (hj : X.N[j]? = some y := by rfl) (hij : i ≠ j := by decide)
    (hx : X.env.scope.names.lookup x = some .local := by rfl) (hy : X.env.scope.names.lookup y = some .local := by rfl)
    (hw : swappedStores [.Tuple [.Name x px, .Name y py] kt pt] (.Tuple [a, b] k2 pt2) X.env = pure (some [x, y]) := by rfl)
    (hs : swapsWithSole [.Tuple [.Name x px, .Name y py] kt pt] (.Tuple [a, b] k2 pt2) pos.line X.env = pure false := by exact rfl) :
    PSD X (.Assign [.Tuple [.Name x px, .Name y py] kt pt] (.Tuple [a, b] k2 pt2) pos) (sPar i j fs) := PS_imp (ps_par hc hN hi hj hij hx hy ha hw hs) fun Dₐ σₐ Hₐ ⟨H0ₐ, av0ₐ, x0ₐ, avₐ, qₐ, ρₐ, Sₐ, Wₐ, pₐ⟩ => by
  refine tAg_stepS Wₐ pₐ fun asₐ S1ₐ vsₐ H1ₐ p1ₐ e1ₐ A1ₐ d1ₐ => ?_
  split at p1ₐ
  · cases d1ₐ with
    | cons h1ₐ h2ₐ =>
      cases h2ₐ with
      | cons h3ₐ h4ₐ =>
        cases h4ₐ
        have W1ₐ := Wₐ.ext e1ₐ A1ₐ
        exact ⟨_, _, rfl, p1ₐ avₐ _ H1ₐ (W1ₐ.sub ((A1ₐ.set h1ₐ).set h3ₐ) (is := [i] ++ [j]) (owSub_set.trans owSub_set) fun mₐ hmₐ => by
          have n1ₐ : i ≠ mₐ := fun zₐ => hmₐ (by simp [zₐ])
          have n2ₐ : j ≠ mₐ := fun zₐ => hmₐ (by simp [zₐ])
          rw [List.getElem?_set_ne n2ₐ, List.getElem?_set_ne n1ₐ])⟩
  · exact False.elim p1ₐ
end
end G
end

section
set_option Elab.async false
set_option linter.all false
set_option maxRecDepth 100000
set_option maxHeartbeats 4100000
namespace G
open L2 PySem.Spec PyProof.Rows PySem
variable [LamT]
section
variable {X : Cx}
/-! ### name = [..] -/
theorem s_lc {i : Nat} {y : Str} {py : Pos} {elt tg iter : Expr} {ifs : List Expr} {scope : Scope} {own : List (Str × Nat)} {pos spos : Pos} {fi : En → M (List PyData)} {is : List Nat} {b : PyData → En → Option En} {t : En → M Bool} {fe : En → M PyData} (hc : X.calm = true) (hN : X.N.Nodup) (hi : PID X tg iter fi) (ok : BlkOk X.N X.env.scope scope own)
    (hg : ∀ (s : Shared) (H : Hp) (C : Addr) (cl : List (Str × Addr)) (fp : List Addr), PGD (X.blk s H scope (compEnvC scope cl C X.env) fp) tg is b) (ht : ∀ (s : Shared) (H : Hp) (C : Addr) (cl : List (Str × Addr)) (fp : List Addr), PTsD (X.blk s H scope (compEnvC scope cl C X.env) fp) ifs t)
    (he : ∀ (s : Shared) (H : Hp) (C : Addr) (cl : List (Str × Addr)) (fp : List Addr), PD (X.blk s H scope (compEnvC scope cl C X.env) fp) elt fe) (hy : X.N[i]? = some y := by rfl) (hyl : X.env.scope.names.lookup y = some .local := by rfl)
    (hsw : swapsWith (.ListComp elt [⟨tg, iter, ifs, 0⟩] scope pos) (some (.Name y py)) spos.line X.env = pure true) (his : ∀ i ∈ is, i ∈ own.map (·.2) := by decide) (hs : ∀ x, foldedSetIterable iter X.env x = pure x := by intro _; rfl) :
    PSD X (.Assign [.Name y py] (.ListComp elt [⟨tg, iter, ifs, 0⟩] scope pos) spos) (sAsg (cLc fi (own.map (·.2)) b t fe) (bNm i)) :=
  PS_imp (ps_setLc (g := tGd X.K is b) (tt := tD X.K W0 t) (te := tE X.K W0 fe) hc hN hy hyl hsw hi ok hg ht (fun s H C cl fp => (he s H C cl fp).w0) hs) fun D σ H ⟨H0, av0, x0, av, q, ρ, S, W, p⟩ => by
    refine tLc_of his σ H _ (tE_stepS W p fun x S1 v H1 p1 e1 A1 d1 => ?_)
    have W1 := W.ext e1 A1
    obtain ⟨fl, hf, k⟩ := post_lift p1
    cases hf
    exact k av _ H1 (W1.sub (A1.set d1) (is := [i]) owSub_set fun j hj => by rw [List.getElem?_set_ne (by simpa using fun z => hj (by simp [z]))])

/-! ### two clauses -/
def noOw (ρ : En) : Bool := ρ.all fun o => match o with
  | some (.ow _) => false
  | _ => true
theorem noOw_ok {ρ : En} (h : noOw ρ = true) (σ : G.St) (D : Addr) : NotOw ρ σ D := fun i l e => by
  have := List.all_eq_true.mp h _ (List.mem_of_getElem? e)
  cases this
def lc2In (vs1 : List Nat) (b1 : PyData → En → Option En) (t1 : En → M Bool) (fe : En → M PyData) (ρ : En) : List PyData → Nat → List PyData → M (Nat × List PyData)
  | [], n, acc => pure (n, acc)
  | d :: ds, n, acc => match b1 d (wipeE ρ vs1) with
    | none => bad
    | some ρ1 => sil (t1 ρ1) >>= fun c => if c then sil (fe ρ1) >>= fun y => if Nat.blt n 16777216 then lc2In vs1 b1 t1 fe ρ ds (n + 1) (y :: acc) else bad else lc2In vs1 b1 t1 fe ρ ds n acc
def lc2Go (vs : List Nat) (b : PyData → En → Option En) (t : En → M Bool) (fi1 : En → M (List PyData)) (vs1 : List Nat) (b1 : PyData → En → Option En) (t1 : En → M Bool) (fe : En → M PyData) (ρ : En) : List PyData → Nat → List PyData → M PyData
  | [], _, acc => pure (.list acc.reverse)
  | d :: ds, n, acc => match b d (wipeE ρ vs) with
    | none => bad
    | some ρ1 => if noOw ρ1 then sil (t ρ1) >>= fun c => if c then sil (fi1 ρ1) >>= fun ds1 => lc2In vs1 b1 t1 fe ρ1 ds1 n acc >>= fun r => lc2Go vs b t fi1 vs1 b1 t1 fe ρ ds r.1 r.2 else lc2Go vs b t fi1 vs1 b1 t1 fe ρ ds n acc else bad
def cLc2 (fi : En → M (List PyData)) (vs : List Nat) (b : PyData → En → Option En) (t : En → M Bool) (fi1 : En → M (List PyData)) (vs1 : List Nat) (b1 : PyData → En → Option En) (t1 : En → M Bool) (fe : En → M PyData) : En → M PyData := fun ρ => fi ρ >>= fun ds => lc2Go vs b t fi1 vs1 b1 t1 fe ρ ds 0 []
theorem post_bind' {α β : Type} {m : M α} {f : α → M β} {S : Fd} {k : β → Fd → Prop} {x : Xn → Fd → Prop} (h : (m S).post (fun a S' => (f a S').post k x) x) : ((m >>= f) S).post k x := by
  show (M.bind m f S).post k x
  unfold M.bind
  cases e : m S with
  | ok a S' => rw [e] at h; exact h
  | ex a S' => rw [e] at h; exact h
  | bad => rw [e] at h; exact h
theorem tLc2_of {K : PySem.W.Frag} {Wx : WX} {fi fi1 : En → M (List PyData)} {is is1 vs0 vs1 : List Nat} {b b1 : PyData → En → Option En} {t t1 : En → M Bool} {fe : En → M PyData} (his : ∀ i ∈ is, i ∈ vs0) (his1 : ∀ i ∈ is1, i ∈ vs1) (σ : G.St) (H : Hp) (Q : VK) (h : tE K Wx (cLc2 fi vs0 b t fi1 vs1 b1 t1 fe) σ H Q) :
    tLc2 (tI K Wx fi) (tGd K is b) (tD K W0 t) (tI K W0 fi1) (tGd K is1 b1) (tD K W0 t1) (tE K W0 fe) vs0 vs1 σ H Q := by
  obtain ⟨av, q, ρ, S, A, p⟩ := h
  refine ⟨av, q, ρ, S, A, R.post_imp (post_bind p) (fun ds S1 p1 J H1 e1 f1 wk => ?_) fun _ _ z => z⟩
  have A1 := A.ext e1 f1
  intro D hD
  let kQ : PyData → Fd → Prop := fun d S' => ∀ v H', Ext (mv q) H H' → FeedAt av q S' H' → Dx K (msk av H') v d → Q v H'
  -- what holds of the list under way
  let Wy : Hp → Fd → List PyData → Prop := fun H' S' acc => ∃ ws, At K (D :: av) q ρ S' σ H' ∧ Ext (mv q) H1 H' ∧ H' D = some (.lst ws) ∧ DxAll K (msk (D :: av) H') ws acc.reverse
  let xQ : Xn → Fd → Prop := xE K (wa Wx σ) av q H
  have qin : ∀ p ∈ mv q, p ∈ D :: av := fun p h => List.mem_cons_of_mem D (A1.feed.1 p h)
  have Hq : D ∉ mv q := fun z => by
    obtain ⟨o, h⟩ := A1.trk D (A1.feed.1 D z)
    rw [hD] at h; cases h
  have on : ∀ {H' H'' : Hp} {S' S'' : Fd} {acc : List PyData}, Wy H' S' acc → Ext (mv q) H' H'' → FeedAt (D :: av) q S'' H'' → Wy H'' S'' acc := fun {H' H'' S' S'' acc} ⟨ws, a, b, c, d⟩ e f =>
    ⟨ws, a.ext e f, fun x o n hx => e x o n (b x o n hx), e D _ Hq c, ext_dps qin e d⟩
  refine ⟨fun i m H' => m = ds.length - i ∧ i ≤ ds.length ∧ ∃ (S' : Fd) (acc : List PyData), Wy H' S' acc ∧ (lc2Go vs0 b t fi1 vs1 b1 t1 fe ρ (ds.drop i) acc.length acc S').post kQ xQ,
    ⟨ds.length, by simp, Nat.zero_le _, S1, [], ⟨[], at_new A1 hD, Ext.new hD, upd_same, .nil⟩, p1⟩, ?_⟩
  rintro i m H' ⟨rfl, hi, S', acc, Wv, p'⟩
  have Wv' := Wv
  obtain ⟨ws, A', e', hvs, hacc⟩ := Wv'
  have w := wk (D :: av) H' (fun p h => by simp [h]) (fun p h n => by
    rcases (List.mem_cons.mp h) with z | z
    · rw [z]; exact hD
    · exact absurd z n) (e'.more A1.feed.1) A'.trk i
  by_cases hlt : i < ds.length
  · have hd : ds[i]? = some ds[i] := by simp [hlt]
    obtain ⟨go, y⟩ := w.1 _ hd
    have dr : ds.drop i = ds[i] :: ds.drop (i + 1) := by rw [List.drop_eq_getElem_cons hlt]
    rw [dr] at p'
    refine .inr ⟨go, fun H'' => ∃ (S' : Fd) (acc : List PyData), Wy H'' S' acc ∧ (lc2Go vs0 b t fi1 vs1 b1 t1 fe ρ (ds.drop (i + 1)) acc.length acc S').post kQ xQ, fun H'' h => ⟨ds.length - (i + 1), by omega, rfl, hlt, h⟩, fun x H2 yl => ?_⟩
    obtain ⟨sm, dx⟩ := y x H2 yl
    have f2 := feed_same A'.feed sm
    have A2 : At K (D :: av) q ρ S' σ H2 := A'.ext (Ext.of_same sm) f2
    have W2 := on Wv (Ext.of_same sm) f2
    have p2 : (match b ds[i] (wipeE ρ vs0) with
      | none => bad
      | some ρ1 => if noOw ρ1 then sil (t ρ1) >>= fun c => if c then sil (fi1 ρ1) >>= fun ds1 => lc2In vs1 b1 t1 fe ρ1 ds1 acc.length acc >>= fun r => lc2Go vs0 b t fi1 vs1 b1 t1 fe ρ (ds.drop (i + 1)) r.1 r.2 else lc2Go vs0 b t fi1 vs1 b1 t1 fe ρ (ds.drop (i + 1)) acc.length acc else bad : M PyData) S' |>.post kQ xQ := p'
    cases hb : b ds[i] (wipeE ρ vs0) with
    | none => rw [hb] at p2; exact False.elim p2
    | some ρ1 =>
      rw [hb] at p2
      have p2' : (if noOw ρ1 then sil (t ρ1) >>= fun c => if c then sil (fi1 ρ1) >>= fun ds1 => lc2In vs1 b1 t1 fe ρ1 ds1 acc.length acc >>= fun r => lc2Go vs0 b t fi1 vs1 b1 t1 fe ρ (ds.drop (i + 1)) r.1 r.2 else lc2Go vs0 b t fi1 vs1 b1 t1 fe ρ (ds.drop (i + 1)) acc.length acc else bad : M PyData) S' |>.post kQ xQ := p2
      cases hno : noOw ρ1 with
      | false => rw [hno] at p2'; exact False.elim p2'
      | true =>
      rw [hno] at p2'
      have p3 : ((sil (t ρ1) >>= fun c => if c then sil (fi1 ρ1) >>= fun ds1 => lc2In vs1 b1 t1 fe ρ1 ds1 acc.length acc >>= fun r => lc2Go vs0 b t fi1 vs1 b1 t1 fe ρ (ds.drop (i + 1)) r.1 r.2 else lc2Go vs0 b t fi1 vs1 b1 t1 fe ρ (ds.drop (i + 1)) acc.length acc : M PyData) S').post kQ xQ := p2'
      refine ⟨D :: av, q, wipeE ρ vs0, S', ds[i], A2.wipe _, dx, ρ1, hb, fun σ2 A3 hl ho _ => ?_⟩
      refine ⟨(wipe_off his hl ho).trans wipe_idem, ?_⟩
      refine ⟨D :: av, q, ρ1, S', A3, R.post_imp (post_sil (post_bind p3)) (fun c S2 p4 H3 e3 f3 => ?_) fun _ _ z => z⟩
      have A4 := A3.ext e3 f3
      have W3 := on W2 e3 A4.feed
      cases c with
      | false => exact iteF ⟨S2, acc, W3, p4⟩
      | true =>
        refine iteT ⟨D :: av, q, ρ1, S2, A4, R.post_imp (post_sil (post_bind p4)) (fun ds1 S3 p5 J1 H4 e4 f4 wk1 => ?_) fun _ _ z => z⟩
        have A5 := A4.ext e4 f4
        have W4 := on W3 e4 f4
        refine ⟨fun j m H' => m = ds1.length - j ∧ j ≤ ds1.length ∧ ∃ (S' : Fd) (acc : List PyData), Wy H' S' acc ∧ At K (D :: av) q ρ1 S' σ2 H' ∧ Ext (D :: mv q) H4 H' ∧ ((lc2In vs1 b1 t1 fe ρ1 (ds1.drop j) acc.length acc >>= fun r => lc2Go vs0 b t fi1 vs1 b1 t1 fe ρ (ds.drop (i + 1)) r.1 r.2) S').post kQ xQ,
          ⟨ds1.length, by simp, Nat.zero_le _, S3, acc, W4, A5, Ext.refl _, p5⟩, ?_⟩
        rintro j m H' ⟨rfl, hj, S', acc, Wv1, B, eD, pj⟩
        have w1 := wk1 (D :: av) H' (fun p h => h) (fun p h n => absurd h n) (eD.more fun p h => by
          rcases (List.mem_cons.mp h) with z | z
          · rw [z]; exact List.mem_cons_self
          · exact qin p z) B.trk j
        by_cases hlt1 : j < ds1.length
        · have hd1 : ds1[j]? = some ds1[j] := by simp [hlt1]
          obtain ⟨go1, y1⟩ := w1.1 _ hd1
          have dr1 : ds1.drop j = ds1[j] :: ds1.drop (j + 1) := by rw [List.drop_eq_getElem_cons hlt1]
          rw [dr1] at pj
          refine .inr ⟨go1, fun H'' => ∃ (S' : Fd) (acc : List PyData), Wy H'' S' acc ∧ At K (D :: av) q ρ1 S' σ2 H'' ∧ Ext (D :: mv q) H4 H'' ∧ ((lc2In vs1 b1 t1 fe ρ1 (ds1.drop (j + 1)) acc.length acc >>= fun r => lc2Go vs0 b t fi1 vs1 b1 t1 fe ρ (ds.drop (i + 1)) r.1 r.2) S').post kQ xQ,
            fun H'' h => ⟨ds1.length - (j + 1), by omega, rfl, hlt1, h⟩, fun x1 H5 yl1 => ?_⟩
          obtain ⟨sm1, dx1⟩ := y1 x1 H5 yl1
          have f5 := feed_same B.feed sm1
          have B5 := B.ext (Ext.of_same sm1) f5
          have W5 := on Wv1 (Ext.of_same sm1) f5
          have eD5 : Ext (D :: mv q) H4 H5 := fun x o n hx => sm1 x o (eD x o n hx)
          have pk : (((match b1 ds1[j] (wipeE ρ1 vs1) with
            | none => bad
            | some ρ3 => sil (t1 ρ3) >>= fun c => if c then sil (fe ρ3) >>= fun y => if Nat.blt acc.length 16777216 then lc2In vs1 b1 t1 fe ρ1 (ds1.drop (j + 1)) (acc.length + 1) (y :: acc) else bad else lc2In vs1 b1 t1 fe ρ1 (ds1.drop (j + 1)) acc.length acc : M (Nat × List PyData)) >>= fun r => lc2Go vs0 b t fi1 vs1 b1 t1 fe ρ (ds.drop (i + 1)) r.1 r.2) S').post kQ xQ := pj
          cases hb1 : b1 ds1[j] (wipeE ρ1 vs1) with
          | none => rw [hb1] at pk; exact False.elim pk
          | some ρ3 =>
            rw [hb1] at pk
            refine ⟨D :: av, q, wipeE ρ1 vs1, S', ds1[j], B5.wipe _, dx1, ρ3, hb1, fun σ3 A6 hl1 ho1 _ => ?_⟩
            refine ⟨(wipe_off his1 hl1 ho1).trans wipe_idem, ?_⟩
            have pk2 := post_sil (x' := xE K (wa W0 σ3) (D :: av) q H5) (post_bind (post_bind pk))
            refine ⟨D :: av, q, ρ3, S', A6, R.post_imp pk2 (fun c1 S6 p6 H6 e6 f6 => ?_) fun _ _ z => z⟩
            have A7 := A6.ext e6 f6
            have B6 := B5.ext e6 f6
            have W6 := on W5 e6 f6
            have eD6 : Ext (D :: mv q) H4 H6 := fun x o n hx => e6 x o (fun z => n (List.mem_cons_of_mem _ z)) (eD5 x o n hx)
            cases c1 with
            | false =>
              exact iteF ⟨S6, acc, W6, B6, eD6, post_bind' p6⟩
            | true =>
              refine iteT ⟨D :: av, q, ρ3, S6, A7, R.post_imp (post_sil (post_bind p6)) (fun y S7 p7 v H7 e7 f7 d8 => ?_) fun _ _ z => z⟩
              have A8 := A7.ext e7 f7
              obtain ⟨ws7, a7, b7, c7, d7⟩ := on W6 e7 A8.feed
              have B7 := B6.ext e7 A8.feed
              cases hz : Nat.blt acc.length 16777216 with
              | true =>
                have hz' : acc.length < 16777216 := by simpa [Nat.blt_eq] using hz
                rw [hz] at p7
                refine ⟨ws7, c7, by rw [dps_len d7, List.length_reverse, sizeLine_eq]; exact hz', S7, y :: acc, ⟨ws7 ++ [v], at_put a7 (by simp) (notOw_new A1 hD) Hq c7, fun x o n hx => ?_, upd_same, ?_⟩, at_put B7 (by simp) (noOw_ok hno σ2 D) Hq c7, fun x o n hx => ?_, post_bind' p7⟩
                · rw [upd_ne (ne_of_none hx hD)]; exact b7 x o n hx
                · have sm4 : Same (msk (D :: av) H7) (msk (D :: av) (upd H7 D (.lst (ws7 ++ [v])))) := fun b o z => by
                    obtain ⟨nb, z⟩ := msk_some z
                    exact msk_of nb (by rw [upd_ne fun y => nb (by simp [y])]; exact z)
                  rw [List.reverse_cons]
                  exact dps_app (dps_same sm4 _ _ d7) (dps_one (dp_same sm4 _ _ d8))
                · rw [upd_ne fun y => n (by simp [y])]
                  exact e7 x o (fun z => n (List.mem_cons_of_mem _ z)) (eD6 x o n hx)
              | false => rw [hz] at p7; exact False.elim p7
        · have e : j = ds1.length := by omega
          subst e
          rw [List.drop_length] at pj
          refine .inl ⟨w1.2 (Nat.le_refl _), S', acc, Wv1, pj⟩
  · have e : i = ds.length := by omega
    subst e
    rw [List.drop_length] at p'
    have kk : ∀ v H', Ext (mv q) H H' → FeedAt av q S' H' → Dx K (msk av H') v (.list acc.reverse) → Q v H' := p'
    refine .inl ⟨w.2 (Nat.le_refl _), kk _ H' (e1.trans e') (A'.feed.less (fun p h => by simp [h]) A1.feed.1) ?_⟩
    exact .lst (msk_of (not_av A1.trk hD) hvs) (dps_same (msk_less fun p h => by simp [h]) acc.reverse ws hacc)
theorem d_lc2 {elt tg iter tg1 iter1 : Expr} {ifs ifs1 : List Expr} {scope : Scope} {own : List (Str × Nat)} {vs1 : List Nat} {pos : Pos} {fi fi1 : En → M (List PyData)} {is is1 : List Nat} {b b1 : PyData → En → Option En} {t t1 : En → M Bool} {fe : En → M PyData} (hc : X.calm = true) (hN : X.N.Nodup) (hi : PID X tg iter fi) (ok : BlkOk X.N X.env.scope scope own) (hv : ∀ i ∈ vs1, i ∈ own.map (·.2))
    (hg : ∀ (s : Shared) (H : Hp) (C : Addr) (cl : List (Str × Addr)) (fp : List Addr), PGD (X.blk s H scope (compEnvC scope cl C X.env) fp) tg is b) (ht : ∀ (s : Shared) (H : Hp) (C : Addr) (cl : List (Str × Addr)) (fp : List Addr), PTsD (X.blk s H scope (compEnvC scope cl C X.env) fp) ifs t)
    (hi1 : ∀ (s : Shared) (H : Hp) (C : Addr) (cl : List (Str × Addr)) (fp : List Addr), PID (X.blk s H scope (compEnvC scope cl C X.env) fp) tg1 iter1 fi1)
    (hg1 : ∀ (s : Shared) (H : Hp) (C : Addr) (cl : List (Str × Addr)) (fp : List Addr), PGD (X.blk s H scope (compEnvC scope cl C X.env) fp) tg1 is1 b1) (ht1 : ∀ (s : Shared) (H : Hp) (C : Addr) (cl : List (Str × Addr)) (fp : List Addr), PTsD (X.blk s H scope (compEnvC scope cl C X.env) fp) ifs1 t1)
    (he : ∀ (s : Shared) (H : Hp) (C : Addr) (cl : List (Str × Addr)) (fp : List Addr), PD (X.blk s H scope (compEnvC scope cl C X.env) fp) elt fe) (his : ∀ i ∈ is, i ∈ own.map (·.2) := by decide) (his1 : ∀ i ∈ is1, i ∈ vs1 := by decide) (hs : ∀ x, foldedSetIterable iter X.env x = pure x := by intro _; rfl) (hs1 : ∀ env x, foldedSetIterable iter1 env x = pure x := by intro _ _; rfl) :
    PD X (.ListComp elt [⟨tg, iter, ifs, 0⟩, ⟨tg1, iter1, ifs1, 0⟩] scope pos) (cLc2 fi (own.map (·.2)) b t fi1 vs1 b1 t1 fe) :=
  PE_imp (pe_lc2 (wi1 := tI X.K W0 fi1) (g := tGd X.K is b) (g1 := tGd X.K is1 b1) (tt := tD X.K W0 t) (tt1 := tD X.K W0 t1) (te := tE X.K W0 fe) hc hN hi ok hv hg ht (fun s H C cl fp => (hi1 s H C cl fp).w0) hg1 ht1 (fun s H C cl fp => (he s H C cl fp).w0) hs hs1) (tLc2_of his his1)

/-! ### lists put together -/
variable {a b : Expr} {fa fb : En → M PyData} {pos : Pos}
def gCat (x y : PyData) : Option PyData := match x, y with
  | .list l, .list m => if decide (l.length + m.length ≤ 16777216) then some (.list (l ++ m)) else none
  | _, _ => none
theorem d_cat (ha : PD X a fa) (hb : PD X b fb) : PD X (.BinOp a .Add b pos) (cBin gCat fa fb) := d_bin op_cat (fun av H x y d v w Q t hd hx hy k => by
  unfold gCat at hd
  split at hd
  · split at hd
    · rename_i hh
      have hh := of_decide_eq_true hh
      cases hd
      cases hx with
      | lst h1 x1 =>
        cases hy with
        | lst h2 x2 => exact ⟨_, _, _, _, rfl, rfl, (msk_some h1).2, (msk_some h2).2, by rw [dps_len x1, dps_len x2, sizeLine_eq]; exact hh, fun p hp => k _ _ (same_new hp) (dp_newLst t hp (dps_app x1 x2))⟩
    · cases hd
  · cases hd) ha hb
def gRep (x y : PyData) : Option PyData := match x, y with
  | .list l, .int n => if decide (0 ≤ n ∧ n ≤ 16777216 ∧ l.length * n.toNat ≤ 16777216) then some (.list (List.replicate n.toNat l).flatten) else none
  | _, _ => none
end
end G
end

section
set_option Elab.async false
set_option linter.all false
set_option maxRecDepth 100000
set_option maxHeartbeats 4100000
namespace G
open L2 PySem.Spec PyProof.Rows PySem
variable [LamT]
section
variable {X : Cx} {a b : Expr} {fa fb : En → M PyData} {pos : Pos}
def gNeg (x : PyData) : Option PyData := match x with
  | .int i => some (.int (-i))
  | _ => none
theorem d_neg' (ha : PD X a fa) : PD X (.UnaryOp .USub a pos) (cUn gNeg fa) := PE_imp (pe_un un_neg ha) fun σ H Q ⟨av, q, ρ, S, A, p⟩ => by
  refine tE_step A p fun x S1 v H1 p1 e1 A1 d1 => ?_
  obtain ⟨d, hd, k⟩ := post_lift p1
  unfold gNeg at hd
  split at hd
  · cases d1; cases hd
    exact ⟨_, rfl, k _ H1 e1 A1.feed (.int _)⟩
  · cases hd
/-- int(x) of an int -/
def gInt (x : PyData) : Option PyData := match x with
  | .int i => some (.int i)
  | .bool b => some (.int (if b then 1 else 0))
  | _ => none
theorem d_intOf {p : Pos} (hm : X.mg "int" = none) (ha : PD X a fa) (hg : Gl X "int" := by rfl) (hv : bootBuiltins "int" = some (.type "int") := by decide +kernel)
    (he : starEach (a :: []) X.env = (false, eval a X.env) :: starEach [] X.env := by rfl) (hpl : (backTo pos (starEach [] X.env)).any (·.1) = false := by rfl) : PD X (.Call (.Name "int" p) [a] [] pos) (cUn gInt fa) :=
  PE_imp (pe_callTy call_int1 hg hm hv (pa_cons ha pa_nil he) (by decide) (by decide) he hpl) fun σ H Q ⟨av, q, ρ, S, A, p⟩ => by
    refine tE_step A p fun x S1 v H1 p1 e1 A1 d1 => ?_
    obtain ⟨d, hd, k⟩ := post_lift p1
    unfold gInt at hd
    split at hd
    · cases hd; cases d1
      exact .inl ⟨_, rfl, k _ H1 e1 A1.feed (.int _)⟩
    · cases hd; cases d1
      exact .inr ⟨_, rfl, k _ H1 e1 A1.feed (.int _)⟩
    · cases hd
/-! ### len(set(t)) of ints -/
def ddup : List Int → List Int
  | [] => []
  | x :: l => if x ∈ l then ddup l else x :: ddup l
theorem mem_ddup {k : Int} : ∀ {l : List Int}, k ∈ ddup l ↔ k ∈ l
  | [] => Iff.rfl
  | x :: l => by
    unfold ddup
    have ih := mem_ddup (k := k) (l := l)
    by_cases h : x ∈ l
    · rw [if_pos h, ih, List.mem_cons]
      exact ⟨.inr, fun z => z.elim (fun e => by rw [e]; exact h) id⟩
    · rw [if_neg h, List.mem_cons, List.mem_cons, ih]
theorem nodup_ddup : ∀ {l : List Int}, (ddup l).Nodup
  | [] => List.nodup_nil
  | x :: l => by
    unfold ddup
    by_cases h : x ∈ l
    · rw [if_pos h]; exact nodup_ddup
    · rw [if_neg h]; exact List.nodup_cons.mpr ⟨fun z => h (mem_ddup.mp z), nodup_ddup⟩
theorem len_le_of_sub : ∀ {l m : List Int}, l.Nodup → (∀ k ∈ l, k ∈ m) → l.length ≤ m.length
  | [], _, _, _ => (Nat.zero_le _)
  | x :: l, m, ndₐ, hₐ => by
    have hxₐ : x ∈ m := hₐ x List.mem_cons_self
    have nd'ₐ := List.nodup_cons.mp ndₐ
    have ihₐ := len_le_of_sub (l := l) (m := m.erase x) nd'ₐ.2 fun k hkₐ => (List.mem_erase_of_ne fun eₐ => nd'ₐ.1 (by rw [← eₐ]; exact hkₐ)).mpr (hₐ k (List.mem_cons_of_mem _ hkₐ))
    rw [List.length_erase_of_mem hxₐ] at ihₐ
    have : 0 < m.length := List.length_pos_of_mem hxₐ
    rw [List.length_cons]; omega
theorem len_ddup {l ks : List Int} (nd : ks.Nodup) (h : ∀ k, k ∈ ks ↔ k ∈ l) : ks.length = (ddup l).length :=
  Nat.le_antisymm (len_le_of_sub nd fun k hk => mem_ddup.mpr ((h k).mp hk)) (len_le_of_sub nodup_ddup fun k hk => (h k).mpr (mem_ddup.mp hk))
def gLenSet (x : PyData) : Option PyData := match x with
  | .tuple ds => (intsOf ds).bind fun ns => if ns.length ≤ 4000 then some (.int (ddup ns).length) else none
  | _ => none
theorem d_lenSet {p p2 q1 pos : Pos} (hc : X.calm = true) (hm : X.mg "len" = none) (hm2 : X.mg "set" = none) (ha : PD X a fa) (hg : Gl X "len" := by rfl) (hg2 : Gl X "set" := by rfl) (na : starEach [a] X.env = (false, eval a X.env) :: starEach [] X.env := by rfl) :
    PD X (.Call (.Name "len" p) [.Call (.Name "set" p2) [a] [] q1] [] pos) (cUn gLenSet fa) := by
  refine ⟨fun pinsₐ s σₐ Hₐ Qₐ Iₐ ⟨avₐ, qₐ, ρₐ, Sₐ, A, ppₐ⟩ => ?_⟩
  refine Call_ (ld_blt Iₐ hg hm boot_len (PyProof.Rows.callWith_builtin1 (PyProof.Rows.args_cons ?_ rfl) rfl rfl))
  refine Call_ (ld_blt Iₐ hg2 hm2 boot_set (PyProof.Rows.callWith_type1 (PyProof.Rows.args_cons (thn (ha.run pinsₐ s σₐ Hₐ (fun vₐ H1ₐ => ∃ (lₐ : Addr) (nsₐ : List Int), vₐ = .ref lₐ ∧ SqT X.K H1ₐ lₐ (nsₐ.map V.int) ∧ nsₐ.length ≤ 4000 ∧ Qₐ (.int (ddup nsₐ).length) H1ₐ) Iₐ (tE_step A ppₐ fun xₐ S1ₐ vₐ H1ₐ p1ₐ e1ₐ A1ₐ d1ₐ => ?_)) fun vₐ s1ₐ ⟨xₐ, H1ₐ, I1ₐ, r1ₐ, lₐ, nsₐ, exₐ, hqₐ, hlₐ, q1⟩ => PyProof.Rows.args_nil ?_) na) na rfl))
  · obtain ⟨dₐ, hdₐ, kₐ⟩ := post_lift p1ₐ
    cases xₐ with
    | tuple dsₐ =>
      have hd'ₐ : (intsOf dsₐ).bind (fun nsₐ => if nsₐ.length ≤ 4000 then some (PyData.int (ddup nsₐ).length) else none) = some dₐ := hdₐ
      cases zₐ : intsOf dsₐ with
      | none => rw [zₐ] at hd'ₐ; cases hd'ₐ
      | some nsₐ =>
        rw [zₐ] at hd'ₐ
        have hd2ₐ : (if nsₐ.length ≤ 4000 then some (PyData.int (ddup nsₐ).length) else none) = some dₐ := hd'ₐ
        split at hd2ₐ
        · cases hd2ₐ
          cases d1ₐ with
          | tup hsₐ hnₐ hxₐ =>
            have := ints_dp hxₐ zₐ
            subst this
            exact ⟨_, nsₐ, rfl, sqT_at hsₐ, by assumption, kₐ _ H1ₐ e1ₐ A1ₐ.feed (.int _)⟩
        · cases hd2ₐ
    | _ => cases hdₐ
  · subst exₐ
    cases r1ₐ
    obtain ⟨itsₐ, rₐ, plₐ, hzₐ⟩ := I1ₐ.tuple hqₐ
    refine call_set_tupI nsₐ (I1ₐ.ok.hd hc) plₐ (RZ.intsAre_vals (by simpa using rₐ)) (by unfold scanBound; omega) fun h'ₐ tkₐ cₐ hSₐ hclₐ hkₐ => PyProof.Rows.args_nil ?_
    obtain ⟨oₐ, esₐ, epₐ, tₐ, hoₐ, hexₐ, hdₐ, hgeₐ, hndₐ, hmemₐ, hszₐ, hfₐ, hnₐ, _⟩ := hSₐ
    have I2ₐ : Inv X pinsₐ σₐ H1ₐ { s1ₐ with heap := h'ₐ, toks := tkₐ } := I1ₐ.kept hkₐ
    have hlenₐ : esₐ.size = (ddup nsₐ).length := by
      have zₐ := len_ddup (l := nsₐ) hndₐ fun kₐ => by rw [← hmemₐ kₐ]; simp
      rw [List.length_map, Array.length_toList] at zₐ
      exact zₐ
    exact call_len_set hoₐ hexₐ hdₐ hfₐ (by unfold scanBound at hszₐ; omega) ⟨.int (ddup nsₐ).length, H1ₐ, I2ₐ.tok _, ⟨_, by rw [hlenₐ]⟩, q1⟩
/-! ### comparisons as tests -/
theorem c_cmp {op : CmpOp} {r : R2} {g : PyData → PyData → Option PyData} (ho : OpR X (compareOp op) r) (hg : OpD X.K r g) (ha : PD X a fa) (hb : PD X b fb) (hm : behindInMarks op b = false) : PB X (.Compare a [op] [b] pos) (cB (cBin g fa fb)) :=
  PT_imp (pt_cmpR ho ha hb hm) fun σ H Q ⟨av, q, ρ, S, A, p⟩ => by
    have p' := post_bind p
    refine tOp_of hg σ H _ ⟨av, q, ρ, S, A, R.post_imp p' (fun d S1 k v H1 e f h => ?_) fun _ _ z => z⟩
    unfold asB at k
    split at k
    · cases h
      exact ⟨_, rfl, k H1 e f⟩
    · exact False.elim k
theorem opD_isN {K : PySem.W.Frag} : OpD K (fun x y H Q => y = .non ∧ Q (.bl (decide (x = .non))) H) gIsN := fun av H x y d v w Q _ hd hx hy k => by
  unfold gIsN at hd
  split at hd
  · cases hy; cases hd
    refine ⟨rfl, ?_⟩
    rw [dp_isN hx]; exact k _ H (Same.refl H) (.bl _)
  · cases hd
theorem opD_notN {K : PySem.W.Frag} : OpD K (fun x y H Q => y = .non ∧ Q (.bl (!decide (x = .non))) H) gNotN := fun av H x y d v w Q _ hd hx hy k => by
  unfold gNotN at hd
  split at hd
  · cases hy; cases hd
    refine ⟨rfl, ?_⟩
    rw [dp_isN hx]; exact k _ H (Same.refl H) (.bl _)
  · cases hd
theorem c_lt (ha : PD X a fa) (hb : PD X b fb) (hm : behindInMarks .Lt b = false := by exact nomark _) : PB X (.Compare a [.Lt] [b] pos) (cB (cBin gLt fa fb)) := c_cmp op_lt (opD_int fun _ _ _ => .bl _) ha hb hm
theorem c_le (ha : PD X a fa) (hb : PD X b fb) (hm : behindInMarks .LtE b = false := by exact nomark _) : PB X (.Compare a [.LtE] [b] pos) (cB (cBin gLe fa fb)) := c_cmp op_le (opD_int fun _ _ _ => .bl _) ha hb hm
theorem c_gt (ha : PD X a fa) (hb : PD X b fb) (hm : behindInMarks .Gt b = false := by exact nomark _) : PB X (.Compare a [.Gt] [b] pos) (cB (cBin gGt fa fb)) := c_cmp op_gt (opD_int fun _ _ _ => .bl _) ha hb hm
theorem c_ge (ha : PD X a fa) (hb : PD X b fb) (hm : behindInMarks .GtE b = false := by exact nomark _) : PB X (.Compare a [.GtE] [b] pos) (cB (cBin gGe fa fb)) := c_cmp op_ge (opD_int fun _ _ _ => .bl _) ha hb hm
theorem c_eq (ha : PD X a fa) (hb : PD X b fb) (hm : behindInMarks .Eq b = false := by exact nomark _) : PB X (.Compare a [.Eq] [b] pos) (cB (cBin gEq fa fb)) := c_cmp op_eq opD_eq ha hb hm
theorem c_isN (ha : PD X a fa) (hb : PD X b fb) (hm : behindInMarks .Is b = false := by exact nomark _) : PB X (.Compare a [.Is] [b] pos) (cB (cBin gIsN fa fb)) := c_cmp op_isN opD_isN ha hb hm
theorem c_notN (ha : PD X a fa) (hb : PD X b fb) (hm : behindInMarks .IsNot b = false := by exact nomark _) : PB X (.Compare a [.IsNot] [b] pos) (cB (cBin gNotN fa fb)) := c_cmp op_notN opD_notN ha hb hm
end
end G
end

section
set_option Elab.async false
set_option linter.all false
set_option maxRecDepth 100000
set_option maxHeartbeats 4100000
namespace G
open L2 PySem.Spec PyProof.Rows PySem
variable [LamT]
section
variable {K : PySem.W.Frag} {av av0 x0 : List Addr} {q : Pt} {p : Addr} {ρ : En} {S : Fd} {σ : G.St} {H H0 : Hp} {i : Nat} {l l' : List PyData} {z z' : Bool} {vs vs' : List V}
theorem At.putOw (A : At K av q ρ S σ H) (h1 : ρ[i]? = some (some (.ow (l, z)))) (h2 : σ[i]? = some (some (.ref p))) (hp : H p = some (.lst vs)) (hd : DxAll K (msk av H) vs' l') : At K av q (ρ.set i (some (.ow (l', z')))) S σ (upd H p (.lst vs')) := by
  obtain ⟨v, e0, p', ws, rfl, hin, hq, hp', _⟩ := A.slot i _ h1
  rw [h2] at e0
  cases e0
  have sm : Same (msk av H) (msk av (upd H p (.lst vs'))) := fun b o z => by
    obtain ⟨nb, z⟩ := msk_some z
    exact msk_of nb (by rw [upd_ne fun y => nb (by rw [y]; exact hin)]; exact z)
  have hl : i < ρ.length := (List.getElem?_eq_some_iff.mp h1).1
  have ow_of : ∀ (j : Nat) (m : Ol), (ρ.set i (some (.ow (l', z'))))[j]? = some (some (Sl.ow m)) → ∃ m', ρ[j]? = some (some (Sl.ow m')) := fun j m e => by
    by_cases z : i = j
    · subst z; exact ⟨_, h1⟩
    · rw [List.getElem?_set_ne z] at e; exact ⟨m, e⟩
  refine ⟨by simp [A.len], fun j s e => ?_, fun a b m m' v e1 e2 e3 e4 => ?_, ?_, fun x hx => ?_⟩
  · by_cases z : i = j
    · subst z
      rw [List.getElem?_set_self hl] at e
      cases e
      exact ⟨_, h2, p, vs', rfl, hin, hq, upd_same, dps_same sm l' vs' hd⟩
    · rw [List.getElem?_set_ne z] at e
      obtain ⟨w, e3, e4⟩ := A.slot j s e
      refine ⟨w, e3, ?_⟩
      cases s with
      | im d => exact dp_same sm d w e4
      | ow m =>
        obtain ⟨p2, ws2, rfl, hin2, hq2, hp2, hd2⟩ := e4
        have ne : p2 ≠ p := fun y => z (A.inj i j _ m (.ref p) h1 e h2 (by rw [e3, y]))
        exact ⟨p2, ws2, rfl, hin2, hq2, by rw [upd_ne ne]; exact hp2, dps_same sm m.1 ws2 hd2⟩
      | fd => exact e4
      | xn a dd x => exact ⟨e4.1, e4.2.keep sm⟩
  · obtain ⟨m1, e1⟩ := ow_of _ _ e1
    obtain ⟨m2, e2⟩ := ow_of _ _ e2
    exact A.inj a b m1 m2 v e1 e2 e3 e4
  · exact feed_put A.feed hin hq fun c z => by
      rw [hp] at z
      have z' : HO.lst vs = HO.ext _ := Option.some.inj z
      cases z'
  · by_cases z : x = p
    · rw [z]; exact ⟨_, upd_same⟩
    · rw [upd_ne z]; exact A.trk x hx
theorem EnvW.putOw (W : EnvW K H0 av0 x0 av q ρ S σ H) (h1 : ρ[i]? = some (some (.ow (l, z)))) (h2 : σ[i]? = some (some (.ref p))) (hp : H p = some (.lst vs)) (hd : DxAll K (msk av H) vs' l') : EnvW K H0 av0 x0 av q (ρ.set i (some (.ow (l', z)))) S σ (upd H p (.lst vs')) := by
  obtain ⟨v, e0, p', ws, rfl, hin, hq, hp', _⟩ := W.at'.slot i _ h1
  rw [h2] at e0
  cases e0
  refine ⟨fun b o n hb => ?_, W.qx, W.xs, W.s0, W.n0, W.at'.putOw h1 h2 hp hd, fun j m a e1 e2 => ?_, fun j m a e1 hz e2 => ?_⟩
  · have ne : b ≠ p := fun y => by
      subst y
      rcases W.ow i _ b h1 h2 with z | ⟨z, _⟩
      · rw [W.n0 b hin z] at hb; cases hb
      · exact n z
    rw [upd_ne ne]; exact W.e0 b o n hb
  · by_cases z : i = j
    · subst z; exact W.ow i _ a h1 e2
    · rw [List.getElem?_set_ne z] at e1; exact W.ow j m a e1 e2
  · by_cases y : i = j
    · subst y
      have hl : i < ρ.length := (List.getElem?_eq_some_iff.mp h1).1
      rw [List.getElem?_set_self hl] at e1
      cases e1
      exact W.nw i _ a h1 hz e2
    · rw [List.getElem?_set_ne y] at e1; exact W.nw j m a e1 hz e2
/-- a new list of one's own -/
theorem At.newOw (A : At K av q ρ S σ H) (hp : H p = none) (hd : DxAll K (msk av H) vs l) : At K (p :: av) q (ρ.set i (some (.ow (l, z)))) S (σ.set i (some (.ref p))) (upd H p (.lst vs)) := by
  have hna := not_av A.trk hp
  have sm : Same (msk av H) (msk (p :: av) (upd H p (.lst vs))) := fun b o z => by
    obtain ⟨n, z⟩ := msk_some z
    exact msk_of (by simp [n, ne_of_none z hp]) (same_new hp b o z)
  have hq : p ∉ mv q := fun z => hna (A.feed.1 p z)
  refine ⟨by simp [A.len], fun j s e => ?_, fun a b m m' v e1 e2 e3 e4 => ?_, ?_, fun x hx => ?_⟩
  · by_cases z : i = j
    · subst z
      have hl : i < ρ.length := by
        have := (List.getElem?_eq_some_iff.mp e).1
        simpa using this
      rw [List.getElem?_set_self hl] at e
      cases e
      exact ⟨_, List.getElem?_set_self (by rw [A.len]; exact hl), p, vs, rfl, by simp, hq, upd_same, dps_same sm l vs hd⟩
    · rw [List.getElem?_set_ne z] at e
      obtain ⟨w, e3, e4⟩ := A.slot j s e
      refine ⟨w, by rw [List.getElem?_set_ne z]; exact e3, ?_⟩
      cases s with
      | im d => exact dp_same sm d w e4
      | ow m =>
        obtain ⟨p2, ws2, rfl, hin2, hq2, hp2, hd2⟩ := e4
        exact ⟨p2, ws2, rfl, by simp [hin2], hq2, same_new hp _ _ hp2, dps_same sm m.1 ws2 hd2⟩
      | fd => exact e4
      | xn a dd x => exact ⟨e4.1, e4.2.keep sm⟩
  · have key : ∀ {c : Nat} {m : Ol}, (ρ.set i (some (.ow (l, z))))[c]? = some (some (Sl.ow m)) → i ≠ c → ∃ w, ρ[c]? = some (some (Sl.ow m)) ∧ σ[c]? = some (some w) ∧ w ≠ .ref p := fun {c m} e n => by
      rw [List.getElem?_set_ne n] at e
      obtain ⟨w, e3, p2, ws2, rfl, hin2, hq2, hp2, hd2⟩ := A.slot c _ e
      exact ⟨_, e, e3, fun z => by cases z; rw [hp] at hp2; cases hp2⟩
    have at_i : ∀ {m : Ol}, (ρ.set i (some (.ow (l, z))))[i]? = some (some (Sl.ow m)) → (σ.set i (some (V.ref p)))[i]? = some (some (V.ref p)) := fun {m} e => by
      have hl : i < ρ.length := by
        have := (List.getElem?_eq_some_iff.mp e).1
        simpa using this
      exact List.getElem?_set_self (by rw [A.len]; exact hl)
    by_cases z1 : i = a
    · by_cases z2 : i = b
      · rw [← z1, ← z2]
      · subst z1
        obtain ⟨w, _, h2, h3⟩ := key e2 z2
        rw [List.getElem?_set_ne z2, h2] at e4
        rw [at_i e1] at e3
        cases e3; cases e4; exact absurd rfl h3
    · obtain ⟨w, h1, h2, h3⟩ := key e1 z1
      by_cases z2 : i = b
      · subst z2
        rw [List.getElem?_set_ne z1, h2] at e3
        rw [at_i e2] at e4
        cases e3; cases e4; exact absurd rfl h3
      · obtain ⟨w', h1', h2', _⟩ := key e2 z2
        rw [List.getElem?_set_ne z1] at e3
        rw [List.getElem?_set_ne z2] at e4
        exact A.inj a b m m' v h1 h1' e3 e4
  · obtain ⟨f1, f2, f3, f4, f5⟩ := A.feed
    exact ⟨fun x h => List.mem_cons_of_mem _ (f1 x h), by simp [f2, ne_of_none f4 hp], same_new hp _ _ f3, same_new hp _ _ f4, f5.ext (same_new hp)⟩
  · rcases List.mem_cons.mp hx with z | z
    · rw [z]; exact ⟨_, upd_same⟩
    · obtain ⟨o, h⟩ := A.trk x z
      exact ⟨o, same_new hp _ _ h⟩
theorem EnvW.newOw (W : EnvW K H0 av0 x0 av q ρ S σ H) (hp : H p = none) (hd : DxAll K (msk av H) vs l) : EnvW K H0 av0 x0 (p :: av) q (ρ.set i (some (.ow (l, true)))) S (σ.set i (some (.ref p))) (upd H p (.lst vs)) := by
  have hna := not_av W.at'.trk hp
  have h0 : p ∉ av0 := fun z => hna (W.s0 p z)
  refine ⟨fun b o n hb => same_new hp _ _ (W.e0 b o n hb), W.qx, W.xs, fun a h => List.mem_cons_of_mem _ (W.s0 a h), fun a h n => ?_, W.at'.newOw hp hd, fun j m a e1 e2 => ?_, fun j m a e1 hz e2 => ?_⟩
  · rcases List.mem_cons.mp h with z | z
    · subst z
      cases y : H0 a with
      | none => rfl
      | some o => rw [W.e0 a o (fun z => h0 (W.xs a z)) y] at hp; cases hp
    · exact W.n0 a z n
  · by_cases z : i = j
    · subst z
      have hl : i < σ.length := by
        have := (List.getElem?_eq_some_iff.mp e2).1
        simpa using this
      rw [List.getElem?_set_self hl] at e2
      cases e2
      exact .inl h0
    · rw [List.getElem?_set_ne z] at e1 e2
      exact W.ow j m a e1 e2
  · by_cases z : i = j
    · subst z
      have hl : i < σ.length := by
        have := (List.getElem?_eq_some_iff.mp e2).1
        simpa using this
      rw [List.getElem?_set_self hl] at e2
      cases e2
      exact h0
    · rw [List.getElem?_set_ne z] at e1 e2
      exact W.nw j m a e1 hz e2
end
section
variable {X : Cx} {pos : Pos}
/-- x = [a, b ..], x = list(..): a list of one's own -/
def sOwn (i : Nat) (f : En → M PyData) : En → M Fl := fun ρ => f ρ >>= fun d => match d with
  | .list l => pure (.nx (ρ.set i (some (.ow (l, true)))))
  | _ => bad
theorem s_ownLst {x : Str} {px : Pos} {es : List Expr} {fs : En → M (List Ag)} {lp : Pos} (i : Nat) (hN : X.N.Nodup) (h : PG_A X es fs) (hi : X.N[i]? = some x := by rfl) (hx : Loc X.env.scope x := by first | exact Or.inl rfl | exact Or.inr rfl) (hf : X.fn x = true ∨ X.env.scope.names.lookup x = some .local := by first | exact .inl rfl | exact .inr rfl | assumption)
    (hs : swapsWithSole [.Name x px] (.List es lp) pos.line X.env = pure false := by rfl) (hw : swappedStores [.Name x px] (.List es lp) X.env = pure none := by rfl) (h1 : (assignEach [.Name x px] X.env).map (·.2) = [assign (.Name x px) X.env] := by rfl) :
    PSD X (.Assign [.Name x px] (.List es lp) pos) (sOwn i (cLst fs)) := PS_imp (ps_asg (te := tLst (tAg X.K (wx X) fs)) (g := gName i) (pe_lst h) (pg_name hN hi hx hf) hs hw h1) fun D σ H ⟨H0, av0, x0, av, q, ρ, S, W, p⟩ => by
  have p := post_bind p
  refine tAg_stepS W p fun as S1 vs H1 p1 e1 A1 d1 => ?_
  obtain ⟨d, hd, k⟩ := post_lift p1
  have W1 := W.ext e1 A1
  unfold mkLst at hd
  cases z : dats as with
  | none => rw [z] at hd; cases hd
  | some ds =>
    rw [z] at hd
    have hd' : (if small ds then some (PyData.list ds) else none) = some d := hd
    split at hd'
    · cases hd'
      have hz := dats_ok d1 z
      exact ⟨by rw [dps_len hz]; exact small_ok (by assumption), fun p hp => k (p :: av) _ _ (W1.newOw hp hz)⟩
    · cases hd'
theorem s_ownRg {x : Str} {px p p2 pos1 pos2 : Pos} {a : Expr} {f : En → M PyData} (i : Nat) (hc : X.calm = true) (hN : X.N.Nodup) (hm : X.mg "list" = none) (hm2 : X.mg "range" = none) (ha : PD X a f) (hg : Gl X "list" := by rfl) (hg2 : Gl X "range" := by rfl) (na : starEach [a] X.env = (false, eval a X.env) :: starEach [] X.env := by rfl)
    (nb : starEach [Expr.Call (.Name "range" p2) [a] [] pos2] X.env = (false, eval (Expr.Call (.Name "range" p2) [a] [] pos2) X.env) :: starEach [] X.env := by rfl) (hi : X.N[i]? = some x := by rfl) (hx : Loc X.env.scope x := by first | exact Or.inl rfl | exact Or.inr rfl) (hf : X.fn x = true ∨ X.env.scope.names.lookup x = some .local := by first | exact .inl rfl | exact .inr rfl | assumption)
    (hs : swapsWithSole [.Name x px] (.Call (.Name "list" p) [.Call (.Name "range" p2) [a] [] pos2] [] pos1) pos.line X.env = pure false := by rfl) (hw : swappedStores [.Name x px] (.Call (.Name "list" p) [.Call (.Name "range" p2) [a] [] pos2] [] pos1) X.env = pure none := by rfl) (h1 : (assignEach [.Name x px] X.env).map (·.2) = [assign (.Name x px) X.env] := by rfl) :
    PSD X (.Assign [.Name x px] (.Call (.Name "list" p) [.Call (.Name "range" p2) [a] [] pos2] [] pos1) pos) (sOwn i (cUn gRgL f)) := PS_imp (ps_asg (te := tLstRg (tRg1 (tE X.K (wx X) f))) (g := gName i) (pe_listRg hc hg hm (prg_1 hg2 hm2 ha na) nb) (pg_name hN hi hx hf) hs hw h1) fun D σ H ⟨H0, av0, x0, av, q, ρ, S, W, p⟩ => by
  have p := post_bind p
  refine tE_stepS W p fun d S1 v H1 p1 e1 A1 d1 => ?_
  obtain ⟨d', hd, k⟩ := post_lift p1
  have W1 := W.ext e1 A1
  unfold gRgL at hd
  split at hd
  · split at hd
    · rename_i hh
      have hh := of_decide_eq_true hh
      cases hd; cases d1
      exact ⟨_, rfl, RgOk.of_le (by omega) hh.2 (by omega) hh.1, fun p hp => k (p :: av) _ _ (W1.newOw hp (rgV_dp _))⟩
    · cases hd
  · cases hd
theorem s_ownRep {x : Str} {px bp lp : Pos} {es : List Expr} {fs : En → M (List Ag)} {e : Expr} {f : En → M PyData} (i : Nat) (hN : X.N.Nodup) (h : PG_A X es fs) (he : PD X e f) (hi : X.N[i]? = some x := by rfl) (hx : Loc X.env.scope x := by first | exact Or.inl rfl | exact Or.inr rfl) (hf : X.fn x = true ∨ X.env.scope.names.lookup x = some .local := by first | exact .inl rfl | exact .inr rfl | assumption)
    (hs : swapsWithSole [.Name x px] (.BinOp (.List es lp) .Mult e bp) pos.line X.env = pure false := by rfl) (hw : swappedStores [.Name x px] (.BinOp (.List es lp) .Mult e bp) X.env = pure none := by rfl) (h1 : (assignEach [.Name x px] X.env).map (·.2) = [assign (.Name x px) X.env] := by rfl) :
    PSD X (.Assign [.Name x px] (.BinOp (.List es lp) .Mult e bp) pos) (sOwn i (cBin gRep (cLst fs) f)) := PS_imp (ps_asg (g := gName i) (pe_op op_rep (d_lst h) he) (pg_name hN hi hx hf) hs hw h1) fun Dₐ σₐ Hₐ ⟨H0ₐ, av0ₐ, x0ₐ, avₐ, qₐ, ρₐ, Sₐ, Wₐ, pₐ⟩ => by
  have pₐ := post_bind pₐ
  refine tE_stepS Wₐ pₐ fun yₐ S1ₐ vₐ H1ₐ p1ₐ e1ₐ A1ₐ d1ₐ => ?_
  refine tE_stepS (Wₐ.ext e1ₐ A1ₐ) p1ₐ fun zₐ S2ₐ w H2ₐ p2ₐ e2ₐ A2ₐ d2ₐ => ?_
  obtain ⟨dₐ, hdₐ, kₐ⟩ := post_lift p2ₐ
  have W2ₐ := (Wₐ.ext e1ₐ A1ₐ).ext e2ₐ A2ₐ
  have d3ₐ := ext_dp A1ₐ.feed.1 e2ₐ d1ₐ
  unfold gRep at hdₐ
  split at hdₐ
  · split at hdₐ
    · rename_i hhₐ
      have hhₐ := of_decide_eq_true hhₐ
      cases hdₐ
      cases d2ₐ
      cases d3ₐ with
      | lst haₐ hlₐ =>
        refine ⟨_, _, _, rfl, rfl, (msk_some haₐ).2, by omega, by omega, by rw [dps_len hlₐ, sizeLine_eq]; exact hhₐ.2.2, fun pₐ hpₐ => kₐ (pₐ :: avₐ) _ _ (W2ₐ.newOw hpₐ ?_)⟩
        have keyₐ : ∀ nₐ : Nat, DxAll X.K (msk avₐ H2ₐ) (List.replicate nₐ _).flatten (List.replicate nₐ _).flatten := fun nₐ => by
          induction nₐ with
          | zero => exact .nil
          | succ nₐ ihₐ =>
            rw [List.replicate_succ, List.flatten_cons, List.replicate_succ, List.flatten_cons]
            exact dps_app hlₐ ihₐ
        exact keyₐ _
    · cases hdₐ
  · cases hdₐ
/-- x.append(e) -/
def getO (i : Nat) (ρ : En) : M (List PyData) := match ρ[i]? with
  | some (some (.ow l)) => pure l.1
  | _ => bad
def flagO (ρ : En) (i : Nat) : Bool := match ρ[i]? with
  | some (some (.ow l)) => l.2
  | _ => false
def putO (ρ : En) (i : Nat) (l : List PyData) : En := ρ.set i (some (.ow (l, flagO ρ i)))
theorem own_flag {ρ : En} {i : Nat} {l : List PyData} {z : Bool} (h : ρ[i]? = some (some (.ow (l, z)))) : ρ[i]? = some (some (.ow (l, flagO ρ i))) := by
  have e : flagO ρ i = z := by unfold flagO; rw [h]
  rw [e]; exact h
theorem getO_post {i : Nat} {ρ : En} {S : Fd} {k : List PyData → Fd → Prop} {x : Xn → Fd → Prop} (h : (getO i ρ S).post k x) : ∃ l, ρ[i]? = some (some (.ow (l, flagO ρ i))) ∧ k l S := by
  unfold getO at h
  cases e : ρ[i]? with
  | none => rw [e] at h; exact False.elim h
  | some o =>
    rw [e] at h
    cases o with
    | none => exact False.elim h
    | some s =>
      cases s with
      | im d => exact False.elim h
      | ow l => exact ⟨l.1, by rw [← e]; exact own_flag (z := l.2) e, h⟩
      | fd => exact False.elim h
      | xn _ _ _ => exact False.elim h
def sApp (i : Nat) (f : En → M PyData) : En → M Fl := fun ρ => getO i ρ >>= fun l => f ρ >>= fun d => if l.length < 16777216 then pure (.nx (putO ρ i (l ++ [d]))) else bad
theorem s_app {x : Str} {px apos cpos : Pos} {e : Expr} {f : En → M PyData} (i : Nat) (he : PD X e f) (hN : X.N[i]? = some x := by rfl) (hv : Vis X.env.scope x := by first | exact Or.inl rfl | exact Or.inr (Or.inl rfl) | exact Or.inr (Or.inr rfl)) (hdb : (x == ("__debug__" : Str)) = false := by decide) (hcd : (x == ("__classdict__" : Str)) = false := by decide)
    (hbase : attributeBase (.Name x px) "append" X.env (eval (.Name x px) X.env) = eval (.Name x px) X.env := by rfl)
    (hfew : ((backTo cpos (starEach (e :: []) X.env)).all (fun x => !x.1) && (backToKw cpos (keywordEach [] X.env)).all (fun x => x.1.isSome) && decide ((e :: []).length + ([] : List Keyword).length + (if ([] : List Keyword).isEmpty then 0 else 1) < 30)) = true := by rfl)
    (hline : (apos.endLine == cpos.line) = true := by rfl) (hs : starEach (e :: []) X.env = (false, eval e X.env) :: starEach [] X.env := by rfl) (hplain : (backTo cpos (starEach [] X.env)).any (·.1) = false := by rfl)
    (hsw : swapsWith (.Call (.Attribute (.Name x px) "append" apos) [e] [] cpos) none pos.line X.env = pure false := by exact rfl) :
    PSD X (.Expr (.Call (.Attribute (.Name x px) "append" apos) [e] [] cpos) pos) (sApp i f) :=
  PS_imp (ps_expr (pe_bm PySem.F.plainAttrs_list PySem.F.slot_list_append PySem.F.type_list_append mt_append (pe_var hN hv hdb hcd) (pa_cons he pa_nil hs) hbase hfew hline hs hplain) hsw) fun D σ H ⟨H0, av0, x0, av, q, ρ, S, W, p⟩ => by
    obtain ⟨l, e1, p⟩ := getO_post (post_bind p)
    obtain ⟨v, e2, a, vs, rfl, hin, hq, ha, hd⟩ := W.at'.slot i _ e1
    refine ⟨_, e2, .inl ⟨rfl, vs, SqL.of ha⟩, tE_stepS W p fun d S1 v H1 p1 e3 A1 d1 => ?_⟩
    have W1 := W.ext e3 A1
    have ha1 : H1 a = some (.lst vs) := e3 a _ hq ha
    split at p1
    · rename_i hz
      exact ⟨a, vs, v, rfl, rfl, ha1, by rw [dps_len hd, sizeLine_eq]; exact hz, p1 av σ _ (W1.putOw e1 e2 ha1 (dps_app (ext_dps W.at'.feed.1 e3 hd) (dps_one d1)))⟩
    · exact False.elim p1
/-- x.append(y.pop(e)) -/
def sAppPop (i j : Nat) (f : En → M PyData) : En → M Fl := fun ρ => getO i ρ >>= fun l => getO j ρ >>= fun m => f ρ >>= fun d => match d with
  | .int n => match seqIndex? n m.length with
    | some k => match m[k]? with
      | some y => if decide (l.length < 16777216 ∧ -(2 ^ 63) ≤ n ∧ n < 2 ^ 63) then pure (.nx (putO (putO ρ j (m.eraseIdx k)) i (l ++ [y]))) else bad
      | none => bad
    | none => bad
  | _ => bad
theorem dps_erase {K : PySem.W.Frag} {H : Hp} : ∀ {vs : List V} {ds : List PyData} (k : Nat), DxAll K H vs ds → DxAll K H (vs.eraseIdx k) (ds.eraseIdx k)
  | _, _, _, .nil => .nil
  | _, _, 0, .cons _ t => t
  | _, _, k + 1, .cons r t => .cons r (dps_erase k t)
theorem dps_set {K : PySem.W.Frag} {H : Hp} {v : V} {d : PyData} (r : Dx K H v d) : ∀ {vs : List V} {ds : List PyData} (k : Nat), DxAll K H vs ds → DxAll K H (vs.set k v) (ds.set k d)
  | _, _, _, .nil => .nil
  | _, _, 0, .cons _ tₐ => .cons r tₐ
  | _, _, k + 1, .cons aₐ tₐ => .cons aₐ (dps_set r k tₐ)
theorem s_appPop {x y : Str} {px py apos cpos bpos dpos : Pos} {e : Expr} {f : En → M PyData} (i j : Nat) (hij : i ≠ j) (he : PD X e f) (hN : X.N[i]? = some x := by rfl) (hN2 : X.N[j]? = some y := by rfl) (hv : Vis X.env.scope x := by first | exact Or.inl rfl | exact Or.inr (Or.inl rfl) | exact Or.inr (Or.inr rfl)) (hv2 : Vis X.env.scope y := by first | exact Or.inl rfl | exact Or.inr (Or.inl rfl) | exact Or.inr (Or.inr rfl))
    (hdb : (x == ("__debug__" : Str)) = false := by decide) (hcd : (x == ("__classdict__" : Str)) = false := by decide) (hdb2 : (y == ("__debug__" : Str)) = false := by decide) (hcd2 : (y == ("__classdict__" : Str)) = false := by decide)
    (hbase2 : attributeBase (.Name y py) "pop" X.env (eval (.Name y py) X.env) = eval (.Name y py) X.env := by rfl)
    (hfew2 : ((backTo dpos (starEach (e :: []) X.env)).all (fun x => !x.1) && (backToKw dpos (keywordEach [] X.env)).all (fun x => x.1.isSome) && decide ((e :: []).length + ([] : List Keyword).length + (if ([] : List Keyword).isEmpty then 0 else 1) < 30)) = true := by rfl)
    (hline2 : (bpos.endLine == dpos.line) = true := by rfl) (hs2 : starEach (e :: []) X.env = (false, eval e X.env) :: starEach [] X.env := by rfl) (hplain2 : (backTo dpos (starEach [] X.env)).any (·.1) = false := by rfl)
    (hbase : attributeBase (.Name x px) "append" X.env (eval (.Name x px) X.env) = eval (.Name x px) X.env := by rfl)
    (hfew : ((backTo cpos (starEach (.Call (.Attribute (.Name y py) "pop" bpos) [e] [] dpos :: []) X.env)).all (fun x => !x.1) && (backToKw cpos (keywordEach [] X.env)).all (fun x => x.1.isSome) && decide ((Expr.Call (.Attribute (.Name y py) "pop" bpos) [e] [] dpos :: []).length + ([] : List Keyword).length + (if ([] : List Keyword).isEmpty then 0 else 1) < 30)) = true := by rfl)
    (hline : (apos.endLine == cpos.line) = true := by rfl) (hs : starEach (.Call (.Attribute (.Name y py) "pop" bpos) [e] [] dpos :: []) X.env = (false, eval (.Call (.Attribute (.Name y py) "pop" bpos) [e] [] dpos) X.env) :: starEach [] X.env := by rfl) (hplain : (backTo cpos (starEach [] X.env)).any (·.1) = false := by rfl)
    (hsw : swapsWith (.Call (.Attribute (.Name x px) "append" apos) [.Call (.Attribute (.Name y py) "pop" bpos) [e] [] dpos] [] cpos) none pos.line X.env = pure false := by exact rfl) :
    PSD X (.Expr (.Call (.Attribute (.Name x px) "append" apos) [.Call (.Attribute (.Name y py) "pop" bpos) [e] [] dpos] [] cpos) pos) (sAppPop i j f) :=
  PS_imp (ps_expr (pe_bm PySem.F.plainAttrs_list PySem.F.slot_list_append PySem.F.type_list_append mt_append (pe_var hN hv hdb hcd) (pa_cons (pe_bm PySem.F.plainAttrs_list PySem.F.slot_list_pop PySem.F.type_list_pop mt_popAt (pe_var hN2 hv2 hdb2 hcd2) (pa_cons he pa_nil hs2) hbase2 hfew2 hline2 hs2 hplain2) pa_nil hs) hbase hfew hline hs hplain) hsw) fun D σ H ⟨H0, av0, x0, av, q, ρ, S, W, p⟩ => by
    obtain ⟨l, e1, p⟩ := getO_post (post_bind p)
    obtain ⟨m, g1, p⟩ := getO_post (post_bind p)
    obtain ⟨v, e2, a, vs, rfl, hin, hq, ha, hd⟩ := W.at'.slot i _ e1
    obtain ⟨v, g2, b, ws, rfl, hin2, hq2, hb, hd2⟩ := W.at'.slot j _ g1
    have hab : a ≠ b := fun z => hij (W.at'.inj i j _ _ (.ref a) e1 g1 e2 (by rw [g2, z]))
    refine ⟨_, e2, .inl ⟨rfl, vs, SqL.of ha⟩, _, g2, .inl ⟨rfl, ws, SqL.of hb⟩, tE_stepS W p fun d S1 v H1 p1 e3 A1 d1 => ?_⟩
    have W1 := W.ext e3 A1
    have ha1 : H1 a = some (.lst vs) := e3 a _ hq ha
    have hb1 : H1 b = some (.lst ws) := e3 b _ (by simpa using hq2) hb
    have hd' := ext_dps W.at'.feed.1 e3 hd
    have hd2' := ext_dps W.at'.feed.1 e3 hd2
    cases d with
    | int n =>
      cases d1
      cases hk : seqIndex? n m.length with
      | none =>
        have p1' : ((match seqIndex? n m.length with
          | some k => match m[k]? with
            | some y => if decide (l.length < 16777216 ∧ -(2 ^ 63) ≤ n ∧ n < 2 ^ 63) then pure (.nx (putO (putO ρ j (m.eraseIdx k)) i (l ++ [y]))) else bad
            | none => bad
          | none => bad : M Fl) S1).post (flP X.K H0 av0 x0 q D) (flX X.K (wx X) H0 av0 x0 q) := p1
        rw [hk] at p1'; exact False.elim p1'
      | some k =>
        have p1' : ((match seqIndex? n m.length with
          | some k => match m[k]? with
            | some y => if decide (l.length < 16777216 ∧ -(2 ^ 63) ≤ n ∧ n < 2 ^ 63) then pure (.nx (putO (putO ρ j (m.eraseIdx k)) i (l ++ [y]))) else bad
            | none => bad
          | none => bad : M Fl) S1).post (flP X.K H0 av0 x0 q D) (flX X.K (wx X) H0 av0 x0 q) := p1
        rw [hk] at p1'
        have p2 : ((match m[k]? with
            | some y => if decide (l.length < 16777216 ∧ -(2 ^ 63) ≤ n ∧ n < 2 ^ 63) then pure (.nx (putO (putO ρ j (m.eraseIdx k)) i (l ++ [y]))) else bad
            | none => bad : M Fl) S1).post (flP X.K H0 av0 x0 q D) (flX X.K (wx X) H0 av0 x0 q) := p1'
        cases hy : m[k]? with
        | none => rw [hy] at p2; exact False.elim p2
        | some y =>
          rw [hy] at p2
          have p3 : ((if decide (l.length < 16777216 ∧ -(2 ^ 63) ≤ n ∧ n < 2 ^ 63) then pure (.nx (putO (putO ρ j (m.eraseIdx k)) i (l ++ [y]))) else bad : M Fl) S1).post (flP X.K H0 av0 x0 q D) (flX X.K (wx X) H0 av0 x0 q) := p2
          split at p3
          · rename_i hh
            have hh := of_decide_eq_true hh
            obtain ⟨u, hu, du⟩ := dps_get hd2' hy
            have W2 := W1.putOw g1 g2 hb1 (dps_erase k hd2')
            have ha2 : upd H1 b (.lst (ws.eraseIdx k)) a = some (.lst vs) := by rw [upd_ne hab]; exact ha1
            have sm : Same (msk av H1) (msk av (upd H1 b (.lst (ws.eraseIdx k)))) := fun x o z => by
              obtain ⟨nb, z⟩ := msk_some z
              exact msk_of nb (by rw [upd_ne fun y => nb (by rw [y]; exact hin2)]; exact z)
            have W3 := W2.putOw (i := i) (l := l) (z := flagO (putO ρ j (m.eraseIdx k)) i) (own_flag (z := flagO ρ i) (by rw [List.getElem?_set_ne (Ne.symm hij)]; exact e1)) e2 ha2 (dps_app (dps_same sm _ _ hd') (dps_one (dp_same sm _ _ du)))
            refine ⟨b, ws, n, k, u, rfl, rfl, hb1, hh.2.1, hh.2.2, by rw [dps_len hd2']; exact hk, hu, ?_⟩
            exact ⟨a, vs, u, rfl, rfl, ha2, by rw [dps_len hd', sizeLine_eq]; exact hh.1, p3 av σ _ W3⟩
          · exact False.elim p3
    | _ => exact False.elim p1
/-- x[k] = e -/
def sSet (i : Nat) (fi fe : En → M PyData) : En → M Fl := fun ρ => fe ρ >>= fun d => getO i ρ >>= fun l => fi ρ >>= fun k => match k with
  | .int n => match ixN l.length n with
    | some j => pure (.nx (putO ρ i (l.set j d)))
    | none => bad
  | _ => bad
theorem s_set {x : Str} {px tpos : Pos} {e k : Expr} {fe fk : En → M PyData} (i : Nat) (he : PD X e fe) (hk : PD X k fk) (hN : X.N[i]? = some x := by rfl) (hv : Vis X.env.scope x := by first | exact Or.inl rfl | exact Or.inr (Or.inl rfl) | exact Or.inr (Or.inr rfl)) (hdb : (x == ("__debug__" : Str)) = false := by decide) (hcd : (x == ("__classdict__" : Str)) = false := by decide)
    (hs : swapsWithSole [.Subscript (.Name x px) k tpos] e pos.line X.env = pure false := by rfl) (hw : swappedStores [.Subscript (.Name x px) k tpos] e X.env = pure none := by rfl) (h1 : (assignEach [.Subscript (.Name x px) k tpos] X.env).map (·.2) = [assign (.Subscript (.Name x px) k tpos) X.env] := by rfl) (hpi : ∀ v, assign (.Subscript (.Name x px) k tpos) X.env v = (do let ov ← holding [v] (eval (.Name x px) X.env); let iv ← holding [v, ov] (eval k X.env); standAt tpos; holding [v, ov, iv] (setItem ov iv v); release [v, ov, iv] []) := by exact fun _ => rfl) :
    PSD X (.Assign [.Subscript (.Name x px) k tpos] e pos) (sSet i fk fe) := PS_imp (ps_asg he (pg_sub (pe_var hN hv hdb hcd) hk set_list hpi) hs hw h1) fun D σ H ⟨H0, av0, x0, av, q, ρ, S, W, p⟩ => by
  refine tE_stepS W p fun d S1 v H1 p1 e1 A1 d1 => ?_
  obtain ⟨l, g1, p1⟩ := getO_post (post_bind p1)
  obtain ⟨o, g2, a, vs, rfl, hin, hq, ha, hd⟩ := A1.slot i _ g1
  refine ⟨_, g2, tE_stepS (W.ext e1 A1) p1 fun y S2 w H2 p2 e2 A2 d2 => ?_⟩
  have W2 := (W.ext e1 A1).ext e2 A2
  cases y with
  | int n =>
    cases d2
    cases hj : ixN l.length n with
    | none =>
      have p3 : ((match ixN l.length n with
        | some j => pure (.nx (putO ρ i (l.set j d)))
        | none => bad : M Fl) S2).post (flP X.K H0 av0 x0 q D) (flX X.K (wx X) H0 av0 x0 q) := p2
      rw [hj] at p3; exact False.elim p3
    | some j =>
      have p3 : ((match ixN l.length n with
        | some j => pure (.nx (putO ρ i (l.set j d)))
        | none => bad : M Fl) S2).post (flP X.K H0 av0 x0 q D) (flX X.K (wx X) H0 av0 x0 q) := p2
      rw [hj] at p3
      have ha2 := e2 a _ (by simpa using hq) ha
      exact ⟨a, vs, n, j, rfl, rfl, ha2, by rw [dps_len hd]; exact hj, p3 av σ _ (W2.putOw g1 g2 ha2 (dps_set (ext_dp W.at'.feed.1 e2 d1) j (ext_dps W.at'.feed.1 e2 hd)))⟩
  | _ => exact False.elim p2
/-- tuple(x), len(x) of a list of one's own -/
def cTupO (i : Nat) : En → M PyData := fun ρ => getO i ρ >>= fun l => pure (.tuple l)
def cLenO (i : Nat) : En → M PyData := fun ρ => getO i ρ >>= fun l => pure (.int l.length)
theorem d_tupO {x : Str} {p px : Pos} (i : Nat) (hm : X.mg "tuple" = none) (hN : X.N[i]? = some x := by rfl) (hv : Vis X.env.scope x := by first | exact Or.inl rfl | exact Or.inr (Or.inl rfl) | exact Or.inr (Or.inr rfl)) (hdb : (x == ("__debug__" : Str)) = false := by decide) (hcd : (x == ("__classdict__" : Str)) = false := by decide) (hg : Gl X "tuple" := by rfl) (hvt : bootBuiltins "tuple" = some (.type "tuple") := by decide +kernel)
    (he : starEach (.Name x px :: []) X.env = (false, eval (.Name x px) X.env) :: starEach [] X.env := by rfl) (hpl : (backTo pos (starEach [] X.env)).any (·.1) = false := by rfl) : PD X (.Call (.Name "tuple" p) [.Name x px] [] pos) (cTupO i) :=
  PE_imp (pe_callTy call_tupF hg hm hvt (pa_cons (pe_var hN hv hdb hcd) pa_nil he) (by decide) (by decide) he hpl) fun σ H Q ⟨av, q, ρ, S, A, p⟩ => by
    obtain ⟨l, g1, k⟩ := getO_post (post_bind p)
    obtain ⟨o, g2, a, vs, rfl, hin, hq, ha, hd⟩ := A.slot i _ g1
    exact ⟨_, g2, a, vs, rfl, .inl ⟨SqL.of ha, fun p o hp ho => k _ _ (Ext.new hp) (feed_same A.feed (same_new hp)) (dp_newTup A.trk hp ho hd)⟩⟩
theorem d_lenO {x : Str} {p px : Pos} (i : Nat) (hm : X.mg "len" = none) (hN : X.N[i]? = some x := by rfl) (hv : Vis X.env.scope x := by first | exact Or.inl rfl | exact Or.inr (Or.inl rfl) | exact Or.inr (Or.inr rfl)) (hdb : (x == ("__debug__" : Str)) = false := by decide) (hcd : (x == ("__classdict__" : Str)) = false := by decide) (hg : Gl X "len" := by rfl) (hvt : bootBuiltins "len" = some (.builtin "len") := by decide +kernel)
    (he : starEach (.Name x px :: []) X.env = (false, eval (.Name x px) X.env) :: starEach [] X.env := by rfl) (hpl : (backTo pos (starEach [] X.env)).any (·.1) = false := by rfl) : PD X (.Call (.Name "len" p) [.Name x px] [] pos) (cLenO i) :=
  PE_imp (pe_callB call_len_seq hg hm hvt (pa_cons (pe_var hN hv hdb hcd) pa_nil he) (by decide) (by decide) he hpl) fun σ H Q ⟨av, q, ρ, S, A, p⟩ => by
    obtain ⟨l, g1, k⟩ := getO_post (post_bind p)
    obtain ⟨o, g2, a, vs, rfl, hin, hq, ha, hd⟩ := A.slot i _ g1
    exact ⟨_, g2, a, vs, rfl, .inl (SqL.of ha), by rw [dps_len hd]; exact k _ H (Ext.refl H) A.feed (.int _)⟩
end
end G
end

section
set_option Elab.async false
set_option linter.all false
set_option maxRecDepth 100000
set_option maxHeartbeats 4100000
namespace G
open L2 PySem.Spec PyProof.Rows PySem
variable [LamT]
section
variable {X : Cx} {pos : Pos}
def rExtT (K : PySem.W.Frag) : V → List V → Hp → VK → Prop := fun x vs H Q => ∃ l b xs zs, x = .ref l ∧ vs = [.ref b] ∧ H l = some (.lst xs) ∧ SqT K H b zs ∧ TupN K H b ∧ xs.length + zs.length ≤ sizeLine ∧ Q .non (upd H l (.lst (xs ++ zs)))
theorem mt_extT : MtM X "list.extend" (rExtT X.K) := fun pins s σ H x vs v us Q I rx rvs ⟨l, b, xs, zs, ex, one, isL, isT, plain, fits, rest⟩ => by
  subst ex one
  cases rx
  obtain ⟨u, rfl, isRef⟩ := rvs.one
  cases isRef
  obtain ⟨_, items, n, r1, small1, there⟩ := I.lstM isL
  obtain ⟨items2, r2, body2, small2⟩ := I.tuple isT
  obtain ⟨n2, there2⟩ : ∃ n2, s.heap.get? b = some { cls := .type "tuple", data := .seq items2.toArray n2 } := by
    obtain ⟨⟨c, dct, raw, slots⟩, at', isTup, m, isSeq⟩ := body2
    have bare : dct = none ∧ slots = #[] := by
      rcases plain with ⟨o, w, here, z⟩ | ⟨o, here, _, z⟩
      · cases at'.symm.trans (I.hok b _ here).1
        exact z
      · cases at'.symm.trans (I.kIn b o here)
        exact z
    obtain ⟨d0, s0⟩ := bare
    simp only at isTup isSeq
    subst isTup isSeq d0 s0
    exact ⟨m, at'⟩
  have c1 := r1.length
  have c2 := r2.length
  have room : Builtin.List.listTooLong (items.toArray.size + items2.toArray.size) = false := notLongL (by simp only [List.size_toArray]; omega)
  exact call_meets F.slot_list_extend ⟨_, there, rfl⟩ F.entry_list_extend (F.args_list_extend_2 _ _) (AutoSeq1.list_extend_list_tuple_0 l items.toArray n b items2.toArray n2 (by rw [room, Bool.and_false]; exact Bool.false_ne_true) (by rw [List.size_toArray]; omega) (by rw [List.size_toArray, List.size_toArray]; omega))
    ⟨there, there2, .non, _, I.lset (its' := items ++ items2) isL there (by simp) (r1.append r2) (by rw [List.length_append]; omega), rfl, rest⟩
def sExt (i : Nat) (f : En → M PyData) : En → M Fl := fun ρ => getO i ρ >>= fun l => f ρ >>= fun d => match d with
  | .tuple m => if decide (l.length + m.length ≤ 16777216) then pure (.nx (putO ρ i (l ++ m))) else bad
  | _ => bad
theorem s_ext {x : Str} {px apos cpos : Pos} {e : Expr} {f : En → M PyData} (i : Nat) (he : PD X e f) (hN : X.N[i]? = some x := by rfl) (hv : Vis X.env.scope x := by first | exact Or.inl rfl | exact Or.inr (Or.inl rfl) | exact Or.inr (Or.inr rfl)) (hdb : (x == ("__debug__" : Str)) = false := by decide) (hcd : (x == ("__classdict__" : Str)) = false := by decide)
    (hbase : attributeBase (.Name x px) "extend" X.env (eval (.Name x px) X.env) = eval (.Name x px) X.env := by rfl)
    (hfew : ((backTo cpos (starEach (e :: []) X.env)).all (fun x => !x.1) && (backToKw cpos (keywordEach [] X.env)).all (fun x => x.1.isSome) && decide ((e :: []).length + ([] : List Keyword).length + (if ([] : List Keyword).isEmpty then 0 else 1) < 30)) = true := by rfl)
    (hline : (apos.endLine == cpos.line) = true := by rfl) (hs : starEach (e :: []) X.env = (false, eval e X.env) :: starEach [] X.env := by rfl) (hplain : (backTo cpos (starEach [] X.env)).any (·.1) = false := by rfl)
    (hsw : swapsWith (.Call (.Attribute (.Name x px) "extend" apos) [e] [] cpos) none pos.line X.env = pure false := by exact rfl) :
    PSD X (.Expr (.Call (.Attribute (.Name x px) "extend" apos) [e] [] cpos) pos) (sExt i f) :=
  PS_imp (ps_expr (pe_bm PySem.F.plainAttrs_list PySem.F.slot_list_extend PySem.F.type_list_extend mt_extT (pe_var hN hv hdb hcd) (pa_cons he pa_nil hs) hbase hfew hline hs hplain) hsw) fun D σ H ⟨H0, av0, x0, av, q, ρ, S, W, p⟩ => by
    obtain ⟨l, e1, p⟩ := getO_post (post_bind p)
    obtain ⟨v, e2, a, vs, rfl, hin, hq, ha, hd⟩ := W.at'.slot i _ e1
    refine ⟨_, e2, .inl ⟨rfl, vs, SqL.of ha⟩, tE_stepS W p fun d S1 v H1 p1 e3 A1 d1 => ?_⟩
    have W1 := W.ext e3 A1
    have ha1 : H1 a = some (.lst vs) := e3 a _ hq ha
    cases d with
    | tuple m =>
      have p2 : ((if decide (l.length + m.length ≤ 16777216) then pure (.nx (putO ρ i (l ++ m))) else bad : M Fl) S1).post (flP X.K H0 av0 x0 q D) (flX X.K (wx X) H0 av0 x0 q) := p1
      split at p2
      · rename_i hz
        have hz := of_decide_eq_true hz
        cases d1 with
        | tup h1 h2 h3 =>
          exact ⟨a, _, vs, _, rfl, rfl, ha1, sqT_at h1, tupN_same msk_all h2, by rw [dps_len hd, dps_len h3, sizeLine_eq]; exact hz, p2 av σ _ (W1.putOw e1 e2 ha1 (dps_app (ext_dps W.at'.feed.1 e3 hd) h3))⟩
      · exact False.elim p2
    | _ => exact False.elim p1
end
end G
end

section
set_option Elab.async false
set_option linter.all false
set_option maxRecDepth 100000
set_option maxHeartbeats 4100000
namespace G
open L2 PySem.Spec PyProof.Rows PySem
variable [LamT]
section
variable {X : Cx} {pos : Pos} {a b : Expr} {fa fb : En → M PyData}
/-! ### == of data at any depth -/
def gEqD (x y : PyData) : Option PyData := if SeqAt.shaped x && SeqAt.shaped y then some (.bool (PyData.eqv x y)) else none
def gNeD (x y : PyData) : Option PyData := if SeqAt.shaped x && SeqAt.shaped y then some (.bool (!PyData.eqv x y)) else none
theorem opD_eqD {K : PySem.W.Frag} : OpD K (rEqD K) gEqD := fun av H x y d v w Q _ hd hx hy k => by
  unfold gEqD at hd
  split at hd
  · rename_i hh
    rw [Bool.and_eq_true] at hh
    cases hd
    exact ⟨x, y, dx_dp x v (dp_same msk_all x v hx), dx_dp y w (dp_same msk_all y w hy), hh.1, hh.2, k _ H (Same.refl H) (.bl _)⟩
  · cases hd
theorem opD_neD {K : PySem.W.Frag} : OpD K (rNeD K) gNeD := fun av H x y d v w Q _ hd hx hy k => by
  unfold gNeD at hd
  split at hd
  · rename_i hh
    rw [Bool.and_eq_true] at hh
    cases hd
    exact ⟨x, y, dx_dp x v (dp_same msk_all x v hx), dx_dp y w (dp_same msk_all y w hy), hh.1, hh.2, k _ H (Same.refl H) (.bl _)⟩
  · cases hd
theorem un_of {k : Nat} (hr : RoomG k X.A) : X.A.units + 64 < cLine := by have := hr.r.un; omega
theorem c_eqD {k : Nat} (hr : RoomG k X.A) (ha : PD X a fa) (hb : PD X b fb) (hm : behindInMarks .Eq b = false := by exact nomark _) : PB X (.Compare a [.Eq] [b] pos) (cB (cBin gEqD fa fb)) := c_cmp (op_eqD (un_of hr)) opD_eqD ha hb hm
theorem c_neD {k : Nat} (hr : RoomG k X.A) (ha : PD X a fa) (hb : PD X b fb) (hm : behindInMarks .NotEq b = false := by exact nomark _) : PB X (.Compare a [.NotEq] [b] pos) (cB (cBin gNeD fa fb)) := c_cmp (op_neD (un_of hr)) opD_neD ha hb hm
theorem d_eqD {k : Nat} (hr : RoomG k X.A) (ha : PD X a fa) (hb : PD X b fb) (hm : behindInMarks .Eq b = false := by exact nomark _) : PD X (.Compare a [.Eq] [b] pos) (cBin gEqD fa fb) := d_cmp (op_eqD (un_of hr)) opD_eqD ha hb hm
theorem d_neD {k : Nat} (hr : RoomG k X.A) (ha : PD X a fa) (hb : PD X b fb) (hm : behindInMarks .NotEq b = false := by exact nomark _) : PD X (.Compare a [.NotEq] [b] pos) (cBin gNeD fa fb) := d_cmp (op_neD (un_of hr)) opD_neD ha hb hm

/-! ### what is drawn from: its four entries read, three stored -/
inductive Fk where
  | cells | place | rest | turn
  deriving DecidableEq
def Fk.key : Ks → Fk → Str
  | _, .cells => "cells"
  | .a, .place => "place"
  | .a, .rest => "rest"
  | .a, .turn => "turn"
  | .b, .place => "spot"
  | .b, .rest => "left"
  | .b, .turn => "drawn"
  | .c, .place => "at"
  | .c, .rest => "left"
  | .c, .turn => "count"
  | .d, .place => "next"
  | .d, .rest => "left"
  | .d, .turn => "turn"
  | .l, _ => ""
/-- as entries of a dict -/
def Ks.kvs (q : Pt) (S : Fd) : Ks → List (Key × V)
  | .a => [(.inr "cells", .ref q.c), (.inr "place", .int S.place), (.inr "rest", .int S.rest), (.inr "turn", .int S.turn)]
  | .b => [(.inr "cells", .ref q.c), (.inr "spot", .int S.place), (.inr "left", .int S.rest), (.inr "drawn", .int S.turn)]
  | .c => [(.inr "cells", .ref q.c), (.inr "at", .int S.place), (.inr "left", .int S.rest), (.inr "count", .int S.turn)]
  | .d => [(.inr "cells", .ref q.c), (.inr "next", .int S.place), (.inr "left", .int S.rest), (.inr "turn", .int S.turn)]
  | .l => []
theorem feedO_kvs {q : Pt} {S : Fd} {ks : Ks} (h : S.ks = ks) (n : ks ≠ .l) : feedO q S = .dK (ks.kvs q S) := by
  unfold feedO
  rw [h]
  cases ks <;> first | rfl | exact absurd rfl n
def Fk.val (S : Fd) : Fk → PyData
  | .cells => .list (S.cells.map PyData.int)
  | .place => .int S.place
  | .rest => .int S.rest
  | .turn => .int S.turn
def Fk.put (S : Fd) (n : Int) : Fk → Fd
  | .cells => S
  | .place => { S with place := n }
  | .rest => { S with rest := n }
  | .turn => { S with turn := n }
def cFget (ks : Ks) (i : Nat) (k : Fk) : En → M PyData := fun ρ => getF i ρ >>= fun _ => fun S => if S.ks = ks then .ok (k.val S) S else .bad
theorem dxs_ints {K : PySem.W.Frag} {H : Hp} : ∀ (ns : List Int), DxAll K H (ns.map V.int) (ns.map PyData.int)
  | [] => .nil
  | n :: ns => .cons (.int n) (dxs_ints ns)
theorem feed_get {q : Pt} {S : Fd} {ks : Ks} {k : Fk} (n : ks ≠ .l) : ∃ v, valV (ks.kvs q S) (.inr (Fk.key ks k)) = some v ∧ (∀ (K : PySem.W.Frag) (av : List Addr) (H : Hp), FeedAt av q S H → Dx K (msk av H) v (k.val S)) := by
  cases ks <;> cases k <;> first
    | exact absurd rfl n
    | exact ⟨_, by first | rfl | decide +kernel, fun K av H f => .lst (msk_of f.2.1 f.2.2.2.1) (dxs_ints _)⟩
    | exact ⟨_, by first | rfl | decide +kernel, fun K av H f => .int _⟩
theorem d_fget {x s : Str} {px pc : Pos} {j : Nat} {kk : Nat} (ks : Ks) (k : Fk) (i : Nat) (hr : RoomG kk X.A) (hk : s = Fk.key ks k := by rfl) (hks : ks ≠ .l := by decide) (hN : X.N[i]? = some x := by rfl) (hv : Vis X.env.scope x := by first | exact Or.inl rfl | exact Or.inr (Or.inl rfl) | exact Or.inr (Or.inr rfl)) (hdb : (x == ("__debug__" : Str)) = false := by decide) (hcd : (x == ("__classdict__" : Str)) = false := by decide) (hs : NoSl (.Constant (.str s) j pc) := by exact fun _ _ => rfl) :
    PD X (.Subscript (.Name x px) (.Constant (.str s) j pc) pos) (cFget ks i k) := PE_imp (pe_dget (by have := hr.r.un; omega) (pe_var hN hv hdb hcd) pe_str hs) fun σ H Q ⟨av, q, ρ, S, A, p⟩ => by
  obtain ⟨e1, p⟩ := getF_post (post_bind p)
  obtain ⟨v, e2, rfl⟩ := A.slot i _ e1
  have p' : R.post (if S.ks = ks then R.ok (k.val S) S else R.bad) (fun d S' => ∀ v H', Ext (mv q) H H' → FeedAt av q S' H' → Dx X.K (msk av H') v d → Q v H') (xE X.K (wa (wx X) σ) av q H) := p
  split at p'
  · rename_i he
    obtain ⟨v, hv1, hv2⟩ := feed_get (q := q) (S := S) (k := k) hks
    refine ⟨_, e2, q.a, v, rfl, ?_, p' v H (Ext.refl H) A.feed (hv2 _ _ _ A.feed)⟩
    subst hk
    have g := DGet.k (k := .inr (Fk.key ks k)) (by rw [← feedO_kvs he hks]; exact A.feed.2.2.1)
    rw [hv1] at g
    exact g
  · exact False.elim p'
def sFput (ks : Ks) (i : Nat) (k : Fk) (f : En → M PyData) : En → M Fl := fun ρ => f ρ >>= fun d => getF i ρ >>= fun _ => match d with
  | .int n => fun S => if S.ks = ks then .ok (.nx ρ) (k.put S n) else .bad
  | _ => bad
theorem feed_putK {q : Pt} {S : Fd} {n : Int} {ks : Ks} {k : Fk} (hk : k ≠ .cells) (hks : ks ≠ .l) : putK (ks.kvs q S) (.inr (Fk.key ks k)) (.int n) = ks.kvs q (k.put S n) := by
  cases ks <;> cases k <;> first
    | exact absurd rfl hk
    | exact absurd rfl hks
    | rfl
    | decide +kernel
/-- the feed is no table, no code object -/
theorem feed_ne {q : Pt} {S : Fd} {c : Addr} {x : Str} : feedO q S ≠ LamX.CodeO c x := fun z => by
  unfold feedO at z
  have z' : _ = HO.ext _ := z
  split at z' <;> cases z'
theorem feed_tabs {av : List Addr} {q : Pt} {S : Fd} {H : Hp} {o : HO} (f : FeedAt av q S H) : LamX.Tabs LamT.ts (upd H q.a o) := fun r hr => by
  obtain ⟨h, m, a, b, t⟩ := f
  obtain ⟨ps, h1, h2, h3⟩ := t r hr
  have n : r.1 ≠ q.a := fun z => by
    rw [z, a] at h1
    have h1' := Option.some.inj h1
    unfold feedO at h1'
    split at h1' <;> cases h1'
  refine ⟨ps, by rw [upd_ne n]; exact h1, h2, fun pos cv hcv => ?_⟩
  obtain ⟨c, e1, e2⟩ := h3 pos cv hcv
  refine ⟨c, e1, ?_⟩
  have nc : c ≠ q.a := fun y => by
    subst y
    rw [a] at e2
    exact feed_ne (Option.some.inj e2)
  rw [upd_ne nc]; exact e2
theorem s_fput {x s : Str} {px pc tpos : Pos} {j : Nat} {kk : Nat} {e : Expr} {f : En → M PyData} (ks : Ks) (k : Fk) (i : Nat) (hr : RoomG kk X.A) (he : PD X e f) (hkc : k ≠ .cells := by decide) (hk : s = Fk.key ks k := by rfl) (hks : ks ≠ .l := by decide) (hN : X.N[i]? = some x := by rfl) (hv : Vis X.env.scope x := by first | exact Or.inl rfl | exact Or.inr (Or.inl rfl) | exact Or.inr (Or.inr rfl)) (hdb : (x == ("__debug__" : Str)) = false := by decide) (hcd : (x == ("__classdict__" : Str)) = false := by decide)
    (hs : swapsWith e (some (.Subscript (.Name x px) (.Constant (.str s) j pc) tpos)) pos.line X.env = pure false := by exact rfl) :
    PSD X (.Assign [.Subscript (.Name x px) (.Constant (.str s) j pc) tpos] e pos) (sFput ks i k f) := PS_imp (ps_dput (by have := hr.r.un; omega) (pe_var hN hv hdb hcd) pe_str he hs) fun D σ H ⟨H0, av0, x0, av, q, ρ, S, W, p⟩ => by
  refine tE_stepS W p fun d S1 v H1 p1 e1 A1 d1 => ?_
  obtain ⟨g1, p1⟩ := getF_post (post_bind p1)
  obtain ⟨w, g2, rfl⟩ := A1.slot i _ g1
  have W1 := W.ext e1 A1
  cases d with
  | int n =>
    cases d1
    have p1' : R.post (if S1.ks = ks then R.ok (Fl.nx ρ) (k.put S1 n) else R.bad) (flP X.K H0 av0 x0 q D) (flX X.K (wx X) H0 av0 x0 q) := p1
    split at p1'
    · rename_i hS
      have pp : flP X.K H0 av0 x0 q D (.nx ρ) (k.put S1 n) := p1'
      subst hk
      have f1 := A1.feed
      have put := feed_putK (q := q) (S := S1) (n := n) hkc hks
      have g := DPut.k (k := .inr (Fk.key ks k)) (v := .int n) (by rw [← feedO_kvs hS hks]; exact f1.2.2.1) (by cases ks <;> first | exact absurd rfl hks | (show 4 < sizeLine; decide))
      rw [put] at g
      refine ⟨_, g2, q.a, _, rfl, g, pp av σ _ ?_⟩
      have hS2 : (k.put S1 n).ks = ks := by cases k <;> exact hS
      rw [← feedO_kvs hS2 hks]
      have eE : Ext (mv q) H1 (upd H1 q.a (feedO q (k.put S1 n))) := fun b o nb hb => by
        rw [upd_ne fun z => nb (by rw [z]; exact List.mem_cons_self)]; exact hb
      have hcells : (k.put S1 n).cells = S1.cells := by cases k <;> rfl
      have ne : q.c ≠ q.a := fun z => f1.2.1 (by rw [z]; exact f1.a_in)
      have f2 : FeedAt av q (k.put S1 n) (upd H1 q.a (feedO q (k.put S1 n))) := ⟨f1.1, f1.2.1, upd_same, by rw [upd_ne ne, hcells]; exact f1.2.2.2.1, feed_tabs f1⟩
      exact W1.ext eE (A1.ext eE f2)
    · exact False.elim p1'
  | _ => exact False.elim p1
end
end G
end

section
set_option Elab.async false
set_option linter.all false
set_option maxRecDepth 100000
set_option maxHeartbeats 4100000
namespace G
open L2 PySem.Spec PyProof.Rows PySem
variable [LamT]
section
variable {X : Cx} {pos : Pos}
/-- x, y = list(range(a)), [] : two lists of one's own -/
def sOwnPar (i j : Nat) (f : En → M PyData) : En → M Fl := fun ρ => cUn gRgL f ρ >>= fun d => match d with
  | .list l => pure (.nx ((ρ.set i (some (.ow (l, true)))).set j (some (.ow ([], true)))))
  | _ => bad
theorem s_ownPar {i j : Nat} {x y : Str} {a : Expr} {f : En → M PyData} {px py pt p p2 pos1 pos2 lp : Pos} {kt k2 pt2} (hc : X.calm = true) (hN : X.N.Nodup) (hm : X.mg "list" = none) (hm2 : X.mg "range" = none) (ha : PD X a f) (hi : X.N[i]? = some x := by rfl) (hj : X.N[j]? = some y := by rfl) (hij : i ≠ j := by decide)
    (hx : X.env.scope.names.lookup x = some .local := by rfl) (hy : X.env.scope.names.lookup y = some .local := by rfl) (hg : Gl X "list" := by rfl) (hg2 : Gl X "range" := by rfl) (na : starEach [a] X.env = (false, eval a X.env) :: starEach [] X.env := by rfl)
    (nb : starEach [Expr.Call (.Name "range" p2) [a] [] pos2] X.env = (false, eval (Expr.Call (.Name "range" p2) [a] [] pos2) X.env) :: starEach [] X.env := by rfl)
    (n1 : starEach [Expr.Call (.Name "list" p) [.Call (.Name "range" p2) [a] [] pos2] [] pos1, Expr.List [] lp] X.env = (false, eval (Expr.Call (.Name "list" p) [.Call (.Name "range" p2) [a] [] pos2] [] pos1) X.env) :: starEach [Expr.List [] lp] X.env := by rfl) (n2 : starEach [Expr.List [] lp] X.env = (false, eval (Expr.List [] lp) X.env) :: starEach [] X.env := by rfl)
    (hw : swappedStores [.Tuple [.Name x px, .Name y py] kt pt] (.Tuple [.Call (.Name "list" p) [.Call (.Name "range" p2) [a] [] pos2] [] pos1, .List [] lp] k2 pt2) X.env = pure (some [x, y]) := by rfl)
    (hs : swapsWithSole [.Tuple [.Name x px, .Name y py] kt pt] (.Tuple [.Call (.Name "list" p) [.Call (.Name "range" p2) [a] [] pos2] [] pos1, .List [] lp] k2 pt2) pos.line X.env = pure false := by exact rfl) :
    PSD X (.Assign [.Tuple [.Name x px, .Name y py] kt pt] (.Tuple [.Call (.Name "list" p) [.Call (.Name "range" p2) [a] [] pos2] [] pos1, .List [] lp] k2 pt2) pos) (sOwnPar i j f) :=
  PS_imp (ps_par hc hN hi hj hij hx hy (pa_cons (pe_listRg hc hg hm (prg_1 hg2 hm2 ha na) nb) (pa_cons (pe_lst pa_nil) pa_nil n2) n1) hw hs) fun D σ H ⟨H0, av0, x0, av, q, ρ, S, W, p⟩ => by
    have p := post_bind p
    refine tE_stepS W p fun d S1 v H1 p1 e1 A1 d1 => ?_
    obtain ⟨d', hd, k⟩ := post_lift p1
    have W1 := W.ext e1 A1
    cases d with
    | int n =>
      have hd2 : (if decide (0 ≤ n ∧ n ≤ 16777216) then some (PyData.list (rngD 0 n.toNat)) else none) = some d' := hd
      split at hd2
      · rename_i hh
        have hh := of_decide_eq_true hh
        cases hd2; cases d1
        refine ⟨_, rfl, RgOk.of_le (by omega) hh.2 (by omega) hh.1, fun p hp => ?_⟩
        have W2 := W1.newOw (i := i) hp (rgV_dp n)
        refine ⟨by show 0 ≤ sizeLine; decide, fun p2 hp2 => ⟨_, _, rfl, k _ _ _ (W2.newOw (i := j) hp2 .nil)⟩⟩
      · cases hd2
    | _ => cases hd
end
end G
end

section
set_option Elab.async false
set_option linter.all false
set_option maxRecDepth 100000
set_option maxHeartbeats 4100000
namespace G
open L2 PySem.Spec PyProof.Rows PySem
variable [LamT]
/-! ### the head, for promises that are kept where nothing is being shown -/
/-- tracked at the start: the script's list, perhaps; the tables of code objects -/
def OnlyT (T : List Addr) (H : Hp) : Prop := ∀ b, H b = none ∨ b ∈ T ∨ ∃ ob xs, H b = some (.frz ob (.lst xs))
def emptyTab : Obj := { cls := .none, data := .fields #[] }
theorem law_callG {P : Program} {w : World} {K : PySem.W.Frag} {mg mb : Str → Option Value} {k : Nat} {fa a : Addr} {cs : List (Addr × Addr)} {fd : FuncData} {x : Str} {sp : Sp} {s1 : Shared} {vs : List Value} {ns : List Int} (KX : K.In s1.heap) (hns : s1.heap.Ns mainGlobals mg) (hb : s1.heap.Ns builtinsNs mb) (hbb : ∀ x : Str, x ≠ "__name__" → mb x = bootBuiltins x) (hlim : s1.heap.NoLimit) (hg : s1.gens = #[])
    (tab0 : ∀ r ∈ cs, s1.heap.get? r.2 = some emptyTab) (tabK : ∀ r ∈ cs, K.lookup r.2 = none) (code0 : ∀ r ∈ cs, PySem.W.CodeHd s1.heap r.1 r.2)
    (hbm : ∃ (bm : Addr) (ob : Obj), mg "__builtins__" = some (.ref bm) ∧ bm ≠ builtinsNs ∧ s1.heap.get? bm = some ob ∧ ob.cls = .type "module" ∧ ob.dict = some builtinsNs ∧ ob.data = .plain)
    (ha : s1.heap.get? a = some { cls := .type "list", data := .seq vs.toArray }) (hi : IntsAre vs ns) (hl : ns.length ≤ sizeLine) (hr : RoomG k callerA) (F : ∀ base : Heap, K.In base → base.Ns mainGlobals mg → (∀ r ∈ cs, LamX.TabB base mg r.1 r.2) → FnG P w K mg base k fa fd [x] sp) (hbind : ∀ (s : Shared) (u : Value), BindsTo s fd ⟨[u], []⟩ [(x, u)])
    (hsp : ∀ H : Hp, (∀ r ∈ cs, H r.2 = some (.tbl #[])) → SqL K H a (ns.map V.int) → sp [.ref a] H (fun v _ => v = .bl true) fun _ _ _ => False) :
    codeAny (model P w) callerA (.call (.ref fa) ⟨[.ref a], []⟩) (fun r s' => r = .ok (.ret (.bool true)) ∧ OldK s1.heap s'.heap ∧ s'.os = s1.os ∧ AllBare s'.gens) s1 := by
  have rvₐ := vals_ints hi
  have nVₐ := hi.length
  let T : List Addr := cs.map Prod.snd
  have tabT : ∀ bₐ ∈ T, s1.heap.get? bₐ = some emptyTab ∧ ∃ r ∈ cs, r.2 = bₐ := fun bₐ zₐ => by
    obtain ⟨r, hrₐ, rfl⟩ := List.mem_map.mp zₐ
    exact ⟨tab0 r hrₐ, r, hrₐ, rfl⟩
  have inT : ∀ r ∈ cs, r.2 ∈ T := fun r hrₐ => List.mem_map.mpr ⟨r, hrₐ, rfl⟩
  have naT : a ∉ T := fun zₐ => by
    have yₐ := (tabT a zₐ).1
    rw [ha] at yₐ
    exact nomatch (show Data.seq vs.toArray _ = Data.fields #[] from congrArg Obj.data (Option.some.inj yₐ))
  have mainₐ : ∀ H : Hp, (∀ r ∈ cs, H r.2 = some (.tbl #[])) → OnlyT T H → SqL K H a (ns.map V.int) → HOk P w H s1.heap → (∀ bₐ, H bₐ ≠ none → bₐ = a ∨ bₐ ∈ T) → (H a ≠ none → K.lookup a = none) → codeAny (model P w) callerA (.call (.ref fa) ⟨[.ref a], []⟩) (fun r s' => r = .ok (.ret (.bool true)) ∧ OldK s1.heap s'.heap ∧ s'.os = s1.os ∧ AllBare s'.gens) s1 := by
    intro H hTₐ hOₐ hSₐ hokₐ hAₐ hKₐ
    have base_ofₐ : ∀ {bₐ : Addr} {oₐ : Obj}, s1.heap.get? bₐ = some oₐ → H bₐ = none → (hidT s1.heap H).get? bₐ = some oₐ := fun eₐ nₐ => hidT_get eₐ nₐ
    have freeₐ : ∀ {bₐ : Addr} {oₐ : Obj}, s1.heap.get? bₐ = some oₐ → (∀ usₐ mₐ, oₐ.data ≠ .seq usₐ mₐ) → oₐ.data ≠ .fields #[] → H bₐ = none := fun {bₐ oₐ} eₐ n1ₐ n2ₐ => by
      cases zₐ : H bₐ with
      | none => rfl
      | some u =>
        rcases hAₐ bₐ (by rw [zₐ]; simp) with yₐ | yₐ
        · subst yₐ
          rw [ha] at eₐ; cases eₐ
          exact absurd rfl (n1ₐ _ _)
        · rw [(tabT bₐ yₐ).1] at eₐ; cases eₐ
          exact absurd rfl n2ₐ
    have noAₐ : ∀ {bₐ : Addr} {oₐ : Obj} {esₐ : Array DictEntry} {epₐ : Nat}, s1.heap.get? bₐ = some oₐ → oₐ.data = .dict esₐ epₐ → H bₐ = none := fun {bₐ oₐ esₐ epₐ} eₐ dₐ =>
      freeₐ eₐ (fun _ _ zₐ => nomatch dₐ.symm.trans zₐ) fun zₐ => nomatch dₐ.symm.trans zₐ
    have nsKₐ : ∀ {bₐ : Addr} {mₐ : Str → Option Value}, s1.heap.Ns bₐ mₐ → (hidT s1.heap H).Ns bₐ mₐ := fun {bₐ mₐ} ⟨oₐ, esₐ, epₐ, eₐ, dₐ, r⟩ => ⟨oₐ, esₐ, epₐ, base_ofₐ eₐ (noAₐ eₐ dₐ), dₐ, r⟩
    have hKbₐ : K.In (hidT s1.heap H) := fun bₐ oₐ eₐ => base_ofₐ (KX bₐ oₐ eₐ) (by
      cases zₐ : H bₐ with
      | none => rfl
      | some u =>
        rcases hAₐ bₐ (by rw [zₐ]; simp) with yₐ | yₐ
        · subst yₐ
          rw [hKₐ (by rw [zₐ]; simp)] at eₐ; cases eₐ
        · obtain ⟨_, r, hrₐ, rfl⟩ := tabT bₐ yₐ
          rw [tabK r hrₐ] at eₐ; cases eₐ)
    have hMₐ : Mod K mg (hidT s1.heap H) := ⟨hKbₐ, nsKₐ hns, ⟨mb, nsKₐ hb, hbb⟩, let ⟨mc, y1ₐ, y2ₐ⟩ := hlim; ⟨mc, nsKₐ y1ₐ, y2ₐ⟩⟩
    have e0ₐ : Env0 P w K mg (hidT s1.heap H) callerA [] s1 H := ⟨rfl, hMₐ, fun bₐ oₐ eₐ => of_hidT eₐ, Nat.le_of_eq (hidT_size _ _), trivial, fun bₐ hb => absurd (show bₐ ∈ ([] : List Addr) from hb) (by simp), hokₐ, .of_eq hg⟩
    have tbₐ : ∀ r ∈ cs, LamX.TabB (hidT s1.heap H) mg r.1 r.2 := fun r hrₐ => by
      have notG : ∀ {oₐ : Obj}, s1.heap.get? mainGlobals = some oₐ → ∃ esₐ epₐ, oₐ.data = .dict esₐ epₐ := fun {oₐ} eₐ => by
        obtain ⟨o2ₐ, esₐ, epₐ, e2ₐ, d2ₐ, _⟩ := id hns
        rw [eₐ] at e2ₐ; cases e2ₐ
        exact ⟨esₐ, epₐ, d2ₐ⟩
      constructor
      · obtain ⟨ocₐ, ucₐ, x1ₐ, x2ₐ, x3ₐ, x4ₐ, x5ₐ, x6ₐ, x7ₐ, gₐ, p1ₐ, p2ₐ, p3ₐ, restₐ⟩ := code0 r hrₐ
        refine ⟨ocₐ, ucₐ, x1ₐ, x2ₐ, x3ₐ, x4ₐ, x5ₐ, x6ₐ, x7ₐ, base_ofₐ gₐ (freeₐ gₐ (fun _ _ zₐ => nomatch p2ₐ.symm.trans zₐ) fun zₐ => ?_), p1ₐ, p2ₐ, p3ₐ, restₐ⟩
        rw [p2ₐ] at zₐ
        cases zₐ
        simp at p3ₐ
      · obtain ⟨bmₐ, obₐ, q1ₐ, q2ₐ, q3ₐ, q4ₐ, q5ₐ, q6ₐ⟩ := hbm
        refine ⟨bmₐ, obₐ, q1ₐ, q2ₐ, fun zₐ => ?_, fun zₐ => ?_, base_ofₐ q3ₐ (freeₐ q3ₐ (fun _ _ zₐ => nomatch q6ₐ.symm.trans zₐ) fun zₐ => nomatch q6ₐ.symm.trans zₐ), q4ₐ, q5ₐ, q6ₐ⟩
        · subst zₐ
          obtain ⟨_, _, dₐ⟩ := notG q3ₐ
          exact nomatch dₐ.symm.trans q6ₐ
        · subst zₐ
          rw [tab0 r hrₐ] at q3ₐ; cases q3ₐ
          exact nomatch (show Data.fields #[] = Data.plain from q6ₐ)
      · intro zₐ
        obtain ⟨_, _, dₐ⟩ := notG (by rw [zₐ]; exact tab0 r hrₐ)
        exact nomatch (show Data.fields #[] = Data.dict _ _ from dₐ)
    refine codeAny_mono ((F _ hKbₐ (nsKₐ hns) tbₐ).run callerA [] s1 H ⟨[.ref a], []⟩ [.ref a] [.ref a] _ _ hr e0ₐ (hbind s1 (.ref a)) (.cons rfl .nil) (hsp H hTₐ hSₐ)) fun r s' hₐ => ?_
    cases r with
    | error eₐ =>
      obtain ⟨_, _, _, _, _, _, _, _, _, _, _, _, zₐ⟩ := (show L2.CX P w [] H s1 (fun _ _ _ => False) eₐ s' from hₐ)
      exact zₐ.elim
    | ok flₐ =>
      cases flₐ with
      | next => exact hₐ.elim
      | brk => exact hₐ.elim
      | cont => exact hₐ.elim
      | ret u =>
        obtain ⟨v, H'ₐ, osₐ, bareₐ, unₐ, hok'ₐ, r'ₐ, zₐ⟩ := hₐ
        obtain rfl : v = .bl true := zₐ
        obtain rfl : u = Value.bool true := r'ₐ
        have staysₐ : ∀ bₐ oₐ, bₐ ∉ T → s1.heap.get? bₐ = some oₐ → s'.heap.get? bₐ = some oₐ := fun bₐ oₐ nₐ eₐ => by
          cases zₐ : H bₐ with
          | none => exact unₐ.keep bₐ oₐ eₐ zₐ (by intro yₐ; exact absurd (show bₐ ∈ ([] : List Addr) from yₐ) (by simp)) (by simp)
          | some u =>
            rcases hOₐ bₐ with yₐ | yₐ | ⟨obₐ, xsₐ, yₐ⟩
            · rw [zₐ] at yₐ; cases yₐ
            · exact absurd yₐ nₐ
            · obtain ⟨y1ₐ, _⟩ := hokₐ bₐ _ yₐ
              obtain ⟨y2ₐ, _⟩ := hok'ₐ bₐ _ (unₐ.frzs bₐ obₐ _ yₐ)
              rw [eₐ] at y1ₐ; cases y1ₐ; exact y2ₐ
        have moreₐ : ∀ r ∈ cs, ∃ usₐ : Array Value, s'.heap.get? r.2 = some { cls := .none, data := .fields usₐ } := fun r hrₐ => by
          obtain ⟨mₐ, zₐ⟩ := unₐ.tbls r.2 #[] (hTₐ r hrₐ)
          exact ⟨_, hok'ₐ r.2 _ zₐ⟩
        refine ⟨rfl, ⟨fun bₐ oₐ eₐ => ?_, fun bₐ oₐ eₐ => ?_⟩, osₐ, bareₐ⟩
        · by_cases hTb : bₐ ∈ T
          · obtain ⟨t0ₐ, r, hrₐ, rfl⟩ := tabT bₐ hTb
            obtain ⟨usₐ, hmₐ⟩ := moreₐ r hrₐ
            rw [t0ₐ] at eₐ; cases eₐ
            exact .inr (.inl ⟨((code0 r hrₐ).tab (tab0 r hrₐ)).isCodeTable, rfl, #[], usₐ, rfl, hmₐ.trans (by rw [Array.empty_append]; rfl)⟩)
          · exact .inl (staysₐ bₐ oₐ hTb eₐ)
        · by_cases hTb : bₐ ∈ T
          · obtain ⟨_, r, hrₐ, rfl⟩ := tabT bₐ hTb
            obtain ⟨usₐ, hmₐ⟩ := moreₐ r hrₐ
            exact ⟨_, hmₐ⟩
          · exact ⟨oₐ, staysₐ bₐ oₐ hTb eₐ⟩
  let H0 : Hp := fun bₐ => if bₐ ∈ T then some (.tbl #[]) else none
  have h0T : ∀ r ∈ cs, H0 r.2 = some (.tbl #[]) := fun r hrₐ => if_pos (inT r hrₐ)
  cases hk : K.lookup a with
  | some oₐ =>
    have eₐ := KX a oₐ hk
    rw [ha] at eₐ
    cases eₐ
    refine mainₐ H0 h0T (fun bₐ => ?_) (.inr ⟨_, vs.toArray, _, hk, rfl, rfl, rfl, by rw [List.size_toArray, nVₐ]; exact hl, by simpa using rvₐ⟩) (fun bₐ u zₐ => ?_) (fun bₐ zₐ => ?_) fun zₐ => absurd (show H0 a = none from if_neg naT) zₐ
    · by_cases yₐ : bₐ ∈ T
      · exact .inr (.inl yₐ)
      · exact .inl (if_neg yₐ)
    · by_cases yₐ : bₐ ∈ T
      · have zₐ : (if bₐ ∈ T then some (HO.tbl #[]) else none) = some u := zₐ
        rw [if_pos yₐ] at zₐ; cases zₐ
        exact (tabT bₐ yₐ).1
      · have zₐ : (if bₐ ∈ T then some (HO.tbl #[]) else none) = some u := zₐ
        rw [if_neg yₐ] at zₐ; cases zₐ
    · by_cases yₐ : bₐ ∈ T
      · exact .inr yₐ
      · exact absurd (show H0 bₐ = none from if_neg yₐ) zₐ
  | none =>
    let H1 : Hp := fun bₐ => if bₐ = a then some (.frz { cls := .type "list", data := .seq vs.toArray } (.lst (ns.map V.int))) else H0 bₐ
    have h1a : H1 a = some (.frz { cls := .type "list", data := .seq vs.toArray } (.lst (ns.map V.int))) := if_pos rfl
    have h1n : ∀ bₐ, bₐ ≠ a → H1 bₐ = H0 bₐ := fun bₐ nₐ => if_neg nₐ
    refine mainₐ H1 (fun r hrₐ => (h1n r.2 fun zₐ => naT (by rw [← zₐ]; exact inT r hrₐ)).trans (h0T r hrₐ)) (fun bₐ => ?_) (.inl (.inr ⟨{ cls := .type "list", data := .seq vs.toArray }, h1a⟩)) (fun bₐ u zₐ => ?_) (fun bₐ zₐ => ?_) fun _ => hk
    · by_cases yₐ : bₐ = a
      · exact .inr (.inr ⟨_, _, by rw [yₐ]; exact h1a⟩)
      · by_cases tₐ : bₐ ∈ T
        · exact .inr (.inl tₐ)
        · exact .inl ((h1n bₐ yₐ).trans (if_neg tₐ))
    · by_cases yₐ : bₐ = a
      · subst yₐ
        rw [h1a] at zₐ; cases zₐ
        exact ⟨ha, by rw [List.length_map]; exact hl, vs, _, rvₐ, ha⟩
      · rw [h1n bₐ yₐ] at zₐ
        have zₐ : (if bₐ ∈ T then some (HO.tbl #[]) else none) = some u := zₐ
        by_cases tₐ : bₐ ∈ T
        · rw [if_pos tₐ] at zₐ; cases zₐ
          exact (tabT bₐ tₐ).1
        · rw [if_neg tₐ] at zₐ; cases zₐ
    · by_cases yₐ : bₐ = a
      · exact .inl yₐ
      · by_cases tₐ : bₐ ∈ T
        · exact .inr tₐ
        · exact absurd ((h1n bₐ yₐ).trans (if_neg tₐ)) zₐ
/-- what is known of the law's def at the head's heap -/
structure LawG (P : Program) (w : World) (K : PySem.W.Frag) (mg : Str → Option Value) (k : Nat) (fa : Addr) (x : Str) (h : Heap) (n : Nat) : Prop where
  ex : ∃ (fd : FuncData) (cs : List (Addr × Addr)) (sp : Sp), (∀ r ∈ cs, h.get? r.2 = some emptyTab) ∧ (∀ r ∈ cs, K.lookup r.2 = none) ∧ (∀ r ∈ cs, PySem.W.CodeHd h r.1 r.2) ∧ (∀ (s : Shared) (u : Value), BindsTo s fd ⟨[u], []⟩ [(x, u)]) ∧
    (∀ (H : Hp) (a : Addr) (ns : List Int), ns.length ≤ n → (∀ r ∈ cs, H r.2 = some (.tbl #[])) → SqL K H a (ns.map V.int) → sp [.ref a] H (fun v _ => v = .bl true) fun _ _ _ => False) ∧
    ∀ base : Heap, K.In base → base.Ns mainGlobals mg → (∀ r ∈ cs, LamX.TabB base mg r.1 r.2) → FnG P w K mg base k fa fd [x] sp
theorem walkG {l : PySem.W.OpenLaw} {n k : Nat} {q : Program} {loose : List Str} {XP : (Str → Option Value) → Heap → Prop} {YP : World → Heap → Prop} {d : DefRec} {K : Params → PySem.W.Frag} {x : Str} (hn : l.most = some n) (hn2 : n ≤ sizeLine) (hdf : d.params.defaults = []) (hr : RoomG k callerA) (hY : ∀ (w : World) (h : Heap), YP w h → (K w.params).In h)
    (F : ∀ (w : World) (mg : Str → Option Value) (fa : Addr) (h : Heap), YP w h → (K w.params).In h → h.Ns mainGlobals mg → mg d.name = some (.ref fa) → LawG l.prog w (K w.params) mg k fa x h n) :
    PySem.W.WalkO q loose XP YP l.row.toRowW d [] fun f vs => PySem.call f vs := by
  refine Att.attach_call hn hdf fun w s0ₐ s1ₐ mg mbₐ fa oₐ pmₐ cdₐ docₐ a vs ns Gₐ Yₐ hoₐ hdₐ hcdₐ hmgₐ hobjₐ hintsₐ hlenₐ hgₐ => ?_
  have KXₐ := hY w _ Yₐ
  obtain ⟨fd, cs, sp, t1ₐ, t2ₐ, t3ₐ, hbₐ, hspₐ, hFₐ⟩ := (F w mg fa _ Yₐ KXₐ Gₐ.T.g hmgₐ).ex
  exact law_callG KXₐ Gₐ.T.g Gₐ.T.b Gₐ.T.builtins Gₐ.T.nolimit hgₐ t1ₐ t2ₐ t3ₐ Gₐ.T.bmain hobjₐ hintsₐ (Nat.le_trans hlenₐ hn2) hr hFₐ hbₐ fun H hHₐ hSₐ => hspₐ H a ns hlenₐ hHₐ hSₐ

/-! ### the script made into what is drawn from; the law's def -/
section
variable {X : Cx}
theorem pe_fnG {k : Nat} {f : Addr} {fd : FuncData} {ps : List Str} {sp : Sp} {x : Str} {p pos : Pos} {e : Expr} {es : List Expr} {t : TA} (Gf : FnG X.prog X.w X.K X.mg X.base k f fd ps sp) (hr : RoomG k X.A) (hm : X.mg x = some (.ref f)) (hk : PySem.W.keepIn X.K (.ref f) = true) (hb : Binds X.K fd ps []) (ha : PA X (e :: es) t) (hg : Gl X x := by rfl) (hdb : (x == ("__debug__" : Str)) = false := by decide)
    (he : starEach (e :: es) X.env = (false, eval e X.env) :: starEach es X.env := by rfl) (hpl : (backTo pos (starEach es X.env)).any (·.1) = false := by rfl) : PE X (.Call (.Name x p) (e :: es) [] pos) (fun σ H Q => t σ H fun vs H1 => sp vs H1 Q (wa (wx X) σ)) := by
  refine ⟨fun pins s σ H Q I h' => wpAny_Call_Name_kw (ld_glob I hg hm ?_ hdb)⟩
  refine PySem.W.callWith_K (h₀ := X.base) I.ok.mod.kin hk (thn (ha.run pos pins s σ H _ I h') fun us s1 ⟨vs, H1, I1, r, hsp⟩ => ⟨I1.kIn, ?_⟩) he hpl
  have hl : us.length = ps.length := by rw [← r.length]; exact Gf.len _ _ _ _ hsp
  have hbn := hb s1 us I1.kIn (by rw [List.append_nil]; exact hl)
  rw [List.append_nil] at hbn
  refine wpAny_call (codeAny_mono (Gf.run X.A X.stack s1 H1 ⟨us, []⟩ us vs Q (wa (wx X) σ) hr I1.env0 hbn r hsp) fun r' s' hq => ?_)
  have z := ret_of I1 rfl (fun _ _ _ z => z) hq
  cases r' with
  | error e => exact z
  | ok fl =>
    cases fl with
    | ret u => exact z
    | next => exact z.elim
    | brk => exact z.elim
    | cont => exact z.elim
end
/-- what _law_feed promises: a feed that is made of the script -/
def spFeed (K : PySem.W.Frag) (ks : Ks) : Sp := fun vs H Q _ => vs.length = 1 ∧ ∃ (a : Addr) (ns : List Int), vs = [.ref a] ∧ SqL K H a (ns.map V.int) ∧ ∀ (q : Pt) (S : Fd) (H' : Hp), S.ks = ks → (∀ b ob, H b = some ob → H' b = some ob) → q.a ≠ q.c → H q.a = none → H q.c = none → H' q.a = some (feedO q S) → H' q.c = some (.lst (S.cells.map V.int)) → Q (.ref q.a) H'
/-- what law promises -/
def spLaw (K : PySem.W.Frag) : Sp := fun vs H Q _ => vs.length = 1 ∧ LamX.Tabs LamT.ts H ∧ ∃ (a : Addr) (ns : List Int), vs = [.ref a] ∧ SqL K H a (ns.map V.int) ∧ ∀ H' : Hp, Q (.bl true) H'
theorem take_vals {ns : List Int} {k : Nat} : cutV (ns.map V.int) none (some (k : Int)) = (ns.take k).map V.int := by
  unfold cutV
  rw [HT.sIx_none, HT.sIx_nat, List.length_map, List.drop_zero, ← List.map_take, Nat.sub_zero]
  congr 1
  rcases Nat.le_total k ns.length with h | h
  · rw [Nat.min_eq_left h]
  · rw [Nat.min_eq_right h, List.take_of_length_le (Nat.le_refl _), List.take_of_length_le h]
end G
end

section
set_option Elab.async false
set_option linter.all false
set_option maxRecDepth 100000
set_option maxHeartbeats 4100000
namespace G
open L2 PySem.Spec PyProof.Rows PySem
variable [LamT]
/-! ### while -/
def whGo (c : En → M Bool) (g : En → M Fl) : Nat → En → M Fl
  | 0, _ => bad
  | n + 1, ρ => c ρ >>= fun b => if b then g ρ >>= fun fl => match fl with
      | .nx ρ' => whGo c g n ρ'
      | .ct ρ' => whGo c g n ρ'
      | .bk ρ' => pure (.nx ρ')
      | .rt d => pure (.rt d)
    else pure (.nx ρ)
def whFuel : Nat := 1000000000000
def sWhile (c : En → M Bool) (g : En → M Fl) : En → M Fl := fun ρ => whGo c g whFuel ρ
section
variable {X : Cx} {pos : Pos}
theorem s_while {c : Expr} {body : List Stmt} {fc : En → M Bool} {g : En → M Fl} (hp : PassesOwn (model X.prog X.w) X.A X.env X.xe) (hc : PB X c fc) (hb : PSsD X body g) : PSD X (.While c body [] pos) (sWhile fc g) := PS_imp (ps_while hp hc hb) fun D σ H ⟨H0, av0, x0, av, q, ρ, S, W, p⟩ => by
  refine ⟨fun m σ' H' => ∃ av' ρ' S', EnvW X.K H0 av0 x0 av' q ρ' S' σ' H' ∧ (whGo fc g m ρ' S').post (flP X.K H0 av0 x0 q D) (flX X.K (wx X) H0 av0 x0 q), ⟨whFuel, av, ρ, S, W, p⟩, ?_⟩
  rintro m σ' H' ⟨av', ρ', S', W', p'⟩
  cases m with
  | zero => exact False.elim p'
  | succ m =>
    have p2 : ((fc ρ' >>= fun b => if b then g ρ' >>= fun fl => match fl with
      | .nx ρ' => whGo fc g m ρ'
      | .ct ρ' => whGo fc g m ρ'
      | .bk ρ' => pure (.nx ρ')
      | .rt d => pure (.rt d)
    else pure (.nx ρ') : M Fl) S').post (flP X.K H0 av0 x0 q D) (flX X.K (wx X) H0 av0 x0 q) := p'
    refine tD_stepS W' p2 fun b S1 H1 p1 e1 A1 => ?_
    cases b with
    | true =>
      rw [if_pos rfl] at p1 ⊢
      refine ⟨fun σ2 H2 => ∃ av2 ρ2 S2, EnvW X.K H0 av0 x0 av2 q ρ2 S2 σ2 H2 ∧ (whGo fc g m ρ2 S2).post (flP X.K H0 av0 x0 q D) (flX X.K (wx X) H0 av0 x0 q), fun σ2 H2 h => ⟨m, Nat.lt_succ_self m, h⟩, tS_sub (W'.ext e1 A1) (R.post_imp (post_bind p1) (fun fl S3 p3 => ?_) fun _ _ z => z)⟩
      cases fl with
      | nx ρ3 => exact fun av3 σ3 H3 W3 => ⟨av3, ρ3, S3, W3, p3⟩
      | ct ρ3 => exact fun av3 σ3 H3 W3 => ⟨av3, ρ3, S3, W3, p3⟩
      | bk ρ3 => exact p3
      | rt d => exact p3
    | false =>
      rw [if_neg (by decide)] at p1 ⊢
      exact p1 av' σ' H1 (W'.ext e1 A1)
/-! ### a < b <= c -/
def cChain (g g' : PyData → PyData → Option PyData) (fa fb fc : En → M PyData) : En → M PyData := fun ρ => fa ρ >>= fun x => fb ρ >>= fun y => lift (g x y) >>= fun z => match z with
  | .bool true => fc ρ >>= fun w => lift (g' y w)
  | .bool false => pure (.bool false)
  | _ => bad
theorem tChain_of {K : PySem.W.Frag} {Wx : WX} {r r' : R2} {g g' : PyData → PyData → Option PyData} (hg : OpD K r g) (hg' : OpD K r' g') {fa fb fc : En → M PyData} (σ : G.St) (H : Hp) (Q : VK) (t : tE K Wx (cChain g g' fa fb fc) σ H Q) : tChain r r' (tE K Wx fa) (tE K Wx fb) (tE K Wx fc) σ H Q := by
  obtain ⟨av, q, ρ, S, A, p⟩ := t
  refine tE_step A p fun x S1 v H1 p1 e1 A1 d1 => ?_
  refine tE_step A1 p1 fun y S2 w H2 p2 e2 A2 d2 => ?_
  obtain ⟨d, hd, k⟩ := post_lift (post_bind p2)
  refine hg av H2 x y d v w _ A2.trk hd (ext_dp A.feed.1 e2 d1) d2 fun u H' sm du => ?_
  have e3 : Ext (mv q) H H' := (e1.trans e2).trans (Ext.of_same sm)
  have A3 := A2.ext (Ext.of_same sm) (feed_same A2.feed sm)
  split at k
  · cases du
    refine ⟨true, rfl, ?_⟩
    rw [if_pos rfl]
    refine tE_step A3 (post_ext (Ext.of_same sm) k) fun w2 S4 v4 H4 p4 e4 A4 d4 => ?_
    obtain ⟨d5, hd5, k5⟩ := post_lift p4
    exact hg' av H4 y w2 d5 w v4 Q A4.trk hd5 (ext_dp A3.feed.1 e4 (dp_same (msk_same sm) y w d2)) d4 fun u6 H6 sm6 du6 => k5 u6 H6 ((e3.trans e4).trans (Ext.of_same sm6)) (feed_same A4.feed sm6) du6
  · cases du
    refine ⟨false, rfl, ?_⟩
    rw [if_neg (by decide)]
    exact k _ H' e3 A3.feed (.bl _)
  · exact False.elim k
theorem d_chain {a b c : Expr} {fa fb fc : En → M PyData} {op op' : CmpOp} {r r' : R2} {g g' : PyData → PyData → Option PyData} (ho : OpR X (compareOp op) r) (hg : OpD X.K r g) (ho' : OpR X (compareOp op') r') (hg' : OpD X.K r' g') (ha : PD X a fa) (hb : PD X b fb) (hc : PD X c fc)
    (hm : lastMarks [op, op'] [b, c] = false := by with_unfolding_all rfl) : PD X (.Compare a [op, op'] [b, c] pos) (cChain g g' fa fb fc) := PE_imp (pe_chain ho ho' ha hb hc hm) (tChain_of hg hg')
/-! ### x in a tuple, in a list, of ints -/
def gInI (neg : Bool) (x y : PyData) : Option PyData := match x, y with
  | .int i, .tuple ds => (intsOf ds).map fun ns => .bool (if neg then !(ns.contains i) else ns.contains i)
  | .int i, .list ds => (intsOf ds).map fun ns => .bool (if neg then !(ns.contains i) else ns.contains i)
  | _, _ => none
theorem inV_int {i : Int} : ∀ ns : List Int, inV (.int i) (ns.map V.int) = ns.contains i
  | [] => rfl
  | n :: ns => by
    have ih := inV_int (i := i) ns
    unfold inV at ih ⊢
    rw [List.map_cons, List.any_cons, ih, List.contains_cons, eqV_int]
    congr 1
    by_cases h : n = i
    · subst h; simp
    · have h2 : ¬ i = n := fun z => h z.symm
      simp [h, h2]
theorem opD_inI {K : PySem.W.Frag} {neg : Bool} : OpD K (rIn K neg) (gInI neg) := fun av H x y d v w Q _ hd hx hy k => by
  unfold gInI at hd
  split at hd
  · rename_i i ds
    cases z : intsOf ds with
    | none => (rw [z] at hd; cases hd)
    | some ns =>
      rw [z] at hd; cases hd
      cases hx
      cases hy with
      | tup hs hn ht =>
        have e := ints_dp ht z
        subst e
        refine ⟨_, _, rfl, .inr (sqT_at hs), rfl, flat_ints ns, ?_⟩
        rw [inV_int]
        exact k _ H (Same.refl H) (.bl _)
  · rename_i i ds
    cases z : intsOf ds with
    | none => (rw [z] at hd; cases hd)
    | some ns =>
      rw [z] at hd; cases hd
      cases hx
      cases hy with
      | lst hs ht =>
        have e := ints_dp ht z
        subst e
        refine ⟨_, _, rfl, .inl (sqL_at hs), rfl, flat_ints ns, ?_⟩
        rw [inV_int]
        exact k _ H (Same.refl H) (.bl _)
  · cases hd
variable {a b : Expr} {fa fb : En → M PyData}
theorem d_inI (ha : PD X a fa) (hb : PD X b fb) (hm : behindInMarks .In b = false := by rfl) : PD X (.Compare a [.In] [b] pos) (cBin (gInI false) fa fb) := d_cmp op_in_seq opD_inI ha hb hm
theorem d_notInI (ha : PD X a fa) (hb : PD X b fb) (hm : behindInMarks .NotIn b = false := by rfl) : PD X (.Compare a [.NotIn] [b] pos) (cBin (gInI true) fa fb) := d_cmp op_notIn_seq opD_inI ha hb hm
/-! ### max, min of a list of ints -/
def best (lt : Int → Int → Bool) : List Int → Option Int
  | [] => none
  | x :: l => match best lt l with
    | none => some x
    | some y => some (if lt y x then x else y)
theorem best_in {lt : Int → Int → Bool} : ∀ {l : List Int} {m : Int}, best lt l = some m → m ∈ l
  | [], _, h => by cases h
  | x :: l, m, h => by
    unfold best at h
    cases z : best lt l with
    | none => (rw [z] at h; cases h; exact List.mem_cons_self)
    | some y =>
      rw [z] at h
      by_cases c : lt y x = true
      · simp only [c, if_true] at h
        cases h; exact List.mem_cons_self
      · simp only [c] at h
        cases h; exact List.mem_cons_of_mem _ (best_in z)
theorem best_none {lt : Int → Int → Bool} : ∀ {l : List Int}, best lt l = none → l = []
  | [], _ => rfl
  | x :: l, h => by
    unfold best at h
    cases z : best lt l with
    | none => (rw [z] at h; cases h)
    | some y => (rw [z] at h; cases h)
theorem max_le : ∀ {l : List Int} {m : Int}, best (fun y x => decide (y ≤ x)) l = some m → ∀ y ∈ l, y ≤ m
  | [], _, h, _, _ => (by cases h)
  | x :: l, m, h, w, hw => by
    unfold best at h
    cases z : best (fun y x => decide (y ≤ x)) l with
    | none =>
      rw [z] at h; cases h
      rw [best_none z] at hw
      rw [List.mem_singleton.mp hw]; exact Int.le_refl _
    | some y =>
      rw [z] at h
      have ih := max_le z
      by_cases c : y ≤ x
      · simp only [decide_eq_true c, if_true] at h
        cases h
        rcases List.mem_cons.mp hw with e | e
        · omega
        · have := ih w e; omega
      · simp only [decide_eq_false c] at h
        cases h
        rcases List.mem_cons.mp hw with e | e
        · omega
        · exact ih w e
theorem min_le : ∀ {l : List Int} {m : Int}, best (fun y x => decide (x ≤ y)) l = some m → ∀ y ∈ l, m ≤ y
  | [], _, h, _, _ => (by cases h)
  | x :: l, m, h, w, hw => by
    unfold best at h
    cases z : best (fun y x => decide (x ≤ y)) l with
    | none =>
      rw [z] at h; cases h
      rw [best_none z] at hw
      rw [List.mem_singleton.mp hw]; exact Int.le_refl _
    | some y =>
      rw [z] at h
      have ih := min_le z
      by_cases c : x ≤ y
      · simp only [decide_eq_true c, if_true] at h
        cases h
        rcases List.mem_cons.mp hw with e | e
        · omega
        · have := ih w e; omega
      · simp only [decide_eq_false c] at h
        cases h
        rcases List.mem_cons.mp hw with e | e
        · omega
        · exact ih w e
def gBest (lt : Int → Int → Bool) (ds : List PyData) : Option PyData := match ds with
  | [.list xs] => (intsOf xs).bind fun ns => (best lt ns).map PyData.int
  | _ => none
def gMax := gBest fun y x => decide (y ≤ x)
def gMin := gBest fun y x => decide (x ≤ y)
theorem best_pos {lt : Int → Int → Bool} {l : List Int} {m : Int} (h : best lt l = some m) : 0 < l.length := by
  cases l with
  | nil => cases h
  | cons a l => simp
theorem callD_max {K : PySem.W.Frag} : CallD K (rMax K) gMax := fun av H ds d vs Q t hd ha k => by
  unfold gMax gBest at hd
  split at hd
  · rename_i xs
    cases z : intsOf xs with
    | none => (rw [z] at hd; cases hd)
    | some ns =>
      rw [z] at hd
      cases b : best (fun y x => decide (y ≤ x)) ns with
      | none =>
        have : (best (fun y x => decide (y ≤ x)) ns).map PyData.int = some d := hd
        rw [b] at this; cases this
      | some m =>
        have e : (best (fun y x => decide (y ≤ x)) ns).map PyData.int = some d := hd
        rw [b] at e; cases e
        cases ha with
        | cons h1 h2 =>
          cases h2
          cases h1 with
          | lst hs ht =>
            have e := ints_dp ht z
            subst e
            refine ⟨_, ns, rfl, sqL_at hs, best_pos b, fun m' hm' hall => ?_⟩
            have h3 := max_le b m' hm'
            have h4 := hall m (best_in b)
            have : m' = m := by omega
            subst this
            exact k _ H (Same.refl H) (.int _)
  · cases hd
theorem callD_min {K : PySem.W.Frag} : CallD K (rMin K) gMin := fun av H ds d vs Q t hd ha k => by
  unfold gMin gBest at hd
  split at hd
  · rename_i xs
    cases z : intsOf xs with
    | none => (rw [z] at hd; cases hd)
    | some ns =>
      rw [z] at hd
      cases b : best (fun y x => decide (x ≤ y)) ns with
      | none =>
        have : (best (fun y x => decide (x ≤ y)) ns).map PyData.int = some d := hd
        rw [b] at this; cases this
      | some m =>
        have e : (best (fun y x => decide (x ≤ y)) ns).map PyData.int = some d := hd
        rw [b] at e; cases e
        cases ha with
        | cons h1 h2 =>
          cases h2
          cases h1 with
          | lst hs ht =>
            have e := ints_dp ht z
            subst e
            refine ⟨_, ns, rfl, sqL_at hs, best_pos b, fun m' hm' hall => ?_⟩
            have h3 := min_le b m' hm'
            have h4 := hall m (best_in b)
            have : m' = m := by omega
            subst this
            exact k _ H (Same.refl H) (.int _)
  · cases hd
end
end G
end

section
set_option Elab.async false
set_option linter.all false
set_option maxRecDepth 100000
set_option maxHeartbeats 4100000
namespace G
open L2 PySem.Spec PyProof.Rows PySem
variable [LamT]
/-! ### t[lo:hi] of tuples and lists -/
section
variable {X : Cx}
def whole (n : Nat) (lo hi : Option Int) : Prop := HT.sIx n 0 lo = 0 ∧ HT.sIx n n hi = n
def rSlF (K : PySem.W.Frag) : V → Option Int → Option Int → Hp → VK → Prop := fun x lo hi H Q => ∃ a xs, x = .ref a ∧ SqT K H a xs ∧ (whole xs.length lo hi → Q (.ref a) H) ∧
  (¬ whole xs.length lo hi → ∀ p o, H p = none → Pl o → Q (.ref p) (upd H p (.frz o (.tup (cutV xs lo hi)))))
theorem sl_tupF : SlR X (rSlF X.K) := by
  intro pn sh env hp x v vl vu lo hi sl Q J rx hs pl pu ⟨a, xs, ex, hx, q1, q2⟩
  subst ex
  by_cases hw : whole xs.length lo hi
  · exact sl_tupA pn sh env hp _ v vl vu lo hi sl Q J rx hs pl pu ⟨a, xs, rfl, hx, fun _ => q1 hw, fun n => absurd hw n⟩
  · cases rx
    obtain ⟨us, rv, ht, hz⟩ := J.tuple hx
    have hl : us.toArray.size = xs.length := by rw [List.size_toArray]; exact rv.length.symm
    refine ⟨"tuple", _, PyProof.Rows.slot_tuple_getitem.lookup, ht.typeIs, HT.getItem_tuple_cut ht hs pl pu (by rw [hl]; exact hw) ?_ (by rw [hl]; exact hz)⟩
    rw [hl]
    have fz := frz_ok (P := X.prog) (w := X.w) (H := hp) (h := sh.heap) (xs := cutV xs lo hi) (Nat.le_trans (cutV_length xs lo hi) hz) ((rv.drop (HT.sIx xs.length 0 lo)).take (HT.sIx xs.length xs.length hi - HT.sIx xs.length 0 lo))
    exact ⟨.ref sh.heap.objs.size, _, J.laid (t' := sh.toks) (fun b ob q => Heap.get?_push_of_some _ q) (Nat.le_refl _) fz, rfl, q2 hw _ _ (J.hok.fresh (Nat.le_refl _)) ⟨rfl, rfl⟩⟩
def cutD (ds : List PyData) (lo hi : Option Int) : List PyData := (ds.drop (HT.sIx ds.length 0 lo)).take (HT.sIx ds.length ds.length hi - HT.sIx ds.length 0 lo)
theorem dps_drop {K : PySem.W.Frag} {H : Hp} : ∀ {vs : List V} {ds : List PyData} (k : Nat), DxAll K H vs ds → DxAll K H (vs.drop k) (ds.drop k)
  | _, _, 0, h => h
  | _, _, _ + 1, .nil => .nil
  | _, _, k + 1, .cons _ t => dps_drop k t
theorem dps_take {K : PySem.W.Frag} {H : Hp} : ∀ {vs : List V} {ds : List PyData} (k : Nat), DxAll K H vs ds → DxAll K H (vs.take k) (ds.take k)
  | _, _, 0, _ => .nil
  | _, _, _ + 1, .nil => .nil
  | _, _, k + 1, .cons a t => .cons a (dps_take k t)
theorem dps_cut {K : PySem.W.Frag} {H : Hp} {vs : List V} {ds : List PyData} (lo hi : Option Int) (h : DxAll K H vs ds) : DxAll K H (cutV vs lo hi) (cutD ds lo hi) := by
  unfold cutV cutD
  rw [dps_len h]
  exact dps_take _ (dps_drop _ h)
theorem cutD_whole {ds : List PyData} {lo hi : Option Int} (h : whole ds.length lo hi) : cutD ds lo hi = ds := by
  unfold cutD
  rw [h.1, h.2]
  simp
def gSl (x : PyData) (lo hi : Option Int) : Option PyData := match x with
  | .tuple ds => some (.tuple (cutD ds lo hi))
  | .list ds => some (.list (cutD ds lo hi))
  | _ => none
def asI (x : PyData) : M (Option Int) := match x with
  | .int i => pure (some i)
  | _ => bad
def noP : En → M (Option Int) := fun _ => pure none
def someP (f : En → M PyData) : En → M (Option Int) := fun ρ => f ρ >>= asI
def POD (X : Cx) (oe : Option Expr) (g : En → M (Option Int)) : Prop := ∃ t : TO, PO X oe t ∧ ∀ (av : List Addr) (q : Pt) (ρ : En) (S : Fd) (σ : G.St) (H : Hp) (Q : Option Int → Hp → Prop), At X.K av q ρ S σ H → (g ρ S).post (fun o S' => ∀ H', Ext (mv q) H H' → FeedAt av q S' H' → Q o H') (xE X.K (wa (wx X) σ) av q H) → t σ H Q
theorem pod_none : POD X none noP := ⟨_, po_none, fun av q ρ S σ H Q A p => p H (Ext.refl H) A.feed⟩
theorem pod_some {e : Expr} {f : En → M PyData} (h : PD X e f) : POD X (some e) (someP f) := ⟨_, po_some h, fun av q ρ S σ H Q A p => tE_step A p fun x S1 v H1 p1 e1 A1 d1 => by
  unfold asI at p1
  split at p1
  · cases d1
    exact ⟨_, rfl, p1 H1 e1 A1.feed⟩
  · exact False.elim p1⟩
def cSl (f : En → M PyData) (gl gu : En → M (Option Int)) : En → M PyData := fun ρ => f ρ >>= fun x => gl ρ >>= fun l => gu ρ >>= fun u => lift (gSl x l u)
theorem d_sl {e : Expr} {lo hi : Option Expr} {f : En → M PyData} {gl gu : En → M (Option Int)} {p2 pos : Pos} (he : PD X e f) (hl : POD X lo gl) (hu : POD X hi gu) : PD X (.Subscript e (.Slice lo hi none p2) pos) (cSl f gl gu) := by
  obtain ⟨tl, pl, ol⟩ := hl
  obtain ⟨tu, pu, ou⟩ := hu
  refine PE_imp (pe_slice (sl_tupF.or sl_list) he pl pu) fun σ H Q ⟨av, q, ρ, S, A, p⟩ => ?_
  refine tE_step A p fun x S1 v H1 p1 e1 A1 d1 => ?_
  refine ol av q ρ S1 σ H1 _ A1 (R.post_imp (post_bind p1) (fun l S2 p2 H2 e2 f2 => ?_) fun _ _ z => z)
  have A2 := A1.ext e2 f2
  refine ou av q ρ S2 σ H2 _ A2 (R.post_imp (post_bind p2) (fun u S3 p3 H3 e3 f3 => ?_) fun _ _ z => xE_ext e2 z)
  have A3 := A2.ext e3 f3
  obtain ⟨d, hd, k⟩ := post_lift p3
  have dx := ext_dp A2.feed.1 e3 (ext_dp A1.feed.1 e2 d1)
  have ee := (e1.trans e2).trans e3
  unfold gSl at hd
  split at hd
  · cases hd
    cases dx with
    | tup hs hn hx =>
      refine .inl ⟨_, _, rfl, sqT_at hs, fun hw => ?_, fun hw a o ha ho => k _ _ (ee.trans (Ext.new ha)) (feed_same A3.feed (same_new ha)) (dp_newTup A3.trk ha ho (dps_cut _ _ hx))⟩
      rw [dps_len hx] at hw
      rw [cutD_whole hw] at k
      exact k _ H3 ee A3.feed (.tup hs hn hx)
  · cases hd
    cases dx with
    | lst hs hx =>
      refine .inr ⟨_, _, rfl, sqL_at hs, fun a ha => k _ _ (ee.trans (Ext.new ha)) (feed_same A3.feed (same_new ha)) (dp_newLst A3.trk ha (dps_cut _ _ hx))⟩
  · cases hd
end
end G
end

section
set_option Elab.async false
set_option linter.all false
set_option maxRecDepth 100000
set_option maxHeartbeats 4100000
namespace G
open L2 PySem.Spec PyProof.Rows PySem
variable [LamT]
section
variable {X : Cx} {pos : Pos}
/-! ### return of an own list -/
def sRetO (i : Nat) : En → M Fl := fun ρ => getO i ρ >>= fun l => pure (.rt (.list l))
theorem s_retO {x : Str} {px : Pos} (i : Nat) (hN : X.N[i]? = some x := by rfl) (hv : Vis X.env.scope x := by first | exact Or.inl rfl | exact Or.inr (Or.inl rfl) | exact Or.inr (Or.inr rfl)) (hdb : (x == ("__debug__" : Str)) = false := by decide)
    (hcd : (x == ("__classdict__" : Str)) = false := by decide) : PSD X (.Return (some (.Name x px)) pos) (sRetO i) := PS_imp (ps_ret (pe_var hN hv hdb hcd)) fun D σ H ⟨H0, av0, x0, av, q, ρ, S, W, p⟩ => by
  obtain ⟨l, e1, p1⟩ := getO_post (post_bind p)
  obtain ⟨v, e2, a, vs, rfl, hin, hq, ha, hd⟩ := W.at'.slot i _ e1
  refine ⟨_, e2, p1 _ H W.e0 (W.at'.feed.less W.s0 W.mv0) (.lst (msk_of (fun z => ?_) ha) (dps_same (msk_less W.vis_sub) l vs hd))⟩
  rcases vis_mem z with y | y
  · exact hq y
  · rcases W.ow i _ a e1 e2 with w | ⟨w, _⟩
    · exact w y.1
    · exact y.2 w
/-! ### an item of an own list -/
def cIxO (i : Nat) (f : En → M PyData) : En → M PyData := fun ρ => getO i ρ >>= fun l => f ρ >>= fun y => lift (gIx (.list l) y)
theorem d_ixO {x : Str} {px : Pos} {b : Expr} {fb : En → M PyData} (i : Nat) (hb : PD X b fb) (hN : X.N[i]? = some x := by rfl) (hv : Vis X.env.scope x := by first | exact Or.inl rfl | exact Or.inr (Or.inl rfl) | exact Or.inr (Or.inr rfl)) (hdb : (x == ("__debug__" : Str)) = false := by decide)
    (hcd : (x == ("__classdict__" : Str)) = false := by decide) (hs : PlainIx b := by exact fun _ _ => rfl) : PD X (.Subscript (.Name x px) b pos) (cIxO i fb) := PE_imp (pe_ix ix_seq (pe_var hN hv hdb hcd) hb hs) fun σ H Q ⟨av, q, ρ, S, A, p⟩ => by
  obtain ⟨l, e1, p1⟩ := getO_post (post_bind p)
  obtain ⟨v, e2, a, vs, rfl, hin, hq, ha, hd⟩ := A.slot i _ e1
  refine ⟨_, e2, ?_⟩
  refine tE_step A p1 fun y S2 w H2 p2 e3 A2 d2 => ?_
  obtain ⟨d, hx, k⟩ := post_lift p2
  unfold gIx at hx
  split at hx
  · rename_i h; cases h
  · rename_i h; cases h
    cases d2
    obtain ⟨u, h1, h2⟩ := atI_dp hd hx
    exact .inl ⟨_, _, _, u, rfl, rfl, SqL.of (e3 a _ hq ha), h1, k u H2 e3 A2.feed (ext_dp A.feed.1 e3 h2)⟩
  · cases hx
/-! ### tests -/
variable {a b c : Expr} {fa fb fc : En → M PyData}
theorem c_chain {op op' : CmpOp} {r r' : R2} {g g' : PyData → PyData → Option PyData} (ho : OpR X (compareOp op) r) (hg : OpD X.K r g) (ho' : OpR X (compareOp op') r') (hg' : OpD X.K r' g') (ha : PD X a fa) (hb : PD X b fb) (hc : PD X c fc)
    (hm : lastMarks [op, op'] [b, c] = false := by with_unfolding_all rfl) : PB X (.Compare a [op, op'] [b, c] pos) (cB (cChain g g' fa fb fc)) := PT_imp (pt_chain ho ho' ha hb hc hm) fun σ H Q ⟨av, q, ρ, S, A, p⟩ => by
  refine tChain_of hg hg' σ H _ ⟨av, q, ρ, S, A, R.post_imp (post_bind p) (fun x S1 hx v H1 e1 f1 d1 => ?_) fun _ _ z => z⟩
  unfold asB at hx
  split at hx
  · cases d1
    exact ⟨_, rfl, hx H1 e1 f1⟩
  · exact False.elim hx
theorem c_inI (ha : PD X a fa) (hb : PD X b fb) (hm : behindInMarks .In b = false := by rfl) : PB X (.Compare a [.In] [b] pos) (cB (cBin (gInI false) fa fb)) := c_cmp op_in_seq opD_inI ha hb hm
theorem c_notInI (ha : PD X a fa) (hb : PD X b fb) (hm : behindInMarks .NotIn b = false := by rfl) : PB X (.Compare a [.NotIn] [b] pos) (cB (cBin (gInI true) fa fb)) := c_cmp op_notIn_seq opD_inI ha hb hm
end
end G
end

section
set_option Elab.async false
set_option linter.all false
set_option maxRecDepth 100000
set_option maxHeartbeats 4100000
namespace G
open L2 PySem.Spec PyProof.Rows PySem
variable [LamT]
/-! ### << and | -/
section
variable {X : Cx} {pos : Pos} {a b : Expr} {fa fb : En → M PyData}
def gShl := int2C (fun i j => decide (0 ≤ j ∧ j ≤ 1000000 ∧ i.natAbs < 2 ^ 64)) fun i j => .int (i * 2 ^ j.toNat)
def gOr := int2 fun i j => .int (Builtin.bitOr i j)
theorem d_shl (ha : PD X a fa) (hb : PD X b fb) : PD X (.BinOp a .LShift b pos) (cBin gShl fa fb) := d_bin op_shl (opD_intC (fun _ _ h => by simpa [CPow] using h) fun _ _ _ => .int _) ha hb
theorem d_bor (ha : PD X a fa) (hb : PD X b fb) : PD X (.BinOp a .BitOr b pos) (cBin gOr fa fb) := d_bin op_or (opD_int fun _ _ _ => .int _) ha hb
end
/-! ### sorted(set(t)) of ints -/
def ins (x : Int) : List Int → List Int
  | [] => [x]
  | y :: l => if x < y then x :: y :: l else if x = y then y :: l else y :: ins x l
def asc : List Int → List Int
  | [] => []
  | x :: l => ins x (asc l)
theorem mem_ins {k x : Int} : ∀ {l : List Int}, k ∈ ins x l ↔ k = x ∨ k ∈ l
  | [] => by simp [ins]
  | y :: l => by
    unfold ins
    split
    · simp
    · split
      · rename_i h1 h2
        subst h2; simp
      · rw [List.mem_cons, mem_ins, List.mem_cons]
        exact ⟨fun z => z.elim (fun a => .inr (.inl a)) fun z => z.elim .inl fun a => .inr (.inr a), fun z => z.elim (fun a => .inr (.inl a)) fun z => z.elim .inl fun a => .inr (.inr a)⟩
theorem ins_up {x : Int} : ∀ {l : List Int}, l.Pairwise (· < ·) → (ins x l).Pairwise (· < ·)
  | [], _ => by simp [ins]
  | y :: l, h => by
    have h' := (List.pairwise_cons.mp h)
    unfold ins
    split
    · rename_i c
      refine List.pairwise_cons.mpr ⟨fun k hk => ?_, h⟩
      rcases List.mem_cons.mp hk with z | z
      · rw [z]; exact c
      · have := h'.1 k z; omega
    · split
      · exact h
      · refine List.pairwise_cons.mpr ⟨fun k hk => ?_, ins_up h'.2⟩
        rcases mem_ins.mp hk with z | z
        · omega
        · exact h'.1 k z
theorem mem_asc {k : Int} : ∀ {l : List Int}, k ∈ asc l ↔ k ∈ l
  | [] => Iff.rfl
  | x :: l => by
    show k ∈ ins x (asc l) ↔ _
    rw [mem_ins, mem_asc, List.mem_cons]
theorem asc_up : ∀ l : List Int, (asc l).Pairwise (· < ·)
  | [] => List.Pairwise.nil
  | x :: l => ins_up (asc_up l)
theorem up_uniq : ∀ {l m : List Int}, l.Pairwise (· < ·) → m.Pairwise (· < ·) → (∀ k, k ∈ l ↔ k ∈ m) → l = m
  | [], [], _, _, _ => rfl
  | [], y :: m, _, _, h => by have := (h y).mpr List.mem_cons_self; cases this
  | x :: l, [], _, _, h => by have := (h x).mp List.mem_cons_self; cases this
  | x :: l, y :: m, h1, h2, h => by
    have a1 := List.pairwise_cons.mp h1
    have a2 := List.pairwise_cons.mp h2
    have e : x = y := by
      rcases List.mem_cons.mp ((h x).mp List.mem_cons_self) with z | z
      · exact z
      · rcases List.mem_cons.mp ((h y).mpr List.mem_cons_self) with w | w
        · exact w.symm
        · have p := a2.1 x z
          have q := a1.1 y w
          omega
    subst e
    refine congrArg (x :: ·) (up_uniq a1.2 a2.2 fun k => ⟨fun hk => ?_, fun hk => ?_⟩)
    · rcases List.mem_cons.mp ((h k).mp (List.mem_cons_of_mem _ hk)) with z | z
      · have := a1.1 k hk; omega
      · exact z
    · rcases List.mem_cons.mp ((h k).mpr (List.mem_cons_of_mem _ hk)) with z | z
      · have := a2.1 k hk; omega
      · exact z
def gSortSet (x : PyData) : Option PyData := match x with
  | .tuple ds => (intsOf ds).bind fun ns => if ns.length ≤ 4000 ∧ (ddup ns).length < 64 then some (.list ((asc ns).map PyData.int)) else none
  | _ => none
theorem ints_dx {K : PySem.W.Frag} {H : Hp} : ∀ ns : List Int, DxAll K H (ns.map V.int) (ns.map PyData.int)
  | [] => .nil
  | n :: ns => .cons (.int n) (ints_dx ns)
section
variable {X : Cx} {a : Expr} {fa : En → M PyData}
theorem sortSet_at {pn : List (Addr × Obj)} {env : G.St} {H1 : Hp} {s2 : Shared} {c : Addr} {n : Nat} {ns : List Int} {Q : VK} (hc : X.calm = true) (J2 : Inv X pn env H1 s2) (hS : SetR X.w s2.heap c (fun j => decide (j ∈ ns)) n) (h64 : n < 64)
    (q1 : ∀ b, H1 b = none → Q (.ref b) (upd H1 b (.lst ((asc ns).map V.int)))) : wpAny (model X.prog X.w) X.A (call (.builtin "sorted") [.ref c]) (EP X pn env Q) X.xe s2 := by
  refine sorted_set hS (J2.ok.hd hc) h64 fun s' b out c' ms k g o' hb hg' hi hs hm' hl' => ?_
  have em : ms = asc ns := up_uniq hs (asc_up ns) fun k => by rw [hm' k, mem_asc]; simp
  subst em
  have hfree : H1 b = none := J2.hok.fresh hb
  have hle : ((asc ns).map V.int).length ≤ sizeLine := by rw [List.length_map, hl', sizeLine_eq]; omega
  have J3 : Inv X pn env (upd H1 b (.lst ((asc ns).map V.int))) { s2 with heap := s'.heap, gens := s'.gens, drawn := s'.drawn, toks := s'.toks } :=
    J2.call (ch := []) (Un.laid k hb hfree) (J2.hok.laid k hb ⟨hle, out.toList, c', vals_of_ints hi, hg'⟩) (by rw [g]; exact J2.bare) (fun _ z => nomatch z)
  have es' : s' = { s2 with heap := s'.heap, gens := s'.gens, drawn := s'.drawn, toks := s'.toks } := by
    cases s'
    cases s2
    cases o'
    rfl
  rw [es']
  exact ⟨.ref b, _, J3, rfl, q1 b hfree⟩
theorem d_sortSet {p p2 q1 pos : Pos} (hc : X.calm = true) (hm : X.mg "sorted" = none) (hm2 : X.mg "set" = none) (ha : PD X a fa) (hg : Gl X "sorted" := by rfl) (hg2 : Gl X "set" := by rfl) (na : starEach [a] X.env = (false, eval a X.env) :: starEach [] X.env := by rfl) :
    PD X (.Call (.Name "sorted" p) [.Call (.Name "set" p2) [a] [] q1] [] pos) (cUn gSortSet fa) := by
  refine ⟨fun pn sh env hp Q J ⟨av, q, ρ, S, A, pp⟩ => ?_⟩
  have bs : bootBuiltins "sorted" = some (.builtin "sorted") := by decide +kernel
  refine Call_ (ld_blt J hg hm bs (PyProof.Rows.callWith_builtin1 (PyProof.Rows.args_cons ?_ rfl) rfl rfl))
  refine Call_ (ld_blt J hg2 hm2 boot_set (PyProof.Rows.callWith_type1 (PyProof.Rows.args_cons (thn (ha.run pn sh env hp (fun v H1 => ∃ (l : Addr) (ns : List Int), v = .ref l ∧ SqT X.K H1 l (ns.map V.int) ∧ ns.length ≤ 4000 ∧ (ddup ns).length < 64 ∧ ∀ c, H1 c = none → Q (.ref c) (upd H1 c (.lst ((asc ns).map V.int)))) J
    (tE_step A pp fun x S1 v H1 p1 e1 A1 d1 => ?_)) fun v s1 ⟨x, H1, J1, r1, l, ns, ex, hq, hl, h64, q1⟩ => PyProof.Rows.args_nil ?_) na) na rfl))
  · obtain ⟨d, hd, k⟩ := post_lift p1
    cases x with
    | tuple ds =>
      have hd1 : (intsOf ds).bind (fun ns => if ns.length ≤ 4000 ∧ (ddup ns).length < 64 then some (PyData.list ((asc ns).map PyData.int)) else none) = some d := hd
      cases z : intsOf ds with
      | none => (rw [z] at hd1; cases hd1)
      | some ns =>
        rw [z] at hd1
        have hd2 : (if ns.length ≤ 4000 ∧ (ddup ns).length < 64 then some (PyData.list ((asc ns).map PyData.int)) else none) = some d := hd1
        split at hd2
        · rename_i hh
          cases hd2
          cases d1 with
          | tup hs hn hx =>
            have e := ints_dp hx z
            subst e
            exact ⟨_, ns, rfl, sqT_at hs, hh.1, hh.2, fun c hc' => k _ _ (e1.trans (Ext.new hc')) (feed_same A1.feed (same_new hc')) (dp_newLst A1.trk hc' (ints_dx _))⟩
        · cases hd2
    | _ => cases hd
  · subst ex
    cases r1
    obtain ⟨us, rv, pl, hz⟩ := J1.tuple hq
    refine call_set_tupI ns (J1.ok.hd hc) pl (RZ.intsAre_vals (by simpa using rv)) (by unfold scanBound; omega) fun h' tk c hS hcl hk => PyProof.Rows.args_nil ?_
    have hS2 := hS
    obtain ⟨o, es, ep, t, ho, hex, hd, hge, hnd, hmem, hsz, hf, hn, _⟩ := hS2
    have J2 : Inv X pn env H1 { s1 with heap := h', toks := tk } := J1.kept hk
    have hlen : es.size = (ddup ns).length := by
      have z := len_ddup (l := ns) hnd fun k => by rw [← hmem k]; simp
      rw [List.length_map, Array.length_toList] at z
      exact z
    exact sortSet_at hc J2 hS (by omega) q1
end
end G
end

section
set_option Elab.async false
set_option linter.all false
set_option maxRecDepth 100000
set_option maxHeartbeats 4100000
namespace G
open L2 PySem.Spec PyProof.Rows PySem
variable [LamT]
section
variable {X : Cx} {pos : Pos}
/-- x, y = e, [] : a value, and a list of one's own -/
def sParO (i j : Nat) (f : En → M PyData) : En → M Fl := fun ρ => f ρ >>= fun d => pure (.nx ((ρ.set i (some (.im d))).set j (some (.ow ([], true)))))
theorem s_parO {i j : Nat} {x y : Str} {a : Expr} {f : En → M PyData} {px py pt lp : Pos} {kt k2 pt2} (hc : X.calm = true) (hN : X.N.Nodup) (ha : PD X a f) (hi : X.N[i]? = some x := by rfl) (hj : X.N[j]? = some y := by rfl) (hij : i ≠ j := by decide)
    (hx : X.env.scope.names.lookup x = some .local := by rfl) (hy : X.env.scope.names.lookup y = some .local := by rfl)
    (n1 : starEach [a, Expr.List [] lp] X.env = (false, eval a X.env) :: starEach [Expr.List [] lp] X.env := by rfl) (n2 : starEach [Expr.List [] lp] X.env = (false, eval (Expr.List [] lp) X.env) :: starEach [] X.env := by rfl)
    (hw : swappedStores [.Tuple [.Name x px, .Name y py] kt pt] (.Tuple [a, .List [] lp] k2 pt2) X.env = pure (some [x, y]) := by rfl)
    (hs : swapsWithSole [.Tuple [.Name x px, .Name y py] kt pt] (.Tuple [a, .List [] lp] k2 pt2) pos.line X.env = pure false := by exact rfl) :
    PSD X (.Assign [.Tuple [.Name x px, .Name y py] kt pt] (.Tuple [a, .List [] lp] k2 pt2) pos) (sParO i j f) :=
  PS_imp (ps_par hc hN hi hj hij hx hy (pa_cons ha (pa_cons (pe_lst pa_nil) pa_nil n2) n1) hw hs) fun D σ H ⟨H0, av0, x0, av, q, ρ, S, W, p⟩ => by
    refine tE_stepS W p fun d S1 v H1 p1 e1 A1 d1 => ?_
    have W1 := W.ext e1 A1
    have W2 := W1.sub (A1.set (i := i) d1) (is := [i]) owSub_set fun m hm => by
      have n : i ≠ m := fun z => hm (by simp [z])
      rw [List.getElem?_set_ne n]
    exact ⟨by show 0 ≤ sizeLine; decide, fun b hb => ⟨_, _, rfl, p1 _ _ _ (W2.newOw (i := j) hb .nil)⟩⟩
/-- list(x) of a list of one's own: a new one -/
def cLstO (i : Nat) : En → M PyData := fun ρ => getO i ρ >>= fun l => pure (.list l)
theorem d_listO {x : Str} {p px : Pos} (i : Nat) (hm : X.mg "list" = none) (hN : X.N[i]? = some x := by rfl) (hv : Vis X.env.scope x := by first | exact Or.inl rfl | exact Or.inr (Or.inl rfl) | exact Or.inr (Or.inr rfl)) (hdb : (x == ("__debug__" : Str)) = false := by decide)
    (hcd : (x == ("__classdict__" : Str)) = false := by decide) (hg : Gl X "list" := by rfl) (hvt : bootBuiltins "list" = some (.type "list") := by decide +kernel)
    (he : starEach (.Name x px :: []) X.env = (false, eval (.Name x px) X.env) :: starEach [] X.env := by rfl) (hpl : (backTo pos (starEach [] X.env)).any (·.1) = false := by rfl) : PD X (.Call (.Name "list" p) [.Name x px] [] pos) (cLstO i) :=
  PE_imp (pe_callTy call_list_of hg hm hvt (pa_cons (pe_var hN hv hdb hcd) pa_nil he) (by decide) (by decide) he hpl) fun σ H Q ⟨av, q, ρ, S, A, p⟩ => by
    obtain ⟨l, g1, k⟩ := getO_post (post_bind p)
    obtain ⟨o, g2, a, vs, rfl, hin, hq, ha, hd⟩ := A.slot i _ g1
    exact ⟨_, g2, a, vs, rfl, .inl (SqL.of ha), fun b hb => k _ _ (Ext.new hb) (feed_same A.feed (same_new hb)) (dp_newLst A.trk hb hd)⟩
end
end G
end

section
set_option Elab.async false
set_option linter.all false
set_option maxRecDepth 100000
set_option maxHeartbeats 4100000
namespace G
open L2 PySem.Spec PyProof.Rows PySem
variable [LamT]
/-! ### errors of one's own, made with two values, raised -/
/-- what is known of a class of errors -/
structure ErrC (K : PySem.W.Frag) (mg : Str → Option Value) (c : Nat) (C fI : Addr) (f1 f2 : Str) : Prop where
  nm : PySem.W.nsIn K mainGlobals (clsNm c) = some (some (.ref C))
  g : mg (clsNm c) = some (.ref C)
  ox : OexC K C
  ini : PySem.W.findIn K (.ref C) "__init__" = some (some (.ref fI))
  ity : PySem.W.typeIn K (.ref fI) = some (.type "function")
  n1 : PySem.W.findIn K (.ref C) f1 = some none
  n2 : PySem.W.findIn K (.ref C) f2 = some none
  xf : XfC K C
  fl : fldNm c = [f2, f1]
theorem ErrC.cl {K : PySem.W.Frag} {mg : Str → Option Value} {c : Nat} {C fI : Addr} {f1 f2 : Str} (T : ErrC K mg c C fI f1 f2) : clOf K c = C := by
  unfold clOf; rw [T.nm]
/-- what __init__ promises -/
def spInit (K : PySem.W.Frag) (C : Addr) (f1 f2 : Str) : Sp := fun vs H Q _ => vs.length = 3 ∧ ∃ a x y, vs = [.ref a, x, y] ∧ H a = some (exo a C none) ∧
  ∀ dx, H dx = none → dx ≠ a → Q .non (upd (upd (upd H dx (exd dx [(f1, x)])) a (exo a C (some dx))) dx (exd dx [(f2, y), (f1, x)]))
theorem init_reads {K : PySem.W.Frag} {C : Addr} {f1 f2 : Str} (ox : OexC K C) (n1 : PySem.W.findIn K (.ref C) f1 = some none) (n2 : PySem.W.findIn K (.ref C) f2 = some none) {vs : List V} {H : Hp} {Q : VK} {E : XK} {N : List Str} (hN : N.length = 3) (h : spInit K C f1 f2 vs H Q E) :
    tSeq (tOst K f1 (tVar 0) (tVar 1)) (tOst K f2 (tVar 0) (tVar 2)) { nx := fun _ H' => Q .non H', rt := Q } (L2.start N vs) H := by
  obtain ⟨hl, a, x, y, rfl, ha, k⟩ := h
  have hs : L2.start N [V.ref a, x, y] = [some (.ref a), some x, some y] := by
    unfold L2.start
    rw [hN]; rfl
  rw [hs]
  refine ⟨x, rfl, .ref a, rfl, a, C, rfl, ox, n1, .inl ⟨ha, fun dx hd ne => ?_⟩⟩
  refine ⟨y, rfl, .ref a, rfl, a, C, rfl, ox, n2, .inr ⟨dx, [(f1, x)], upd_same, ?_, by simp, ?_⟩⟩
  · rw [upd_ne ne]; exact upd_same
  · exact k dx hd ne
def sRaise (c : Nat) (fs : En → M (List Ag)) : En → M Fl := fun ρ => fs ρ >>= fun as => match as with
  | [.d x, .d y] => fun S => .ex ⟨c, [y, x]⟩ S
  | _ => bad
section
variable {X : Cx} {pos : Pos}
theorem s_raise {c : Nat} {C fI : Addr} {f1 f2 : Str} {k : Nat} {fd : FuncData} {ps : List Str} {x : Str} {p cpos : Pos} {e : Expr} {es : List Expr} {fs : En → M (List Ag)} (T : ErrC X.K X.mg c C fI f1 f2) (F1 : FnOk X.prog X.w X.K X.mg X.base (L2.CX X.prog X.w) k fI fd ps (spInit X.K C f1 f2)) (hc : X.calm = true) (hr : RoomG (k + 1) X.A) (hb : Binds X.K fd ps [])
    (ha : PG_A X (e :: es) fs) (hx : x = clsNm c := by rfl) (hg : Gl X x := by rfl)
    (hdb : (x == ("__debug__" : Str)) = false := by decide) (he : starEach (e :: es) X.env = (false, eval e X.env) :: starEach es X.env := by rfl) (hpl : (backTo cpos (starEach es X.env)).any (·.1) = false := by rfl) :
    PSD X (.Raise (some (.Call (.Name x p) (e :: es) [] cpos)) none pos) (sRaise c fs) :=
  PS_imp (ps_raise hc takes_wx (pmk_oex T.ox T.ini T.ity F1 hr.r hb .nil passL hg (by rw [hx]; exact T.g) ha hdb he hpl)) fun D σ H ⟨H0, av0, x0, av, q, ρ, S, W, p⟩ => by
    refine tAg_stepS W p fun as S1 vs H1 p1 e1 A1 d1 => ?_
    match as, d1, p1 with
    | [.d x, .d y], .cons (v := v1) d1 (.cons (v := v2) d2 .nil), p1 =>
      refine ⟨by show 2 ≤ 1000; decide, fun a hna => ?_⟩
      have na : a ∉ av := not_av A1.trk hna
      have W1 := W.ext e1 A1
      refine ⟨rfl, a, v1, v2, rfl, upd_same, fun dx hd ne => ⟨rfl, dx, [(f2, v2), (f1, v1)], ?_, upd_same, ?_, ?_⟩⟩
      · rw [upd_ne (Ne.symm ne)]; exact upd_same
      · rw [upd_ne ne] at hd; exact hd
      · have hdx : H1 dx = none := by rw [upd_ne ne] at hd; exact hd
        have sm : Same H1 (upd (del (upd (upd (upd (upd H1 a (exo a C none)) dx (exd dx [(f1, v1)])) a (exo a C (some dx))) dx (exd dx [(f2, v2), (f1, v1)])) a) dx (.xd [(f2, v2), (f1, v1)])) := fun b o hb => by
          have n1 : b ≠ dx := ne_of_none hb hdx
          have n2 : b ≠ a := ne_of_none hb hna
          rw [upd_ne n1, del_ne n2, upd_ne n1, upd_ne n2, upd_ne n1, upd_ne n2]
          exact hb
        have W2 := W1.ext (Ext.of_same sm) (A1.ext (Ext.of_same sm) (feed_same A1.feed sm))
        have key : flX X.K (wx X) H0 av0 x0 q ⟨c, [y, x]⟩ S1 := p1
        have z := key σ dx _ W2.e0 (W2.at'.feed.less W2.s0 W2.mv0) ⟨fun z => not_av A1.trk hdx (W1.vis_sub dx z), [v2, v1], by show _ = some (HO.xd ((fldNm c).zip [v2, v1])); rw [upd_same, T.fl]; rfl, .cons (dp_same (msk_less W2.vis_sub) y v2 (dp_same (msk_same sm) y v2 d2)) (.cons (dp_same (msk_less W2.vis_sub) x v1 (dp_same (msk_same sm) x v1 d1)) .nil)⟩
        rw [T.cl] at z
        exact z
    | [], _, p1 => exact False.elim p1
    | [.fd], _, p1 => exact False.elim p1
    | [.d _], _, p1 => exact False.elim p1
    | .fd :: _ :: _, _, p1 => exact False.elim p1
    | .d _ :: .fd :: _, _, p1 => exact False.elim p1
    | .d _ :: .d _ :: _ :: _, _, p1 => exact False.elim p1
end
end G
end

section
set_option Elab.async false
set_option linter.all false
set_option maxRecDepth 100000
set_option maxHeartbeats 4100000
namespace G
open L2 PySem.Spec PyProof.Rows PySem
variable [LamT]
/-! ### a caught error is looked at -/
/-- what isinstance and the reading of fields ask of a class of errors -/
structure ErrI (K : PySem.W.Frag) (C : Addr) : Prop where
  cl : (PySem.W.clsIn K C).isSome = true
  ga : PySem.W.findIn K (Value.ref C) "__getattribute__" = some (some (.builtin "BaseException.__getattribute__"))
  gg : PySem.W.findIn K (Value.ref C) "__getattr__" = some none
  sb : PySem.W.subIn K (.ref C) (.type "BaseException") = some true
  ca : PySem.W.findIn K (Value.ref C) "__class__" = some (some (.builtin "object.__class__"))
  dg : PySem.W.specialIn K (.builtin "object.__class__") "__get__" = some (some (.builtin "getset_descriptor.__get__"))
  tk : PySem.W.takesIn K (.builtin "object.__class__") = some true
  mo : PySem.W.mroIn K C (.type "object") = some true
/-- the caught error that slot i holds: it stands at a0, its dict at d0, its class is c0 -/
def cXn (a0 d0 : Addr) (c0 i : Nat) (ρ : En) : M Xn := match ρ[i]? with
  | some (some (.xn a d x)) => if a = a0 ∧ d = d0 ∧ x.cls = c0 then pure x else bad
  | _ => bad
theorem cXn_post {a0 d0 : Addr} {c0 i : Nat} {ρ : En} {S : Fd} {k : Xn → Fd → Prop} {y : Xn → Fd → Prop} (h : (cXn a0 d0 c0 i ρ S).post k y) : ∃ x, ρ[i]? = some (some (.xn a0 d0 x)) ∧ x.cls = c0 ∧ k x S := by
  unfold cXn at h
  cases e : ρ[i]? with
  | none => rw [e] at h; exact False.elim h
  | some o =>
    rw [e] at h
    cases o with
    | none => exact False.elim h
    | some s =>
      cases s with
      | im d => exact False.elim h
      | ow l => exact False.elim h
      | fd => exact False.elim h
      | xn a d x =>
        have h' : R.post ((if a = a0 ∧ d = d0 ∧ x.cls = c0 then pure x else bad : M Xn) S) k y := h
        split at h'
        · rename_i hc
          obtain ⟨rfl, rfl, hc⟩ := hc
          exact ⟨x, rfl, hc, h'⟩
        · exact False.elim h'
def cIsx (a0 d0 : Addr) (c0 i : Nat) (tb : Nat → Option Bool) : En → M PyData := fun ρ => cXn a0 d0 c0 i ρ >>= fun x => lift ((tb x.cls).map PyData.bool)
section
variable {Z : Cx} {a0 d0 : Addr} {c0 : Nat} {oe : Obj} {pn : List (Addr × Obj)} {pos : Pos}
def rIsx (a0 : Addr) (b : Bool) (u : Value) : List V → Hp → VK → Prop := fun xs H Q => ∃ y, xs = [.ref a0, y] ∧ (∀ z, RelV y z → z = u) ∧ Q (.bl b) H
theorem call_isx {C : Addr} {b : Bool} {u : Value} (T : ErrI Z.K C) (hz : Zc (.ref C) (some d0) oe) (hf : ∃ vs, oe.data = .fields vs) (e : PySem.W.kitOne Z.K (.ref C) u = some b) (hd : ∀ pins s σ H, Inv (Z.suite a0 ((a0, oe) :: pn)) pins σ H s → True) :
    CallR (Z.suite a0 ((a0, oe) :: pn)) (.builtin "isinstance") (fun xs H Q => (∃ ys, H d0 = some (.xd ys)) ∧ rIsx a0 b u xs H Q) := by
  intro pinsₐ s σₐ Hₐ xsₐ usₐ Qₐ Iₐ rₐ hₐ
  obtain ⟨⟨ysₐ, hyₐ⟩, yₐ, rfl, huₐ, qₐ⟩ := hₐ
  cases rₐ with
  | cons r1ₐ r2ₐ =>
    cases r2ₐ with
    | cons r3ₐ r4ₐ =>
      cases r4ₐ
      cases r1ₐ
      obtain rfl := huₐ _ r3ₐ
      obtain ⟨hgetₐ, _⟩ := Iₐ.pin (a0, oe) (List.mem_append.mpr (.inl List.mem_cons_self))
      obtain ⟨vsₐ, hvₐ⟩ := hf
      have hxₐ : ObjOk Z.prog Z.w Hₐ s.heap d0 (.xd ysₐ) := Iₐ.hok d0 _ hyₐ
      obtain ⟨mAₐ, ⟨odₐ, _, _, hoₐ, _⟩, _⟩ := hxₐ
      have Jₐ : PySem.W.InstAt s.heap a0 oe C (some odₐ) := ⟨hgetₐ, hz.1, by unfold PySem.W.notCls; rw [hvₐ] <;> rfl, by rw [hz.2]; exact hoₐ⟩
      exact PySem.W.kia_one (PySem.W.kitx_exc T.cl T.ga T.gg T.sb T.ca T.dg T.tk T.mo) Iₐ.kIn Jₐ e (fun zₐ => nomatch zₐ) fun tkₐ => ⟨.bl b, Hₐ, Iₐ.kept (t' := tkₐ) fun _ _ zₐ => zₐ, rfl, qₐ⟩
/-- isinstance(error, C), C an own class or a built-in one -/
theorem d_isx {i : Nat} {tb : Nat → Option Bool} {x y : Str} {u : Value} {uv : V} {p p1 p2 : Pos} (hm : Z.mg "isinstance" = none) (hy : ∀ (X' : Cx), X' = Z.suite a0 ((a0, oe) :: pn) → PE X' (.Name y p2) (tC uv)) (hu : ∀ z, RelV uv z → z = u)
    (hk : ∀ b, tb c0 = some b → ErrI Z.K (clOf Z.K c0) ∧ PySem.W.kitOne Z.K (.ref (clOf Z.K c0)) u = some b) (hz : Zc (.ref (clOf Z.K c0)) (some d0) oe) (hf : ∃ vs, oe.data = .fields vs)
    (hN : Z.N[i]? = some x := by rfl) (hv : Vis Z.env.scope x := by first | exact Or.inl rfl | exact Or.inr (Or.inl rfl) | exact Or.inr (Or.inr rfl)) (hd : (x == ("__debug__" : Str)) = false := by decide) (hcd : (x == ("__classdict__" : Str)) = false := by decide)
    (hg : Gl Z "isinstance" := by rfl) (hvi : bootBuiltins "isinstance" = some (.builtin "isinstance") := by decide +kernel) (he : starEach [.Name x p1, .Name y p2] Z.env = (false, eval (.Name x p1) Z.env) :: starEach [.Name y p2] Z.env := by rfl)
    (he2 : starEach [.Name y p2] Z.env = (false, eval (.Name y p2) Z.env) :: starEach [] Z.env := by rfl) (hpl : (backTo pos (starEach [.Name y p2] Z.env)).any (·.1) = false := by rfl) :
    PD (Z.suite a0 ((a0, oe) :: pn)) (.Call (.Name "isinstance" p) [.Name x p1, .Name y p2] [] pos) (cIsx a0 d0 c0 i tb) := by
  cases htb : tb c0 with
  | none =>
    refine PE_imp (t := fun _ _ _ => False) ⟨fun _ _ _ _ _ _ h => h.elim⟩ fun σ H Q ⟨av, q, ρ, S, A, p⟩ => ?_
    obtain ⟨x, e1, ec, k⟩ := cXn_post (post_bind p)
    rw [ec, htb] at k
    exact k
  | some b =>
    obtain ⟨T, ke⟩ := hk b htb
    have hN' : (Z.suite a0 ((a0, oe) :: pn)).N[i]? = some x := hN
    refine PE_imp (pe_callB (X := Z.suite a0 ((a0, oe) :: pn)) (call_isx T hz hf ke fun _ _ _ _ _ => trivial) hg hm hvi (pa_cons (pe_var (X := Z.suite a0 ((a0, oe) :: pn)) hN' hv hd hcd) (pa_cons (hy _ rfl) pa_nil he2) he) (by decide) (by decide) he hpl) fun σ H Q ⟨av, q, ρ, S, A, p⟩ => ?_
    obtain ⟨x, e1, ec, k⟩ := cXn_post (post_bind p)
    obtain ⟨v, e2, rfl, hn, vs, hd, hvs⟩ := A.slot i _ e1
    rw [ec, htb] at k
    exact ⟨_, e2, ⟨_, hd⟩, uv, rfl, hu, k _ H (Ext.refl H) A.feed (.bl b)⟩
/-- error.f -/
def cXf (a0 d0 : Addr) (c0 i : Nat) (fi : Nat → Option Nat) : En → M PyData := fun ρ => cXn a0 d0 c0 i ρ >>= fun x => lift ((fi x.cls).bind fun k => x.fs[k]?)
theorem zip_lookup {f : Str} : ∀ {ns : List Str} {vs : List V} {k : Nat} {v : V}, ns.Nodup → ns[k]? = some f → vs[k]? = some v → (ns.zip vs).lookup f = some v
  | [], _, _, _, _, h, _ => (by simp at h)
  | n :: ns, [], k, v, _, _, h => by simp at h
  | n :: ns, w :: ws, 0, v, _, h1, h2 => by
    simp at h1 h2
    subst h1 h2
    simp [List.lookup]
  | n :: ns, w :: ws, k + 1, v, hd, h1, h2 => by
    simp only [List.getElem?_cons_succ] at h1 h2
    have ih := zip_lookup (List.nodup_cons.mp hd).2 h1 h2
    have ne : (f == n) = false := by
      have : f ≠ n := fun z => (List.nodup_cons.mp hd).1 (by rw [← z]; exact List.mem_of_getElem? h1)
      simpa using this
    rw [List.zip_cons_cons, List.lookup, ne]
    exact ih
theorem d_xf {i : Nat} {fi : Nat → Option Nat} {x f : Str} {p1 : Pos} (hk : ∀ k, fi c0 = some k → XfC Z.K (clOf Z.K c0) ∧ PySem.W.findIn Z.K (.ref (clOf Z.K c0)) f = some none ∧ (fldNm c0)[k]? = some f ∧ (fldNm c0).Nodup) (hz : Zc (.ref (clOf Z.K c0)) (some d0) oe) (hf : ∃ vs, oe.data = .fields vs)
    (hN : Z.N[i]? = some x := by rfl) (hv : Vis Z.env.scope x := by first | exact Or.inl rfl | exact Or.inr (Or.inl rfl) | exact Or.inr (Or.inr rfl)) (hd : (x == ("__debug__" : Str)) = false := by decide) (hcd : (x == ("__classdict__" : Str)) = false := by decide)
    (hb : attributeBase (.Name x p1) f Z.env (eval (.Name x p1) Z.env) = eval (.Name x p1) Z.env := by rfl) :
    PD (Z.suite a0 ((a0, oe) :: pn)) (.Attribute (.Name x p1) f pos) (cXf a0 d0 c0 i fi) := by
  cases htb : fi c0 with
  | none =>
    refine PE_imp (t := fun _ _ _ => False) ⟨fun _ _ _ _ _ _ h => h.elim⟩ fun σ H Q ⟨av, q, ρ, S, A, p⟩ => ?_
    obtain ⟨x, e1, ec, k⟩ := cXn_post (post_bind p)
    rw [ec, htb] at k
    exact k
  | some j =>
    obtain ⟨T, no, nf, nd⟩ := hk j htb
    have hN' : (Z.suite a0 ((a0, oe) :: pn)).N[i]? = some x := hN
    refine PE_imp (pe_xf T no hz hf (pe_var (X := Z.suite a0 ((a0, oe) :: pn)) hN' hv hd hcd) hb) fun σ H Q ⟨av, q, ρ, S, A, p⟩ => ?_
    obtain ⟨x, e1, ec, k⟩ := cXn_post (post_bind p)
    obtain ⟨v, e2, rfl, hn, vs, hdx, hvs⟩ := A.slot i _ e1
    rw [ec] at hdx
    have k2 := k
    rw [ec, htb] at k2
    obtain ⟨d, hd2, k3⟩ := post_lift k2
    have hd3 : x.fs[j]? = some d := hd2
    obtain ⟨w, hw, dw⟩ := dps_get hvs hd3
    exact ⟨_, e2, rfl, rfl, d0, _, w, rfl, hdx, zip_lookup nd nf hw, k3 w H (Ext.refl H) A.feed dw⟩
end
end G
end

section
set_option Elab.async false
set_option linter.all false
set_option maxRecDepth 100000
set_option maxHeartbeats 4100000
namespace G
open L2 PySem.Spec PyProof.Rows PySem
variable [LamT]
/-! ### a lambda is made -/
section
variable {X : Cx} {s : Shared} {H : Hp} {pins : List (Addr × Obj)} {σ : L2.St}
/-- a table has one entry more, its code object is known: all tables are tables still -/
theorem tabs_more {T : List (Addr × Str)} {P c : Addr} {q : Str} {ps : Array Value} {pos : Pos} (all : LamX.Tabs T H) (one : ∀ r ∈ T, r.1 = P → r.2 = q) (own : TriplesOk ps.toList ∧ ∀ (p : Pos) (cv : Value), codeAmong p ps.toList = some cv → ∃ d, cv = .ref d ∧ H d = some (LamX.CodeO d q)) (atP : H P = some (.tbl ps)) (new : H c = none) :
    LamX.Tabs T (upd (upd H P (.tbl (ps ++ #[rawInt pos.line, rawInt pos.col, .ref c]))) c (LamX.CodeO c q)) := by
  have other : ∀ b u, b ≠ P → H b = some u → upd (upd H P (.tbl (ps ++ #[rawInt pos.line, rawInt pos.col, .ref c]))) c (LamX.CodeO c q) b = some u := fun b u n at' => (upd_ne (ne_of_none at' new)).trans ((upd_ne n).trans at')
  have code : ∀ d x, H d = some (LamX.CodeO d x) → upd (upd H P (.tbl (ps ++ #[rawInt pos.line, rawInt pos.col, .ref c]))) c (LamX.CodeO c q) d = some (LamX.CodeO d x) := fun d x at' =>
    other d _ (fun e => absurd (Option.some.inj (at'.symm.trans ((congrArg H e).trans atP))) (LamX.codeO_ne ps)) at'
  rintro ⟨b, x⟩ hr
  by_cases e : b = P
  · have ex : x = q := one _ hr e
    subst e ex
    have written : (ps ++ #[rawInt pos.line, rawInt pos.col, .ref c]).toList = ps.toList ++ [rawInt pos.line, rawInt pos.col, .ref c] := by simp
    refine ⟨_, (upd_ne (ne_of_none atP new)).trans upd_same, written ▸ PySem.TriplesOk_snoc _ _ _ _ own.1, fun p cv found => ?_⟩
    rw [written] at found
    refine (LamX.among_app _ own.1 found).elim (fun before => ?_) fun last => ⟨c, last, upd_same⟩
    obtain ⟨d, ed, at'⟩ := own.2 p cv before
    exact ⟨d, ed, code d _ at'⟩
  · obtain ⟨qs, at', three, told⟩ := all _ hr
    refine ⟨qs, other _ _ e at', three, fun p cv found => ?_⟩
    obtain ⟨d, ed, at2⟩ := told p cv found
    exact ⟨d, ed, code d _ at2⟩
theorem lam_mk {T : List (Addr × Str)} {c P : Addr} {params : Arguments} {body : Expr} {scope : Scope} {pos : Pos} {Er Q : Value → Shared → Prop} (I : Inv X pins σ H s) (TB : LamX.TabB X.base X.mg c P) (hcode : X.env.code = .ref c) (hm : (P, X.env.qual ++ "<lambda>") ∈ T) (hu : ∀ r ∈ T, r.1 = P → r.2 = X.env.qual ++ "<lambda>")
    (hT : LamX.Tabs T H) (hdef : defaultsOf params X.env = ([], [])) (hfree : ∀ y ∈ scope.names, y.2 = .free → ∃ c, X.env.cells.lookup y.1 = some c)
    (h : ∀ (f c' : Addr) (pm ctv : Value) (H1 : Hp) (s' : Shared), Inv X pins σ H1 s' → (∀ b o, b ≠ P → H b = some o → H1 b = some o) → LamX.Tabs T H1 → s'.heap.get? f = some (PySem.W.kla_obj "<lambda>" (X.env.qual ++ "<lambda>") params body scope (cloFrom X.env.cells scope.names []) pm c' ctv) →
      H1 f = none → f ∉ frs X.stack → H1 c' = some (LamX.CodeO c' (X.env.qual ++ "<lambda>")) → Q (.ref f) s') :
    wpAny (model X.prog X.w) X.A (eval (.Lambda params body scope pos) X.env) Q Er s := by
  obtain ⟨ps, atP, three, told⟩ := hT _ hm
  have raw : s.heap.get? P = some { cls := .none, data := .fields ps } := I.hok P _ atP
  have outside : ∀ f, s.heap.objs.size ≤ f → f ∉ frs X.stack := fun f new on => (List.mem_cons.mp (I.stkSub _ on)).elim (fun e => Nat.not_lt.mpr new (e ▸ I.lt)) (I.nofs new)
  refine PySem.W.kla_eval (hdef) ?_
  match found : codeAmong pos ps.toList with
  | some cv =>
    obtain ⟨c', rfl, here⟩ := told pos cv found
    exact PySem.W.kla_makeFunctionHit (mg := X.mg) (c := c) (P := P) (ps := ps) (closure_ok hfree) I.ok.glob (I.mod.glob.keeps I.bk) hcode (TB.code.keeps I.bk) raw three found (TB.bm.keeps I.bk) fun ctv h1 tk kept grown =>
      h _ c' _ ctv H _ (I.kept fun b o q => Heap.get?_push_of_some _ (kept b o q)) (fun _ _ _ q => q) hT (Heap.get?_push_size _ rfl) (I.hok.fresh grown) (outside _ grown) here
  | none =>
    refine PySem.W.kla_makeFunction (mg := X.mg) (c := c) (P := P) (ps := ps) (closure_ok hfree) I.ok.glob (I.mod.glob.keeps I.bk) hcode (TB.code.keeps I.bk) raw three found TB.gP (TB.bm.keeps I.bk) fun c' ctv h1 tk kept grown below record table => ?_
    obtain ⟨_, oc, vs, t, same, there, fields, name⟩ := record
    cases same
    have new : H c' = none := I.hok.fresh grown
    have wide : s.heap.objs.size ≤ h1.objs.size := Nat.le_of_lt (Nat.lt_of_le_of_lt grown below)
    have after := LamX.inv_table (t' := tk) (more := #[rawInt pos.line, rawInt pos.col, .ref c']) (h' := h1.push (PySem.W.kla_obj "<lambda>" (X.env.qual ++ "<lambda>") params body scope (cloFrom X.env.cells scope.names []) ((X.mg "__name__").getD .none) c' ctv)) (q := X.env.qual ++ "<lambda>") I atP
      (fun b o n q => Heap.get?_push_of_some _ (kept b o n q)) (Heap.get?_push_of_some _ table) grown ⟨oc, vs, t, Heap.get?_push_of_some _ there, fields, name⟩
    refine h h1.objs.size c' _ ctv _ _ after (fun b o n q => (upd_ne (ne_of_none q new)).trans ((upd_ne n).trans q)) (tabs_more hT hu ⟨three, told⟩ atP new) (Heap.get?_push_size _ rfl) ?_ (outside _ wide) upd_same
    exact (upd_ne (Nat.ne_of_gt below)).trans ((upd_ne (Nat.ne_of_gt (Nat.lt_of_lt_of_le (Heap.lt_size raw) wide))).trans (I.hok.fresh wide))
/-- the lambda is called by the def that got it -/
theorem pe_actG {Eg : XK} {Ng : List Str} {qg : Str} {sg : Scope} {g f c' : Addr} {cdg pm ctv : Value} {params : Arguments} {body : Expr} {scope : Scope} {k i : Nat} {a : Str} {pn : List (Addr × Obj)} {xe : Value → Shared → Prop} {W : WX} {tb : XK → TE} {p1 p2 : Pos} (I : Inv X pins σ H s) (L : LamX.LamS X.env.scope scope)
    (hf : s.heap.get? f = some (PySem.W.kla_obj "<lambda>" (X.env.qual ++ "<lambda>") params body scope (cloFrom X.env.cells scope.names []) pm c' ctv)) (hfn : H f = none) (hfr : f ∉ frs X.stack)
    (hbind : bindArgs (PySem.W.kla_fn "<lambda>" (X.env.qual ++ "<lambda>") params body scope (cloFrom X.env.cells scope.names []) pm (.ref c') ctv) ⟨[], []⟩ = pure []) (tk : Takes ((cxOf (L2.CX X.prog X.w) X.prog X.w X.K X.mg X.base Ng qg sg g cdg X.A X.stack s H Eg).tr pn xe) W)
    (hr : RoomG (k + 1) (X.A.deeper (envOfC qg sg s.heap.objs.size g cdg))) (hbody : ∀ (A : Around) (outer : List Env) (s1 : Shared) (H1 : Hp) (E : XK), RoomG k (A.deeper (LamX.lamEnv X scope s1.heap.objs.size f c')) → PE (LamX.lamCx X A outer s1 H1 E scope f c') body (tb E))
    (hN : Ng[i]? = some a) (hv : Vis sg a) (hd : (a == ("__debug__" : Str)) = false) (hcd : (a == ("__classdict__" : Str)) = false) :
    PE ((cxOf (L2.CX X.prog X.w) X.prog X.w X.K X.mg X.base Ng qg sg g cdg X.A X.stack s H Eg).tr pn xe) (.Call (.Name a p1) [] [] p2) (fun τ HZ Q => τ[i]? = some (some (.ref f)) ∧ HZ c' = some (LamX.CodeO c' (X.env.qual ++ "<lambda>")) ∧ tb (fun cls d h => W cls d τ h) σ HZ Q) := ⟨fun pinsZ sZ τ HZ R IZ ⟨slot, code, reading⟩ => by
  refine wpAny_Call_Name_kw (thn ((pe_var (pos := p1) (i := i) hN hv hd hcd).run pinsZ sZ τ HZ (fun v h => v = .ref f ∧ HZ = h) IZ ⟨.ref f, slot, rfl, rfl⟩) fun u s1 ⟨_, _, I1, isF, e1, e2⟩ => ?_)
  subst e1 e2
  cases isF
  have there : s1.heap.get? f = some (PySem.W.kla_obj "<lambda>" (X.env.qual ++ "<lambda>") params body scope (cloFrom X.env.cells scope.names []) pm c' ctv) := I1.base.keep f _ hf hfn hfr (List.not_mem_nil)
  refine PySem.W.callWith_F0 ⟨_, _, _, _, there⟩ (wpAny_call (codeAny_mono (?run : codeAny (model X.prog X.w) (X.A.deeper (envOfC qg sg s.heap.objs.size g cdg)) (.call (.ref f) ⟨[], []⟩) (CR (L2.CX X.prog X.w) (envOfC qg sg s.heap.objs.size g cdg :: X.stack) X.prog X.w HZ s1 R (fun cls d h => W cls d τ h)) s1) fun r s2 ends => ?_))
  case run =>
    obtain ⟨⟨oc, vs, t, at', fields, name⟩, _⟩ := I1.hok c' _ code
    refine PySem.W.kla_callFunE hr.r.depth there rfl L.co L.gen rfl ⟨c', oc, vs, t, rfl, at', fields, name⟩ ?_
    rw [hbind]
    refine wpAny_pure (wpAny_newFunctionEnv (fun y hy => (L.own y hy).2) (fun y hy => nomatch hy) (fun h1 ns big => ⟨I1.nolimit.fresh _ big, PySem.W.kla_codeExpr ?_⟩) L.kind)
    have start : Inv (LamX.lamCx X (X.A.deeper (envOfC qg sg s.heap.objs.size g cdg)) (envOfC qg sg s.heap.objs.size g cdg :: X.stack) s1 HZ (fun cls d h => W cls d τ h) scope f c') [] σ HZ { s1 with heap := h1, toks := s1.toks + ([] : List (Str × Value)).length } :=
      LamX.lam_start2 I L I1.env0 hr.r.hd I1.base ns fun b o q => big.extBut b o (Nat.ne_of_lt (Heap.lt_size q)) (Heap.get?_push_of_some _ q)
    exact wpAny_mono ((hbody _ _ s1 HZ _ ⟨hr.r.deeper _, hr.g⟩).run [] _ _ HZ R start reading) (fun _ _ ⟨w, H2, J, rw', q⟩ => ⟨w, H2, J.os, J.bare, J.base, J.hok, rw', q⟩) fun _ _ q => q
  match r, ends with
  | .error _, q => exact tk _ _ (XE.of_call I1 (fun _ _ _ z => z) q)
  | .ok (.ret _), q => exact I1.after q
  | .ok .next, q => exact q.elim
  | .ok .brk, q => exact q.elim
  | .ok .cont, q => exact q.elim⟩
end
end G
end

section
set_option Elab.async false
set_option linter.all false
set_option maxRecDepth 100000
set_option maxHeartbeats 4100000
namespace G
open L2 PySem.Spec PyProof.Rows PySem
variable [LamT]
/-! ### x(lambda: e), x being: try: return (told, ask()) except C as error: .. -/
def rtOf (r : R Fl) : Option (PyData × Fd) := match r with
  | .ok (.rt d) S => some (d, S)
  | _ => none
/-- the frame of the one who catches -/
def xEnv (n i : Nat) (a d : Addr) (x : Xn) : En := (List.replicate n none).set i (some (.xn a d x))
def cHeard (told : Str) (tbc : Nat → Bool) (n i : Nat) (hs : Addr → Addr → Nat → En → M Fl) (fb : En → M PyData) : En → M PyData := fun ρ S => match fb ρ S with
  | .ok d S' => .ok (.tuple [.str told, d]) S'
  | .ex x S' => if tbc x.cls then (match rtOf (hs 0 0 x.cls (xEnv n i 0 0 x) S') with | some (d, S'') => .ok d S'' | none => .bad) else .bad
  | .bad => .bad
theorem xEnv_at {K : PySem.W.Frag} {av : List Addr} {q : Pt} {n i : Nat} {a d : Addr} {x : Xn} {S : Fd} {τ : G.St} {H : Hp} (hl : τ.length = n) (f : FeedAt av q S H) (t : ∀ p ∈ av, ∃ o, H p = some o) (hx : XdAt K av H d x) (hi : i < n) (hs : τ[i]? = some (some (.ref a))) : At K av q (xEnv n i a d x) S τ H where
  len := by simp [xEnv, hl]
  slot := fun j s e => by
    unfold xEnv at e
    by_cases z : i = j
    · subst z
      rw [List.getElem?_set_self (by simpa using hi)] at e
      cases e
      exact ⟨_, hs, rfl, hx⟩
    · rw [List.getElem?_set_ne z, List.getElem?_replicate] at e
      split at e <;> cases e
  inj := fun a1 b l l' w e1 e2 e3 e4 => by
    unfold xEnv at e1
    by_cases z : i = a1
    · subst z
      rw [List.getElem?_set_self (by simpa using hi)] at e1
      cases e1
    · rw [List.getElem?_set_ne z, List.getElem?_replicate] at e1
      split at e1 <;> cases e1
  feed := f
  trk := t
theorem xEnv_now {n i j : Nat} {a d : Addr} {x : Xn} {l : Ol} (e : (xEnv n i a d x)[j]? = some (some (Sl.ow l))) : False := by
  unfold xEnv at e
  by_cases z : i = j
  · subst z
    by_cases hi : i < n
    · rw [List.getElem?_set_self (by simpa using hi)] at e
      cases e
    · rw [List.getElem?_eq_none (by simpa using hi)] at e; cases e
  · rw [List.getElem?_set_ne z, List.getElem?_replicate] at e
    split at e <;> cases e
theorem tS_w {K : PySem.W.Frag} {g : En → M Fl} {W W' : WX} (h : ∀ c d σ H, W' c d σ H → W c d σ H) {D : Ends} {σ : G.St} {H : Hp} (t : tS K W' g D σ H) : tS K W g D σ H :=
  let ⟨H0, av0, x0, av, q, ρ, S, E, p⟩ := t; ⟨H0, av0, x0, av, q, ρ, S, E, R.post_imp p (fun _ _ z => z) fun _ _ z τ dd H' e f d => h _ _ _ _ (z τ dd H' e f d)⟩
section
variable {X : Cx}
/-- the context of the one who catches -/
abbrev zCx (X : Cx) (Ng : List Str) (qg : Str) (sg : Scope) (g : Addr) (cdg : Value) (s : Shared) (H : Hp) : Cx := cxOf (L2.CX X.prog X.w) X.prog X.w X.K X.mg X.base Ng qg sg g cdg X.A X.stack s H fun _ _ _ => False
/-- what is known of x: its text, its except suite's derivation -/
structure HearT (X : Cx) (k : Nat) (x a er cn : Str) (g CL : Addr) (fd : FuncData) (Ng : List Str) (told : Str) (tbc : Nat → Bool) (i : Nat) (hs : Addr → Addr → Nat → En → M Fl) : Prop where
  g' : X.mg x = some (.ref g)
  kp : PySem.W.keepIn X.K (.ref g) = true
  bd : L2.Binds X.K fd [a] []
  ex : ∃ (st : Stmt) (p1 p2 p3 p4 p5 p6 p7 p8 : Pos) (j k2 : Nat) (b0 : Stmt) (suite : List Stmt), Fun X.K x x st g fd ∧ FnScope Ng [a] (defScope st) ∧ Ng[0]? = some a ∧ Vis (defScope st) a ∧ Ng.Nodup ∧ Ng[i]? = some er ∧ (defScope st).names.lookup er = some NameKind.local ∧ (defScope st).names.lookup cn = some NameKind.globalImplicit ∧ (cn == ("__debug__" : Str)) = false ∧
    defBody st = [.Try [.Return (some (.Tuple [.Constant (.str told) j p1, .Call (.Name a p2) [] [] p3] k2 p4)) p5] [.ExceptHandler (some (.Name cn p6)) (some er) (b0 :: suite) p7] [] [] p8] ∧
    (a == ("__debug__" : Str)) = false ∧ (a == ("__classdict__" : Str)) = false ∧
    ∀ (cdv : Value) (s : Shared) (H : Hp) (a0 d0 : Addr) (c0 : Nat) (oe : Obj) (pn : List (Addr × Obj)), RoomG k (zCx X Ng x (defScope st) g cdv s H).A → Zc (.ref (clOf X.K c0)) (some d0) oe → (∃ vs, oe.data = .fields vs) → PSsD ((zCx X Ng x (defScope st) g cdv s H).suite a0 ((a0, oe) :: pn)) (b0 :: suite) (hs a0 d0 c0)
  le : X.mg cn = some (.ref CL)
  ca : ∀ c, tbc c = true → PySem.W.exmOne X.K (.ref (clOf X.K c)) (.ref CL) = some true
  pr : ∀ a d x S, tbc x.cls = true → rtOf (hs a d x.cls (xEnv Ng.length i a d x) S) = rtOf (hs 0 0 x.cls (xEnv Ng.length i 0 0 x) S)
theorem d_heard {k i : Nat} {x a er cn : Str} {g CL c P : Addr} {fd : FuncData} {Ng : List Str} {told : Str} {tbc : Nat → Bool} {hs : Addr → Addr → Nat → En → M Fl} {params : Arguments} {body : Expr} {scope : Scope} {fb : En → M PyData} {p lpos pos : Pos} (T : HearT X k x a er cn g CL fd Ng told tbc i hs)
    (TB : LamX.TabB X.base X.mg c P) (hcode : X.env.code = .ref c) (hmT : (P, X.env.qual ++ "<lambda>") ∈ LamT.ts) (hu : ∀ r ∈ LamT.ts, r.1 = P → r.2 = X.env.qual ++ "<lambda>") (hr : RoomG (k + 2) X.A) (hL : LamX.lamSB X.env.scope scope = true)
    (hbody : ∀ (A : Around) (outer : List Env) (s1 : Shared) (H1 : Hp) (E : XK) (f c' : Addr), RoomG k (A.deeper (LamX.lamEnv X scope s1.heap.objs.size f c')) → PD (LamX.lamCx X A outer s1 H1 E scope f c') body fb)
    (hdef : defaultsOf params X.env = ([], []) := by rfl) (hbind : ∀ (q : Str) (cl : List (Str × Addr)) (pm cv ctv : Value), bindArgs (PySem.W.kla_fn "<lambda>" q params body scope cl pm cv ctv) ⟨[], []⟩ = pure [] := by intros; rfl) (hg : Gl X x := by rfl) (hdb : (x == ("__debug__" : Str)) = false := by decide) :
    PD X (.Call (.Name x p) [.Lambda params body scope lpos] [] pos) (cHeard told tbc Ng.length i hs fb) := by
  have L := LamX.lamS_by hL
  refine ⟨fun pins s σ H Q I h0 => ?_⟩
  have h := h0
  obtain ⟨av, q, ρ, S, A, pp⟩ := h
  refine wpAny_Call_Name_kw (ld_glob I hg T.g' ?_ hdb)
  refine PySem.W.callWith_K (h₀ := X.base) I.ok.mod.kin T.kp ?_ (by rfl) (by rfl)
  show wpAny _ _ (PySem.spliced ((false, eval (.Lambda params body scope lpos) X.env) :: backTo pos (starEach [] X.env))) _ _ s
  refine Calls.spliced_cons (lam_mk I TB hcode hmT hu A.feed.2.2.2.2 hdef (L.has I.ok) fun f c' pm' ctv H1 s1 I1 keep T1 hf hfn hfr hco => ?_)
  refine PySem.Calls.spliced_nil ⟨I1.kIn, ?_⟩
  -- the heap behind the making
  have inP : P ∈ mv q := List.mem_cons_of_mem _ (List.mem_map.mpr ⟨_, hmT, rfl⟩)
  have ext1 : Ext (mv q) H H1 := fun b o n hb => keep b o (fun z => n (by rw [z]; exact inP)) hb
  have feed1 : FeedAt av q S H1 := by
    obtain ⟨f1, f2, f3, f4, f5⟩ := A.feed
    obtain ⟨psP, hPt, _⟩ := f5 _ hmT
    have hPt : H P = some (.tbl psP) := hPt
    refine ⟨f1, f2, keep _ _ (fun z => ?_) f3, keep _ _ (fun z => ?_) f4, T1⟩
    · rw [z, hPt] at f3
      have f3 := Option.some.inj f3
      unfold feedO at f3
      split at f3 <;> cases f3
    · rw [z, hPt] at f4
      cases f4
  have A1 := A.ext ext1 feed1
  obtain ⟨st, p1, p2, p3, p4, p5, p6, p7, p8, j, k2, b0, suite, F, Sg, hN0, hva, hNd, hNi, hle, hlg, hcn, hb, da, dc, hsu⟩ := T.ex
  obtain ⟨oc, od, kV, doc, pm, an, cdv, ct, osl, rfl, lk, hcd⟩ := (F.ex)
  have rc : codeAny (model X.prog X.w) X.A (.call (.ref g) ⟨[.ref f], []⟩) (CR (L2.CX X.prog X.w) X.stack X.prog X.w H1 s1 Q fun _ _ _ => False) s1 := by
    refine LamX.run_ofS (CX := L2.CX X.prog X.w) (N := Ng) (ps := [a]) (us := [.ref f]) (vs := [.ref f]) lk hcd Sg (k := k + 1) hr.r I1.env0 (T.bd s1 [.ref f] I1.kIn rfl) (.cons rfl .nil) rfl fun hr' => ?_
    rw [hb]
    have hrG : RoomG (k + 1) (X.A.deeper (envOfC x (defScope st) s1.heap.objs.size g cdv)) := ⟨hr', hr.g⟩
    let Z : Cx := zCx X Ng x (defScope st) g cdv s1 H1
    have hnm : Names Z cn (.ref CL) := ⟨hlg, hcn, .inl T.le⟩
    have h0 : (L2.start Ng [V.ref f])[0]? = some (some (V.ref f)) := by
      cases Ng with
      | nil => cases hN0
      | cons y ys => rfl
    have hin : i < Ng.length := (List.getElem?_eq_some_iff.mp hNi).1
    have hsl : (L2.start Ng [V.ref f]).length = Ng.length := by
      cases Ng with
      | nil => cases hN0
      | cons y ys => simp [L2.start]
    let act : WX → TE := fun W τ HZ Q => τ[0]? = some (some (.ref f)) ∧ HZ c' = some (LamX.CodeO c' (X.env.qual ++ "<lambda>")) ∧ tE X.K (fun cls d _ h => W cls d τ h) fb σ HZ Q
    refine ⟨_, pss_one (ps_try_as (X := Z) (i := i) (c := .ref CL) (tb := fun W => tRet (tTupF (tCons (tC (.str told)) (tCons (act W) tNil)))) (ts := fun a1 cls d => fun D τ HZ => ∃ c0 d0, cls = .ref (clOf X.K c0) ∧ d = some d0 ∧ tS X.K W0 (hs a1 d0 c0) D τ HZ) (Wout := W0)
      rfl rfl hNd hNi hle hnm takes0 (fun W pn xe tk _ => ?_) (fun a1 oe cls d pn hz hf => ?_)), ?_⟩
    · refine pss_one (ps_ret (pe_tupF (pa_cons pe_str (pa_cons ?_ pa_nil rfl) rfl)))
      exact pe_actG (tb := fun E => tE X.K (fun cls d _ h => E cls d h) fb) (k := k) I1 L hf hfn hfr (hbind _ _ _ _ _) tk hrG (fun A' outer s2 H2 E hr2 => PE_imp (hbody A' outer s2 H2 E f c' hr2) fun _ _ _ t => tE_w (W := wx (LamX.lamCx X A' outer s2 H2 E scope f c')) (W' := fun cls d _ h => E cls d h) (fun c9 d9 σ9 H9 z => wx_of (X := LamX.lamCx X A' outer s2 H2 E scope f c') (W := fun cls d _ h => E cls d h) (takes_of rfl rfl rfl rfl) z) t) hN0 hva da dc
    · refine ⟨fun pins2 s2 τ H2 D I2 h2 => ?_⟩
      obtain ⟨c0, d0, rfl, rfl, h2⟩ := h2
      exact (hsu cdv s1 H1 a1 d0 c0 oe pn ⟨hr'.mono (Nat.le_succ _), hr.g⟩ hz hf).run pins2 s2 τ H2 D I2 (tS_w (fun _ _ _ _ z => z.elim) h2)
    · -- what is wanted
      refine ⟨h0, hco, av, q, ρ, S, A1, ?_⟩
      have pq : (cHeard told tbc Ng.length i hs fb ρ S).post (fun d S' => ∀ v H', Ext (mv q) H H' → FeedAt av q S' H' → Dx X.K (msk av H') v d → Q v H') (xE X.K (wa (wx X) σ) av q H) := pp
      unfold cHeard at pq
      unfold wE
      cases hfb : fb ρ S with
      | bad => rw [hfb] at pq; exact False.elim pq
      | ok d S' =>
        rw [hfb] at pq
        have pq : ∀ v H', Ext (mv q) H H' → FeedAt av q S' H' → Dx X.K (msk av H') v (.tuple [.str told, d]) → Q v H' := pq
        intro v H2 e2 f2 d2
        refine ⟨by show 2 ≤ sizeLine; decide, fun pt ot hpt hot => ?_⟩
        have trk2 := f2.trk1 A1.trk e2
        exact pq _ _ ((ext1.trans e2).trans (Ext.new hpt)) (feed_same f2 (same_new hpt)) (dp_newTup trk2 hpt hot (.cons (.str told) (.cons d2 .nil)))
      | ex xn S' =>
        rw [hfb] at pq
        have pq : R.post (if tbc xn.cls then (match rtOf (hs 0 0 xn.cls (xEnv Ng.length i 0 0 xn) S') with | some (d, S'') => R.ok d S'' | none => R.bad) else R.bad) (fun d S' => ∀ v H', Ext (mv q) H H' → FeedAt av q S' H' → Dx X.K (msk av H') v d → Q v H') (xE X.K (wa (wx X) σ) av q H) := pq
        cases htb : tbc xn.cls with
        | false => rw [htb, if_neg Bool.false_ne_true] at pq; exact False.elim pq
        | true =>
          rw [htb, if_pos rfl] at pq
          intro dd H2 e2 f2 d2
          refine ⟨true, T.ca _ htb, fun _ a1 ha1 => ⟨xn.cls, dd, rfl, rfl, ?_⟩, fun z => Bool.noConfusion z⟩
          have trk2 := f2.trk1 A1.trk e2
          cases hrt : rtOf (hs 0 0 xn.cls (xEnv Ng.length i 0 0 xn) S') with
          | none => rw [hrt] at pq; exact False.elim pq
          | some r =>
            obtain ⟨d, S2⟩ := r
            rw [hrt] at pq
            have pq : ∀ v H', Ext (mv q) H H' → FeedAt av q S2 H' → Dx X.K (msk av H') v d → Q v H' := pq
            have hpr := (T.pr a1 dd xn S' htb).trans hrt
            have hAt := xEnv_at (K := X.K) (τ := (L2.start Ng [V.ref f]).set i (some (.ref a1))) (by rw [List.length_set, hsl]) f2 trk2 d2 hin (List.getElem?_set_self (by rw [hsl]; exact hin))
            refine ⟨H2, av, mv q, av, q, xEnv Ng.length i a1 dd xn, S', ⟨Ext.refl _, fun _ z => z, f2.1, fun _ z => z, fun _ z n => absurd z n, hAt, fun j l pj e _ => (xEnv_now e).elim, fun j l pj e _ _ => (xEnv_now e).elim⟩, ?_⟩
            cases hh : hs a1 dd xn.cls (xEnv Ng.length i a1 dd xn) S' with
            | bad => rw [hh] at hpr; cases hpr
            | ex y S3 => rw [hh] at hpr; cases hpr
            | ok fl S3 =>
              rw [hh] at hpr
              cases fl with
              | rt d' =>
                cases hpr
                exact fun v H3 e3 f3 d3 => pq v H3 ((ext1.trans e2).trans e3) f3 (dp_same (msk_less vis_fn) d v d3)
              | nx _ => cases hpr
              | bk _ => cases hpr
              | ct _ => cases hpr
  refine wpAny_call (codeAny_mono (rc) fun r s2 hq => ?_)
  cases r with
  | error e =>
    obtain ⟨_, _, _, _, _, _, _, _, _, _, _, _, z⟩ := (show L2.CX X.prog X.w X.stack H1 s1 (fun _ _ _ => False) e s2 from hq)
    exact z.elim
  | ok fl =>
    cases fl with
    | ret u => exact I1.after hq
    | next => exact False.elim hq
    | brk => exact False.elim hq
    | cont => exact False.elim hq
end
end G
end

section
set_option Elab.async false
set_option linter.all false
set_option maxRecDepth 100000
set_option maxHeartbeats 4100000
namespace G
open L2 PySem.Spec PyProof.Rows PySem
variable [LamT]
/-! ### what is walked: a list or a tuple -/
section
variable {X : Cx}
theorem PI_or {tg it : Expr} {t1 t2 : TI} (h1 : PI X tg it t1) (h2 : PI X tg it t2) : PI X tg it (fun σ H R => t1 σ H R ∨ t2 σ H R) := ⟨fun pins s σ H R I h => h.elim (h1.run pins s σ H R I) (h2.run pins s σ H R I)⟩
def asS (x : PyData) : M (List PyData) := match x with
  | .list ds => pure ds
  | .tuple ds => pure ds
  | _ => bad
theorem i_seq {tg e : Expr} {f : En → M PyData} (h : PD X e f) : PID X tg e (fun ρ => f ρ >>= asS) := PI_imp (PI_or (pi_list h) (pi_tup h)) fun σ H Ro ⟨av, q, ρ, S, A, p⟩ => by
  have pb := post_bind p
  cases hf : f ρ S with
  | bad => rw [hf] at pb; exact False.elim pb
  | ex x S1 =>
    refine .inl ⟨av, q, ρ, S, A, ?_⟩
    unfold wE
    rw [hf] at pb ⊢
    exact pb
  | ok x S1 =>
    rw [hf] at pb
    cases x with
    | list ds =>
      refine .inl ⟨av, q, ρ, S, A, ?_⟩
      unfold wE
      rw [hf]
      intro v H1 e1 f1 d1
      cases d1 with
      | lst hs hx => exact ⟨_, rfl, ⟨_, sqL_at hs⟩, pb _ H1 e1 f1 (wk_list hs hx)⟩
    | tuple ds =>
      refine .inr ⟨av, q, ρ, S, A, ?_⟩
      unfold wE
      rw [hf]
      intro v H1 e1 f1 d1
      cases d1 with
      | tup hs hn hx => exact ⟨_, rfl, ⟨_, sqT_at hs⟩, pb _ H1 e1 f1 (wk_tup hs hx)⟩
    | none => exact False.elim pb
    | bool _ => exact False.elim pb
    | int _ => exact False.elim pb
    | str _ => exact False.elim pb
    | dict _ => exact False.elim pb
end

/-! ### enumerate(list) -/
def ItEl (K : PySem.W.Frag) (a : Addr) : It :=
  ⟨fun i H => ∃ (xs : List V) (x : V), SqL K H a xs ∧ xs[i]? = some x, fun i H v H' => ∃ T x o, v = .ref T ∧ H T = none ∧ Pl o ∧ H' = upd H T (.frz o (.tup [.int (i : Nat), x])) ∧ ∀ xs, SqL K H a xs → xs[i]? = some x, fun i H => ∃ xs : List V, SqL K H a xs ∧ xs.length ≤ i⟩
theorem turn_enumL {P : Program} {w : World} {K : PySem.W.Frag} {elts : List Expr} {kk : Nat} {tpos : Pos} (a e it : Addr) :
    Turn P w K (.Tuple elts kk tpos) (ItEl K a) [e, it] e (fun i h => (∃ old, IsEnum h e it ((i : Nat) : Int) old) ∧ h.IsListIter it a i ∧ e ≠ it) where
  mem := List.mem_cons_self
  self := fun _ _ _ _ _ ⟨⟨_, en⟩, _⟩ given => wpAny_pyIter_enum en given
  keep := fun _ _ _ ⟨⟨was, en⟩, walk, apart⟩ same => ⟨⟨was, same e (by simp) _ en⟩, walk.at (same it (by simp)), apart⟩
  obj := fun _ _ ⟨⟨_, en⟩, ⟨o, there, _, raw⟩, _⟩ => by
    simp only [List.mem_cons, List.not_mem_nil, or_false, forall_eq_or_imp, forall_eq]
    exact ⟨⟨_, en, fun _ z => nomatch z⟩, o, there, fun _ z => by rw [raw] at z; cases z⟩
  done := fun X hP hw hK calm i pins s σ H E I off ⟨⟨_, en⟩, walk, _⟩ ⟨xs, isL, short⟩ => by
    subst hP hw hK
    obtain ⟨items, reads, body, _⟩ := I.list isL
    have count := reads.length
    exact wpAny_pyNext_enum_end (I.ok.hd calm) en walk body.isList (by simp; omega) fun h1 but => ⟨rfl, I.turnedL (t' := s.toks) (ch := [e, it]) (fun b o nb => but b o fun z => nb (by simp [z])) off⟩
  item := fun X hP hw hK calm i pins s σ H E I off ⟨⟨was, en⟩, walk, apart⟩ ⟨xs, x, isL, atI⟩ => by
    subst hP hw hK
    obtain ⟨items, reads, body, _⟩ := I.list isL
    obtain ⟨u, atU, rel⟩ := reads.get atI
    have old : ∀ b ∈ [e, it], b < s.heap.objs.size := by
      obtain ⟨o, there, _⟩ := walk
      simpa using ⟨Heap.lt_size en, Heap.lt_size there⟩
    refine wpAny_pyNext_enum_item en walk body.isList (x := u) (by simpa using atU) apart fun h1 out walk1 laid _ kept => ?_
    refine ⟨_, rfl, wpAny_letOwnedTupleGo_enum (s := { s with heap := h1, toks := s.toks + 1 }) out fun h2 en' but => ?_⟩
    obtain ⟨o, pl, new, I2, still⟩ := pair_laid (x := .int (i : Nat)) (tk := s.toks + 1) I off old (fun b o nb q => (but.2 b fun z => nb (by simp [z])).trans (kept b o (fun z => nb (by simp [z])) (fun z => nb (by simp [z])) q)) ((but.2 _ (Nat.ne_of_gt (old e (by simp)))).trans laid) ⟨_, rfl⟩ rel
    exact ⟨.ref _, _, I2, rfl, ⟨_, x, o, rfl, new, pl, rfl, fun ys isY => by rw [I.list_inj isY isL]; exact atI⟩, ⟨⟨u, by rw [Int.natCast_add]; exact en'⟩, walk1.at fun o q => (but.2 it (Ne.symm apart)).trans q, apart⟩, still⟩
def iEnL (K : PySem.W.Frag) (ta : TA) : TI := fun σ H R => ta σ H fun vs H1 => ∃ a xs, vs = [.ref a] ∧ SqL K H1 a xs ∧ R (ItEl K a) H1
theorem pi_enL {X : Cx} {e : Expr} {ta : TA} {p pos tpos : Pos} {elts : List Expr} {kk : Nat} (hg : Gl X "enumerate") (hm : X.mg "enumerate" = none) (ha : PA X [e] ta) (hs : starEach [e] X.env = [(false, eval e X.env)] := by rfl) :
    PI X (.Tuple elts kk tpos) (.Call (.Name "enumerate" p) [e] [] pos) (iEnL X.K ta) :=
  ⟨fun pins s σ H R I asked => Call_ (ld_blt I hg hm boot_enumerate (PyProof.Rows.callWith_type1 (thn (ha.run pos pins s σ H _ I asked) fun us s1 ⟨vs, H1, I1, rel, a, xs, one, isL, rest⟩ => by
    subst one
    obtain ⟨w, rfl, isRef⟩ := rel.one
    cases isRef
    obtain ⟨items, _, body, _⟩ := I1.list isL
    exact call_enumerate_list body.isList fun h1 en walk _ kept => wpAny_pyIter_enum en ⟨_, _, _, _, H1, rfl, I1.kept (t' := s1.toks) kept, turn_enumL a (s1.heap.objs.size + 1) s1.heap.objs.size, ⟨⟨.none, en⟩, walk, Nat.succ_ne_self _⟩, off_new I1 (by simp), rest⟩) hs rfl))⟩
theorem wk_enL {K : PySem.W.Frag} {av : List Addr} {H : Hp} {a : Addr} {vs : List V} {ds : List PyData} (h : msk av H a = some (.lst vs)) (hd : DxAll K (msk av H) vs ds) : Wk K av H (ItEl K a) (enD ds) := fun av' H' h1 h2 e t i => by
  have sm := wk_same h1 h2 e
  have hs : SqL K H' a vs := sqL_at (sm _ _ h)
  refine ⟨fun d hd' => ?_, fun hl => ⟨vs, hs, by rw [dps_len hd]; simpa [enD] using hl⟩⟩
  obtain ⟨x, hx, rfl⟩ := enD_get hd'
  obtain ⟨v, hv, hdv⟩ := dps_get hd hx
  refine ⟨⟨vs, v, hs, hv⟩, fun y H'' yl => ?_⟩
  obtain ⟨T, u, o, e1, hT, ho, e2, yl⟩ := yl
  subst e1 e2
  have z := yl vs hs
  rw [hv] at z; cases z
  exact ⟨same_new hT, dp_newTup t hT ho (.cons (.int _) (.cons (dp_same sm x v hdv) .nil))⟩
/-- pairs of places and items, the places counted on: for the kernel -/
def enG : Nat → List PyData → List PyData
  | _, [] => []
  | n, d :: ds => .tuple [.int (n : Nat), d] :: enG (n + 1) ds
theorem enG_eq : ∀ (ds : List PyData) (n : Nat), enG n ds = (ds.zipIdx n).map fun p => .tuple [.int (p.2 : Nat), p.1]
  | [], _ => rfl
  | d :: ds, n => by rw [enG, List.zipIdx_cons, List.map_cons, enG_eq ds (n + 1)]
def asEs (as : List Ag) : M (List PyData) := match as with
  | [.d (.tuple ds)] => pure (enG 0 ds)
  | [.d (.list ds)] => pure (enG 0 ds)
  | _ => bad
theorem i_enS {X : Cx} {e : Expr} {p pos tpos : Pos} {elts : List Expr} {kk : Nat} {fs : En → M (List Ag)} (hm : X.mg "enumerate" = none) (ha : PG_A X [e] fs) (hg : Gl X "enumerate" := by rfl) (hs : starEach [e] X.env = [(false, eval e X.env)] := by rfl) :
    PID X (.Tuple elts kk tpos) (.Call (.Name "enumerate" p) [e] [] pos) (fun ρ => fs ρ >>= asEs) := PI_imp (PI_or (pi_enL hg hm ha hs) (pi_enT hg hm ha hs)) fun σ H Ro ⟨av, q, ρ, S, A, p⟩ => by
  have pb := post_bind p
  cases hf : fs ρ S with
  | bad => rw [hf] at pb; exact False.elim pb
  | ex x S1 =>
    refine .inl ⟨av, q, ρ, S, A, ?_⟩
    rw [hf] at pb ⊢
    exact pb
  | ok as S1 =>
    rw [hf] at pb
    have eD : ∀ ds, enG 0 ds = enD ds := fun ds => enG_eq ds 0
    match as, pb with
    | [.d (.list ds)], pb =>
      refine .inl ⟨av, q, ρ, S, A, ?_⟩
      rw [hf]
      intro vs H1 e1 f1 d1
      cases d1 with
      | cons h1 h2 =>
        cases h2
        cases h1 with
        | lst hs hx => exact ⟨_, _, rfl, sqL_at hs, pb _ H1 e1 f1 (by rw [eD]; exact wk_enL hs hx)⟩
    | [.d (.tuple ds)], pb =>
      refine .inr ⟨av, q, ρ, S, A, ?_⟩
      rw [hf]
      intro vs H1 e1 f1 d1
      cases d1 with
      | cons h1 h2 =>
        cases h2
        cases h1 with
        | tup hs hn hx => exact ⟨_, _, rfl, sqT_at hs, pb _ H1 e1 f1 (by rw [eD]; exact wk_enT hs hx)⟩
    | [], pb => exact False.elim pb
    | [.fd], pb => exact False.elim pb
    | [.d .none], pb => exact False.elim pb
    | [.d (.bool _)], pb => exact False.elim pb
    | [.d (.int _)], pb => exact False.elim pb
    | [.d (.str _)], pb => exact False.elim pb
    | [.d (.dict _)], pb => exact False.elim pb
    | a :: b :: t, pb =>
      exfalso
      cases a with
      | fd => exact pb
      | d x => cases x <;> exact pb

/-! ### +, *: of ints, lists, tuples -/
section
variable {X : Cx} {a b : Expr} {fa fb : En → M PyData} {pos : Pos}
theorem opR_or {f : Value → Value → Sem Value} {r1 r2 : R2} (h1 : OpR X f r1) (h2 : OpR X f r2) : OpR X f (fun x y H Q => r1 x y H Q ∨ r2 x y H Q) := fun pins s σ H x y v u Q I rx ry h => h.elim (h1 pins s σ H x y v u Q I rx ry) (h2 pins s σ H x y v u Q I rx ry)
def rCatF (K : PySem.W.Frag) : R2 := fun x y H Q => ∃ a b xs ys, x = .ref a ∧ y = .ref b ∧ SqT K H a xs ∧ SqT K H b ys ∧ xs ≠ [] ∧ xs.length + ys.length ≤ sizeLine ∧ (ys = [] → Q (.ref a) H) ∧ (ys ≠ [] → ∀ p o, H p = none → Pl o → Q (.ref p) (upd H p (.frz o (.tup (xs ++ ys)))))
theorem op_catF : OpR X (binaryOp .Add) (rCatF X.K) := fun pins s σ H x y v u Q I rx ry ⟨a, b, xs, ys, ex, ey, isA, isB, some1, fits, same, other⟩ => by
  subst ex ey
  cases rx
  cases ry
  obtain ⟨is, r1, p1, _⟩ := I.tuple isA
  obtain ⟨js, r2, p2, _⟩ := I.tuple isB
  have both := frz_ok (P := X.prog) (w := X.w) (H := H) (h := s.heap) (by rw [List.length_append]; exact fits) (r1.append r2)
  exact HT.cat_tup p1 p2 (fun z => some1 (r1.nil_iff.mp z)) (fun z => ⟨.ref a, H, I, rfl, same (r2.nil_iff.mp z)⟩)
    (fun z => ⟨.ref s.heap.objs.size, _, I.laid (t' := s.toks) (fun _ _ => Heap.get?_push_of_some _) (Nat.le_refl _) (by simpa using both), rfl, other (fun n => z (r2.nil_iff.mpr n)) _ _ (I.hok.fresh (Nat.le_refl _)) ⟨rfl, rfl⟩⟩) (by rw [← r1.length, ← r2.length]; exact fits)
/-- a whole number, worked out -/
def natK {α : Type} (n : Nat) (k : Nat → α) : α := Nat.rec (k 0) (fun m _ => k (Nat.succ m)) n
theorem natK_eq {α : Type} (n : Nat) (k : Nat → α) : natK n k = k n := by cases n <;> rfl
def intK {α : Type} (i : Int) (k : Int → α) : α := match i with
  | .ofNat n => natK n fun m => k (.ofNat m)
  | .negSucc n => natK n fun m => k (.negSucc m)
theorem intK_eq {α : Type} (i : Int) (k : Int → α) : intK i k = k i := by cases i <;> simp [intK, natK_eq]
def gAddA (x y : PyData) : Option PyData := match x, y with
  | .int i, .int j => intK (i + j) fun m => some (.int m)
  | .list l, .list m => if Nat.ble (l.length + m.length) 16777216 then some (.list (l ++ m)) else none
  | .tuple l, .tuple m => if (!l.isEmpty) && Nat.ble (l.length + m.length) 16777216 then some (.tuple (l ++ m)) else if l.isEmpty && m.isEmpty then none else none
  | _, _ => none
theorem opD_addA {K : PySem.W.Frag} : OpD K (fun x y H Q => (rI0 (fun i j => .int (i + j)) x y H Q) ∨ (rCat x y H Q ∨ rCatF K x y H Q)) gAddA := fun av H x y d v w Q t hd hx hy k => by
  unfold gAddA at hd
  split at hd
  · rw [intK_eq] at hd
    cases hd; cases hx; cases hy
    exact .inl ⟨_, _, rfl, rfl, k _ H (Same.refl H) (.int _)⟩
  · split at hd
    · rename_i hh
      have hh := Nat.ble_eq.mp hh
      cases hd
      cases hx with
      | lst h1 x1 =>
        cases hy with
        | lst h2 x2 => exact .inr (.inl ⟨_, _, _, _, rfl, rfl, (msk_some h1).2, (msk_some h2).2, by rw [dps_len x1, dps_len x2, sizeLine_eq]; exact hh, fun p hp => k _ _ (same_new hp) (dp_newLst t hp (dps_app x1 x2))⟩)
    · cases hd
  · split at hd
    · rename_i hh
      rw [Bool.and_eq_true] at hh
      obtain ⟨hne, hh⟩ := hh
      have hh := Nat.ble_eq.mp hh
      cases hd
      cases hx with
      | tup h1 n1 x1 =>
        cases hy with
        | tup h2 n2 x2 =>
          refine .inr (.inr ⟨_, _, _, _, rfl, rfl, sqT_at h1, sqT_at h2, fun z => ?_, by rw [dps_len x1, dps_len x2, sizeLine_eq]; exact hh, fun z => ?_, fun z p o hp ho => k _ _ (same_new hp) (dp_newTup t hp ho (dps_app x1 x2))⟩)
          · subst z
            cases x1
            simp at hne
          · subst z
            cases x2
            refine k _ H (Same.refl H) ?_
            rw [List.append_nil]
            exact .tup h1 n1 x1
    · split at hd <;> cases hd
  · cases hd
theorem d_addA (ha : PD X a fa) (hb : PD X b fb) : PD X (.BinOp a .Add b pos) (cBin gAddA fa fb) := d_bin (opR_or op_add (opR_or op_cat op_catF)) opD_addA ha hb
end
end G
end

section
set_option Elab.async false
set_option linter.all false
set_option maxRecDepth 100000
set_option maxHeartbeats 4100000
namespace G
open L2 PySem.Spec PyProof.Rows PySem
variable [LamT]
/-! ### tuple * int -/
section
variable {X : Cx} {a b : Expr} {fa fb : En → M PyData} {pos : Pos}
def rRepF (K : PySem.W.Frag) : R2 := fun x y H Q => ∃ l k xs, x = .ref l ∧ y = .int k ∧ SqT K H l xs ∧ xs ≠ [] ∧ 2 ≤ k ∧ k ≤ 16777216 ∧ k.toNat * xs.length ≤ 16777216 ∧ ∀ p o, H p = none → Pl o → Q (.ref p) (upd H p (.frz o (.tup (List.replicate k.toNat xs).flatten)))
theorem op_repF : OpR X (binaryOp .Mult) (rRepF X.K) := fun pins s σ H x y v u Q I rx ry ⟨l, k, xs, ex, ey, isT, some1, two, most, fits, rest⟩ => by
  subst ex ey
  cases rx
  obtain ⟨tok, rfl⟩ := ry
  obtain ⟨m, rfl⟩ : ∃ m : Nat, k = (m : Int) := ⟨k.toNat, by omega⟩
  simp only [Int.toNat_natCast] at fits rest
  obtain ⟨items, reads, ⟨⟨cls, dct, raw, slots⟩, there, isTup, n, isSeq⟩, _⟩ := I.tuple isT
  simp only at isTup isSeq
  subst isTup isSeq
  have count : items.toArray.size = xs.length := by rw [List.size_toArray, ← reads.length]
  have full : items.toArray.isEmpty = false := by
    rw [Array.isEmpty_eq_false_iff_exists_mem]
    obtain ⟨x0, h0⟩ := List.exists_mem_of_length_pos (show 0 < items.length by rw [← reads.length]; exact List.length_pos_iff.mpr some1)
    exact ⟨x0, by simpa using h0⟩
  have much : items.toArray.size * m ≤ 16777216 := by rw [count, Nat.mul_comm]; exact fits
  have long : ∀ {α : Type} (ys : List α), ys.length = xs.length → (List.replicate m ys).flatten.length ≤ sizeLine := fun ys e => by
    rw [PyProof.Rows.lm_len_rep_flat, e, sizeLine_eq]
    exact fits
  have whole : Builtin.Tuple.tupleTooMany (((items.toArray.size : Nat) : Int) * (m : Int)) = false := by
    unfold PySem.Builtin.Tuple.tupleTooMany
    rw [sizeLine_eq, decide_eq_false_iff_not, ← Int.natCast_mul]
    omega
  refine wpAny_binaryOp_repeat_ref (T := "tuple") (U := "int") (by decide) ⟨_, there, rfl⟩ (fun s' => typeIs_int s' m tok) noFill_tuple_mul F.fills_int_mul F.slot_int_rmul repeat_tuple F.slot_int_index.lookup
    (call_meets F.slot_int_rmul (typeIs_int s m tok) F.entry_int_rmul (F.args_int_rmul_2 _ _) (int_rmul_tuple m tok l items.toArray n dct slots)
      ⟨there, rfl, ⟨_, there, rfl⟩, call_meets F.slot_tuple_mul ⟨_, there, rfl⟩ F.entry_tuple_mul (F.args_tuple_mul_2 _ _)
        (tuple_mulW l items.toArray n dct slots m tok (by simp; omega) (by simp [full]; omega) (by simp [full]; omega) (by omega) whole (by rw [size_rep, List.size_toArray]; exact long items (by rw [← reads.length]))) ⟨there, ?_⟩⟩)
  rw [size_rep]
  exact ⟨.ref s.heap.objs.size, _, I.laid (t' := s.toks) (fun _ _ q => Heap.get?_push_of_some _ q) (Nat.le_refl _) (frz_ok (long xs rfl) (reads.rep m)), rfl, rest _ _ (I.hok.fresh (Nat.le_refl _)) ⟨rfl, rfl⟩⟩
/-- a list written so often, one behind the other: for the kernel -/
def repG (l : List PyData) : Nat → List PyData
  | 0 => []
  | n + 1 => l ++ repG l n
theorem repG_eq (l : List PyData) : ∀ n, repG l n = (List.replicate n l).flatten
  | 0 => rfl
  | n + 1 => by rw [repG, List.replicate_succ, List.flatten_cons, repG_eq l n]
def isIn64 (i : Int) : Bool := match i with
  | .ofNat n => Nat.blt n 18446744073709551616
  | .negSucc n => Nat.blt n 18446744073709551615
theorem isIn64_ok {i : Int} (h : isIn64 i = true) : -(2 ^ 64) < i ∧ i < 2 ^ 64 := by
  cases i with
  | ofNat n =>
    have h : n < 18446744073709551616 := by simpa [isIn64, Nat.blt_eq] using h
    have e : Int.ofNat n = (n : Int) := rfl
    exact ⟨by omega, by omega⟩
  | negSucc n =>
    have h : n < 18446744073709551615 := by simpa [isIn64, Nat.blt_eq] using h
    exact ⟨by omega, by omega⟩
def gMulA (x y : PyData) : Option PyData := match x, y with
  | .int i, .int j => if isIn64 i || isIn64 j then intK (i * j) fun m => some (.int m) else none
  | .list l, .int n => if decide (0 ≤ n) && Nat.ble n.toNat 16777216 && Nat.ble (l.length * n.toNat) 16777216 then some (.list (repG l n.toNat)) else none
  | .tuple l, .int n => if (!l.isEmpty) && decide (2 ≤ n) && Nat.ble n.toNat 16777216 && Nat.ble (n.toNat * l.length) 16777216 then some (.tuple (repG l n.toNat)) else none
  | _, _ => none
theorem dps_rep {K : PySem.W.Frag} {H : Hp} {vs : List V} {ds : List PyData} (h : DxAll K H vs ds) : ∀ n, DxAll K H (List.replicate n vs).flatten (repG ds n)
  | 0 => .nil
  | n + 1 => by
    rw [repG, List.replicate_succ, List.flatten_cons]
    exact dps_app h (dps_rep h n)
theorem opD_mulA {K : PySem.W.Frag} : OpD K (fun x y H Q => (rI CMul (fun i j => .int (i * j)) x y H Q) ∨ (rRep x y H Q ∨ rRepF K x y H Q)) gMulA := fun av H x y d v w Q t hd hx hy k => by
  unfold gMulA at hd
  split at hd
  · split at hd
    · rename_i hh
      rw [intK_eq] at hd
      cases hd; cases hx; cases hy
      refine .inl ⟨_, _, rfl, rfl, ?_, k _ H (Same.refl H) (.int _)⟩
      rw [Bool.or_eq_true] at hh
      exact hh.imp isIn64_ok isIn64_ok
    · cases hd
  · split at hd
    · rename_i hh
      rw [Bool.and_eq_true, Bool.and_eq_true] at hh
      obtain ⟨⟨h0, h1⟩, h2⟩ := hh
      have h0 := of_decide_eq_true h0
      have h1 := Nat.ble_eq.mp h1
      have h2 := Nat.ble_eq.mp h2
      cases hd; cases hy
      cases hx with
      | lst a1 x1 => exact .inr (.inl ⟨_, _, _, rfl, rfl, (msk_some a1).2, by omega, by omega, by rw [dps_len x1, sizeLine_eq]; exact h2, fun p hp => k _ _ (same_new hp) (dp_newLst t hp (dps_rep x1 _))⟩)
    · cases hd
  · split at hd
    · rename_i hh
      rw [Bool.and_eq_true, Bool.and_eq_true, Bool.and_eq_true] at hh
      obtain ⟨⟨⟨hne, h0⟩, h1⟩, h2⟩ := hh
      have h0 := of_decide_eq_true h0
      have h1 := Nat.ble_eq.mp h1
      have h2 := Nat.ble_eq.mp h2
      cases hd; cases hy
      cases hx with
      | tup a1 n1 x1 =>
        refine .inr (.inr ⟨_, _, _, rfl, rfl, sqT_at a1, fun z => ?_, h0, by omega, by rw [dps_len x1]; exact h2, fun p o hp ho => k _ _ (same_new hp) (dp_newTup t hp ho (dps_rep x1 _))⟩)
        subst z
        cases x1
        simp at hne
    · cases hd
  · cases hd
theorem d_mulA (ha : PD X a fa) (hb : PD X b fb) : PD X (.BinOp a .Mult b pos) (cBin gMulA fa fb) := d_bin (opR_or op_mul (opR_or op_rep op_repF)) opD_mulA ha hb
end
end G
end

section
set_option Elab.async false
set_option linter.all false
set_option maxRecDepth 100000
set_option maxHeartbeats 4100000
namespace G
open L2 PySem.Spec PyProof.Rows PySem
variable [LamT]
/-! ### own lists handed to a def that answers with a flat value -/
inductive Ao where
  | d (x : PyData)
  | fd
  | ol (l : List PyData)
def Ao.thaw : Ao → Ag
  | .d x => .d x
  | .fd => .fd
  | .ol l => .d (.list l)
def AoOk (K : PySem.W.Frag) (av : List Addr) (q : Pt) (H : Hp) (a : Ao) (v : V) : Prop := match a with
  | .d x => Dx K (msk av H) v x
  | .fd => v = .ref q.a
  | .ol l => ∃ p vs, v = .ref p ∧ p ∈ av ∧ p ∉ mv q ∧ H p = some (.lst vs) ∧ DxAll K (msk av H) vs l
inductive AosOk (K : PySem.W.Frag) (av : List Addr) (q : Pt) (H : Hp) : List Ao → List V → Prop
  | nil : AosOk K av q H [] []
  | cons {a : Ao} {v : V} {as : List Ao} {vs : List V} : AoOk K av q H a v → AosOk K av q H as vs → AosOk K av q H (a :: as) (v :: vs)
section
variable {K : PySem.W.Frag} {Wx : WX} {av : List Addr} {q : Pt} {ρ : En} {S S1 : Fd} {σ : G.St} {H H1 : Hp}
theorem AoOk.ext {a : Ao} {v : V} (h : AoOk K av q H a v) (hq : ∀ p ∈ mv q, p ∈ av) (e : Ext (mv q) H H1) : AoOk K av q H1 a v := by
  cases a with
  | d x => exact ext_dp hq e h
  | fd => exact h
  | ol l =>
    obtain ⟨p, vs, rfl, h1, h2, h3, h4⟩ := h
    exact ⟨p, vs, rfl, h1, h2, e p _ h2 h3, ext_dps hq e h4⟩
theorem AosOk.len {as : List Ao} {vs : List V} (h : AosOk K av q H as vs) : vs.length = as.length := by
  induction h with
  | nil => rfl
  | cons _ _ ih => simp [ih]
theorem AosOk.thaw {as : List Ao} {vs : List V} (h : AosOk K av q H as vs) : ∃ ps : List Addr, (∀ p ∈ ps, p ∈ av ∧ p ∉ mv q) ∧ ∀ av', (∀ p ∈ av', p ∈ av ∧ p ∉ ps) → AgsOk K av' q H (as.map Ao.thaw) vs := by
  induction h with
  | nil => exact ⟨[], fun _ z => absurd z (by simp), fun _ _ => .nil⟩
  | @cons a0 v0 as0 vs0 a _ ih =>
    obtain ⟨ps, h1, h2⟩ := ih
    cases a0 with
    | d x => exact ⟨ps, h1, fun av' h => .cons (dp_same (msk_less fun p z => (h p z).1) x v0 a) (h2 av' h)⟩
    | fd => exact ⟨ps, h1, fun av' h => .cons a (h2 av' h)⟩
    | ol l =>
      obtain ⟨p, ws, rfl, e1, e2, e3, e4⟩ := a
      refine ⟨p :: ps, fun r z => ?_, fun av' h => .cons ?_ (h2 av' fun r z => ⟨(h r z).1, fun y => (h r z).2 (List.mem_cons_of_mem _ y)⟩)⟩
      · rcases (List.mem_cons.mp z) with y | y
        · rw [y]; exact ⟨e1, e2⟩
        · exact h1 r y
      · exact .lst (msk_of (fun z => (h p z).2 List.mem_cons_self) e3) (dps_same (msk_less fun r z => (h r z).1) l ws e4)
def tAo (K : PySem.W.Frag) (W : WX) (f : En → M (List Ao)) : TA := fun σ H Q => ∃ av q ρ S, At K av q ρ S σ H ∧
  (f ρ S).post (fun as S' => ∀ vs H', Ext (mv q) H H' → FeedAt av q S' H' → AosOk K av q H' as vs → Q vs H') (xE K (wa W σ) av q H)
def PO_A (X : Cx) (es : List Expr) (f : En → M (List Ao)) : Prop := PA X es (tAo X.K (wx X) f)
theorem tAo_step {f : En → M (List Ao)} {α : Type} {g : List Ao → M α} {k : α → Fd → Prop} {Q : List V → Hp → Prop} (A : At K av q ρ S σ H)
    (p : ((f ρ >>= g) S).post k (xE K (wa Wx σ) av q H)) (h : ∀ x S1 vs H1, (g x S1).post k (xE K (wa Wx σ) av q H1) → Ext (mv q) H H1 → At K av q ρ S1 σ H1 → AosOk K av q H1 x vs → Q vs H1) : tAo K Wx f σ H Q :=
  ⟨av, q, ρ, S, A, R.post_imp (post_bind p) (fun x S1 hx v H1 e1 f1 d1 => h x S1 v H1 (post_ext e1 hx) e1 (A.ext e1 f1) d1) fun _ _ z => z⟩
end
section
variable {X : Cx}
def oNil : En → M (List Ao) := fun _ => pure []
def oD (f : En → M PyData) (fs : En → M (List Ao)) : En → M (List Ao) := fun ρ => f ρ >>= fun x => fs ρ >>= fun r => pure (.d x :: r)
def oF (i : Nat) (fs : En → M (List Ao)) : En → M (List Ao) := fun ρ => getF i ρ >>= fun _ => fs ρ >>= fun r => pure (.fd :: r)
def oO (i : Nat) (fs : En → M (List Ao)) : En → M (List Ao) := fun ρ => getO i ρ >>= fun l => fs ρ >>= fun r => pure (.ol l :: r)
theorem o_nil : PO_A X [] oNil := PA_imp pa_nil fun σ H Q ⟨av, q, ρ, S, A, p⟩ => p [] H (Ext.refl H) A.feed .nil
theorem o_d {e : Expr} {es : List Expr} {f : En → M PyData} {fs : En → M (List Ao)} (h : PD X e f) (hs : PO_A X es fs) (hst : starEach (e :: es) X.env = (false, eval e X.env) :: starEach es X.env := by rfl) : PO_A X (e :: es) (oD f fs) := PA_imp (pa_cons h hs hst) fun σ H Q ⟨av, q, ρ, S, A, p⟩ => by
  refine tE_step A p fun x S1 v H1 p1 e1 A1 d1 => ?_
  refine tAo_step A1 p1 fun r S2 vs H2 p2 e2 A2 d2 => ?_
  exact p2 _ H2 (e1.trans e2) A2.feed (.cons (ext_dp A.feed.1 e2 d1) d2)
theorem o_f {x : Str} {pos : Pos} {es : List Expr} {fs : En → M (List Ao)} (i : Nat) (hs : PO_A X es fs) (hN : X.N[i]? = some x := by rfl) (hv : Vis X.env.scope x := by first | exact Or.inl rfl | exact Or.inr (Or.inl rfl) | exact Or.inr (Or.inr rfl)) (hd : (x == ("__debug__" : Str)) = false := by decide)
    (hcd : (x == ("__classdict__" : Str)) = false := by decide) (hst : starEach (.Name x pos :: es) X.env = (false, eval (.Name x pos) X.env) :: starEach es X.env := by rfl) : PO_A X (.Name x pos :: es) (oF i fs) := PA_imp (pa_cons (pe_var hN hv hd hcd) hs hst) fun σ H Q ⟨av, q, ρ, S, A, p⟩ => by
  obtain ⟨e, k⟩ := getF_post (post_bind p)
  obtain ⟨v, h1, h2⟩ := A.slot i _ e
  refine ⟨v, h1, tAo_step A k fun r S2 vs H2 p2 e2 A2 d2 => ?_⟩
  exact p2 _ H2 e2 A2.feed (.cons h2 d2)
theorem o_o {x : Str} {pos : Pos} {es : List Expr} {fs : En → M (List Ao)} (i : Nat) (hs : PO_A X es fs) (hN : X.N[i]? = some x := by rfl) (hv : Vis X.env.scope x := by first | exact Or.inl rfl | exact Or.inr (Or.inl rfl) | exact Or.inr (Or.inr rfl)) (hd : (x == ("__debug__" : Str)) = false := by decide)
    (hcd : (x == ("__classdict__" : Str)) = false := by decide) (hst : starEach (.Name x pos :: es) X.env = (false, eval (.Name x pos) X.env) :: starEach es X.env := by rfl) : PO_A X (.Name x pos :: es) (oO i fs) := PA_imp (pa_cons (pe_var hN hv hd hcd) hs hst) fun σ H Q ⟨av, q, ρ, S, A, p⟩ => by
  obtain ⟨l, e, k⟩ := getO_post (post_bind p)
  obtain ⟨v, h1, h2⟩ := A.slot i _ e
  refine ⟨v, h1, tAo_step A k fun r S2 vs H2 p2 e2 A2 d2 => ?_⟩
  refine p2 _ H2 e2 A2.feed (.cons ?_ d2)
  have z : AoOk X.K av q H (.ol l) v := h2
  exact z.ext A.feed.1 e2
def flatD : PyData → Bool
  | .none => true
  | .bool _ => true
  | .int _ => true
  | .str _ => true
  | _ => false
theorem dx_flat {K : PySem.W.Frag} {H H' : Hp} {v : V} {d : PyData} (h : Dx K H v d) (f : flatD d = true) : Dx K H' v d := by
  cases h with
  | non => exact .non
  | bl b => exact .bl b
  | int i => exact .int i
  | str x => exact .str x
  | lst _ _ => cases f
  | tup _ _ _ => cases f
def cFnO (n : Nat) (F : Fn) (fs : En → M (List Ao)) : En → M PyData := fun ρ => fs ρ >>= fun as => if as.length = n then sil (F (as.map Ao.thaw)) >>= fun d => if flatD d then pure d else bad else bad
theorem d_fnO {k n : Nat} {f : Addr} {fd : FuncData} {ps : List Str} {F : Fn} {x : Str} {p pos : Pos} {e : Expr} {es : List Expr} {fs : En → M (List Ao)} (Gf : FnG X.prog X.w X.K X.mg X.base k f fd ps (spD X.K n F)) (hr : RoomG k X.A) (hm : X.mg x = some (.ref f)) (hk : PySem.W.keepIn X.K (.ref f) = true) (hb : Binds X.K fd ps [])
    (ha : PO_A X (e :: es) fs) (hg : Gl X x := by rfl) (hdb : (x == ("__debug__" : Str)) = false := by decide) (he : starEach (e :: es) X.env = (false, eval e X.env) :: starEach es X.env := by rfl) (hpl : (backTo pos (starEach es X.env)).any (·.1) = false := by rfl) :
    PD X (.Call (.Name x p) (e :: es) [] pos) (cFnO n F fs) := by
  refine ⟨fun pins s σ H Q I h => wpAny_Call_Name_kw (ld_glob I hg hm ?_ hdb)⟩
  obtain ⟨av, q, ρ, S, A, p⟩ := h
  have h' : tAo X.K (wx X) fs σ H (fun vs H1 => spD X.K n F vs H1 Q (wa (wx X) σ)) := tAo_step A p fun as S1 vs H1 p1 e1 A1 d1 => by
    split at p1
    · rename_i hl
      obtain ⟨ps', h1, h2⟩ := d1.thaw
      let av' := av.filter fun r => decide (r ∉ ps')
      have hav : ∀ r ∈ av', r ∈ av ∧ r ∉ ps' := fun r z => by
        have := List.mem_filter.mp z
        exact ⟨this.1, by simpa using this.2⟩
      have hmv : ∀ r ∈ mv q, r ∈ av' := fun r z => List.mem_filter.mpr ⟨A1.feed.1 r z, by simpa using fun y => (h1 r y).2 z⟩
      refine ⟨by rw [d1.len, hl], av', q, S1, as.map Ao.thaw, h2 av' hav, fun r z => A1.trk r (hav r z).1, A1.feed.less (fun r z => (hav r z).1) hmv, ?_⟩
      refine R.post_imp (post_sil (post_bind p1)) (fun d S2 k v H' e2 f2 dv => ?_) fun _ _ z => z
      cases hf : flatD d with
      | false => rw [hf] at k; exact False.elim k
      | true =>
        rw [hf] at k
        have k : ∀ v H', Ext (mv q) H H' → FeedAt av q S2 H' → Dx X.K (msk av H') v d → Q v H' := k
        exact k v H' (e1.trans e2) ⟨A1.feed.1, A1.feed.2.1, f2.2.2⟩ (dx_flat dv hf)
    · exact False.elim p1
  refine PySem.W.callWith_K (h₀ := X.base) I.ok.mod.kin hk (thn (ha.run pos pins s σ H _ I h') fun us s1 ⟨vs, H1, I1, r, hsp⟩ => ⟨I1.kIn, ?_⟩) he hpl
  have hl : us.length = ps.length := by rw [← r.length]; exact Gf.len _ _ _ _ hsp
  have hbn := hb s1 us I1.kIn (by rw [List.append_nil]; exact hl)
  rw [List.append_nil] at hbn
  refine wpAny_call (codeAny_mono (Gf.run X.A X.stack s1 H1 ⟨us, []⟩ us vs Q (wa (wx X) σ) hr I1.env0 hbn r hsp) fun r' s' hq => ?_)
  have z := ret_of I1 rfl (fun _ _ _ z => z) hq
  cases r' with
  | error e => exact z
  | ok fl =>
    cases fl with
    | ret u => exact z
    | next => exact z.elim
    | brk => exact z.elim
    | cont => exact z.elim
end
/-! ### x = a + b, x a list of one's own -/
section
variable {X : Cx} {pos : Pos}
def gCatL (x y : PyData) : Option PyData := match x, y with
  | .list l, .list m => if Nat.ble (l.length + m.length) 16777216 then some (.list (l ++ m)) else none
  | _, _ => none
theorem s_ownCat {x : Str} {px bp : Pos} {a b : Expr} {fa fb : En → M PyData} (i : Nat) (hN : X.N.Nodup) (ha : PD X a fa) (hb : PD X b fb) (hi : X.N[i]? = some x := by rfl) (hx : Loc X.env.scope x := by first | exact Or.inl rfl | exact Or.inr rfl) (hf : X.fn x = true ∨ X.env.scope.names.lookup x = some .local := by first | exact .inl rfl | exact .inr rfl | assumption)
    (hs : swapsWithSole [.Name x px] (.BinOp a .Add b bp) pos.line X.env = pure false := by rfl) (hw : swappedStores [.Name x px] (.BinOp a .Add b bp) X.env = pure none := by rfl) (h1 : (assignEach [.Name x px] X.env).map (·.2) = [assign (.Name x px) X.env] := by rfl) :
    PSD X (.Assign [.Name x px] (.BinOp a .Add b bp) pos) (sOwn i (cBin gCatL fa fb)) := PS_imp (ps_asg (g := gName i) (pe_op op_cat ha hb) (pg_name hN hi hx hf) hs hw h1) fun D σ H ⟨H0, av0, x0, av, q, ρ, S, W, p⟩ => by
  have p := post_bind p
  refine tE_stepS W p fun y S1 v H1 p1 e1 A1 d1 => ?_
  refine tE_stepS (W.ext e1 A1) p1 fun z S2 w H2 p2 e2 A2 d2 => ?_
  obtain ⟨d, hd, k⟩ := post_lift p2
  have W2 := (W.ext e1 A1).ext e2 A2
  have d3 := ext_dp A1.feed.1 e2 d1
  unfold gCatL at hd
  split at hd
  · split at hd
    · rename_i hh
      have hh := Nat.ble_eq.mp hh
      cases hd
      cases d2 with
      | lst a2 x2 =>
        cases d3 with
        | lst a3 x3 => exact ⟨_, _, _, _, rfl, rfl, (msk_some a3).2, (msk_some a2).2, by rw [dps_len x3, dps_len x2, sizeLine_eq]; exact hh, fun p hp => k (p :: av) _ _ (W2.newOw hp (dps_app x3 x2))⟩
    · cases hd
  · cases hd
end
end G
end

section
set_option Elab.async false
set_option linter.all false
set_option maxRecDepth 100000
set_option maxHeartbeats 4100000
namespace G
open L2 PySem.Spec PyProof.Rows PySem
variable [LamT]
/-! ### x() -/
section
variable {X : Cx}
def cFn0 (F : Fn) : En → M PyData := fun _ => F []
theorem d_fn0 {k : Nat} {f : Addr} {fd : FuncData} {F : Fn} {x : Str} {p pos : Pos} (Gf : FnG X.prog X.w X.K X.mg X.base k f fd [] (spD X.K 0 F)) (hr : RoomG k X.A) (hm : X.mg x = some (.ref f)) (hk : PySem.W.keepIn X.K (.ref f) = true) (hb : Binds X.K fd [] [])
    (hg : Gl X x := by rfl) (hdb : (x == ("__debug__" : Str)) = false := by decide) : PD X (.Call (.Name x p) [] [] pos) (cFn0 F) := by
  refine ⟨fun pins s σ H Q I h => wpAny_Call_Name_kw (ld_glob I hg hm ?_ hdb)⟩
  obtain ⟨av, q, ρ, S, A, p⟩ := h
  have hsp : spD X.K 0 F [] H Q (wa (wx X) σ) := ⟨rfl, av, q, S, [], .nil, A.trk, A.feed, p⟩
  refine PySem.W.callWith_K0 I.kIn hk ?_
  have hbn := hb s [] I.kIn rfl
  refine wpAny_call (codeAny_mono (Gf.run X.A X.stack s H ⟨[], []⟩ [] [] Q (wa (wx X) σ) hr I.env0 hbn .nil hsp) fun r' s' hq => ?_)
  have z := ret_of I rfl (fun _ _ _ z => z) hq
  cases r' with
  | error e => exact z
  | ok fl =>
    cases fl with
    | ret u => exact z
    | next => exact z.elim
    | brk => exact z.elim
    | cont => exact z.elim
end
/-! ### defs that make lambdas: their code object is known -/
structure FunC (K : PySem.W.Frag) (x qual : Str) (st : Stmt) (f : Addr) (fd : FuncData) (c : Addr) : Prop where
  ex : ∃ (oc : Value) (od : Option Addr) (kV doc pm : Value) (an : Option Addr) (ct : Value) (osl : Array (Option Value)),
    fd = PySem.W.fnOf x qual (defArgs st) (defBody st) (defScope st) .none kV doc pm an (.ref c) ct ∧ K.lookup f = some ⟨oc, od, .func fd, osl⟩ ∧ PySem.W.codeIn K (.ref c) qual = true
theorem fn_bodyC {P : Program} {w : World} {K : PySem.W.Frag} {mg : Str → Option Value} {base : Heap} {x qual : Str} {st : Stmt} {fa c : Addr} {fd : FuncData} {N ps : List Str} {k n : Nat} {g : En → M Fl} (F : FunC K x qual st fa fd c) (Sc : FnScope N ps (defScope st)) (hn : n = ps.length)
    (hbody : ∀ (A : Around) (outer : List Env) (s : Shared) (H : Hp) (E : XK), RoomG k (A.deeper (envOfC qual (defScope st) s.heap.objs.size fa (.ref c))) →
      PassesOwn (model P w) (cxOf (L2.CX P w) P w K mg base N qual (defScope st) fa (.ref c) A outer s H E).A (cxOf (L2.CX P w) P w K mg base N qual (defScope st) fa (.ref c) A outer s H E).env (cxOf (L2.CX P w) P w K mg base N qual (defScope st) fa (.ref c) A outer s H E).xe →
      PSsD (cxOf (L2.CX P w) P w K mg base N qual (defScope st) fa (.ref c) A outer s H E) (defBody st) g) : FnG P w K mg base (k + 1) fa fd ps (spD K n (runB N.length g)) := by
  subst hn
  obtain ⟨oc, od, kV, doc, pm, an, ct, osl, rfl, lk, hcd⟩ := F.ex
  refine fn_ofG lk hcd Sc (fun vs H Q E h => h.1) fun A outer s H vs Q E hr h => ⟨_, hbody A outer s H E hr (passes_of rfl), ?_⟩
  obtain ⟨hl, av, q, S, as, ha, ht, hf, p⟩ := h
  refine ⟨H, av, mv q, av, q, env0 N.length as, S, ⟨Ext.refl _, fun _ h => h, hf.1, fun _ h => h, fun _ h n => absurd h n, env0_at ha ht hf, fun i l p e _ => (env0_now e).elim, fun i l p e _ _ => (env0_now e).elim⟩, ?_⟩
  refine R.post_imp (post_bind p) (fun fl S1 p1 => ?_) fun x S1 z σ dd H' e f d => wx_of (takes_of rfl rfl rfl rfl) (z dd H' e f (d.less vis_fn))
  cases fl with
  | rt d => exact fun v H1 e1 f1 d1 => p1 v H1 e1 f1 (dp_same (msk_less vis_fn) d v d1)
  | nx ρ' => exact fun av' σ' H' W => p1 .non H' W.e0 (W.at'.feed.less W.s0 W.mv0) .non
  | bk ρ' => exact False.elim p1
  | ct ρ' => exact False.elim p1
/-! ### the law's def: the feed is made, then the rest is read as data -/
def rho0 (n : Nat) : En := none :: some .fd :: List.replicate n none
/-- feed = _law_feed(script), rest -/
theorem fn_law {P : Program} {w : World} {K : PySem.W.Frag} {mg : Str → Option Value} {base : Heap} {st : Stmt} {fa ff : Addr} {fd fdf : FuncData} {N psf : List Str} {n k kf : Nat} {g : En → M Fl} {ks : Ks} {x fn : Str} {px pf pn cp ap : Pos} {rest : List Stmt} (F : Fun K "law" "law" st fa fd) (Sc : FnScope N ["_law_script"] (defScope st))
    (hb : defBody st = .Assign [.Name x px] (.Call (.Name fn pf) [.Name "_law_script" pn] [] cp) ap :: rest) (hN : N.length = n + 2) (hN0 : N[0]? = some ("_law_script" : Str)) (hN1 : N[1]? = some x) (hv0 : Vis (defScope st) "_law_script") (hl1 : Loc (defScope st) x)
    (gf : FnG P w K mg base kf ff fdf psf (spFeed K ks)) (hmf : mg fn = some (.ref ff)) (hkf : PySem.W.keepIn K (.ref ff) = true) (hbf : Binds K fdf psf []) (hkk : kf ≤ k)
    (hbody : ∀ (cdv : Value) (A : Around) (outer : List Env) (s : Shared) (H : Hp) (E : XK), RoomG k (A.deeper (envOfC "law" (defScope st) s.heap.objs.size fa cdv)) →
      PassesOwn (model P w) (cxOf (L2.CX P w) P w K mg base N "law" (defScope st) fa cdv A outer s H E).A (cxOf (L2.CX P w) P w K mg base N "law" (defScope st) fa cdv A outer s H E).env (cxOf (L2.CX P w) P w K mg base N "law" (defScope st) fa cdv A outer s H E).xe →
      PSsD (cxOf (L2.CX P w) P w K mg base N "law" (defScope st) fa cdv A outer s H E) rest g)
    (hpe : ∀ (cdv : Value) (A : Around) (outer : List Env) (s : Shared) (H : Hp) (E : XK), RoomG k (A.deeper (envOfC "law" (defScope st) s.heap.objs.size fa cdv)) →
      ∀ (te : TE) (t : TS), PE (cxOf (L2.CX P w) P w K mg base N "law" (defScope st) fa cdv A outer s H E) (.Call (.Name fn pf) [.Name "_law_script" pn] [] cp) te → PSs (cxOf (L2.CX P w) P w K mg base N "law" (defScope st) fa cdv A outer s H E) rest t →
        PSs (cxOf (L2.CX P w) P w K mg base N "law" (defScope st) fa cdv A outer s H E) (.Assign [.Name x px] (.Call (.Name fn pf) [.Name "_law_script" pn] [] cp) ap :: rest) (tSeq (tAsg te (gName 1)) t) ∧ Gl (cxOf (L2.CX P w) P w K mg base N "law" (defScope st) fa cdv A outer s H E) fn)
    (math : ∀ S : Fd, S.ks = ks → ∃ S', g (rho0 n) S = .ok (.rt (.bool true)) S') (hfd : (fn == ("__debug__" : Str)) = false := by decide) : FnG P w K mg base (k + 1) fa fd ["_law_script"] (spLaw K) := by
  obtain ⟨oc, od, kV, doc, pm, an, cdv, ct, osl, rfl, lk, hcd⟩ := (F.ex)
  refine fn_ofG lk hcd Sc (fun vs H Q E h => h.1) fun A outer s H vs Q E hr h => ?_
  rw [hb]
  let X := cxOf (L2.CX P w) P w K mg base N "law" (defScope st) fa cdv A outer s H E
  have h0 : X.N[0]? = some ("_law_script" : Str) := hN0
  obtain ⟨hl, tabs, a, ns, rfl, hS, kQ⟩ := h
  have hk2 := hpe cdv A outer s H E hr
  -- the call's own reading
  have glf : Gl X fn := (hk2 (fun _ _ _ => False) (fun _ _ _ => False) ⟨fun _ _ _ _ _ _ h => h.elim⟩ ⟨fun _ _ _ _ _ _ h => h.elim⟩).2
  have pcall : PE X (.Call (.Name fn pf) [.Name "_law_script" pn] [] cp) (fun σ H Q => tCons (tVar 0) tNil σ H fun vs H1 => spFeed K ks vs H1 Q (wa (wx X) σ)) :=
    pe_fnG (X := X) gf (hr.mono hkk) hmf hkf hbf (pa_cons (pe_var h0 hv0 (by decide) (by decide)) pa_nil (by rfl)) glf hfd (by rfl) (by rfl)
  refine ⟨_, (hk2 _ _ pcall (hbody cdv A outer s H E hr (passes_of rfl))).1, ?_⟩
  have hstart : L2.start N [V.ref a] = some (V.ref a) :: List.replicate (n + 1) none := by
    unfold L2.start
    rw [hN]; rfl
  rw [hstart]
  refine ⟨_, rfl, rfl, a, ns, rfl, hS, fun q S H' hks hsub hne ha hc fa' fc => ?_⟩
  obtain ⟨S', hm⟩ := math S hks
  have tabs' : LamX.Tabs LamT.ts H' := tabs.ext hsub
  have tabN : ∀ r ∈ LamT.ts, ∃ o, H r.1 = some o := fun r hr => by
    obtain ⟨ps, h1, _⟩ := tabs r hr
    exact ⟨_, h1⟩
  have hnc : q.c ∉ mv q := fun z => by
    rcases List.mem_cons.mp z with y | y
    · exact hne y.symm
    · obtain ⟨r, hr, e⟩ := List.mem_map.mp y
      obtain ⟨o, ho⟩ := tabN r hr
      rw [e, hc] at ho
      cases ho
  have fq : FeedAt (mv q) q S H' := ⟨fun _ h => h, hnc, fa', fc, tabs'⟩
  have trk : ∀ p ∈ mv q, ∃ o, H' p = some o := fun p hp => by
    rcases List.mem_cons.mp hp with y | y
    · rw [y]; exact ⟨_, fa'⟩
    · obtain ⟨r, hr, e⟩ := List.mem_map.mp y
      obtain ⟨ps, h1, _⟩ := tabs' r hr
      rw [← e]; exact ⟨_, h1⟩
  have hAt : At K (mv q) q (rho0 n) S (some (V.ref a) :: some (V.ref q.a) :: List.replicate n none) H' := {
    len := by simp [rho0]
    slot := fun i sl e => by
      match i with
      | 0 => cases e
      | 1 => cases e; exact ⟨_, rfl, rfl⟩
      | j + 2 =>
        have e : (List.replicate n (none : Option Sl))[j]? = some (some sl) := e
        rw [List.getElem?_replicate] at e
        split at e <;> cases e
    inj := fun i j l l' v e _ _ _ => by
      match i with
      | 0 => cases e
      | 1 => cases e
      | j + 2 =>
        have e : (List.replicate n (none : Option Sl))[j]? = some (some (Sl.ow l)) := e
        rw [List.getElem?_replicate] at e
        split at e <;> cases e
    feed := fq
    trk := trk }
  have noOw : ∀ (i : Nat) (l : Ol), (rho0 n)[i]? = some (some (Sl.ow l)) → False := fun i l e => by
    match i with
    | 0 => cases e
    | 1 => cases e
    | j + 2 =>
      have e : (List.replicate n (none : Option Sl))[j]? = some (some (Sl.ow l)) := e
      rw [List.getElem?_replicate] at e
      split at e <;> cases e
  refine ⟨H', mv q, mv q, mv q, q, rho0 n, S, ⟨Ext.refl _, fun _ h => h, fun _ h => h, fun _ h => h, fun _ h n => absurd h n, hAt, fun i l p e _ => (noOw i l e).elim, fun i l p e _ _ => (noOw i l e).elim⟩, ?_⟩
  rw [hm]
  intro v H2 e2 f2 d2
  cases d2
  exact kQ H2
end G
end

section
set_option Elab.async false
set_option linter.all false
set_option maxRecDepth 100000
set_option maxHeartbeats 4100000
namespace G
open L2 PySem.Spec PyProof.Rows PySem
section
variable [LamT]
theorem cXn_self {a d : Addr} {c i : Nat} {ρ : En} {x : Xn} (h : ρ[i]? = some (some (.xn a d x))) (hc : x.cls = c) : cXn a d c i ρ = pure x := by unfold cXn; rw [h]; simp [hc]
theorem cIsx_self {a d : Addr} {c i : Nat} {tb : Nat → Option Bool} {ρ : En} {x : Xn} (h : ρ[i]? = some (some (.xn a d x))) (hc : x.cls = c) : cIsx a d c i tb ρ = lift ((tb x.cls).map PyData.bool) := by
  unfold cIsx; rw [cXn_self h hc]; rfl
theorem cXf_self {a d : Addr} {c i : Nat} {fi : Nat → Option Nat} {ρ : En} {x : Xn} (h : ρ[i]? = some (some (.xn a d x))) (hc : x.cls = c) : cXf a d c i fi ρ = lift ((fi x.cls).bind fun k => x.fs[k]?) := by
  unfold cXf; rw [cXn_self h hc]; rfl
end
/-! ### the end: what is known of the head, lists of tables -/
theorem all_cons {α : Type} {p : α → Prop} {a : α} {l : List α} (h : p a) (t : ∀ r ∈ l, p r) : ∀ r ∈ a :: l, p r := fun r hr => by
  rcases List.mem_cons.mp hr with e | e
  · rw [e]; exact h
  · exact t r e
theorem uq_of : ∀ (ts : List (Addr × Str)) (j : Nat) (hn : (ts.map (·.1)).Nodup) {a : Addr} {s : Str} (hj : ts[j]? = some (a, s)), ∀ r ∈ ts, r.1 = a → r.2 = s
  | [], _, _, _, _, hj, _, _, _ => by cases hj
  | t :: ts, 0, hn, a, s, hj, r, hr, e => by
    have hj : t = (a, s) := Option.some.inj hj
    subst hj
    rcases (List.mem_cons.mp hr) with z | z
    · rw [z]
    · exact absurd (List.mem_map.mpr ⟨r, z, e⟩) (List.nodup_cons.mp hn).1
  | t :: ts, j + 1, hn, a, s, hj, r, hr, e => by
    have hj : ts[j]? = some (a, s) := hj
    rcases (List.mem_cons.mp hr) with z | z
    · exfalso
      refine (List.nodup_cons.mp hn).1 (List.mem_map.mpr ⟨_, List.mem_of_getElem? hj, ?_⟩)
      show a = t.1
      rw [← z, e]
    · exact uq_of ts j (List.nodup_cons.mp hn).2 hj r z e
theorem tabs0 (cs : List (Addr × Addr)) (ts : List (Addr × Str)) (e : ts.map (·.1) = cs.map (·.2)) {H : Hp} (h : ∀ r ∈ cs, H r.2 = some (.tbl #[])) : LamX.Tabs ts H := fun p hp => by
  have m : p.1 ∈ cs.map (·.2) := by rw [← e]; exact List.mem_map.mpr ⟨p, hp, rfl⟩
  obtain ⟨r, hr, er⟩ := List.mem_map.mp m
  refine ⟨#[], by rw [← er]; exact h r hr, ?_, fun pos cv hcv => ?_⟩
  · trivial
  · cases hcv
theorem walkT {l : PySem.W.OpenLaw} {n k : Nat} {q : Program} {loose : List Str} {XP : (Str → Option Value) → Heap → Prop} {YP : World → Heap → Prop} {d : DefRec} {K : Params → PySem.W.Frag} {x : Str} (hn : l.most = some n) (hn2 : n ≤ sizeLine) (hdf : d.params.defaults = []) (hr : RoomG k callerA) (hY : ∀ (w : World) (h : Heap), YP w h → (K w.params).In h)
    (F : ∀ (w : World) (mg mb : Str → Option Value) (mean : ExcName → Option Value) (fa : Addr) (h : Heap), Top q (PySem.W.looseW q loose) mean mg mb h → (K w.params).In h → mg d.name = some (.ref fa) → LawG l.prog w (K w.params) mg k fa x h n) :
    PySem.W.WalkO q loose XP YP l.row.toRowW d [] fun f vs => PySem.call f vs := by
  refine Att.attach_call hn hdf fun w s0 s1 mg mb fa o pm cd doc a vs ns G Y ho hd hcd hmg hobj hints hlen hg => ?_
  have KX := hY w _ Y
  obtain ⟨fd, cs, sp, t1, t2, t3, hb, hsp, hF⟩ := (F w mg mb _ fa _ G.T KX hmg).ex
  letI : LamT := ⟨[]⟩
  exact law_callG KX G.T.g G.T.b G.T.builtins G.T.nolimit hg t1 t2 t3 G.T.bmain hobj hints (Nat.le_trans hlen hn2) hr hF hb fun H hH hS => hsp H a ns hlen hH hS
end G
end

section
set_option Elab.async false
set_option linter.all false
set_option maxRecDepth 100000
set_option maxHeartbeats 4100000
namespace G
open L2 PySem.Spec PyProof.Rows PySem
variable [LamT]
/-! ### lists of one's own, seen as data for an expression whose answer is flat -/
def melt1 : Option Sl → Option Sl
  | some (.ow l) => some (.im (.list l.1))
  | s => s
def meltE (ρ : En) : En := ρ.map melt1
theorem melt_at {ρ : En} {i : Nat} {s : Sl} (h : (meltE ρ)[i]? = some (some s)) : (ρ[i]? = some (some s) ∧ ∀ l, s ≠ .ow l) ∨ ∃ l, ρ[i]? = some (some (.ow l)) ∧ s = .im (.list l.1) := by
  unfold meltE at h
  rw [List.getElem?_map] at h
  cases e : ρ[i]? with
  | none => rw [e] at h; cases h
  | some s0 =>
    rw [e] at h
    have h : melt1 s0 = some s := Option.some.inj h
    cases s0 with
    | none => cases h
    | some s0 =>
      cases s0 with
      | ow l => cases h; exact .inr ⟨l, rfl, rfl⟩
      | im d => cases h; exact .inl ⟨rfl, fun l z => by cases z⟩
      | fd => cases h; exact .inl ⟨rfl, fun l z => by cases z⟩
      | xn a d x => cases h; exact .inl ⟨rfl, fun l z => by cases z⟩
theorem At.melt {K : PySem.W.Frag} {av : List Addr} {q : Pt} {ρ : En} {S : Fd} {σ : G.St} {H : Hp} (A : At K av q ρ S σ H) : ∃ av', (∀ r ∈ av', r ∈ av) ∧ (∀ r ∈ mv q, r ∈ av') ∧ At K av' q (meltE ρ) S σ H := by
  let av' : List Addr := av.filter fun r => @decide (¬∃ (i : Nat) (l : Ol), ρ[i]? = some (some (Sl.ow l)) ∧ σ[i]? = some (some (V.ref r))) (Classical.propDecidable _)
  have mem : ∀ r, r ∈ av' ↔ r ∈ av ∧ ¬∃ (i : Nat) (l : Ol), ρ[i]? = some (some (Sl.ow l)) ∧ σ[i]? = some (some (V.ref r)) := fun r => by
    show r ∈ av.filter _ ↔ _
    rw [List.mem_filter]
    exact and_congr_right fun _ => @decide_eq_true_iff _ (Classical.propDecidable _)
  have sub : ∀ r ∈ av', r ∈ av := fun r h => ((mem r).mp h).1
  have hmv : ∀ r ∈ mv q, r ∈ av' := fun r h => (mem r).mpr ⟨A.feed.1 r h, fun ⟨i, l, e1, e2⟩ => by
    obtain ⟨v, e3, p, vs, rfl, hp, hne, _⟩ := A.slot i _ e1
    rw [e2] at e3; cases e3
    exact hne h⟩
  refine ⟨av', sub, hmv, ?_⟩
  refine ⟨by unfold meltE; rw [List.length_map]; exact A.len, fun i s e => ?_, fun i j l l' v e1 e2 e3 e4 => ?_, A.feed.less sub hmv, fun r h => A.trk r (sub r h)⟩
  · rcases melt_at e with ⟨e1, ns⟩ | ⟨l, e1, rfl⟩
    · obtain ⟨v, e2, h⟩ := A.slot i s e1
      refine ⟨v, e2, ?_⟩
      cases s with
      | im d => exact dp_same (msk_less sub) d v h
      | ow l => exact absurd rfl (ns l)
      | fd => exact h
      | xn a dd x => exact ⟨h.1, h.2.less sub⟩
    · obtain ⟨v, e2, p, vs, rfl, hp, hne, ho, ha⟩ := A.slot i _ e1
      exact ⟨_, e2, .lst (msk_of (fun z => ((mem p).mp z).2 ⟨i, l, e1, e2⟩) ho) (dps_same (msk_less sub) l.1 vs ha)⟩
  · exfalso
    rcases melt_at e1 with ⟨_, ns⟩ | ⟨_, _, z⟩
    · exact ns l rfl
    · cases z
def cPeek (f : En → M PyData) : En → M PyData := fun ρ => sil (f (meltE ρ)) >>= fun d => if flatD d then pure d else bad
def cPeekB (f : En → M Bool) : En → M Bool := fun ρ => sil (f (meltE ρ))
section
variable {X : Cx} {e : Expr} {pos : Pos}
theorem d_peek {f : En → M PyData} (h : PD X e f) : PD X e (cPeek f) := PE_imp h fun σ H Q ⟨av, q, ρ, S, A, p⟩ => by
  obtain ⟨av', sub, hmv, A'⟩ := A.melt
  refine ⟨av', q, meltE ρ, S, A', R.post_imp (post_sil (post_bind p)) (fun d S2 k v H' e2 f2 dv => ?_) fun _ _ z => z⟩
  cases hf : flatD d with
  | false => rw [hf] at k; exact False.elim k
  | true =>
    rw [hf] at k
    have k : ∀ v H', Ext (mv q) H H' → FeedAt av q S2 H' → Dx X.K (msk av H') v d → Q v H' := k
    exact k v H' e2 ⟨A.feed.1, A.feed.2.1, f2.2.2⟩ (dx_flat dv hf)
theorem b_peek {f : En → M Bool} (h : PB X e f) : PB X e (cPeekB f) := PT_imp h fun σ H Q ⟨av, q, ρ, S, A, p⟩ => by
  obtain ⟨av', sub, hmv, A'⟩ := A.melt
  exact ⟨av', q, meltE ρ, S, A', R.post_imp (post_sil p) (fun b S2 k H' e2 f2 => k H' e2 ⟨A.feed.1, A.feed.2.1, f2.2.2⟩) fun _ _ z => z⟩
end
/-! ### from here on nobody changes it: a new list of one's own becomes data -/
section
variable {K : PySem.W.Frag} {av av0 x0 : List Addr} {q : Pt} {ρ : En} {S : Fd} {σ : G.St} {H H0 : Hp} {i : Nat} {l : List PyData}
theorem EnvW.melt (W : EnvW K H0 av0 x0 av q ρ S σ H) (h1 : ρ[i]? = some (some (.ow (l, true)))) : ∃ av', EnvW K H0 av0 x0 av' q (ρ.set i (some (.im (.list l)))) S σ H := by
  have A := W.at'
  obtain ⟨v, e2, p, vs, rfl, hp, hne, ho, ha⟩ := A.slot i _ h1
  have hn := W.nw i _ p h1 rfl e2
  have mem : ∀ r, r ∈ av.filter (fun r => decide (r ≠ p)) ↔ r ∈ av ∧ r ≠ p := fun r => by rw [List.mem_filter, decide_eq_true_iff]
  have sub : ∀ r ∈ av.filter (fun r => decide (r ≠ p)), r ∈ av := fun r h => ((mem r).mp h).1
  have hmv : ∀ r ∈ mv q, r ∈ av.filter (fun r => decide (r ≠ p)) := fun r h => (mem r).mpr ⟨A.feed.1 r h, fun z => hne (by rw [← z]; exact h)⟩
  have hi : i < ρ.length := (List.getElem?_eq_some_iff.mp h1).1
  have old : ∀ {j : Nat} {m : Ol}, (ρ.set i (some (.im (.list l))))[j]? = some (some (Sl.ow m)) → i ≠ j ∧ ρ[j]? = some (some (Sl.ow m)) := fun {j m} e => by
    by_cases z : i = j
    · subst z; rw [List.getElem?_set_self hi] at e; cases e
    · rw [List.getElem?_set_ne z] at e; exact ⟨z, e⟩
  refine ⟨av.filter fun r => decide (r ≠ p), W.e0, W.qx, W.xs, fun r h => (mem r).mpr ⟨W.s0 r h, fun z => hn (by rw [← z]; exact h)⟩, fun r h n => W.n0 r (sub r h) n, ⟨by rw [List.length_set]; exact A.len, fun j s e => ?_, fun a b m m' v e1 e3 e4 e5 => ?_, A.feed.less sub hmv, fun r h => A.trk r (sub r h)⟩, fun j m a e1 e3 => W.ow j m a (old e1).2 e3, fun j m a e1 hz e3 => W.nw j m a (old e1).2 hz e3⟩
  · by_cases z : i = j
    · subst z
      rw [List.getElem?_set_self hi] at e
      cases e
      exact ⟨_, e2, .lst (msk_of (fun z => ((mem p).mp z).2 rfl) ho) (dps_same (msk_less sub) l vs ha)⟩
    · rw [List.getElem?_set_ne z] at e
      obtain ⟨v, e3, h⟩ := A.slot j s e
      refine ⟨v, e3, ?_⟩
      cases s with
      | im d => exact dp_same (msk_less sub) d v h
      | ow m =>
        obtain ⟨p2, ws, rfl, hp2, hne2, ho2, ha2⟩ := h
        exact ⟨p2, ws, rfl, (mem p2).mpr ⟨hp2, fun y => z (A.inj i j _ m (.ref p) h1 e e2 (by rw [e3, y]))⟩, hne2, ho2, dps_same (msk_less sub) m.1 ws ha2⟩
      | fd => exact h
      | xn a dd x => exact ⟨h.1, h.2.less sub⟩
  · exact A.inj a b m m' v (old e1).2 (old e3).2 e4 e5
end
def sMelt (i : Nat) (g : En → M Fl) : En → M Fl := fun ρ => match ρ[i]? with
  | some (some (.ow (l, true))) => g (ρ.set i (some (.im (.list l))))
  | _ => bad
theorem s_melt {X : Cx} {st : Stmt} {g : En → M Fl} (i : Nat) (h : PSD X st g) : PSD X st (sMelt i g) := PS_imp h fun D σ H ⟨H0, av0, x0, av, q, ρ, S, W, p⟩ => by
  have p : ((match ρ[i]? with
    | some (some (.ow (l, true))) => g (ρ.set i (some (.im (.list l))))
    | _ => bad : M Fl) S).post (flP X.K H0 av0 x0 q D) (flX X.K (wx X) H0 av0 x0 q) := p
  cases e : ρ[i]? with
  | none => rw [e] at p; exact False.elim p
  | some s =>
    rw [e] at p
    cases s with
    | none => exact False.elim p
    | some s =>
      cases s with
      | ow o =>
        obtain ⟨l, z⟩ := o
        cases z with
        | false => exact False.elim p
        | true =>
          obtain ⟨av', W'⟩ := W.melt e
          exact ⟨H0, av0, x0, av', q, _, S, W', p⟩
      | im _ => exact False.elim p
      | fd => exact False.elim p
      | xn _ _ _ => exact False.elim p
end G
end

section
set_option Elab.async false
set_option linter.all false
set_option maxRecDepth 100000
set_option maxHeartbeats 4100000
namespace G
open L2 PySem.Spec PyProof.Rows PySem
variable [LamT]
/-! ### a comprehension's list, known to be new -/
theorem tLc_gen {K : PySem.W.Frag} {Wx : WX} {fi : En → M (List PyData)} {is vs0 : List Nat} {b : PyData → En → Option En} {t : En → M Bool} {fe : En → M PyData} (his : ∀ i ∈ is, i ∈ vs0) {av : List Addr} {q : Pt} {ρ : En} {S : Fd} {σ : G.St} {H : Hp} {Q : VK} {k : PyData → Fd → Prop} (A : At K av q ρ S σ H) (p : (cLc fi vs0 b t fe ρ S).post k (xE K (wa Wx σ) av q H))
    (fin : ∀ (l : List PyData) (S' : Fd) (D : Addr) (vs : List V) (H' : Hp), k (.list l) S' → Ext (mv q) H H' → At K (D :: av) q ρ S' σ H' → H D = none → H' D = some (.lst vs) → DxAll K (msk (D :: av) H') vs l → Q (.ref D) H') :
    tLc (tI K Wx fi) (tGd K is b) (tD K W0 t) (tE K W0 fe) vs0 σ H Q := by
  refine ⟨av, q, ρ, S, A, R.post_imp (post_bind p) (fun ds S1 p1 J H1 e1 f1 wk => ?_) fun _ _ z => z⟩
  have A1 := A.ext e1 f1
  have hmv := A1.feed.1
  intro D hD
  have Hq : D ∉ mv q := fun z => by
    obtain ⟨o, h⟩ := A1.trk D (hmv D z)
    rw [hD] at h; cases h
  refine ⟨fun i m H' => m = ds.length - i ∧ i ≤ ds.length ∧ ∃ (S' : Fd) (acc : List PyData) (vs : List V), At K (D :: av) q ρ S' σ H' ∧ Ext (mv q) H1 H' ∧ H' D = some (.lst vs) ∧ DxAll K (msk (D :: av) H') vs acc.reverse ∧
      (lcGo vs0 b t fe ρ (ds.drop i) acc.length acc S').post k (xE K (wa Wx σ) av q H), ⟨ds.length, by simp, Nat.zero_le _, S1, [], [], at_new A1 hD, Ext.new hD, upd_same, .nil, p1⟩, ?_⟩
  rintro i m H' ⟨rfl, hi, S', acc, vs, A', e', hvs, hacc, p'⟩
  have w := wk (D :: av) H' (fun p h => by simp [h]) (fun p h n => by
    rcases (List.mem_cons.mp h) with z | z
    · rw [z]; exact hD
    · exact absurd z n) (e'.more hmv) A'.trk i
  by_cases hlt : i < ds.length
  · have hd : ds[i]? = some ds[i] := by simp [hlt]
    obtain ⟨go, y⟩ := w.1 _ hd
    have dr : ds.drop i = ds[i] :: ds.drop (i + 1) := by rw [List.drop_eq_getElem_cons hlt]
    rw [dr] at p'
    refine .inr ⟨go, fun H'' => ∃ (S' : Fd) (acc : List PyData) (vs : List V), At K (D :: av) q ρ S' σ H'' ∧ Ext (mv q) H1 H'' ∧ H'' D = some (.lst vs) ∧ DxAll K (msk (D :: av) H'') vs acc.reverse ∧
      (lcGo vs0 b t fe ρ (ds.drop (i + 1)) acc.length acc S').post k (xE K (wa Wx σ) av q H), fun H'' h => ⟨ds.length - (i + 1), by omega, rfl, hlt, h⟩, fun x H2 yl => ?_⟩
    obtain ⟨sm, dx⟩ := y x H2 yl
    have A2 : At K (D :: av) q ρ S' σ H2 := A'.ext (Ext.of_same sm) (feed_same A'.feed sm)
    have p2 : (match b ds[i] (wipeE ρ vs0) with
      | none => bad
      | some ρ1 => sil (t ρ1) >>= fun c => if c then sil (fe ρ1) >>= fun y => if Nat.blt acc.length 16777216 then lcGo vs0 b t fe ρ (ds.drop (i + 1)) (acc.length + 1) (y :: acc) else bad else lcGo vs0 b t fe ρ (ds.drop (i + 1)) acc.length acc : M PyData) S' |>.post k (xE K (wa Wx σ) av q H) := p'
    cases hb : b ds[i] (wipeE ρ vs0) with
    | none => rw [hb] at p2; exact False.elim p2
    | some ρ1 =>
      rw [hb] at p2
      refine ⟨D :: av, q, wipeE ρ vs0, S', ds[i], A2.wipe _, dx, ρ1, hb, fun σ2 A3 hl ho _ => ?_⟩
      refine ⟨(wipe_off his hl ho).trans wipe_idem, ?_⟩
      have ext0 : ∀ {H3 : Hp}, Ext (mv q) H2 H3 → Ext (mv q) H H3 := fun {H3} e b o n hb => e b o n (sm b o (e' b o n (e1 b o n hb)))
      refine ⟨D :: av, q, ρ1, S', A3, R.post_imp (post_sil (post_bind p2)) (fun c S2 p3 H3 e3 f3 => ?_) fun _ _ z => z⟩
      have A4 := A3.ext e3 f3
      have B2 := A'.ext (Ext.of_same sm) (feed_same A'.feed sm)
      have B3 := B2.ext e3 A4.feed
      have v2 : H2 D = some (.lst vs) := sm D _ hvs
      have v3 : H3 D = some (.lst vs) := e3 D _ Hq v2
      have inD : ∀ p ∈ mv q, p ∈ D :: av := fun p h => List.mem_cons_of_mem D (hmv p h)
      cases c with
      | true =>
        refine iteT ⟨D :: av, q, ρ1, S2, A4, R.post_imp (post_sil (post_bind p3)) (fun y S3 p4 v H4 e4 f4 d5 => ?_) fun _ _ z => z⟩
        have A5 := A4.ext e4 f4
        have v4 : H4 D = some (.lst vs) := e4 D _ Hq v3
        have B4 := B3.ext e4 A5.feed
        have k4 : DxAll K (msk (D :: av) H4) vs acc.reverse := ext_dps inD e4 (ext_dps inD e3 (ext_dps inD (Ext.of_same sm) hacc))
        have p5 : ((if Nat.blt acc.length 16777216 then lcGo vs0 b t fe ρ (ds.drop (i + 1)) (acc.length + 1) (y :: acc) else bad : M PyData) S3).post k (xE K (wa Wx σ) av q H) := p4
        split at p5
        · rename_i hz
          have hz : acc.length < 16777216 := by simpa [Nat.blt_eq] using hz
          refine ⟨vs, v4, by rw [dps_len hacc, List.length_reverse, sizeLine_eq]; exact hz, S3, y :: acc, vs ++ [v], at_put B4 (by simp) (notOw_new A1 hD) Hq v4, ?_, upd_same, ?_, p5⟩
          · intro b o nb hb
            rw [upd_ne (ne_of_none hb hD)]
            exact e4 b o nb (e3 b o nb (sm b o (e' b o nb hb)))
          · have sm4 : Same (msk (D :: av) H4) (msk (D :: av) (upd H4 D (.lst (vs ++ [v])))) := fun b o z => by
              obtain ⟨nb, z⟩ := msk_some z
              exact msk_of nb (by rw [upd_ne fun y => nb (by simp [y])]; exact z)
            rw [List.reverse_cons]
            exact dps_app (dps_same sm4 _ _ k4) (dps_one (dp_same sm4 _ _ d5))
        · exact False.elim p5
      | false =>
        refine iteF ⟨S2, acc, vs, B3, ?_, v3, ext_dps inD e3 (ext_dps inD (Ext.of_same sm) hacc), p3⟩
        intro b o nb hb
        exact e3 b o nb (sm b o (e' b o nb hb))
  · have e : i = ds.length := by omega
    subst e
    rw [List.drop_length] at p'
    have hD0 : H D = none := by
      cases y : H D with
      | none => rfl
      | some o => rw [e1 D o Hq y] at hD; cases hD
    exact .inl ⟨w.2 (Nat.le_refl _), fin _ S' D vs H' p' (e1.trans e') A' hD0 hvs hacc⟩
section
variable {K : PySem.W.Frag} {av av0 x0 : List Addr} {q : Pt} {ρ : En} {S S' : Fd} {σ : G.St} {H H0 H' : Hp} {i : Nat} {l : List PyData} {p : Addr} {vs : List V}
theorem EnvW.gotOw (W : EnvW K H0 av0 x0 av q ρ S σ H) (e : Ext (mv q) H H') (A : At K (p :: av) q ρ S' σ H') (hp : H p = none) (hv : H' p = some (.lst vs)) (hd : DxAll K (msk (p :: av) H') vs l) : EnvW K H0 av0 x0 (p :: av) q (ρ.set i (some (.ow (l, true)))) S' (σ.set i (some (.ref p))) H' := by
  have hna := not_av W.at'.trk hp
  have h0 : p ∉ av0 := fun z => hna (W.s0 p z)
  have hq : p ∉ mv q := fun z => hna (W.at'.feed.1 p z)
  have old : ∀ {j : Nat} {m : Ol}, ρ[j]? = some (some (Sl.ow m)) → σ[j]? ≠ some (some (V.ref p)) := fun {j m} e1 e2 => by
    obtain ⟨v, e3, p2, ws, rfl, hp2, _, ho2, _⟩ := W.at'.slot j _ e1
    rw [e2] at e3; cases e3
    rw [hp] at ho2; cases ho2
  have isN : ∀ {j : Nat} {m : Ol}, (ρ.set i (some (.ow (l, true))))[j]? = some (some (Sl.ow m)) → (i = j ∧ m = (l, true)) ∨ (i ≠ j ∧ ρ[j]? = some (some (Sl.ow m))) := fun {j m} e1 => by
    by_cases z : i = j
    · subst z
      have hl : i < ρ.length := by
        have := (List.getElem?_eq_some_iff.mp e1).1
        simpa using this
      rw [List.getElem?_set_self hl] at e1; cases e1; exact .inl ⟨rfl, rfl⟩
    · rw [List.getElem?_set_ne z] at e1; exact .inr ⟨z, e1⟩
  have atI : ∀ {v : V}, (σ.set i (some (V.ref p)))[i]? = some (some v) → v = .ref p := fun {v} e1 => by
    have hl : i < σ.length := by
      have := (List.getElem?_eq_some_iff.mp e1).1
      simpa using this
    rw [List.getElem?_set_self hl] at e1; cases e1; rfl
  refine ⟨W.e0.trans (e.more W.qx), W.qx, W.xs, fun r h => List.mem_cons_of_mem _ (W.s0 r h), fun r h n => ?_, ⟨by rw [List.length_set, List.length_set]; exact A.len, fun j s e1 => ?_, fun a b m m' v e1 e2 e3 e4 => ?_, A.feed, A.trk⟩, fun j m a e1 e2 => ?_, fun j m a e1 hz e2 => ?_⟩
  · rcases (List.mem_cons.mp h) with z | z
    · subst z
      cases y : H0 r with
      | none => rfl
      | some o => rw [W.e0 r o (fun z => h0 (W.xs r z)) y] at hp; cases hp
    · exact W.n0 r z n
  · by_cases z : i = j
    · subst z
      have hl : i < ρ.length := by
        have := (List.getElem?_eq_some_iff.mp e1).1
        simpa using this
      rw [List.getElem?_set_self hl] at e1
      cases e1
      exact ⟨_, List.getElem?_set_self (by rw [A.len]; exact hl), p, vs, rfl, List.mem_cons_self, hq, hv, hd⟩
    · rw [List.getElem?_set_ne z] at e1
      obtain ⟨v, e2, h⟩ := A.slot j s e1
      exact ⟨v, by rw [List.getElem?_set_ne z]; exact e2, h⟩
  · rcases isN e1 with ⟨z1, _⟩ | ⟨z1, k1⟩
    · rcases isN e2 with ⟨z2, _⟩ | ⟨z2, k2⟩
      · rw [← z1, ← z2]
      · subst z1
        rw [List.getElem?_set_ne z2] at e4
        exact absurd (by rw [e4, atI e3]) (old k2)
    · rcases isN e2 with ⟨z2, _⟩ | ⟨z2, k2⟩
      · subst z2
        rw [List.getElem?_set_ne z1] at e3
        exact absurd (by rw [e3, atI e4]) (old k1)
      · rw [List.getElem?_set_ne z1] at e3
        rw [List.getElem?_set_ne z2] at e4
        exact A.inj a b m m' v k1 k2 e3 e4
  · rcases isN e1 with ⟨z1, _⟩ | ⟨z1, k1⟩
    · subst z1
      cases atI e2
      exact .inl h0
    · rw [List.getElem?_set_ne z1] at e2
      exact W.ow j m a k1 e2
  · rcases isN e1 with ⟨z1, _⟩ | ⟨z1, k1⟩
    · subst z1
      cases atI e2
      exact h0
    · rw [List.getElem?_set_ne z1] at e2
      exact W.nw j m a k1 hz e2
end
section
variable {X : Cx} {pos : Pos}
/-- x = [comprehension], x a list of one's own -/
theorem s_ownLc {i : Nat} {y : Str} {py : Pos} {elt tg iter : Expr} {ifs : List Expr} {scope : Scope} {own : List (Str × Nat)} {pos spos : Pos} {fi : En → M (List PyData)} {is : List Nat} {b : PyData → En → Option En} {t : En → M Bool} {fe : En → M PyData} (hc : X.calm = true) (hN : X.N.Nodup) (hi : PID X tg iter fi) (ok : BlkOk X.N X.env.scope scope own)
    (hg : ∀ (s : Shared) (H : Hp) (C : Addr) (cl : List (Str × Addr)) (fp : List Addr), PGD (X.blk s H scope (compEnvC scope cl C X.env) fp) tg is b) (ht : ∀ (s : Shared) (H : Hp) (C : Addr) (cl : List (Str × Addr)) (fp : List Addr), PTsD (X.blk s H scope (compEnvC scope cl C X.env) fp) ifs t)
    (he : ∀ (s : Shared) (H : Hp) (C : Addr) (cl : List (Str × Addr)) (fp : List Addr), PD (X.blk s H scope (compEnvC scope cl C X.env) fp) elt fe) (hy : X.N[i]? = some y := by rfl) (hyl : X.env.scope.names.lookup y = some .local := by rfl)
    (hsw : swapsWith (.ListComp elt [⟨tg, iter, ifs, 0⟩] scope pos) (some (.Name y py)) spos.line X.env = pure true) (his : ∀ i ∈ is, i ∈ own.map (·.2) := by decide) (hs : ∀ x, foldedSetIterable iter X.env x = pure x := by intro _; rfl) :
    PSD X (.Assign [.Name y py] (.ListComp elt [⟨tg, iter, ifs, 0⟩] scope pos) spos) (sOwn i (cLc fi (own.map (·.2)) b t fe)) :=
  PS_imp (ps_setLc (g := tGd X.K is b) (tt := tD X.K W0 t) (te := tE X.K W0 fe) hc hN hy hyl hsw hi ok hg ht (fun s H C cl fp => (he s H C cl fp).w0) hs) fun D σ H ⟨H0, av0, x0, av, q, ρ, S, W, p⟩ => by
    exact tLc_gen his W.at' (R.post_imp (post_bind p) (fun _ _ z => z) fun _ _ z => W.flx z) fun l S' L vs H' hk ex A' hL hv hd => hk (L :: av) _ H' (W.gotOw ex A' hL hv hd)
/-- x = list(e), x a list of one's own -/
theorem s_ownOf {x : Str} {px p pos1 : Pos} {a : Expr} {f : En → M PyData} (i : Nat) (hN : X.N.Nodup) (hm : X.mg "list" = none) (ha : PD X a f) (hg : Gl X "list" := by rfl) (na : starEach [a] X.env = (false, eval a X.env) :: starEach [] X.env := by rfl) (hi : X.N[i]? = some x := by rfl) (hx : Loc X.env.scope x := by first | exact Or.inl rfl | exact Or.inr rfl) (hf : X.fn x = true ∨ X.env.scope.names.lookup x = some .local := by first | exact .inl rfl | exact .inr rfl | assumption)
    (hpl : (backTo pos1 (starEach [] X.env)).any (·.1) = false := by rfl) (hv : bootBuiltins "list" = some (.type "list") := by decide +kernel)
    (hs : swapsWithSole [.Name x px] (.Call (.Name "list" p) [a] [] pos1) pos.line X.env = pure false := by rfl) (hw : swappedStores [.Name x px] (.Call (.Name "list" p) [a] [] pos1) X.env = pure none := by rfl) (h1 : (assignEach [.Name x px] X.env).map (·.2) = [assign (.Name x px) X.env] := by rfl) :
    PSD X (.Assign [.Name x px] (.Call (.Name "list" p) [a] [] pos1) pos) (sOwn i (fun ρ => f ρ >>= asS >>= fun l => pure (.list l))) := PS_imp (ps_asg (g := gName i) (pe_callTy call_list_of hg hm hv (pa_cons ha pa_nil na) (by decide) (by decide) na hpl) (pg_name hN hi hx hf) hs hw h1) fun D σ H ⟨H0, av0, x0, av, q, ρ, S, W, p⟩ => by
  have p := post_bind (post_bind (post_bind p))
  refine tE_stepA W.at' (fun _ _ z => W.flx z) (g := asS) (k := fun l S' => flP X.K H0 av0 x0 q D (.nx (ρ.set i (some (.ow (l, true))))) S') (x0' := flX X.K (wx X) H0 av0 x0 q) ?_ fun d S1 v H1 p1 e1 A1 d1 => ?_
  · exact post_bind' (R.post_imp p (fun a S z => R.post_imp z (fun _ _ z => z) fun _ _ z => z) fun _ _ z => z)
  · have W1 := W.ext e1 A1
    cases d with
    | list ds =>
      cases d1 with
      | lst hs' hx' => exact ⟨_, _, rfl, .inl (SqL.of (msk_some hs').2), fun L hL => p1 (L :: av) _ _ (W1.newOw hL hx')⟩
    | tuple ds =>
      cases d1 with
      | tup hs' hn' hx' => exact ⟨_, _, rfl, .inr (sqT_at hs'), fun L hL => p1 (L :: av) _ _ (W1.newOw hL hx')⟩
    | none => exact False.elim p1
    | bool _ => exact False.elim p1
    | int _ => exact False.elim p1
    | str _ => exact False.elim p1
    | dict _ => exact False.elim p1
end
end G
end

section
set_option Elab.async false
set_option linter.all false
set_option maxRecDepth 100000
set_option maxHeartbeats 4100000
namespace G
open L2 PySem.Spec PyProof.Rows PySem
variable [LamT]
/-! ### t.count(x), l.count(x) of data at any depth -/
def rCntT (K : PySem.W.Frag) : V → List V → Hp → VK → Prop := fun x xs H Q => ∃ (p : Addr) (y : V) (vs : List V) (ds : List PyData) (d : PyData), x = .ref p ∧ xs = [y] ∧ SqT K H p vs ∧ DpAll K H vs ds ∧ Dp K H y d ∧ PyData.plainAll ds = true ∧ d.plain = true ∧ d.depth ≤ 60 ∧ Q (.int ((ds.countP fun z => PyData.eqv z d : Nat) : Int)) H
def rCntL (K : PySem.W.Frag) : V → List V → Hp → VK → Prop := fun x xs H Q => ∃ (p : Addr) (y : V) (vs : List V) (ds : List PyData) (d : PyData), x = .ref p ∧ xs = [y] ∧ SqL K H p vs ∧ DpAll K H vs ds ∧ Dp K H y d ∧ PyData.plainAll ds = true ∧ d.plain = true ∧ d.depth ≤ 60 ∧ Q (.int ((ds.countP fun z => PyData.eqv z d : Nat) : Int)) H
section
variable {X : Cx}
theorem mt_countT (hu : X.A.units + 64 < cLine) : MtR X "tuple.count" (rCntT X.K) := by
  intro pins s σ H x xs v us Q I rx rxs h
  obtain ⟨p, y, vs, ds, d, rfl, rfl, hs, ha, hd, h1, h2, h3, q⟩ := h
  cases rx
  obtain ⟨u, rfl, ru⟩ := rxs.one
  obtain ⟨its, rv, tp, _⟩ := I.tuple hs
  obtain ⟨as, rs⟩ := Dp.readsAll I ds vs its ha rv
  obtain ⟨bs, r2⟩ := Dp.reads I d y u hd ru
  refine SeqAt.count_tuple_data (vs := its.toArray) tp (by simpa using rs) r2 h1 h2 (by have := Nat.min_le_right (PyData.depthAll ds) d.depth; omega) ?_
  exact ⟨.int _, H, I.tok _, ⟨s.toks, rfl⟩, q⟩
theorem mt_countL (hu : X.A.units + 64 < cLine) : MtR X "list.count" (rCntL X.K) := by
  intro pins s σ H x xs v us Q I rx rxs h
  obtain ⟨p, y, vs, ds, d, rfl, rfl, hs, ha, hd, h1, h2, h3, q⟩ := h
  cases rx
  obtain ⟨u, rfl, ru⟩ := rxs.one
  obtain ⟨its, rv, tp, _⟩ := I.list hs
  obtain ⟨as, rs⟩ := Dp.readsAll I ds vs its ha rv
  obtain ⟨bs, r2⟩ := Dp.reads I d y u hd ru
  refine SeqAt.count_list_data (vs := its.toArray) tp.isList (by simpa using rs) r2 h1 h2 (by have := Nat.min_le_right (PyData.depthAll ds) d.depth; omega) ?_
  exact ⟨.int _, H, I.tok _, ⟨s.toks, rfl⟩, q⟩
theorem PE_or {e : Expr} {t1 t2 : TE} (h1 : PE X e t1) (h2 : PE X e t2) : PE X e (fun σ H Q => t1 σ H Q ∨ t2 σ H Q) := ⟨fun pins s σ H Q I h => h.elim (h1.run pins s σ H Q I) (h2.run pins s σ H Q I)⟩
def gCount (x y : PyData) : Option PyData := match x with
  | .tuple ds => if PyData.plainAll ds && y.plain && decide (y.depth ≤ 60) then some (.int ((ds.countP fun z => PyData.eqv z y : Nat) : Int)) else none
  | .list ds => if PyData.plainAll ds && y.plain && decide (y.depth ≤ 60) then some (.int ((ds.countP fun z => PyData.eqv z y : Nat) : Int)) else none
  | _ => none
def isSeqD (x : PyData) : Bool := match x with
  | .tuple _ => true
  | .list _ => true
  | _ => false
theorem d_count {kk : Nat} {a b : Expr} {apos cpos : Pos} {fa fb : En → M PyData} (hr : RoomG kk X.A) (ha : PD X a fa) (hb : PD X b fb) (hbase : attributeBase a "count" X.env (eval a X.env) = eval a X.env := by rfl)
    (hfew : ((backTo cpos (starEach (b :: []) X.env)).all (fun x => !x.1) && (backToKw cpos (keywordEach [] X.env)).all (fun x => x.1.isSome) && decide ((b :: []).length + ([] : List Keyword).length + (if ([] : List Keyword).isEmpty then 0 else 1) < 30)) = true := by rfl)
    (hline : (apos.endLine == cpos.line) = true := by exact rfl) (hs : starEach (b :: []) X.env = (false, eval b X.env) :: starEach [] X.env := by rfl) (hplain : (backTo cpos (starEach [] X.env)).any (·.1) = false := by rfl) :
    PD X (.Call (.Attribute a "count" apos) [b] [] cpos) (cBinK isSeqD gCount fa fb) :=
  PE_imp (PE_or (pe_bmT PySem.F.slot_tuple_count PySem.F.type_tuple_count (mt_countT (un_of hr)) ha (pa_cons hb pa_nil hs) hbase hfew hline hs hplain) (pe_bm PySem.F.plainAttrs_list PySem.F.slot_list_count PySem.F.type_list_count (mt_countL (un_of hr)) ha (pa_cons hb pa_nil hs) hbase hfew hline hs hplain)) fun σ H Q ⟨av, q, ρ, S, A, p⟩ => by
    have pb := post_bind p
    have dn : ∀ {ds : List PyData} {y d : PyData}, (if PyData.plainAll ds && y.plain && decide (y.depth ≤ 60) then some (PyData.int ((ds.countP fun z => PyData.eqv z y : Nat) : Int)) else none) = some d → PyData.plainAll ds = true ∧ y.plain = true ∧ y.depth ≤ 60 ∧ d = .int ((ds.countP fun z => PyData.eqv z y : Nat) : Int) := fun {ds y d} h => by
      split at h
      · rename_i c
        rw [Bool.and_eq_true, Bool.and_eq_true] at c
        exact ⟨c.1.1, c.1.2, of_decide_eq_true c.2, (Option.some.inj h).symm⟩
      · cases h
    cases hf : fa ρ S with
    | bad => rw [hf] at pb; exact False.elim pb
    | ex x S1 =>
      refine .inl ⟨av, q, ρ, S, A, ?_⟩
      unfold wE
      rw [hf] at pb ⊢
      exact pb
    | ok x S1 =>
      rw [hf] at pb
      cases x with
      | tuple ds =>
        refine .inl ⟨av, q, ρ, S, A, ?_⟩
        unfold wE
        rw [hf]
        intro v H1 e1 f1 d1
        have d1' := d1
        have A1 := A.ext e1 f1
        cases d1 with
        | tup hs' hn hx =>
          refine ⟨⟨_, _, rfl, sqT_at hs', tupN_same msk_all hn⟩, ?_⟩
          refine tE_step A1 (post_ext e1 pb) fun y S2 w H2 p2 e2 A2 d2 => ?_
          obtain ⟨d, hd, k⟩ := post_lift p2
          obtain ⟨h1, h2, h3, rfl⟩ := dn hd
          have d3 := ext_dp A.feed.1 e2 d1'
          cases d3 with
          | tup hs3 hn3 hx3 => exact ⟨_, w, _, ds, y, rfl, rfl, sqT_at hs3, dxs_dps _ _ (dps_same msk_all _ _ hx3), dx_dp _ _ (dp_same msk_all _ _ d2), h1, h2, h3, k _ H2 (e1.trans e2) A2.feed (.int _)⟩
      | list ds =>
        refine .inr ⟨av, q, ρ, S, A, ?_⟩
        unfold wE
        rw [hf]
        intro v H1 e1 f1 d1
        have d1' := d1
        have A1 := A.ext e1 f1
        cases d1 with
        | lst hs' hx =>
          refine ⟨.inl ⟨rfl, _, sqL_at hs'⟩, ?_⟩
          refine tE_step A1 (post_ext e1 pb) fun y S2 w H2 p2 e2 A2 d2 => ?_
          obtain ⟨d, hd, k⟩ := post_lift p2
          obtain ⟨h1, h2, h3, rfl⟩ := dn hd
          have d3 := ext_dp A.feed.1 e2 d1'
          cases d3 with
          | lst hs3 hx3 => exact ⟨_, w, _, ds, y, rfl, rfl, sqL_at hs3, dxs_dps _ _ (dps_same msk_all _ _ hx3), dx_dp _ _ (dp_same msk_all _ _ d2), h1, h2, h3, k _ H2 (e1.trans e2) A2.feed (.int _)⟩
      | none => exact False.elim pb
      | bool _ => exact False.elim pb
      | int _ => exact False.elim pb
      | str _ => exact False.elim pb
      | dict _ => exact False.elim pb
end
end G
end

section
set_option Elab.async false
set_option linter.all false
set_option maxRecDepth 100000
set_option maxHeartbeats 4100000
namespace G
open L2 PySem.Spec PyProof.Rows PySem
variable [LamT]
/-! ### () + t -/
section
variable {X : Cx} {a b : Expr} {fa fb : En → M PyData} {pos : Pos}
def rCat0 (K : PySem.W.Frag) : R2 := fun x y H Q => ∃ a b ys, x = .ref a ∧ y = .ref b ∧ SqT K H a [] ∧ SqT K H b ys ∧ Q (.ref b) H
theorem op_cat0 : OpR X (binaryOp .Add) (rCat0 X.K) := by
  intro pins s σ H x y v u Q I rx ry h
  obtain ⟨a, b, ys, rfl, rfl, ha, hb, q⟩ := h
  cases rx
  cases ry
  obtain ⟨its, r1, p1, _⟩ := I.tuple ha
  obtain ⟨jts, r2, p2, _⟩ := I.tuple hb
  cases r1
  exact L2.cat_tup0 p1 p2 ⟨.ref b, H, I, rfl, q⟩
def gAddB (x y : PyData) : Option PyData := match x, y with
  | .int i, .int j => intK (i + j) fun m => some (.int m)
  | .list l, .list m => if Nat.ble (l.length + m.length) 16777216 then some (.list (l ++ m)) else none
  | .tuple l, .tuple m => if l.isEmpty then some (.tuple m) else if Nat.ble (l.length + m.length) 16777216 then some (.tuple (l ++ m)) else none
  | _, _ => none
theorem opD_addB {K : PySem.W.Frag} : OpD K (fun x y H Q => (rI0 (fun i j => .int (i + j)) x y H Q) ∨ ((rCat x y H Q ∨ rCatF K x y H Q) ∨ rCat0 K x y H Q)) gAddB := fun av H x y d v w Q t hd hx hy k => by
  unfold gAddB at hd
  split at hd
  · rw [intK_eq] at hd
    cases hd; cases hx; cases hy
    exact .inl ⟨_, _, rfl, rfl, k _ H (Same.refl H) (.int _)⟩
  · split at hd
    · rename_i hh
      have hh := Nat.ble_eq.mp hh
      cases hd
      cases hx with
      | lst h1 x1 =>
        cases hy with
        | lst h2 x2 => exact .inr (.inl (.inl ⟨_, _, _, _, rfl, rfl, (msk_some h1).2, (msk_some h2).2, by rw [dps_len x1, dps_len x2, sizeLine_eq]; exact hh, fun p hp => k _ _ (same_new hp) (dp_newLst t hp (dps_app x1 x2))⟩))
    · cases hd
  · rename_i l m
    split at hd
    · rename_i he
      cases hd
      cases hx with
      | tup h1 n1 x1 =>
        cases hy with
        | tup h2 n2 x2 =>
          cases x1 with
          | nil => exact .inr (.inr ⟨_, _, _, rfl, rfl, sqT_at h1, sqT_at h2, k _ H (Same.refl H) (.tup h2 n2 x2)⟩)
          | cons _ _ => cases he
    · rename_i hne
      split at hd
      · rename_i hh
        have hh := Nat.ble_eq.mp hh
        cases hd
        cases hx with
        | tup h1 n1 x1 =>
          cases hy with
          | tup h2 n2 x2 =>
            refine .inr (.inl (.inr ⟨_, _, _, _, rfl, rfl, sqT_at h1, sqT_at h2, fun z => ?_, by rw [dps_len x1, dps_len x2, sizeLine_eq]; exact hh, fun z => ?_, fun z p o hp ho => k _ _ (same_new hp) (dp_newTup t hp ho (dps_app x1 x2))⟩))
            · subst z
              cases x1
              exact hne rfl
            · subst z
              cases x2
              refine k _ H (Same.refl H) ?_
              rw [List.append_nil]
              exact .tup h1 n1 x1
      · cases hd
  · cases hd
theorem d_addB (ha : PD X a fa) (hb : PD X b fb) : PD X (.BinOp a .Add b pos) (cBin gAddB fa fb) := d_bin (opR_or op_add (opR_or (opR_or op_cat op_catF) op_cat0)) opD_addB ha hb
end
end G
end

section
set_option Elab.async false
set_option linter.all false
set_option maxRecDepth 100000
set_option maxHeartbeats 4100000
namespace G
open L2 PySem.Spec PyProof.Rows PySem
variable [LamT]
section
variable {X : Cx} {pos : Pos}
/-- x, y = e, [] where a comprehension looks at x or y -/
theorem s_parOC {i j : Nat} {x y : Str} {a : Expr} {f : En → M PyData} {px py pt lp : Pos} {kt k2 pt2} (hc : X.calm = true) (hN : X.N.Nodup) (ha : PD X a f) (hi : X.N[i]? = some x := by rfl) (hj : X.N[j]? = some y := by rfl) (hij : i ≠ j := by decide)
    (hx : Loc X.env.scope x := by first | exact Or.inl rfl | exact Or.inr rfl) (hy : Loc X.env.scope y := by first | exact Or.inl rfl | exact Or.inr rfl) (hfx : X.fn x = true ∨ X.env.scope.names.lookup x = some .local := by first | exact .inl rfl | exact .inr rfl | assumption) (hfy : X.fn y = true ∨ X.env.scope.names.lookup y = some .local := by first | exact .inl rfl | exact .inr rfl | assumption)
    (n1 : starEach [a, Expr.List [] lp] X.env = (false, eval a X.env) :: starEach [Expr.List [] lp] X.env := by rfl) (n2 : starEach [Expr.List [] lp] X.env = (false, eval (Expr.List [] lp) X.env) :: starEach [] X.env := by rfl)
    (hs : swapsWithSole [.Tuple [.Name x px, .Name y py] kt pt] (.Tuple [a, .List [] lp] k2 pt2) pos.line X.env = pure false := by rfl) (hw : swappedStores [.Tuple [.Name x px, .Name y py] kt pt] (.Tuple [a, .List [] lp] k2 pt2) X.env = pure none := by rfl) (h1 : (assignEach [.Tuple [.Name x px, .Name y py] kt pt] X.env).map (·.2) = [assign (.Tuple [.Name x px, .Name y py] kt pt) X.env] := by rfl)
    (hn : (assignEach [.Name x px, .Name y py] X.env).length = 2 := by rfl) (hst : (assignEach [.Name x px, .Name y py] X.env).findIdx? (·.1) = none := by rfl)
    (hs1 : (assignEach [.Name x px, .Name y py] X.env).map (·.2) = assign (.Name x px) X.env :: (assignEach [.Name y py] X.env).map (·.2) := by rfl) (hs2 : (assignEach [.Name y py] X.env).map (·.2) = assign (.Name y py) X.env :: (assignEach [] X.env).map (·.2) := by rfl) :
    PSD X (.Assign [.Tuple [.Name x px, .Name y py] kt pt] (.Tuple [a, .List [] lp] k2 pt2) pos) (sParO i j f) :=
  PS_imp (ps_asg (pe_tupF (pa_cons ha (pa_cons (pe_lst pa_nil) pa_nil n2) n1)) (pg_tup hc (pgs_cons (pg_name hN hi hx hfx) (pgs_cons (pg_name hN hj hy hfy) pgs_nil hs2) hs1) hn hst) hs hw h1) fun D σ H ⟨H0, av0, x0, av, q, ρ, S, W, p⟩ => by
    refine tE_stepS W p fun d S1 v H1 p1 e1 A1 d1 => ?_
    have W1 := W.ext e1 A1
    have W2 := W1.sub (A1.set (i := i) d1) (is := [i]) owSub_set fun m hm => by
      have n : i ≠ m := fun z => hm (by simp [z])
      rw [List.getElem?_set_ne n]
    refine ⟨by show 0 ≤ sizeLine; decide, fun b hb => ⟨by show 2 ≤ sizeLine; decide, fun T o hT ho => ?_⟩⟩
    have W3 := W2.newOw (i := j) (vs := []) (l := []) hb .nil
    have W4 := W3.ext (Ext.new (o := .frz o (.tup [v, .ref b])) hT) (W3.at'.ext (Ext.new (o := .frz o (.tup [v, .ref b])) hT) (feed_same W3.at'.feed (same_new hT)))
    exact ⟨T, [v, .ref b], rfl, .inl (.inr ⟨o, upd_same⟩), rfl, v, [.ref b], rfl, .ref b, [], rfl, rfl, p1 _ _ _ W4⟩
end
end G
end

section
set_option Elab.async false
set_option linter.all false
set_option maxRecDepth 100000
set_option maxHeartbeats 4100000
namespace G
open L2 PySem
/-! ### what surely comes, whatever is drawn: a value of which P holds -/
def T {α : Type} (ks : Ks) (cs : List Int) (m : M α) (P : α → Prop) : Prop := ∀ S : Fd, S.ks = ks ∧ S.cells = cs → ∃ a S', m S = .ok a S' ∧ (S'.ks = ks ∧ S'.cells = cs) ∧ P a
section
variable {ks : Ks} {cs : List Int}
theorem T_pure {α : Type} {a : α} {P : α → Prop} (h : P a) : T ks cs (pure a : M α) P := fun S k => ⟨a, S, rfl, k, h⟩
theorem T_bind {α β : Type} {m : M α} {f : α → M β} {P : α → Prop} {Q : β → Prop} (h : T ks cs m P) (k : ∀ a, P a → T ks cs (f a) Q) : T ks cs (m >>= f) Q := fun S hS => by
  obtain ⟨a, S1, e1, hS1, h1⟩ := h S hS
  obtain ⟨b, S2, e2, hS2, h2⟩ := k a h1 S1 hS1
  refine ⟨b, S2, ?_, hS2, h2⟩
  show M.bind m f S = _
  unfold M.bind
  rw [e1]; exact e2
theorem T_imp {α : Type} {m : M α} {P Q : α → Prop} (h : T ks cs m P) (k : ∀ a, P a → Q a) : T ks cs m Q := fun S hS => by
  obtain ⟨a, S1, e1, hS1, h1⟩ := h S hS
  exact ⟨a, S1, e1, hS1, k a h1⟩
theorem T_eq {α : Type} {m m' : M α} {P : α → Prop} (e : m = m') (h : T ks cs m' P) : T ks cs m P := by rw [e]; exact h
def isI (d : PyData) : Prop := ∃ n : Int, d = .int n
def inR (m : Int) (d : PyData) : Prop := ∃ n : Int, d = .int n ∧ 0 ≤ n ∧ n < m
theorem T_bin {g : PyData → PyData → Option PyData} {fa fb : En → M PyData} {ρ : En} {P Q R : PyData → Prop} (ha : T ks cs (fa ρ) P) (hb : T ks cs (fb ρ) Q) (hg : ∀ x y, P x → Q y → ∃ d, g x y = some d ∧ R d) : T ks cs (cBin g fa fb ρ) R :=
  T_bind ha fun x hx => T_bind hb fun y hy => by
    obtain ⟨d, e, h⟩ := hg x y hx hy
    rw [e]; exact T_pure h
theorem T_un {g : PyData → Option PyData} {f : En → M PyData} {ρ : En} {P R : PyData → Prop} (ha : T ks cs (f ρ) P) (hg : ∀ x, P x → ∃ d, g x = some d ∧ R d) : T ks cs (cUn g f ρ) R :=
  T_bind ha fun x hx => by
    obtain ⟨d, e, h⟩ := hg x hx
    rw [e]; exact T_pure h
theorem T_c {d : PyData} {ρ : En} {P : PyData → Prop} (h : P d) : T ks cs (cD d ρ) P := T_pure h
theorem T_v {i : Nat} {ρ : En} {d : PyData} {P : PyData → Prop} (e : ρ[i]? = some (some (.im d))) (h : P d) : T ks cs (getD i ρ) P := by
  unfold getD; rw [e]; exact T_pure h
theorem T_get {i : Nat} {k : Fk} {ρ : En} (e : ρ[i]? = some (some .fd)) (hk : k ≠ .cells) : T ks cs (cFget ks i k ρ) isI := fun S hS => by
  unfold cFget getF
  rw [e]
  have h : (pure () >>= fun _ => fun S : Fd => if S.ks = ks then R.ok (k.val S) S else R.bad : M PyData) S = .ok (k.val S) S := by
    show (if S.ks = ks then R.ok (k.val S) S else R.bad) = _
    rw [if_pos hS.1]
  refine ⟨_, S, h, hS, ?_⟩
  cases k with
  | cells => exact absurd rfl hk
  | place => exact ⟨_, rfl⟩
  | rest => exact ⟨_, rfl⟩
  | turn => exact ⟨_, rfl⟩
def isC (d : PyData) : Prop := ∃ ns : List Int, d = .list (ns.map PyData.int)
theorem intKe {α : Type} (i : Int) (k : Int → α) : intK i k = k i := by letI : LamT := ⟨[]⟩; exact intK_eq i k
theorem T_put {i : Nat} {k : Fk} {f : En → M PyData} {ρ : En} (e : ρ[i]? = some (some .fd)) (h : T ks cs (f ρ) isI) : T ks cs (sFput ks i k f ρ) (fun fl => fl = .nx ρ) := by
  unfold sFput
  refine T_bind h fun d ⟨n, hn⟩ => ?_
  subst hn
  intro S hS
  unfold getF
  rw [e]
  refine ⟨.nx ρ, k.put S n, ?_, by cases k <;> exact hS, rfl⟩
  show (if S.ks = ks then R.ok (Fl.nx ρ) (k.put S n) else R.bad) = _
  rw [if_pos hS.1]
theorem T_cB {f : En → M PyData} {ρ : En} (h : T ks cs (f ρ) (fun d => ∃ b, d = .bool b)) : T ks cs (cB f ρ) (fun _ => True) := T_bind h fun d ⟨b, e⟩ => by subst e; exact T_pure trivial
theorem T_if {c : En → M Bool} {g h : En → M Fl} {ρ : En} {P : Fl → Prop} (hc : T ks cs (c ρ) (fun _ => True)) (hg : T ks cs (g ρ) P) (hh : T ks cs (h ρ) P) : T ks cs (sIf c g h ρ) P := T_bind hc fun b _ => by cases b; exact hh; exact hg
theorem T_asg {f : En → M PyData} {i : Nat} {ρ : En} {P : PyData → Prop} (h : T ks cs (f ρ) P) : T ks cs (sAsg f (bNm i) ρ) (fun fl => ∃ d, P d ∧ fl = .nx (ρ.set i (some (.im d)))) := T_bind h fun d hd => T_pure ⟨d, hd, rfl⟩
theorem T_ret {f : En → M PyData} {ρ : En} {P : PyData → Prop} (h : T ks cs (f ρ) P) : T ks cs (sRet f ρ) (fun fl => ∃ d, fl = .rt d ∧ P d) := T_bind h fun d hd => T_pure ⟨d, rfl, hd⟩
theorem g_add {x y : PyData} (hx : isI x) (hy : isI y) : ∃ d, gAddB x y = some d ∧ isI d := by
  obtain ⟨i, rfl⟩ := hx
  obtain ⟨j, rfl⟩ := hy
  exact ⟨.int (i + j), by unfold gAddB; exact intKe _ _, _, rfl⟩
theorem g_mod {m : Int} (hm : 0 < m) {x : PyData} (hx : isI x) : ∃ d, gMod x (.int m) = some d ∧ inR m d := by
  obtain ⟨i, rfl⟩ := hx
  have : m ≠ 0 := by omega
  refine ⟨.int (i.fmod m), by show (if decide (m ≠ 0) = true then _ else _) = _; rw [if_pos (by simp [this])], _, rfl, Int.fmod_nonneg_of_pos _ hm, Int.fmod_lt_of_pos _ hm⟩
theorem g_div {m : Int} (hm : 0 < m) (h2 : m < 1073741824) {x : PyData} (hx : isI x) : ∃ d, gDiv x (.int m) = some d ∧ isI d := by
  obtain ⟨i, rfl⟩ := hx
  refine ⟨.int (i.fdiv m), ?_, _, rfl⟩
  show (if decide (m ≠ 0 ∧ m.natAbs < 1073741824) = true then _ else _) = _
  rw [if_pos (by simp; omega)]
theorem g_mulc {c : Int} (h : isIn64 c = true) {y : PyData} (hy : isI y) : ∃ d, gMulA (.int c) y = some d ∧ isI d := by
  obtain ⟨j, rfl⟩ := hy
  refine ⟨.int (c * j), ?_, _, rfl⟩
  unfold gMulA
  simp only [h, Bool.true_or, if_true]
  exact intKe _ _
theorem g_mulr {m : Int} (hm : m < 2 ^ 60) {x y : PyData} (hx : inR m x) (hy : isI y) : ∃ d, gMulA x y = some d ∧ isI d := by
  obtain ⟨i, rfl, h0, h1⟩ := hx
  refine g_mulc ?_ hy
  cases i with
  | ofNat n => exact Nat.ble_eq.mpr (by have : (Int.ofNat n) = (n : Int) := rfl; omega)
  | negSucc n => exact absurd h0 (by omega)
theorem isI_of {m : Int} {d : PyData} (h : inR m d) : isI d := by obtain ⟨n, e, _⟩ := h; exact ⟨n, e⟩
theorem g_cmp {f : Int → Int → Bool} {x y : PyData} (hx : isI x) (hy : isI y) : ∃ d, int2 (fun i j => .bool (f i j)) x y = some d ∧ ∃ b, d = .bool b := by
  obtain ⟨i, rfl⟩ := hx
  obtain ⟨j, rfl⟩ := hy
  exact ⟨_, rfl, _, rfl⟩
theorem g_int {x : PyData} (hx : isI x) : ∃ d, gInt x = some d ∧ isI d := by obtain ⟨i, rfl⟩ := hx; exact ⟨_, rfl, _, rfl⟩
theorem lay_ints : ∀ ns : List Int, PyData.canLayAll0 (ns.map PyData.int) = true
  | [] => (by simp [PyData.canLayAll0])
  | n :: ns => by simp [PyData.canLayAll0, PyData.canLay0, lay_ints ns]
theorem dep_ints : ∀ ns : List Int, PyData.depthAll (ns.map PyData.int) = 0
  | [] => (by simp [PyData.depthAll])
  | n :: ns => by simp [PyData.depthAll, PyData.depth, dep_ints ns]
theorem shaped_ints (ns : List Int) : SeqAt.shaped (.list (ns.map PyData.int)) = true := by
  unfold SeqAt.shaped
  simp [PyData.canLay0, lay_ints, PyData.depth, dep_ints]
theorem ne_nil (ns : List Int) : gNeD (.list (ns.map PyData.int)) (.list []) = some (.bool (!ns.isEmpty)) := by
  unfold gNeD
  have h2 := shaped_ints []
  rw [List.map_nil] at h2
  rw [shaped_ints, h2]
  cases ns with
  | nil => simp [PyData.eqv, PyData.eqvAll]
  | cons a l => simp [PyData.eqv, PyData.eqvAll]
theorem T_getC {i : Nat} {ρ : En} (e : ρ[i]? = some (some .fd)) : T ks cs (cFget ks i .cells ρ) (fun d => d = .list (cs.map PyData.int)) := fun S hS => by
  unfold cFget getF
  rw [e]
  refine ⟨_, S, ?_, hS, rfl⟩
  show (if S.ks = ks then R.ok (Fk.val S .cells) S else R.bad) = _
  rw [if_pos hS.1, ← hS.2]; rfl
theorem T_len {f : En → M PyData} {ρ : En} (h : T ks cs (f ρ) (fun d => d = .list (cs.map PyData.int))) : T ks cs (cCall gLen (aD f aNil) ρ) (fun d => d = .int cs.length) :=
  T_bind (P := fun as => as = [.d (.list (cs.map PyData.int))]) (T_bind h fun x hx => by subst hx; exact T_pure rfl) fun as e => by
    subst e
    show T ks cs (pure (PyData.int ((cs.map PyData.int).length : Nat)) : M PyData) _
    rw [List.length_map]
    exact T_pure rfl
theorem T_seq {g h : En → M Fl} {ρ : En} {P Q : Fl → Prop} (hg : T ks cs (g ρ) P) (k : ∀ fl, P fl → T ks cs (match fl with | .nx ρ' => h ρ' | x => pure x) Q) : T ks cs (sSeq g h ρ) Q := T_bind hg fun fl hfl => T_eq (by cases fl <;> rfl) (k fl hfl)
theorem T_cellIx {ρ : En} {p : Int} (e : ρ[0]? = some (some .fd)) (hp : ρ[2]? = some (some (.im (.int p)))) (hn : cs ≠ []) : T ks cs (cBin gIx (cFget ks 0 .cells) (cBin gMod (cUn gInt (getD 2)) (cCall gLen (aD (cFget ks 0 .cells) aNil))) ρ) isI := by
  have hpos : (0 : Int) < cs.length := by cases cs with | nil => exact absurd rfl hn | cons a l => simp
  refine T_bin (Q := inR cs.length) (T_getC e) (T_bin (Q := fun d => d = .int cs.length) (T_un (T_v (P := isI) hp ⟨_, rfl⟩) fun _ => g_int) (T_len (T_getC e)) fun x y hx hy => by subst hy; exact g_mod hpos hx) fun x y hx ⟨n, hy, a0, a1⟩ => ?_
  subst hx hy
  have hlt : n.toNat < cs.length := by omega
  refine ⟨.int cs[n.toNat], ?_, _, rfl⟩
  show L2.atI (cs.map PyData.int) n = _
  unfold L2.atI L2.ixN
  rw [if_pos a0, if_pos (by rw [List.length_map]; omega)]
  show (cs.map PyData.int)[n.toNat]? = _
  rw [List.getElem?_map, List.getElem?_eq_getElem hlt]; rfl
theorem T_cell {ρ : En} {c0 p : Int} (e : ρ[0]? = some (some .fd)) (hp : ρ[2]? = some (some (.im (.int p)))) : T ks cs (cIf (cB (cBin gNeD (cFget ks 0 .cells) (cLst aNil))) (cBin gIx (cFget ks 0 .cells) (cBin gMod (cUn gInt (getD 2)) (cCall gLen (aD (cFget ks 0 .cells) aNil)))) (cD (.int c0)) ρ) isI := by
  refine T_bind (P := fun b => b = !cs.isEmpty) (T_bind (T_bin (Q := fun d => d = .list []) (R := fun d => d = .bool (!cs.isEmpty)) (T_getC e) (T_pure rfl) fun x y hx hy => by subst hx hy; exact ⟨_, ne_nil cs, rfl⟩) fun d hd => by subst hd; exact T_pure rfl) fun b hb => ?_
  subst hb
  cases hns : cs with
  | nil => exact T_pure ⟨_, rfl⟩
  | cons a l => exact T_cellIx e hp (by simp)
theorem T_modC {f : En → M PyData} {ρ : En} {m : Int} (hm : 0 < m) (hf : T ks cs (f ρ) isI) : T ks cs (cBin gMod f (cD (.int m)) ρ) (inR m) :=
  T_bin (Q := fun d => d = .int _) hf (T_c rfl) fun x y hx hy => by subst hy; exact g_mod hm hx
theorem T_mulC {f : En → M PyData} {ρ : En} {c : Int} (hc : isIn64 c = true) (hf : T ks cs (f ρ) isI) : T ks cs (cBin gMulA (cD (.int c)) f ρ) isI :=
  T_bin (P := fun d => d = .int _) (T_c rfl) hf fun x y hx hy => by subst hx; exact g_mulc hc hy
theorem T_modV {f : En → M PyData} {ρ : En} {m : Int} {j : Nat} (hm : 0 < m) (hf : T ks cs (f ρ) isI) (hj : ρ[j]? = some (some (.im (.int m)))) : T ks cs (cBin gMod f (getD j) ρ) (inR m) :=
  T_bin (Q := fun d => d = .int m) hf (T_v hj rfl) fun x y hx hy => by subst hy; exact g_mod hm hx
theorem T_divV {f : En → M PyData} {ρ : En} {m : Int} {j : Nat} (hm : 0 < m) (h2 : m < 1073741824) (hf : T ks cs (f ρ) isI) (hj : ρ[j]? = some (some (.im (.int m)))) : T ks cs (cBin gDiv f (getD j) ρ) isI :=
  T_bin (Q := fun d => d = .int m) hf (T_v hj rfl) fun x y hx hy => by subst hy; exact g_div hm h2 hx
theorem T_divC {f : En → M PyData} {ρ : En} {m : Int} (hm : 0 < m) (h2 : m < 1073741824) (hf : T ks cs (f ρ) isI) : T ks cs (cBin gDiv f (cD (.int m)) ρ) isI :=
  T_bin (Q := fun d => d = .int m) hf (T_c rfl) fun x y hx hy => by subst hy; exact g_div hm h2 hx
theorem T_int {f : En → M PyData} {ρ : En} (h : T ks cs (f ρ) isI) : T ks cs (cUn gInt f ρ) isI := T_un h fun _ => g_int
theorem T_add {f g : En → M PyData} {ρ : En} (h : T ks cs (f ρ) isI) (h2 : T ks cs (g ρ) isI) : T ks cs (cBin gAddB f g ρ) isI := T_bin h h2 fun _ _ => g_add
theorem T_vI {i : Nat} {ρ : En} {n : Int} (e : ρ[i]? = some (some (.im (.int n)))) : T ks cs (getD i ρ) isI := T_v e ⟨_, rfl⟩
theorem T_cI {n : Int} {ρ : En} : T ks cs (cD (.int n) ρ) isI := T_c ⟨_, rfl⟩
theorem T_body {g : En → M Fl} {as : List Ag} {n : Nat} {P : PyData → Prop} (h : T ks cs (g (env0 n as)) (fun fl => ∃ d, fl = .rt d ∧ P d)) : T ks cs (runB n g as) P := T_bind h fun fl ⟨d, e, hd⟩ => by subst e; exact T_pure hd
/-! ### the draw, as the laws of one family write it -/
def drawD (c0 m1 c1 a1 m2 c2 a2 m3 c3 m4 : Int) : En → M Fl := sSeq (sFput .d 0 .turn (cBin gAddB (cFget .d 0 .turn) (cD (.int 1)))) (sSeq (sIf (cB (cBin gGt (cFget .d 0 .rest) (cD (.int 0)))) (sSeq (sAsg (cBin gMod (cUn gInt (cFget .d 0 .rest)) (getD 1)) (bNm 5)) (sSeq (sFput .d 0 .rest (cBin gDiv (cFget .d 0 .rest) (getD 1))) (sRet (getD 5)))) sNil) (sSeq (sAsg (cFget .d 0 .place) (bNm 2)) (sSeq (sFput .d 0 .place (cBin gAddB (getD 2) (cD (.int 1)))) (sSeq (sAsg (cIf (cB (cBin gNeD (cFget .d 0 .cells) (cLst aNil))) (cBin gIx (cFget .d 0 .cells) (cBin gMod (cUn gInt (getD 2)) (cCall gLen (aD (cFget .d 0 .cells) aNil)))) (cD (.int c0))) (bNm 3)) (sSeq (sIf (cAndB (cB (cBin gGe (getD 3) (cBin gPow (cD (.int 10)) (cD (.int 18))))) (cB (cBin gLt (getD 2) (cCall gLen (aD (cFget .d 0 .cells) aNil))))) (sSeq (sFput .d 0 .rest (cBin gDiv (getD 3) (getD 1))) (sRet (cBin gMod (cUn gInt (getD 3)) (getD 1)))) sNil) (sSeq (sAsg (cBin gMod (cUn gInt (cBin gAddB (cBin gAddB (cBin gMod (cUn gInt (getD 3)) (cD (.int m1))) (cBin gMulA (cD (.int c1)) (cFget .d 0 .turn))) (cD (.int a1)))) (cD (.int m2))) (bNm 4)) (sSeq (sAsg (cBin gMod (cUn gInt (cBin gAddB (cBin gAddB (cBin gMulA (getD 4) (getD 4)) (cBin gMulA (cD (.int c2)) (cFget .d 0 .turn))) (cD (.int a2)))) (cD (.int m3))) (bNm 4)) (sRet (cBin gMod (cUn gInt (cBin gDiv (cBin gMod (cUn gInt (cBin gAddB (cBin gMulA (getD 4) (getD 4)) (cBin gMulA (cD (.int c3)) (getD 4)))) (cD (.int m4))) (cD (.int 256)))) (getD 1))))))))))
theorem T_drawD {c0 m1 c1 a1 m2 c2 a2 m3 c3 m4 : Int} {L : Int} (h0 : 0 < L) (h1 : L < 1000000) (k1 : 0 < m1) (k2 : 0 < m2) (k3 : 0 < m3) (k4 : 0 < m4) (k5 : isIn64 c1 = true) (k6 : isIn64 c2 = true) (k7 : isIn64 c3 = true) (k8 : m2 < 2 ^ 60) (k9 : m3 < 2 ^ 60) : T .d cs (runB 6 (drawD c0 m1 c1 a1 m2 c2 a2 m3 c3 m4) [.fd, .d (.int L)]) (inR L) := by
  refine T_body ?_
  refine T_seq (T_put rfl (T_add (T_get rfl (by decide)) T_cI)) fun fl e => ?_
  subst e
  let ρ0 : En := env0 6 [.fd, .d (.int L)]
  refine T_seq (P := fun fl => fl = .nx ρ0 ∨ ∃ d, fl = .rt d ∧ inR L d) (T_if (T_cB (T_bin (T_get rfl (by decide)) T_cI fun _ _ => g_cmp)) ?_ (T_pure (.inl rfl))) fun fl e => ?_
  · refine T_seq (T_asg (T_modV h0 (T_int (T_get rfl (by decide))) rfl)) fun fl ⟨d, hd, e⟩ => ?_
    subst e
    refine T_seq (T_put rfl (T_divV h0 (by omega) (T_get rfl (by decide)) rfl)) fun fl e => ?_
    subst e
    exact T_imp (T_ret (T_v rfl hd)) fun _ => .inr
  refine e.elim (fun e => ?_) (fun ⟨d, e, hd⟩ => by subst e; exact T_pure ⟨d, rfl, hd⟩)
  subst e
  refine T_seq (T_asg (T_get rfl (by decide))) fun fl ⟨d, ⟨p, hp⟩, e⟩ => ?_
  subst e hp
  refine T_seq (T_put rfl (T_add (T_vI rfl) T_cI)) fun fl e => ?_
  subst e
  refine T_seq (T_asg (T_cell rfl rfl)) fun fl ⟨d, ⟨c, hc⟩, e⟩ => ?_
  subst e hc
  let ρ1 : En := [some .fd, some (.im (.int L)), some (.im (.int p)), some (.im (.int c)), none, none]
  refine T_seq (P := fun fl => fl = .nx ρ1 ∨ ∃ d, fl = .rt d ∧ inR L d) (T_if ?_ ?_ (T_pure (.inl rfl))) fun fl e => ?_
  · refine T_bind (T_cB (T_bin (T_vI rfl) (T_pure (P := isI) ⟨10 ^ 18, rfl⟩) fun _ _ => g_cmp)) fun b _ => ?_
    cases b with
    | false => exact T_pure trivial
    | true => exact T_cB (T_bin (T_vI rfl) (T_imp (T_len (T_getC rfl)) fun d h => ⟨_, h⟩) fun _ _ => g_cmp)
  · refine T_seq (T_put rfl (T_divV h0 (by omega) (T_vI rfl) rfl)) fun fl e => ?_
    subst e
    exact T_imp (T_ret (T_modV h0 (T_int (T_vI rfl)) rfl)) fun _ => .inr
  refine e.elim (fun e => ?_) (fun ⟨d, e, hd⟩ => by subst e; exact T_pure ⟨d, rfl, hd⟩)
  subst e
  refine T_seq (T_asg (T_modC k2 (T_int (T_add (T_add (T_imp (T_modC k1 (T_int (T_vI rfl))) fun _ => isI_of) (T_mulC k5 (T_get rfl (by decide)))) T_cI)))) fun fl ⟨b1, hb1, e⟩ => ?_
  subst e
  refine T_seq (T_asg (T_modC k3 (T_int (T_add (T_add (T_bin (T_v rfl hb1) (T_v rfl (isI_of hb1)) fun _ _ => g_mulr k8) (T_mulC k6 (T_get rfl (by decide)))) T_cI)))) fun fl ⟨b2, hb2, e⟩ => ?_
  subst e
  exact T_ret (T_modV h0 (T_int (T_divC (by decide) (by decide) (T_imp (T_modC k4 (T_int (T_add (T_bin (T_v rfl hb2) (T_v rfl (isI_of hb2)) fun _ _ => g_mulr k9) (T_mulC k7 (T_v rfl (isI_of hb2)))))) fun _ => isI_of))) rfl)
theorem shaped_intsT (ns : List Int) : SeqAt.shaped (.tuple (ns.map PyData.int)) = true := by
  unfold SeqAt.shaped
  simp [PyData.canLay0, lay_ints, PyData.depth, dep_ints]
theorem eqv_ints : ∀ ns : List Int, PyData.eqvAll (ns.map PyData.int) (ns.map PyData.int) = true
  | [] => (by simp [PyData.eqvAll])
  | n :: ns => by simp [PyData.eqvAll, PyData.eqv, eqv_ints ns]
theorem ne_same (ns : List Int) : gNeD (.tuple (ns.map PyData.int)) (.tuple (ns.map PyData.int)) = some (.bool false) := by
  unfold gNeD
  rw [shaped_intsT]
  simp [PyData.eqv, eqv_ints]
theorem bin_of {g : PyData → PyData → Option PyData} {fa fb : En → M PyData} {ρ : En} {S S1 S2 : Fd} {x y d : PyData} (ha : fa ρ S = .ok x S1) (hb : fb ρ S1 = .ok y S2) (hg : g x y = some d) : cBin g fa fb ρ S = .ok d S2 := by
  show M.bind (fa ρ) (fun x => M.bind (fb ρ) fun y => lift (g x y)) S = _
  simp only [M.bind, ha, hb, hg]
  rfl
theorem seq_of {g h : En → M Fl} {ρ ρ1 : En} {S S1 : Fd} (e : g ρ S = .ok (.nx ρ1) S1) : sSeq g h ρ S = h ρ1 S1 := by
  show M.bind (g ρ) _ S = _
  unfold M.bind
  rw [e]
theorem if_of {c : En → M Bool} {g h : En → M Fl} {ρ : En} {S S1 : Fd} {b : Bool} (e : c ρ S = .ok b S1) : sIf c g h ρ S = (if b then g ρ S1 else h ρ S1) := by
  show M.bind (c ρ) _ S = _
  unfold M.bind
  rw [e]
  cases b <;> rfl
theorem body_of {n : Nat} {g : En → M Fl} {as : List Ag} {S S1 : Fd} {d : PyData} (e : g (env0 n as) S = .ok (.rt d) S1) : runB n g as S = .ok d S1 := by
  show M.bind (g (env0 n as)) _ S = _
  unfold M.bind
  rw [e]; rfl
theorem orB_of {c1 c2 : En → M Bool} {ρ : En} {S S1 : Fd} (e : c1 ρ S = .ok false S1) : cOrB c1 c2 ρ S = c2 ρ S1 := by
  show M.bind (c1 ρ) _ S = _
  unfold M.bind
  rw [e]; rfl
theorem cB_of {f : En → M PyData} {ρ : En} {S S1 : Fd} {b : Bool} (e : f ρ S = .ok (.bool b) S1) : cB f ρ S = .ok b S1 := by
  show M.bind (f ρ) asB S = _
  unfold M.bind
  rw [e]; rfl
theorem drawn_of {F : Fn} {ρ : En} {i : Nat} {c : PyData} {S : Fd} {r : R PyData} (e : ρ[i]? = some (some .fd)) (h : F [.fd, .d c] S = r) : cFn (argN 2 F) (aF i (aD (cD c) aNil)) ρ S = r := by
  subst h
  show M.bind (M.bind (getF i ρ) fun _ => M.bind (M.bind (cD c ρ) fun x => M.bind (fun S => .ok [] S) fun r S => .ok (.d x :: r) S) fun r S => .ok (.fd :: r) S) (argN 2 F) S = _
  unfold getF
  rw [e]
  rfl
theorem fn0_of {F : Fn} {d : PyData} (e : F [] = pure d) (ρ : En) (S : Fd) : cFn0 F ρ S = .ok d S := by
  show F [] S = _
  rw [e]; rfl
theorem notB_of {c : En → M Bool} {ρ : En} {S S1 : Fd} {b : Bool} (e : c ρ S = .ok b S1) : cNotB c ρ S = .ok (!b) S1 := by
  show M.bind (c ρ) _ S = _
  unfold M.bind
  rw [e]; rfl
theorem and_of {f h : En → M PyData} {ρ : En} {S S1 : Fd} (e : f ρ S = .ok (.bool true) S1) : cAnd f h ρ S = h ρ S1 := by
  show M.bind (cB f ρ) _ S = _
  unfold M.bind
  rw [cB_of e]; rfl
theorem ret_of' {f : En → M PyData} {ρ : En} {S S1 : Fd} {d : PyData} (e : f ρ S = .ok d S1) : sRet f ρ S = .ok (.rt d) S1 := by
  show M.bind (f ρ) _ S = _
  unfold M.bind
  rw [e]; rfl
theorem andB_of {c1 c2 : En → M Bool} {ρ : En} {S S1 : Fd} (e : c1 ρ S = .ok true S1) : cAndB c1 c2 ρ S = c2 ρ S1 := by
  show M.bind (c1 ρ) _ S = _
  unfold M.bind
  rw [e]; rfl
theorem eqI_of {i j : Int} : gEqD (.int i) (.int j) = some (.bool (decide (i = j))) := by
  unfold gEqD SeqAt.shaped
  simp [PyData.canLay0, PyData.depth, PyData.eqv]
  by_cases h : i = j <;> simp [h]
def nxOf : R Fl → En
  | .ok (.nx ρ) _ => ρ
  | _ => []
end
end G
end

section
set_option Elab.async false
set_option linter.all false
set_option maxRecDepth 100000
set_option maxHeartbeats 4100000
namespace GM
open PySem G
/-! ### what comes, exactly -/
theorem pure_b {α β : Type} (a : α) (f : α → M β) : (pure a >>= f) = f a := rfl
theorem bind_a {α β γ : Type} (m : M α) (f : α → M β) (g : β → M γ) : ((m >>= f) >>= g) = m >>= fun a => f a >>= g := by
  funext S
  show M.bind (M.bind m f) g S = M.bind m (fun a => M.bind (f a) g) S
  unfold M.bind
  cases m S <;> rfl
theorem sil_p {α : Type} (a : α) : sil (pure a : M α) = pure a := rfl
def I (n : Nat) : PyData := .int (n : Int)
def wd (w : List Nat) : PyData := .tuple (w.map I)
def rl (r : List (List Nat)) : PyData := .tuple (r.map wd)
theorem kit1 : L2.kitB "int" "int" = some true := by decide +kernel
theorem kit2 : L2.kitB "int" "bool" = some false := by decide +kernel
theorem kit3 : L2.kitB "tuple" "tuple" = some true := by decide +kernel
theorem isi_of {T : String} {f : En → M PyData} {ρ : En} {x : PyData} {b : Bool} (hx : f ρ = pure x) (hk : L2.kitB (tyNm x) T = some b) : cIsi T f ρ = pure (.bool b) := by
  unfold cIsi
  rw [hx, pure_b, hk]; rfl
theorem and_of {f h : En → M PyData} {ρ : En} {m : M PyData} (hx : f ρ = pure (.bool true)) (hy : h ρ = m) : cAnd f h ρ = m := by
  unfold cAnd cB
  rw [hx, pure_b]
  exact hy
theorem not_of {f : En → M PyData} {ρ : En} {b : Bool} (hx : f ρ = pure (.bool b)) : cNot f ρ = pure (.bool (!b)) := by
  unfold cNot cB
  rw [hx, pure_b]; rfl
theorem ret_of' {n : Nat} {f : En → M PyData} {as : List Ag} {m : M PyData} (h : f (env0 n as) = m) : runB n (sRet f) as = m := by
  unfold runB sRet
  rw [h, bind_a]
  funext S
  show M.bind m (fun d => pure d) S = m S
  unfold M.bind
  cases m S <;> rfl
theorem fn_of' {F : Fn} {n : Nat} {fs : En → M (List Ag)} {ρ : En} {as : List Ag} (h : fs ρ = pure as) (hn : as.length = n) : cFn (argN n F) fs ρ = F as := by
  unfold cFn argN
  rw [h, pure_b, if_pos hn]
theorem call1_of {g : List PyData → Option PyData} {f : En → M PyData} {ρ : En} {x d : PyData} (hx : f ρ = pure x) (hd : g [x] = some d) : cCall g (aD f aNil) ρ = pure d := by
  unfold cCall aD
  show (f ρ >>= fun x => aNil ρ >>= fun r => pure (Ag.d x :: r)) >>= _ = _
  rw [hx]
  show lift ((some [x]).bind g) = _
  show lift (g [x]) = _
  rw [hd]; rfl
theorem bin_of {g : PyData → PyData → Option PyData} {fa fb : En → M PyData} {ρ : En} {x y d : PyData} (ha : fa ρ = pure x) (hb : fb ρ = pure y) (hg : g x y = some d) : cBin g fa fb ρ = pure d := by
  unfold cBin
  rw [ha, pure_b, hb, pure_b, hg]; rfl
theorem un_of' {g : PyData → Option PyData} {f : En → M PyData} {ρ : En} {x d : PyData} (ha : f ρ = pure x) (hg : g x = some d) : cUn g f ρ = pure d := by
  unfold cUn
  rw [ha, pure_b, hg]; rfl
theorem d1_of {f : En → M PyData} {fs : En → M (List Ag)} {ρ : En} {x : PyData} {r : List Ag} (hx : f ρ = pure x) (hr : fs ρ = pure r) : aD f fs ρ = pure (.d x :: r) := by
  unfold aD
  rw [hx, pure_b, hr]; rfl
theorem tup_of {fs : En → M (List Ag)} {ρ : En} {as : List Ag} {d : PyData} (h : fs ρ = pure as) (hd : mkTup as = some d) : cTup fs ρ = pure d := by
  unfold cTup
  rw [h, pure_b, hd]; rfl
theorem lst_of {fs : En → M (List Ag)} {ρ : En} {as : List Ag} {d : PyData} (h : fs ρ = pure as) (hd : mkLst as = some d) : cLst fs ρ = pure d := by
  unfold cLst
  rw [h, pure_b, hd]; rfl
theorem seq_of {g h : En → M Fl} {ρ ρ' : En} {m : M Fl} (hg : g ρ = pure (.nx ρ')) (hh : h ρ' = m) : sSeq g h ρ = m := by
  unfold sSeq
  rw [hg, pure_b]; exact hh
theorem expr_of {f : En → M PyData} {ρ : En} {x : PyData} (h : f ρ = pure x) : sExpr f ρ = pure (.nx ρ) := by
  unfold sExpr
  rw [h, pure_b]
theorem asg_of' {f : En → M PyData} {b : PyData → En → Option En} {ρ ρ' : En} {x : PyData} (h : f ρ = pure x) (hb : b x ρ = some ρ') : sAsg f b ρ = pure (.nx ρ') := by
  unfold sAsg
  rw [h, pure_b, hb]; rfl
theorem own_of {f : En → M PyData} {ρ : En} {i : Nat} {l : List PyData} (h : f ρ = pure (.list l)) : sOwn i f ρ = pure (.nx (ρ.set i (some (.ow (l, true))))) := by
  unfold sOwn
  rw [h, pure_b]
theorem app_of {f : En → M PyData} {ρ : En} {i : Nat} {l : List PyData} {z : Bool} {d : PyData} (hi : ρ[i]? = some (some (.ow (l, z)))) (h : f ρ = pure d) (hl : l.length < 16777216) : sApp i f ρ = pure (.nx (ρ.set i (some (.ow (l ++ [d], z))))) := by
  have e : getO i ρ = pure l := by unfold getO; rw [hi]
  have e2 : flagO ρ i = z := by unfold flagO; rw [hi]
  unfold sApp
  rw [e, pure_b, h, pure_b, if_pos hl]
  unfold putO
  rw [e2]
theorem ret_s {f : En → M PyData} {ρ : En} {x : PyData} (h : f ρ = pure x) : sRet f ρ = pure (.rt x) := by
  unfold sRet
  rw [h, pure_b]
theorem b_of {f : En → M PyData} {ρ : En} {b : Bool} (h : f ρ = pure (.bool b)) : cB f ρ = pure b := by
  unfold cB
  rw [h, pure_b]; rfl
theorem notb_of {f : En → M Bool} {ρ : En} {b : Bool} (h : f ρ = pure b) : cNotB f ρ = pure (!b) := by
  unfold cNotB
  rw [h, pure_b]
theorem ifT_of {c : En → M Bool} {g h : En → M Fl} {ρ : En} {m : M Fl} (hc : c ρ = pure true) (hg : g ρ = m) : sIf c g h ρ = m := by
  unfold sIf
  rw [hc, pure_b]; exact hg
theorem ifF_of {c : En → M Bool} {g h : En → M Fl} {ρ : En} {m : M Fl} (hc : c ρ = pure false) (hg : h ρ = m) : sIf c g h ρ = m := by
  unfold sIf
  rw [hc, pure_b]; exact hg
theorem body_of {n : Nat} {g : En → M Fl} {as : List Ag} {d : PyData} (h : g (env0 n as) = pure (.rt d)) : runB n g as = pure d := by
  unfold runB
  rw [h, pure_b]
theorem bodyN_of {n : Nat} {g : En → M Fl} {as : List Ag} {ρ : En} (h : g (env0 n as) = pure (.nx ρ)) : runB n g as = pure .none := by
  unfold runB
  rw [h, pure_b]
/-- a loop without an end of its own, by what holds at each turn -/
theorem for_key {b : PyData → En → Option En} {g : En → M Fl} (Pv : List PyData → En → Prop) (hs : ∀ d ds ρ, Pv (d :: ds) ρ → ∃ ρ1, b d ρ = some ρ1 ∧ ∃ ρ2, g ρ1 = pure (.nx ρ2) ∧ Pv ds ρ2) : ∀ (ds : List PyData) (ρ : En), Pv ds ρ → ∃ ρ', forGo b g ds ρ = pure (.nx ρ') ∧ Pv [] ρ'
  | [], ρ, h => ⟨ρ, rfl, h⟩
  | d :: ds, ρ, h => by
    obtain ⟨ρ1, e1, ρ2, e2, h2⟩ := hs d ds ρ h
    obtain ⟨ρ', e3, h3⟩ := for_key Pv hs ds ρ2 h2
    refine ⟨ρ', ?_, h3⟩
    show (match b d ρ with
      | none => bad
      | some ρ1 => g ρ1 >>= fun fl => match fl with
        | .nx ρ' => forGo b g ds ρ'
        | .ct ρ' => forGo b g ds ρ'
        | .bk ρ' => pure (.nx ρ')
        | .rt d => pure (.rt d) : M Fl) = _
    rw [e1]
    show g ρ1 >>= _ = _
    rw [e2, pure_b]; exact e3
theorem for_ex {fi : En → M (List PyData)} {b : PyData → En → Option En} {g : En → M Fl} {ρ : En} {ds : List PyData} (Pv : List PyData → En → Prop) (hf : fi ρ = pure ds) (h0 : Pv ds (age ρ)) (hs : ∀ d ds ρ, Pv (d :: ds) ρ → ∃ ρ1, b d ρ = some ρ1 ∧ ∃ ρ2, g ρ1 = pure (.nx ρ2) ∧ Pv ds ρ2) : ∃ ρ', sFor fi b g ρ = pure (.nx (renew ρ ρ')) ∧ Pv [] ρ' := by
  obtain ⟨ρ', e, h'⟩ := for_key Pv hs ds (age ρ) h0
  refine ⟨ρ', ?_, h'⟩
  unfold sFor
  rw [hf, pure_b, e, pure_b]; rfl
theorem for_seq {fi : En → M (List PyData)} {b : PyData → En → Option En} {g h : En → M Fl} {ρ : En} {ds : List PyData} {m : M Fl} (Pv : List PyData → En → Prop) (hf : fi ρ = pure ds) (h0 : Pv ds (age ρ)) (hs : ∀ d ds ρ, Pv (d :: ds) ρ → ∃ ρ1, b d ρ = some ρ1 ∧ ∃ ρ2, g ρ1 = pure (.nx ρ2) ∧ Pv ds ρ2) (hd : ∀ ρ', Pv [] ρ' → h (renew ρ ρ') = m) : sSeq (sFor fi b g) h ρ = m := by
  obtain ⟨ρ', e, h'⟩ := for_ex Pv hf h0 hs
  exact seq_of e (hd ρ' h')
theorem small_of {l : List PyData} (h : l.length ≤ 16777216) : small l = true := decide_eq_true h
theorem boolsOf_map (l : List Bool) : boolsOf (l.map PyData.bool) = some l := by
  induction l with
  | nil => rfl
  | cons a l ih => show (boolsOf (l.map PyData.bool)).map (a :: ·) = _; rw [ih]; rfl
theorem intsOf_map (l : List Nat) : intsOf (l.map I) = some (l.map fun (n : Nat) => (n : Int)) := by
  induction l with
  | nil => rfl
  | cons a l ih => show (intsOf (l.map I)).map ((a : Int) :: ·) = _; rw [ih]; rfl
/-- a comprehension, each element told -/
theorem lc_det {vs : List Nat} {b : PyData → En → Option En} {fe : En → M PyData} {ρ : En} {h : PyData → PyData} : ∀ (ds : List PyData) (n : Nat) (acc : List PyData), n + ds.length ≤ 16777216 → (∀ d ∈ ds, ∃ ρ1, b d (wipeE ρ vs) = some ρ1 ∧ fe ρ1 = pure (h d)) →
    lcGo vs b yes fe ρ ds n acc = pure (.list (acc.reverse ++ ds.map h))
  | [], n, acc, _, _ => by simp [lcGo]
  | d :: ds, n, acc, hl, hh => by
    obtain ⟨ρ1, e1, h1⟩ := hh d List.mem_cons_self
    simp only [List.length_cons] at hl
    have e : lcGo vs b yes fe ρ (d :: ds) n acc = (sil (fe ρ1) >>= fun y => if Nat.blt n 16777216 then lcGo vs b yes fe ρ ds (n + 1) (y :: acc) else bad) := by
      show (match b d (wipeE ρ vs) with
        | none => bad
        | some ρ1 => sil (yes ρ1) >>= fun c => if c then sil (fe ρ1) >>= fun y => if Nat.blt n 16777216 then lcGo vs b yes fe ρ ds (n + 1) (y :: acc) else bad else lcGo vs b yes fe ρ ds n acc) = _
      rw [e1]; rfl
    rw [e, h1, sil_p, pure_b, if_pos (by simp; omega), lc_det ds (n + 1) (h d :: acc) (by omega) fun d hd => hh d (List.mem_cons_of_mem _ hd)]
    simp
theorem lc_of {fi : En → M (List PyData)} {vs : List Nat} {b : PyData → En → Option En} {fe : En → M PyData} {ρ : En} {ds : List PyData} (h : PyData → PyData) (hf : fi ρ = pure ds) (hl : ds.length ≤ 16777216) (hh : ∀ d ∈ ds, ∃ ρ1, b d (wipeE ρ vs) = some ρ1 ∧ fe ρ1 = pure (h d)) : cLc fi vs b yes fe ρ = pure (.list (ds.map h)) := by
  unfold cLc
  rw [hf, pure_b, lc_det (h := h) ds 0 [] (by omega) hh]
  simp
/-- a comprehension with a test -/
theorem lcF_det {vs : List Nat} {b : PyData → En → Option En} {t : En → M Bool} {fe : En → M PyData} {ρ : En} {c : PyData → Bool} {h : PyData → PyData} : ∀ (ds : List PyData) (n : Nat) (acc : List PyData), n + ds.length ≤ 16777216 → (∀ d ∈ ds, ∃ ρ1, b d (wipeE ρ vs) = some ρ1 ∧ t ρ1 = pure (c d) ∧ (c d = true → fe ρ1 = pure (h d))) →
    lcGo vs b t fe ρ ds n acc = pure (.list (acc.reverse ++ (ds.filter c).map h))
  | [], n, acc, _, _ => by simp [lcGo]
  | d :: ds, n, acc, hl, hh => by
    obtain ⟨ρ1, e1, h1, h2⟩ := hh d List.mem_cons_self
    simp only [List.length_cons] at hl
    have e : lcGo vs b t fe ρ (d :: ds) n acc = (sil (t ρ1) >>= fun c => if c then sil (fe ρ1) >>= fun y => if Nat.blt n 16777216 then lcGo vs b t fe ρ ds (n + 1) (y :: acc) else bad else lcGo vs b t fe ρ ds n acc) := by
      show (match b d (wipeE ρ vs) with
        | none => bad
        | some ρ1 => sil (t ρ1) >>= fun c => if c then sil (fe ρ1) >>= fun y => if Nat.blt n 16777216 then lcGo vs b t fe ρ ds (n + 1) (y :: acc) else bad else lcGo vs b t fe ρ ds n acc) = _
      rw [e1]
    rw [e, h1, sil_p, pure_b]
    cases hc : c d with
    | true =>
      rw [if_pos rfl, h2 hc, sil_p, pure_b, if_pos (by simp; omega), lcF_det (c := c) (h := h) ds (n + 1) (h d :: acc) (by omega) fun d hd => hh d (List.mem_cons_of_mem _ hd)]
      simp [hc]
    | false =>
      rw [if_neg (by decide), lcF_det (c := c) (h := h) ds n acc (by omega) fun d hd => hh d (List.mem_cons_of_mem _ hd)]
      simp [hc]
theorem lcF_of {fi : En → M (List PyData)} {vs : List Nat} {b : PyData → En → Option En} {t : En → M Bool} {fe : En → M PyData} {ρ : En} {ds : List PyData} (c : PyData → Bool) (h : PyData → PyData) (hf : fi ρ = pure ds) (hl : ds.length ≤ 16777216) (hh : ∀ d ∈ ds, ∃ ρ1, b d (wipeE ρ vs) = some ρ1 ∧ t ρ1 = pure (c d) ∧ (c d = true → fe ρ1 = pure (h d))) : cLc fi vs b t fe ρ = pure (.list ((ds.filter c).map h)) := by
  unfold cLc
  rw [hf, pure_b, lcF_det (c := c) (h := h) ds 0 [] (by omega) hh]
  simp
theorem lc2In_det {vs1 : List Nat} {b1 : PyData → En → Option En} {fe : En → M PyData} {ρ : En} {h : PyData → PyData} : ∀ (ds : List PyData) (n : Nat) (acc : List PyData), n + ds.length ≤ 16777216 → (∀ d ∈ ds, ∃ ρ1, b1 d (wipeE ρ vs1) = some ρ1 ∧ fe ρ1 = pure (h d)) →
    lc2In vs1 b1 yes fe ρ ds n acc = pure (n + ds.length, (ds.map h).reverse ++ acc)
  | [], n, acc, _, _ => by simp [lc2In]
  | d :: ds, n, acc, hl, hh => by
    obtain ⟨ρ1, e1, h1⟩ := hh d List.mem_cons_self
    simp only [List.length_cons] at hl
    have e : lc2In vs1 b1 yes fe ρ (d :: ds) n acc = (sil (fe ρ1) >>= fun y => if Nat.blt n 16777216 then lc2In vs1 b1 yes fe ρ ds (n + 1) (y :: acc) else bad) := by
      show (match b1 d (wipeE ρ vs1) with
        | none => bad
        | some ρ1 => sil (yes ρ1) >>= fun c => if c then sil (fe ρ1) >>= fun y => if Nat.blt n 16777216 then lc2In vs1 b1 yes fe ρ ds (n + 1) (y :: acc) else bad else lc2In vs1 b1 yes fe ρ ds n acc) = _
      rw [e1]; rfl
    rw [e, h1, sil_p, pure_b, if_pos (by simp; omega), lc2In_det ds (n + 1) (h d :: acc) (by omega) fun d hd => hh d (List.mem_cons_of_mem _ hd)]
    simp [Nat.add_assoc, Nat.add_comm 1]
theorem lc2_det {vs vs1 : List Nat} {b b1 : PyData → En → Option En} {fi1 : En → M (List PyData)} {fe : En → M PyData} {ρ : En} {g : PyData → List PyData} : ∀ (ds : List PyData) (n : Nat) (acc : List PyData), n + (ds.flatMap g).length ≤ 16777216 →
    (∀ d ∈ ds, ∃ ρ1 ds1 h, b d (wipeE ρ vs) = some ρ1 ∧ noOw ρ1 = true ∧ fi1 ρ1 = pure ds1 ∧ g d = ds1.map h ∧ ∀ d1 ∈ ds1, ∃ ρ2, b1 d1 (wipeE ρ1 vs1) = some ρ2 ∧ fe ρ2 = pure (h d1)) →
    lc2Go vs b yes fi1 vs1 b1 yes fe ρ ds n acc = pure (.list (acc.reverse ++ ds.flatMap g))
  | [], n, acc, _, _ => by simp [lc2Go]
  | d :: ds, n, acc, hl, hh => by
    obtain ⟨ρ1, ds1, h, e1, hn, hf, hg, hin⟩ := hh d List.mem_cons_self
    simp only [List.flatMap_cons, List.length_append] at hl
    have hlen : (g d).length = ds1.length := by rw [hg, List.length_map]
    have e : lc2Go vs b yes fi1 vs1 b1 yes fe ρ (d :: ds) n acc = (sil (fi1 ρ1) >>= fun ds1 => lc2In vs1 b1 yes fe ρ1 ds1 n acc >>= fun r => lc2Go vs b yes fi1 vs1 b1 yes fe ρ ds r.1 r.2) := by
      show (match b d (wipeE ρ vs) with
        | none => bad
        | some ρ1 => if noOw ρ1 then sil (yes ρ1) >>= fun c => if c then sil (fi1 ρ1) >>= fun ds1 => lc2In vs1 b1 yes fe ρ1 ds1 n acc >>= fun r => lc2Go vs b yes fi1 vs1 b1 yes fe ρ ds r.1 r.2 else lc2Go vs b yes fi1 vs1 b1 yes fe ρ ds n acc else bad) = _
      rw [e1]
      show (if noOw ρ1 then _ else bad) = _
      rw [hn]; rfl
    rw [e, hf, sil_p, pure_b, lc2In_det (h := h) ds1 n acc (by omega) hin, pure_b, lc2_det (g := g) ds _ _ (by simp only; omega) fun d hd => hh d (List.mem_cons_of_mem _ hd)]
    simp [hg]
theorem lc2_of {fi : En → M (List PyData)} {vs vs1 : List Nat} {b b1 : PyData → En → Option En} {fi1 : En → M (List PyData)} {fe : En → M PyData} {ρ : En} {ds : List PyData} (g : PyData → List PyData) (hf : fi ρ = pure ds) (hl : (ds.flatMap g).length ≤ 16777216) (hh : ∀ d ∈ ds, ∃ ρ1 ds1 h, b d (wipeE ρ vs) = some ρ1 ∧ noOw ρ1 = true ∧ fi1 ρ1 = pure ds1 ∧ g d = ds1.map h ∧ ∀ d1 ∈ ds1, ∃ ρ2, b1 d1 (wipeE ρ1 vs1) = some ρ2 ∧ fe ρ2 = pure (h d1)) : cLc2 fi vs b yes fi1 vs1 b1 yes fe ρ = pure (.list (ds.flatMap g)) := by
  unfold cLc2
  rw [hf, pure_b, lc2_det (g := g) ds 0 [] (by omega) hh]
  simp
theorem enG_mem : ∀ {ds : List PyData} {n : Nat} {d : PyData}, d ∈ enG n ds → ∃ i x, x ∈ ds ∧ d = .tuple [i, x]
  | [], _, _, h => by cases h
  | x :: ds, n, d, h => by
    rcases List.mem_cons.mp h with e | e
    · exact ⟨_, x, List.mem_cons_self, e⟩
    · obtain ⟨i, y, h1, h2⟩ := enG_mem e
      exact ⟨i, y, List.mem_cons_of_mem _ h1, h2⟩
/-- a slot without a list of one's own -/
def im (x : Option PyData) : Option Sl := x.map Sl.im
theorem ren1_im (s : Option Sl) (x : Option PyData) : ren1 s (im x) = im x := by
  unfold ren1
  split
  · rfl
  · cases x <;> rfl
theorem age1_im (x : Option PyData) : age1 (im x) = im x := by cases x <;> rfl
theorem im_some (d : PyData) : some (Sl.im d) = im (some d) := rfl
theorem im_none : (none : Option Sl) = im none := rfl
def ims (xs : List (Option PyData)) : En := xs.map im
theorem renew_ims : ∀ (ρ : En) (xs : List (Option PyData)), renew ρ (ims xs) = ims xs
  | [], _ => rfl
  | _ :: _, [] => rfl
  | s :: ρ, x :: xs => by
    show ren1 s (im x) :: renew ρ (ims xs) = _
    rw [ren1_im, renew_ims ρ xs]; rfl
theorem age_ims : ∀ xs : List (Option PyData), age (ims xs) = ims xs
  | [] => rfl
  | x :: xs => by
    show age1 (im x) :: age (ims xs) = _
    rw [age1_im, age_ims xs]; rfl
theorem noOw_ims : ∀ xs : List (Option PyData), noOw (ims xs) = true
  | [] => rfl
  | x :: xs => by
    show (_ && noOw (ims xs)) = true
    rw [noOw_ims xs, Bool.and_true]
    cases x <;> rfl
/-- comprehensions over what is told by other things -/
theorem lcM_det {α : Type} {vs : List Nat} {b : PyData → En → Option En} {t : En → M Bool} {fe : En → M PyData} {ρ : En} {e : α → PyData} {c : α → Bool} {h : α → PyData} : ∀ (l : List α) (n : Nat) (acc : List PyData), n + l.length ≤ 16777216 → (∀ a ∈ l, ∃ ρ1, b (e a) (wipeE ρ vs) = some ρ1 ∧ t ρ1 = pure (c a) ∧ (c a = true → fe ρ1 = pure (h a))) →
    lcGo vs b t fe ρ (l.map e) n acc = pure (.list (acc.reverse ++ (l.filter c).map h))
  | [], n, acc, _, _ => by simp [lcGo]
  | d :: ds, n, acc, hl, hh => by
    obtain ⟨ρ1, e1, h1, h2⟩ := hh d List.mem_cons_self
    simp only [List.length_cons] at hl
    have e : lcGo vs b t fe ρ ((d :: ds).map e) n acc = (sil (t ρ1) >>= fun c => if c then sil (fe ρ1) >>= fun y => if Nat.blt n 16777216 then lcGo vs b t fe ρ (ds.map e) (n + 1) (y :: acc) else bad else lcGo vs b t fe ρ (ds.map e) n acc) := by
      show (match b (e d) (wipeE ρ vs) with
        | none => bad
        | some ρ1 => sil (t ρ1) >>= fun c => if c then sil (fe ρ1) >>= fun y => if Nat.blt n 16777216 then lcGo vs b t fe ρ (ds.map e) (n + 1) (y :: acc) else bad else lcGo vs b t fe ρ (ds.map e) n acc) = _
      rw [e1]
    rw [e, h1, sil_p, pure_b]
    cases hc : c d with
    | true =>
      rw [if_pos rfl, h2 hc, sil_p, pure_b, if_pos (by simp; omega), lcM_det (c := c) (h := h) ds (n + 1) (h d :: acc) (by omega) fun d hd => hh d (List.mem_cons_of_mem _ hd)]
      simp [hc]
    | false =>
      rw [if_neg (by decide), lcM_det (c := c) (h := h) ds n acc (by omega) fun d hd => hh d (List.mem_cons_of_mem _ hd)]
      simp [hc]
theorem lcFM_of {α : Type} {fi : En → M (List PyData)} {vs : List Nat} {b : PyData → En → Option En} {t : En → M Bool} {fe : En → M PyData} {ρ : En} {l : List α} (e : α → PyData) (c : α → Bool) (h : α → PyData) (hf : fi ρ = pure (l.map e)) (hl : l.length ≤ 16777216) (hh : ∀ a ∈ l, ∃ ρ1, b (e a) (wipeE ρ vs) = some ρ1 ∧ t ρ1 = pure (c a) ∧ (c a = true → fe ρ1 = pure (h a))) : cLc fi vs b t fe ρ = pure (.list ((l.filter c).map h)) := by
  unfold cLc
  rw [hf, pure_b, lcM_det (c := c) (h := h) l 0 [] (by omega) hh]
  simp
theorem lcM_of {α : Type} {fi : En → M (List PyData)} {vs : List Nat} {b : PyData → En → Option En} {fe : En → M PyData} {ρ : En} {l : List α} (e : α → PyData) (h : α → PyData) (hf : fi ρ = pure (l.map e)) (hl : l.length ≤ 16777216) (hh : ∀ a ∈ l, ∃ ρ1, b (e a) (wipeE ρ vs) = some ρ1 ∧ fe ρ1 = pure (h a)) : cLc fi vs b yes fe ρ = pure (.list (l.map h)) := by
  rw [lcFM_of e (fun _ => true) h hf hl fun a ha => by
    obtain ⟨ρ1, h1, h2⟩ := hh a ha
    exact ⟨ρ1, h1, rfl, fun _ => h2⟩]
  rw [List.filter_eq_self.mpr (fun _ _ => rfl)]
theorem intsOf_ints : ∀ l : List Int, intsOf (l.map PyData.int) = some l
  | [] => rfl
  | a :: l => by show (intsOf (l.map PyData.int)).map (a :: ·) = _; rw [intsOf_ints l]; rfl
theorem gIx_l {α : Type} (l : List α) (f : α → PyData) (a : Nat) (h : a < l.length) : gIx (.list (l.map f)) (I a) = some (f l[a]) := by
  show L2.atI (l.map f) (a : Int) = _
  unfold L2.atI L2.ixN
  rw [if_pos (by omega), if_pos (by rw [List.length_map]; omega)]
  show (l.map f)[(a : Int).toNat]? = _
  rw [Int.toNat_natCast, List.getElem?_map, List.getElem?_eq_getElem h]; rfl
theorem gIx_t {α : Type} (l : List α) (f : α → PyData) (a : Nat) (h : a < l.length) : gIx (.tuple (l.map f)) (I a) = some (f l[a]) := by
  show L2.atI (l.map f) (a : Int) = _
  unfold L2.atI L2.ixN
  rw [if_pos (by omega), if_pos (by rw [List.length_map]; omega)]
  show (l.map f)[(a : Int).toNat]? = _
  rw [Int.toNat_natCast, List.getElem?_map, List.getElem?_eq_getElem h]; rfl
/-- x[-1] -/
theorem gIx_last {α : Type} (l : List α) (f : α → PyData) (h : l ≠ []) : gIx (.list (l.map f)) (.int (-1)) = some (f (l.getLast h)) := by
  have hp : 0 < l.length := List.length_pos_iff.mpr h
  show L2.atI (l.map f) (-1) = _
  unfold L2.atI L2.ixN
  rw [if_neg (by decide), List.length_map, if_pos (by omega)]
  show (l.map f)[((-1 : Int) + (l.length : Int)).toNat]? = _
  have e : ((-1 : Int) + (l.length : Int)).toNat = l.length - 1 := by omega
  rw [e, List.getElem?_map, List.getElem?_eq_getElem (by omega), List.getLast_eq_getElem]; rfl
theorem rng_map (n : Nat) : rngD 0 n = (List.range n).map I := by
  unfold rngD I
  congr 1
  funext k
  simp
theorem inRg_n (k : Nat) (h : k ≤ 1000000) : inRg (k : Int) = true := by
  unfold inRg
  simp
  omega
theorem rg1_n (k : Nat) (h : k ≤ 1000000) : rg1 [.d (I k)] = pure ((List.range k).map I) := by
  unfold rg1 I
  simp only [inRg_n k h, if_true, Int.toNat_natCast]
  rw [rng_map]; rfl
theorem rg1_of {f : En → M PyData} {ρ : En} {k : Nat} (h : f ρ = pure (I k)) (hk : k ≤ 1000000) : (aD f aNil ρ >>= rg1) = pure ((List.range k).map I) := by
  rw [d1_of h (show aNil ρ = pure [] from rfl), pure_b]
  exact rg1_n k hk
end GM
end

section
set_option Elab.async false
set_option linter.all false
set_option maxRecDepth 100000
set_option maxHeartbeats 4100000
namespace GM
open PySem G
/-! ### what surely comes, with draws -/
variable {ks : Ks} {cs : List Int}
theorem T_det {α : Type} {m : M α} {a : α} {P : α → Prop} (e : m = pure a) (h : P a) : T ks cs m P := by rw [e]; exact T_pure h
theorem T_sil {α : Type} {m : M α} {P : α → Prop} (h : T ks cs m P) : T ks cs (sil m) P := fun S hS => by
  obtain ⟨a, S', e, hS', hp⟩ := h S hS
  refine ⟨a, S', ?_, hS', hp⟩
  unfold sil
  rw [e]
theorem T_for {b : PyData → En → Option En} {g : En → M Fl} (Pv : List PyData → En → Prop) (hs : ∀ d ds ρ, Pv (d :: ds) ρ → ∃ ρ1, b d ρ = some ρ1 ∧ T ks cs (g ρ1) (fun fl => ∃ ρ2, fl = .nx ρ2 ∧ Pv ds ρ2)) : ∀ {ds : List PyData} {ρ : En}, Pv ds ρ → T ks cs (forGo b g ds ρ) (fun fl => ∃ ρ', fl = .nx ρ' ∧ Pv [] ρ')
  | [], ρ, h => T_pure ⟨ρ, rfl, h⟩
  | d :: ds, ρ, h => by
    obtain ⟨ρ1, e1, h1⟩ := hs d ds ρ h
    refine T_eq (m' := g ρ1 >>= fun fl => match fl with
        | .nx ρ' => forGo b g ds ρ'
        | .ct ρ' => forGo b g ds ρ'
        | .bk ρ' => pure (.nx ρ')
        | .rt d => pure (.rt d)) ?_ (T_bind h1 fun fl ⟨ρ2, e2, h2⟩ => ?_)
    · show (match b d ρ with
        | none => bad
        | some ρ1 => g ρ1 >>= fun fl => match fl with
          | .nx ρ' => forGo b g ds ρ'
          | .ct ρ' => forGo b g ds ρ'
          | .bk ρ' => pure (.nx ρ')
          | .rt d => pure (.rt d) : M Fl) = _
      rw [e1]
    · subst e2; exact T_for Pv hs h2
theorem T_sFor {fi : En → M (List PyData)} {b : PyData → En → Option En} {g : En → M Fl} {ρ : En} {ds : List PyData} (Pv : List PyData → En → Prop) (hf : fi ρ = pure ds) (h0 : Pv ds (age ρ)) (hs : ∀ d ds ρ, Pv (d :: ds) ρ → ∃ ρ1, b d ρ = some ρ1 ∧ T ks cs (g ρ1) (fun fl => ∃ ρ2, fl = .nx ρ2 ∧ Pv ds ρ2)) : T ks cs (sFor fi b g ρ) (fun fl => ∃ ρ', fl = .nx (renew ρ ρ') ∧ Pv [] ρ') := by
  unfold sFor
  rw [hf, pure_b]
  exact T_bind (T_for Pv hs h0) fun fl ⟨ρ', e, h⟩ => by subst e; exact T_pure ⟨ρ', rfl, h⟩
theorem T_lcGo {vs : List Nat} {b : PyData → En → Option En} {fe : En → M PyData} {ρ : En} {P : PyData → Prop} : ∀ (ds : List PyData) (n : Nat) (acc : List PyData), n + ds.length ≤ 16777216 → (∀ d ∈ ds, ∃ ρ1, b d (wipeE ρ vs) = some ρ1 ∧ T ks cs (fe ρ1) P) →
    T ks cs (lcGo vs b yes fe ρ ds n acc) (fun r => ∃ ys, r = .list (acc.reverse ++ ys) ∧ ys.length = ds.length ∧ ∀ y ∈ ys, P y)
  | [], n, acc, _, _ => T_pure ⟨[], by simp, rfl, fun y h => by cases h⟩
  | d :: ds, n, acc, hl, hh => by
    obtain ⟨ρ1, e1, h1⟩ := hh d List.mem_cons_self
    simp only [List.length_cons] at hl
    have e : lcGo vs b yes fe ρ (d :: ds) n acc = (sil (fe ρ1) >>= fun y => if Nat.blt n 16777216 then lcGo vs b yes fe ρ ds (n + 1) (y :: acc) else bad) := by
      show (match b d (wipeE ρ vs) with
        | none => bad
        | some ρ1 => sil (yes ρ1) >>= fun c => if c then sil (fe ρ1) >>= fun y => if Nat.blt n 16777216 then lcGo vs b yes fe ρ ds (n + 1) (y :: acc) else bad else lcGo vs b yes fe ρ ds n acc) = _
      rw [e1]; rfl
    refine T_eq e (T_bind (T_sil h1) fun y hy => ?_)
    rw [if_pos (by simp; omega)]
    refine T_imp (T_lcGo ds (n + 1) (y :: acc) (by omega) fun d hd => hh d (List.mem_cons_of_mem _ hd)) fun r ⟨ys, e2, l2, h2⟩ => ⟨y :: ys, by rw [e2]; simp, by simp [l2], fun x hx => ?_⟩
    rcases List.mem_cons.mp hx with z | z
    · rw [z]; exact hy
    · exact h2 x z
theorem T_cLc {fi : En → M (List PyData)} {vs : List Nat} {b : PyData → En → Option En} {fe : En → M PyData} {ρ : En} {P : PyData → Prop} {D : List PyData → Prop} (hf : T ks cs (fi ρ) D) (hl : ∀ ds, D ds → ds.length ≤ 16777216 ∧ ∀ d ∈ ds, ∃ ρ1, b d (wipeE ρ vs) = some ρ1 ∧ T ks cs (fe ρ1) P) : T ks cs (cLc fi vs b yes fe ρ) (fun r => ∃ ys ds, D ds ∧ r = .list ys ∧ ys.length = ds.length ∧ ∀ y ∈ ys, P y) :=
  T_bind hf fun ds hd => by
    obtain ⟨h1, h2⟩ := hl ds hd
    exact T_imp (T_lcGo ds 0 [] (by omega) h2) fun r ⟨ys, e, l, p⟩ => ⟨ys, ds, hd, by simpa using e, l, p⟩
theorem args_fd {i : Nat} {f : En → M PyData} {ρ : En} {x : PyData} (e : ρ[i]? = some (some .fd)) (h : f ρ = pure x) : aF i (aD f aNil) ρ = pure [.fd, .d x] := by
  unfold aF getF
  rw [e]
  show (aD f aNil ρ >>= fun r => pure (Ag.fd :: r)) = _
  rw [d1_of h (show aNil ρ = pure [] from rfl), pure_b]
theorem T_call {F : Fn} {n : Nat} {fs : En → M (List Ag)} {ρ : En} {as : List Ag} {P : PyData → Prop} (h : fs ρ = pure as) (hn : as.length = n) (t : T ks cs (F as) P) : T ks cs (cFn (argN n F) fs ρ) P := by
  rw [fn_of' h hn]; exact t
theorem T_seq' {g h : En → M Fl} {ρ : En} {P : Fl → Prop} {Q : Fl → Prop} (hg : T ks cs (g ρ) P) (k : ∀ fl, P fl → T ks cs (match fl with | .nx ρ' => h ρ' | x => pure x) Q) : T ks cs (sSeq g h ρ) Q := T_seq hg k
end GM
end

section
set_option Elab.async false
set_option linter.all false
set_option maxRecDepth 100000
set_option maxHeartbeats 4100000
namespace GM
open PySem PySem.Spec PyProof.Rows L2 G
/-! ### what is shown is not too long -/
mutual
def okD : PyData → Bool
  | .none => true
  | .bool _ => true
  | .int i => decide (0 ≤ i ∧ i < 10 ^ 300)
  | .str _ => false
  | .list xs => okDs xs
  | .tuple xs => okDs xs
  | .dict _ => false
def okDs : List PyData → Bool
  | [] => true
  | x :: xs => okD x && okDs xs
end
mutual
def nod : PyData → Nat
  | .list xs => 1 + nods xs
  | .tuple xs => 1 + nods xs
  | _ => 1
def nods : List PyData → Nat
  | [] => 0
  | x :: xs => nod x + nods xs
end
theorem join_le (ts : List Str) : (Str.join ", " ts).length ≤ piled ts := by
  cases ts with
  | nil => show (Str.join ", " []).length ≤ _; decide
  | cons t r =>
    have := join_length_add (t :: r) (by simp)
    omega
theorem textFrom_le : ∀ (ts : List Str) (k : Nat) (acc : Str), (textFrom k acc ts).length ≤ acc.length + piled ts
  | [], k, acc => by show acc.length ≤ _; simp [piled_nil]
  | t :: r, k, acc => by
    have h := textFrom_le r (k + 1) (acc ++ (if k > 0 then ", " else "" : String) ++ t)
    have e : (acc ++ (if k > 0 then ", " else "" : String) ++ t).length ≤ acc.length + 2 + t.length := by
      rw [strLen_append]; rw [strLen_append]
      split
      · have : ((", " : String) : Str).length = 2 := rfl
        omega
      · have : (("" : String) : Str).length = 0 := rfl
        omega
    show Str.length (textFrom (k + 1) _ r) ≤ _
    rw [piled_cons]; omega
theorem listText_le (ts : List Str) : (listText ts).length ≤ piled ts + 2 := by
  unfold listText
  rw [strLen_append]
  have := textFrom_le ts 0 "["
  have e1 : (("[" : String) : Str).length = 1 := rfl
  have e2 : (("]" : String) : Str).length = 1 := rfl
  omega
theorem tupleText_le (ts : List Str) : (tupleText ts).length ≤ piled ts + 3 := by
  unfold tupleText
  rw [strLen_append]; rw [strLen_append]
  have := join_le ts
  have e1 : (("(" : String) : Str).length = 1 := rfl
  split
  · have : ((",)" : String) : Str).length = 2 := rfl
    omega
  · have : ((")" : String) : Str).length = 1 := rfl
    omega
theorem int_le {i : Int} (h0 : 0 ≤ i) (h1 : i < 10 ^ 300) : (PyData.int i).shown.length ≤ 300 := by
  have e : (PyData.int i).shown = Str.ofString (toString i) := by simp only [PyData.shown]
  rw [e]
  exact PyProof.Rows.toString_length_le h0 (by decide) h1
mutual
theorem shown_le : ∀ d : PyData, okD d = true → d.showable = true ∧ d.hasDict = false ∧ d.shown.length + 2 ≤ 310 * nod d
  | .none, _ => ⟨by simp [PyData.showable], by simp [PyData.hasDict], by simp only [PyData.shown, nod]; decide⟩
  | .bool b, _ => ⟨by simp [PyData.showable], by simp [PyData.hasDict], by cases b <;> simp only [PyData.shown, nod] <;> decide⟩
  | .int i, h => by
    have h' := of_decide_eq_true (show decide (0 ≤ i ∧ i < 10 ^ 300) = true from h)
    refine ⟨?_, by simp [PyData.hasDict], ?_⟩
    · have : i.natAbs.log2 < 1920 := by
        by_cases z : i.natAbs = 0
        · rw [z]; decide
        · have z3 : i.natAbs < 2 ^ 1000 := Nat.lt_of_lt_of_le (show i.natAbs < 10 ^ 300 by omega) (by decide +kernel)
          have z2 : i.natAbs.log2 < 1000 := (Nat.log2_lt z).mpr z3
          omega
      simpa [PyData.showable] using this
    · have := int_le h'.1 h'.2
      show _ + 2 ≤ 310 * 1
      omega
  | .str _, h => by cases h
  | .list xs, h => by
    obtain ⟨h1, h2, h3⟩ := shown_les xs h
    refine ⟨by simpa [PyData.showable] using h1, by simpa [PyData.hasDict] using h2, ?_⟩
    have e : (PyData.list xs).shown = listText (PyData.shownAll xs) := by simp only [PyData.shown]
    have := listText_le (PyData.shownAll xs)
    rw [e]
    show _ ≤ 310 * (1 + nods xs)
    omega
  | .tuple xs, h => by
    obtain ⟨h1, h2, h3⟩ := shown_les xs h
    refine ⟨by simpa [PyData.showable] using h1, by simpa [PyData.hasDict] using h2, ?_⟩
    have e : (PyData.tuple xs).shown = tupleText (PyData.shownAll xs) := by simp only [PyData.shown]
    have := tupleText_le (PyData.shownAll xs)
    rw [e]
    show _ ≤ 310 * (1 + nods xs)
    omega
  | .dict _, h => by cases h
theorem shown_les : ∀ xs : List PyData, okDs xs = true → PyData.showableAll xs = true ∧ PyData.hasDictAll xs = false ∧ piled (PyData.shownAll xs) ≤ 310 * nods xs
  | [], _ => ⟨by simp [PyData.showableAll], by simp [PyData.hasDictAll], by simp [PyData.shownAll, piled_nil, nods]⟩
  | x :: xs, h => by
    have h' := Bool.and_eq_true_iff.mp (show (okD x && okDs xs) = true from h)
    obtain ⟨a1, a2, a3⟩ := shown_le x h'.1
    obtain ⟨b1, b2, b3⟩ := shown_les xs h'.2
    refine ⟨by simp [PyData.showableAll, a1, b1], by simp [PyData.hasDictAll, a2, b2], ?_⟩
    have e : PyData.shownAll (x :: xs) = x.shown :: PyData.shownAll xs := by simp only [PyData.shownAll]
    rw [e, piled_cons]
    show _ ≤ 310 * (nod x + nods xs)
    omega
end
theorem okDs_all {xs : List PyData} : okDs xs = true ↔ ∀ x ∈ xs, okD x = true := by
  induction xs with
  | nil => simp [okDs]
  | cons a l ih => simp [okDs, ih]
theorem nods_le {xs : List PyData} {m : Nat} (h : ∀ x ∈ xs, nod x ≤ m) : nods xs ≤ xs.length * m := by
  induction xs with
  | nil => simp [nods]
  | cons a l ih =>
    have h1 := h a List.mem_cons_self
    have h2 := ih fun x hx => h x (List.mem_cons_of_mem _ hx)
    simp only [nods, List.length_cons, Nat.succ_mul]; omega
theorem depthAll_le {xs : List PyData} {m : Nat} (h : ∀ x ∈ xs, x.depth ≤ m) : PyData.depthAll xs ≤ m := by
  induction xs with
  | nil => simp [PyData.depthAll]
  | cons a l ih =>
    simp only [PyData.depthAll]
    exact Nat.max_le.mpr ⟨h a List.mem_cons_self, ih fun x hx => h x (List.mem_cons_of_mem _ hx)⟩
theorem gRepr_ok {d : PyData} (hl : (∃ xs, d = .list xs) ∨ ∃ xs, d = .tuple xs) (h1 : okD d = true) (h2 : d.depth ≤ 100) (h3 : nod d ≤ 50000) : gRepr d = some (.str d.shown) := by
  obtain ⟨a1, a2, a3⟩ := shown_le d h1
  have h4 : d.shown.length ≤ 16777216 := by omega
  rcases hl with ⟨xs, rfl⟩ | ⟨xs, rfl⟩
  · unfold gRepr
    simp [a1, a2, h2, h4]
  · unfold gRepr
    simp [a1, a2, h2, h4]
/-! what is shown has signs that there are -/
theorem sOk_of (s : String) : PyData.strOk (Str.ofString s) = true := by
  rw [Str.ofString_eq_toList]
  unfold PyData.strOk
  simp only [List.all_toArray, List.all_map, List.all_eq_true]
  intro c _
  have h := c.valid
  show decide (c.toNat < 1114112) = true
  refine decide_eq_true ?_
  have : c.toNat = c.val.toNat := rfl
  rcases h with h | h <;> omega
theorem sOk_app {a b : Str} (h1 : PyData.strOk a = true) (h2 : PyData.strOk b = true) : PyData.strOk (a ++ b) = true := by
  have e : PyData.strOk (a ++ b) = (PyData.strOk a && PyData.strOk b) := by
    unfold PyData.strOk
    show ((a.cps ++ b.cps).all _) = _
    rw [Array.all_append]
  rw [e, h1, h2]; rfl
theorem sOk_join : ∀ ts : List Str, (∀ t ∈ ts, PyData.strOk t = true) → PyData.strOk (Str.join ", " ts) = true
  | [], _ => sOk_of ""
  | [x], h => h x List.mem_cons_self
  | x :: y :: r, h => by
    show PyData.strOk (x ++ (Str.ofString ", ") ++ Str.join ", " (y :: r)) = true
    exact sOk_app (sOk_app (h x List.mem_cons_self) (sOk_of ", ")) (sOk_join (y :: r) fun t ht => h t (List.mem_cons_of_mem _ ht))
theorem sOk_from : ∀ (ts : List Str) (k : Nat) (acc : Str), PyData.strOk acc = true → (∀ t ∈ ts, PyData.strOk t = true) → PyData.strOk (textFrom k acc ts) = true
  | [], k, acc, h, _ => h
  | t :: r, k, acc, h, ht => sOk_from r (k + 1) _ (sOk_app (sOk_app h (sOk_of _)) (ht t List.mem_cons_self)) fun u hu => ht u (List.mem_cons_of_mem _ hu)
mutual
theorem sOk_shown : ∀ d : PyData, okD d = true → PyData.strOk d.shown = true
  | .none, _ => by simp only [PyData.shown]; exact sOk_of _
  | .bool b, _ => by cases b <;> simp only [PyData.shown] <;> exact sOk_of _
  | .int i, _ => by simp only [PyData.shown]; exact sOk_of _
  | .str _, h => by cases h
  | .list xs, h => by
    have e : (PyData.list xs).shown = listText (PyData.shownAll xs) := by simp only [PyData.shown]
    rw [e]
    exact sOk_app (sOk_from _ _ _ (sOk_of "[") (sOk_all xs h)) (sOk_of "]")
  | .tuple xs, h => by
    have e : (PyData.tuple xs).shown = tupleText (PyData.shownAll xs) := by simp only [PyData.shown]
    rw [e]
    exact sOk_app (sOk_app (sOk_of "(") (sOk_join _ (sOk_all xs h))) (sOk_of _)
  | .dict _, h => by cases h
theorem sOk_all : ∀ xs : List PyData, okDs xs = true → ∀ t ∈ PyData.shownAll xs, PyData.strOk t = true
  | [], _, t, ht => by simp [PyData.shownAll] at ht
  | x :: xs, h, t, ht => by
    have h' := Bool.and_eq_true_iff.mp (show (okD x && okDs xs) = true from h)
    have e : PyData.shownAll (x :: xs) = x.shown :: PyData.shownAll xs := by simp only [PyData.shownAll]
    rw [e] at ht
    rcases List.mem_cons.mp ht with z | z
    · rw [z]; exact sOk_shown x h'.1
    · exact sOk_all xs h'.2 t z
end
theorem eq_str {s : Str} (h : PyData.strOk s = true) : gEqD (.str s) (.str s) = some (.bool true) := by
  unfold gEqD SeqAt.shaped
  simp [PyData.canLay0, PyData.depth, PyData.eqv, h]
theorem ne_str {s : Str} (h : PyData.strOk s = true) : gNeD (.str s) (.str s) = some (.bool false) := by
  unfold gNeD SeqAt.shaped
  simp [PyData.canLay0, PyData.depth, PyData.eqv, h]
end GM
end

section
set_option Elab.async false
set_option linter.all false
set_option maxRecDepth 100000
set_option maxHeartbeats 4100000
namespace G
open L2 PySem.Spec PyProof.Rows PySem
variable [LamT]
section
variable {X : Cx} {pos : Pos}
/-! ### what is drawn from as a list: its four items read, three stored -/
def Fk.ix : Fk → Nat
  | .cells => 0
  | .place => 1
  | .rest => 2
  | .turn => 3
def Fd.its (q : Pt) (S : Fd) : List V := [.ref q.c, .int S.place, .int S.rest, .int S.turn]
theorem feedO_l {q : Pt} {S : Fd} (h : S.ks = .l) : feedO q S = .lst (S.its q) := by
  unfold feedO
  rw [h]
  rfl
theorem feed_getL {q : Pt} {S : Fd} (k : Fk) : ∃ v, (S.its q)[k.ix]? = some v ∧ (∀ (K : PySem.W.Frag) (av : List Addr) (H : Hp), FeedAt av q S H → Dx K (msk av H) v (k.val S)) := by
  cases k
  · exact ⟨_, rfl, fun K av H f => .lst (msk_of f.2.1 f.2.2.2.1) (dxs_ints _)⟩
  all_goals exact ⟨_, rfl, fun K av H f => .int _⟩
theorem atI_its {q : Pt} {S : Fd} {k : Fk} {v : V} (h : (S.its q)[k.ix]? = some v) : atI (S.its q) (k.ix : Int) = some v := by
  cases k <;> exact h
theorem d_fgetL {x : Str} {px pc : Pos} {j : Nat} {n : Int} (k : Fk) (i : Nat) (hn : n = (k.ix : Int) := by rfl) (hN : X.N[i]? = some x := by rfl) (hv : Vis X.env.scope x := by first | exact Or.inl rfl | exact Or.inr (Or.inl rfl) | exact Or.inr (Or.inr rfl)) (hdb : (x == ("__debug__" : Str)) = false := by decide) (hcd : (x == ("__classdict__" : Str)) = false := by decide) (hs : PlainIx (.Constant (.int n) j pc) := by exact fun _ _ => rfl) :
    PD X (.Subscript (.Name x px) (.Constant (.int n) j pc) pos) (cFget .l i k) := PE_imp (pe_ix ix_seq (pe_var hN hv hdb hcd) pe_int hs) fun σ H Q ⟨av, q, ρ, S, A, p⟩ => by
  obtain ⟨e1, p⟩ := getF_post (post_bind p)
  obtain ⟨v, e2, rfl⟩ := A.slot i _ e1
  have p' : R.post (if S.ks = .l then R.ok (k.val S) S else R.bad) (fun d S' => ∀ v H', Ext (mv q) H H' → FeedAt av q S' H' → Dx X.K (msk av H') v d → Q v H') (xE X.K (wa (wx X) σ) av q H) := p
  split at p'
  · rename_i he
    obtain ⟨v, hv1, hv2⟩ := feed_getL (q := q) (S := S) k
    refine ⟨_, e2, ?_⟩
    subst hn
    exact .inl ⟨_, _, _, v, rfl, rfl, SqL.of (by rw [A.feed.2.2.1, feedO_l he]), atI_its hv1, p' v H (Ext.refl H) A.feed (hv2 _ _ _ A.feed)⟩
  · exact False.elim p'
theorem its_put {q : Pt} {S : Fd} {n : Int} {k : Fk} (hk : k ≠ .cells) : (S.its q).set k.ix (.int n) = (k.put S n).its q := by
  cases k
  · exact absurd rfl hk
  all_goals rfl
theorem s_fputL {x : Str} {px pc tpos : Pos} {j : Nat} {n0 : Int} {e : Expr} {f : En → M PyData} (k : Fk) (i : Nat) (he : PD X e f) (hkc : k ≠ .cells := by decide) (hn : n0 = (k.ix : Int) := by rfl) (hN : X.N[i]? = some x := by rfl) (hv : Vis X.env.scope x := by first | exact Or.inl rfl | exact Or.inr (Or.inl rfl) | exact Or.inr (Or.inr rfl)) (hdb : (x == ("__debug__" : Str)) = false := by decide) (hcd : (x == ("__classdict__" : Str)) = false := by decide)
    (hs : swapsWithSole [.Subscript (.Name x px) (.Constant (.int n0) j pc) tpos] e pos.line X.env = pure false := by rfl) (hw : swappedStores [.Subscript (.Name x px) (.Constant (.int n0) j pc) tpos] e X.env = pure none := by rfl) (h1 : (assignEach [.Subscript (.Name x px) (.Constant (.int n0) j pc) tpos] X.env).map (·.2) = [assign (.Subscript (.Name x px) (.Constant (.int n0) j pc) tpos) X.env] := by rfl) (hpi : ∀ v, assign (.Subscript (.Name x px) (.Constant (.int n0) j pc) tpos) X.env v = (do let ov ← holding [v] (eval (.Name x px) X.env); let iv ← holding [v, ov] (eval (.Constant (.int n0) j pc) X.env); standAt tpos; holding [v, ov, iv] (setItem ov iv v); release [v, ov, iv] []) := by exact fun _ => rfl) :
    PSD X (.Assign [.Subscript (.Name x px) (.Constant (.int n0) j pc) tpos] e pos) (sFput .l i k f) := PS_imp (ps_asg he (pg_sub (pe_var hN hv hdb hcd) pe_int set_list hpi) hs hw h1) fun D σ H ⟨H0, av0, x0, av, q, ρ, S, W, p⟩ => by
  refine tE_stepS W p fun d S1 v H1 p1 e1 A1 d1 => ?_
  obtain ⟨g1, p1⟩ := getF_post (post_bind p1)
  obtain ⟨w, g2, rfl⟩ := A1.slot i _ g1
  have W1 := W.ext e1 A1
  cases d with
  | int n =>
    cases d1
    have p1' : R.post (if S1.ks = .l then R.ok (Fl.nx ρ) (k.put S1 n) else R.bad) (flP X.K H0 av0 x0 q D) (flX X.K (wx X) H0 av0 x0 q) := p1
    split at p1'
    · rename_i hS
      have pp : flP X.K H0 av0 x0 q D (.nx ρ) (k.put S1 n) := p1'
      have f1 := A1.feed
      have hq : H1 q.a = some (.lst (S1.its q)) := by rw [f1.2.2.1, feedO_l hS]
      have hS2 : (k.put S1 n).ks = .l := by cases k <;> exact hS
      have put := its_put (q := q) (S := S1) (n := n) hkc
      refine ⟨_, g2, q.a, _, (k.ix : Int), k.ix, rfl, by rw [hn], hq, by cases k <;> rfl, pp av σ _ ?_⟩
      rw [put, ← feedO_l hS2]
      have eE : Ext (mv q) H1 (upd H1 q.a (feedO q (k.put S1 n))) := fun b o nb hb => by
        rw [upd_ne fun z => nb (by rw [z]; exact List.mem_cons_self)]; exact hb
      have hcells : (k.put S1 n).cells = S1.cells := by cases k <;> rfl
      have ne : q.c ≠ q.a := fun z => f1.2.1 (by rw [z]; exact f1.a_in)
      have f2 : FeedAt av q (k.put S1 n) (upd H1 q.a (feedO q (k.put S1 n))) := ⟨f1.1, f1.2.1, upd_same, by rw [upd_ne ne, hcells]; exact f1.2.2.2.1, feed_tabs f1⟩
      exact W1.ext eE (A1.ext eE f2)
    · exact False.elim p1'
  | _ => exact False.elim p1
end
end G
end

section
set_option Elab.async false
set_option linter.all false
set_option maxRecDepth 100000
set_option maxHeartbeats 4100000
namespace G
open L2 PySem.Spec PyProof.Rows PySem
/-! ### set comprehensions, whatever is gathered -/
/-- a way to speak of a set that grows: its states, how it stands in the heap, the empty one, what a new member makes of it -/
structure Gather (P : Program) (w : World) (K : PySem.W.Frag) where
  β : Type
  ob : Addr → β → HO
  z : β
  more : β → V → Hp → (β → Prop) → Prop
  start : ∀ {H : Hp} {h : Heap}, ObjOk P w H (h.push { cls := .type "set", dict := none, data := .set #[] 0 (.fresh 0 0 (!w.params.followText "set-order")) }) h.objs.size (ob h.objs.size z)
  add : ∀ {X : Cx} {pins : List (Addr × Obj)} {σ : L2.St} {H : Hp} {s : Shared} {E : Value → Shared → Prop} {D : Addr} {b : β} {y : V} {u : Value} {κ : β → Prop} {Q : Value → Shared → Prop},
    X.prog = P → X.w = w → X.K = K → Inv X pins σ H s → H D = some (ob D b) → RelV y u → more b y H κ → (∀ s' b', κ b' → Inv X pins σ (upd H D (ob D b')) s' → Q .none s') →
    wpAny (model X.prog X.w) X.A (call (.builtin "set.add") [.ref D, u]) Q E s
  sep : ∀ {X : Cx} {pins : List (Addr × Obj)} {σ : L2.St} {H : Hp} {s : Shared} {D : Addr} {b : β}, X.prog = P → X.w = w → Inv X pins σ H s → H D = some (ob D b) → ∀ x, ob D b ≠ LamX.CodeO D x
section
variable {X : Cx}
/-- what is asked: the walk, and at each turn the target, the tests, the element, the set with it -/
def tGa (Γ : Gather X.prog X.w X.K) (wi : TI) (g : TG) (tt : TT) (te : TE) (vs : List Nat) : TE := fun σ H Q =>
  wi σ H fun J H1 => ∀ D, H1 D = none → ∃ W : Nat → Nat → Hp → Prop, (∃ m, W 0 m (upd H1 D (Γ.ob D Γ.z))) ∧
    ∀ i m H, W i m H → (J.stop i H ∧ Q (.ref D) H) ∨
      (J.go i H ∧ ∃ Nx : Hp → Prop, (∀ H', Nx H' → ∃ m', m' < m ∧ W (i + 1) m' H') ∧
        ∀ x H', J.yld i H x H' → g x (L2.wipe σ vs) H' fun σ2 H2 => L2.wipe σ2 vs = L2.wipe σ vs ∧
          tt σ2 H2 fun c H3 => if c = true then te σ2 H3 fun y H4 => ∃ b : Γ.β, H4 D = some (Γ.ob D b) ∧ ((∀ x, Γ.ob D b ≠ LamX.CodeO D x) → Γ.more b y H4 (fun b' => Nx (upd H4 D (Γ.ob D b')))) else Nx H3)
theorem ga_core {Γ : Gather X.prog X.w X.K} {elt tg iter : Expr} {ifs : List Expr} {scope : Scope} {own : List (PySem.Str × Nat)} {pos pos' : Pos} {wi : TI} {g : TG} {tt : TT} {te : TE}
    {pinsₐ : List (Addr × Obj)} {sₐ : Shared} {σₐ : L2.St} {Hₐ : Hp} {Qₐ : VK} {use : Option (Value → Sem Unit)} {Qf : Value → Shared → Prop}
    (hc : X.calm = true) (hN : X.N.Nodup) (Iₐ : Inv X pinsₐ σₐ Hₐ sₐ) (hi : PI X tg iter wi) (ok : BlkOk X.N X.env.scope scope own)
    (hg : ∀ s H C cl fp, PG (X.blk s H scope (compEnvC scope cl C X.env) fp) tg g) (ht : ∀ s H C cl fp, PTs (X.blk s H scope (compEnvC scope cl C X.env) fp) ifs tt)
    (he : ∀ s H C cl fp, PE (X.blk s H scope (compEnvC scope cl C X.env) fp) elt te) (hs : ∀ x, foldedSetIterable iter X.env x = pure x)
    (hₐ : tGa Γ wi g tt te (own.map (·.2)) σₐ Hₐ Qₐ)
    (fin : ∀ D C s' m H', Inv X pinsₐ σₐ H' s' → Qₐ (.ref D) H' → s'.heap.Ns C m → FpOk X pinsₐ H' C → compPost (model X.prog X.w) X.A X.xe use Qf (.ref D) C (.ok .next) s') :
    wpAny (model X.prog X.w) X.A (comprehension (.SetComp elt [⟨tg, iter, ifs, 0⟩] scope pos) scope X.env pos' (newSet (.type "set")) false (eval iter X.env) use) Qf X.xe sₐ := by
  have frees : ∀ y ∈ scope.names, y.2 = .free → ∃ c, X.env.cells.lookup y.1 = some c := fun y hy e => (ok.free y hy e).elim (fun k => Iₐ.ok.has _ (.inl k)) fun k => Iₐ.ok.has _ (.inr k)
  refine wpAny_comprehension_free (use := use) rfl hs (closure_ok frees) ok.kind (fun y hy e => by rw [ok.uniq y hy, e]) (thn (hi.run pinsₐ sₐ σₐ Hₐ _ Iₐ hₐ) fun xv s1 hx => thn hx fun itv s2 h2 => ?_)
  obtain ⟨it, fp, tn, J, H2, e0, I2, T, st2, f2, q⟩ := h2
  subst e0
  refine PpSet.newSet_ok (newEnv_comp ?_)
  generalize eD : s2.heap.objs.size = D
  have freeD : H2 D = none := I2.hok.fresh (Nat.le_of_eq eD)
  obtain ⟨W, ⟨m0, w0⟩, turn⟩ := q D freeD
  generalize e3 : ({ s2 with heap := s2.heap.push { cls := .type "set", dict := none, data := .set #[] 0 (.fresh 0 0 (!X.w.params.followText "set-order")) } } : Shared) = s3
  have I3 : Inv X pinsₐ σₐ (upd H2 D (Γ.ob D Γ.z)) s3 := by
    rw [← e3]
    refine I2.laid (t' := s2.toks) (fun _ _ z => Heap.get?_push_of_some _ z) (Nat.le_of_eq eD) ?_
    rw [← eD]
    exact Γ.start
  have h3 : s3.heap = s2.heap.push { cls := .type "set", dict := none, data := .set #[] 0 (.fresh 0 0 (!X.w.params.followText "set-order")) } := by rw [← e3]
  have less : ∀ b ∈ fp, b < s2.heap.objs.size := fun b hb => let ⟨_, z, _⟩ := T.obj _ _ st2 b hb; Heap.lt_size z
  have f3 : ∀ b ∈ fp, FpOk X pinsₐ (upd H2 D (Γ.ob D Γ.z)) b ∧ b < s3.heap.objs.size := fun b hb => by
    have l := less b hb
    refine ⟨⟨?_, (f2 b hb).2⟩, by rw [h3, Heap.size_push]; exact Nat.lt_succ_of_lt l⟩
    rw [upd_ne (by rw [← eD]; exact Nat.ne_of_lt l)]
    exact (f2 b hb).1
  have st3 : tn 0 s3.heap := T.keep _ _ _ st2 fun _ _ _ z => by rw [h3]; exact Heap.get?_push_of_some _ z
  have I4 := block_start I3 ok hN f3
  have pg := hg s3 (upd H2 D (Γ.ob D Γ.z)) s3.heap.objs.size (cellsFrom (s3.heap.objs.size + 1) scope.names (cloFrom X.env.cells scope.names [])) fp
  have pt := ht s3 (upd H2 D (Γ.ob D Γ.z)) s3.heap.objs.size (cellsFrom (s3.heap.objs.size + 1) scope.names (cloFrom X.env.cells scope.names [])) fp
  have pe := he s3 (upd H2 D (Γ.ob D Γ.z)) s3.heap.objs.size (cellsFrom (s3.heap.objs.size + 1) scope.names (cloFrom X.env.cells scope.names [])) fp
  show codeAny _ _ (.compStart (.SetComp elt [⟨tg, iter, ifs, 0⟩] scope pos) 0 (.ref it) (.ref D) (compEnvC scope (cellsFrom (s3.heap.objs.size + 1) scope.names (cloFrom X.env.cells scope.names [])) s3.heap.objs.size X.env)) (compPost (model X.prog X.w) X.A X.xe use Qf (.ref D) s3.heap.objs.size) { s3 with heap := pushCells (s3.heap.push { cls := .type "dict", data := .dict #[] }) scope.names }
  have nofp : ∀ b ∈ fp, (upd H2 D (Γ.ob D Γ.z)) b = none := fun b hb => (f3 b hb).1.1
  generalize ec : compEnvC scope (cellsFrom (s3.heap.objs.size + 1) scope.names (cloFrom X.env.cells scope.names [])) s3.heap.objs.size X.env = ce at I4 pg pt pe ⊢
  have ecL : ce.locals = s3.heap.objs.size := by rw [← ec]; rfl
  generalize eH : upd H2 D (Γ.ob D Γ.z) = H3 at I3 I4 pg pt pe w0 nofp f3
  generalize e4 : ({ s3 with heap := pushCells (s3.heap.push { cls := .type "dict", data := .dict #[] }) scope.names } : Shared) = s4 at I4 ⊢
  have st4 : tn 0 s4.heap := T.keep _ _ _ st3 fun _ _ _ z => by rw [← e4]; exact pushCells_keeps _ _ _ _ (Heap.get?_push_of_some _ z)
  have own1 : ∀ {σ' : L2.St} {H' : Hp} {s' : Shared}, Inv (X.blk s3 H3 scope ce fp) [] σ' H' s' → (∀ b ∈ fp, H' b = none) → ∀ b ∈ fp, FpOk (X.blk s3 H3 scope ce fp) [] H' b := fun {σ' H' s'} I' hn b hb =>
    ⟨hn b hb, (I'.ok.exf b hb).1, I'.ok.exfs b hb, .inl hb, fun x c z => (I'.ok.exf b hb).2 x c z, fun p hp => absurd (show p ∈ ([] : List (Addr × Obj)) ++ [] from hp) (by simp)⟩
  have loop : codeAny (model X.prog X.w) X.A (.compLoop (.SetComp elt [⟨tg, iter, ifs, 0⟩] scope pos) 0 (.ref it) (.ref D) ce) (compPost (model X.prog X.w) X.A X.xe use Qf (.ref D) s3.heap.objs.size) s4 := by
    refine PpSet.compLoopS_any (fun n s' => ∃ i H', Inv (X.blk s3 H3 scope ce fp) [] (L2.wipe σₐ (own.map (·.2))) H' s' ∧ tn i s'.heap ∧ (∀ b ∈ fp, H' b = none) ∧ W i n H') ?_ m0 ⟨0, H3, I4, st4, nofp, w0⟩
    rintro n s5 ⟨i, H5, I5, st5, n5, w5⟩
    rcases turn i n H5 w5 with ⟨stop, qq⟩ | ⟨go, Nx, hNx, step⟩
    · refine thnF (T.done (X.blk s3 H3 scope ce fp) rfl rfl rfl hc i [] s5 _ H5 (fun _ _ => False) I5 (own1 I5 n5) st5 stop) fun r s6 ⟨hr, I6⟩ => ?_
      subst hr
      have I7 : Inv X pinsₐ σₐ H5 s6 := I3.call' (ch := fp) I6.os I6.base I6.hok I6.bare fun b hb => let z := (f3 b hb).1.2; ⟨z.2.2.1, z.1, z.2.2.2.1, z.2.2.2.2⟩
      have nC : H5 s3.heap.objs.size = none := ecL ▸ (show H5 ce.locals = none from I6.free)
      obtain ⟨m, hn, _⟩ := I6.loc
      have hn' : s6.heap.Ns s3.heap.objs.size m := ecL ▸ (show s6.heap.Ns ce.locals m from hn)
      exact fin D s3.heap.objs.size s6 m H5 I7 qq hn' (I3.fpOk (Nat.le_refl _) nC)
    · refine thnF (T.item (X.blk s3 H3 scope ce fp) rfl rfl rfl hc i [] s5 _ H5 (fun _ _ => False) I5 (own1 I5 n5) st5 go) fun r s6 ⟨u, hr, h6⟩ => ?_
      subst hr
      refine thnF h6 fun _ s7 ⟨x, H7, I7, r7, y7, st7, n7⟩ => ?_
      have I8 := I7.pinned (own1 I7 n7) (T.obj _ _ st7)
      refine thnF (pg.run _ s7 _ H7 x u _ I8 r7 (step x H7 y7)) fun _ s8 ⟨σ8, H8, I9, w8, q8⟩ => ?_
      refine thnF (pt.run _ s8 σ8 H8 _ I9 q8) fun c s9 ⟨H9, I10, q9⟩ => ?_
      have again : ∀ {s' : Shared} {H' : Hp}, Inv (X.blk s3 H3 scope ce fp) ([] ++ pinsAt fp s7.heap) σ8 H' s' → Nx H' → ∃ m, m < n ∧ ∃ i H', Inv (X.blk s3 H3 scope ce fp) [] (L2.wipe σₐ (own.map (·.2))) H' s' ∧ tn i s'.heap ∧ (∀ b ∈ fp, H' b = none) ∧ W i m H' := fun {s' H'} I' nx => by
        obtain ⟨m', lt, w'⟩ := hNx H' nx
        have pinned : ∀ b ∈ fp, ∀ o, s7.heap.get? b = some o → s'.heap.get? b = some o ∧ H' b = none := fun b hb o z =>
          let y := I'.pin (b, o) (List.mem_append_right _ (List.mem_append_right _ (mem_pinsAt hb z))); ⟨y.1, y.2.1⟩
        have long : (L2.wipe σₐ (own.map (·.2))).length = σ8.length := by rw [← w8, wipe_length]
        exact ⟨m', lt, i + 1, H', (I'.unpinned (pins := [])).weak long (fun j v z => by rw [← w8] at z; exact (wipe_some z).1), T.keep _ _ _ st7 fun b hb o z => (pinned b hb o z).1, fun b hb => let ⟨o, z, _⟩ := T.obj _ _ st7 b hb; (pinned b hb o z).2, w'⟩
      cases c with
      | false =>
        simp only [Bool.false_eq_true, if_false] at q9 ⊢
        exact again I10 q9
      | true =>
        simp only [if_true] at q9 ⊢
        refine thnF (pe.run _ s9 σ8 H9 _ I10 q9) fun v s10 ⟨y, H10, I11, r10, b, hb, nx⟩ => ?_
        exact Γ.add (X := X.blk s3 H3 scope ce fp) rfl rfl rfl I11 hb r10 (nx (Γ.sep (X := X.blk s3 H3 scope ce fp) rfl rfl I11 hb)) fun s11 b' k I12 => again I12 k
  exact PpSet.codeAny_compStart_set loop (T.self X.A 0 _ _ _ st4 loop)
theorem pe_ga {Γ : Gather X.prog X.w X.K} {elt tg iter : Expr} {ifs : List Expr} {scope : Scope} {own : List (PySem.Str × Nat)} {pos : Pos} {wi : TI} {g : TG} {tt : TT} {te : TE} (hc : X.calm = true) (hN : X.N.Nodup) (hi : PI X tg iter wi) (ok : BlkOk X.N X.env.scope scope own)
    (hg : ∀ s H C cl fp, PG (X.blk s H scope (compEnvC scope cl C X.env) fp) tg g) (ht : ∀ s H C cl fp, PTs (X.blk s H scope (compEnvC scope cl C X.env) fp) ifs tt)
    (he : ∀ s H C cl fp, PE (X.blk s H scope (compEnvC scope cl C X.env) fp) elt te) (hs : ∀ x, foldedSetIterable iter X.env x = pure x := by intro _; rfl) :
    PE X (.SetComp elt [⟨tg, iter, ifs, 0⟩] scope pos) (tGa Γ wi g tt te (own.map (·.2))) := ⟨fun pins s σ H Q I h => by
  rw [PpSet.eval_SetComp]
  refine ga_core hc hN I hi ok hg ht he hs h fun D C s' m H' I' q hn f => ⟨m, hn, fun h'' sb => ?_⟩
  obtain ⟨f0, f1, f2, f3, f4, f5⟩ := f
  exact ⟨.ref D, H', I'.turned (t' := s'.toks) (fun b o hb e => (sb.2 b hb).trans e) f0 f1 f3 f4 f5, rfl, q⟩⟩
end
/-! ### of ints -/
def gaI (P : Program) (w : World) (K : PySem.W.Frag) : Gather P w K where
  β := (Int → Bool) × Nat
  ob a b := SetO w a b.1 b.2
  z := (fun _ => false, 0)
  more b y H κ := ∃ k : Int, y = .int k ∧ b.2 + 1 < scanBound ∧ κ (fun j => b.1 j || decide (j = k), if b.1 k = true then b.2 else b.2 + 1)
  start := setO_new (setR_fresh w)
  add {X pins σ H s E D b y u κ Q} hp hw hk I hD r m fin := by
    subst hp; subst hw
    obtain ⟨k, rfl, room, kk⟩ := m
    obtain ⟨tk, rfl⟩ := r
    refine setR_add (setO_get I hD) room fun h' sb new => ?_
    have ex : ∃ o, h'.get? D = some o := let ⟨o, _, _, _, ho, _⟩ := new; ⟨o, ho⟩
    exact fin _ _ kk (I.write (e := D) (t' := s.toks + 1) (by rw [hD]; trivial) (.inl rfl) (fun b u hb hu => (sb.2 b hb).trans hu) ex (setO_new new))
  sep {X pins σ H s D b} hp hw I hD x z := by
    subst hp; subst hw
    have y := (I.hok D _ hD).1
    obtain ⟨o, es, ep, t, ho, hx, hd, _⟩ := (show SetR X.w s.heap D b.1 b.2 from y)
    rw [z] at hD
    obtain ⟨oc, vs, tk, h1, h2, _⟩ := (I.hok D _ hD).1
    rw [ho] at h1
    cases h1
    rw [hd] at h2
    cases h2
end G
end

section
set_option Elab.async false
set_option linter.all false
set_option maxRecDepth 100000
set_option maxHeartbeats 4100000
namespace G
open L2 PySem.Spec PyProof.Rows PySem
variable [LamT]
/-! ### {elt for x in it if ..} of ints, where only its size or its order is asked -/
def gaGo (vs : List Nat) (b : PyData → En → Option En) (t : En → M Bool) (fe : En → M PyData) (ρ : En) : List PyData → List Int → M (List Int)
  | [], acc => pure acc
  | d :: ds, acc => match b d (wipeE ρ vs) with
    | none => bad
    | some ρ1 => sil (t ρ1) >>= fun c => if c then sil (fe ρ1) >>= fun y => (match y with
      | .int k => if Nat.blt acc.length 4000 then gaGo vs b t fe ρ ds (if acc.contains k then acc else acc ++ [k]) else bad
      | _ => bad) else gaGo vs b t fe ρ ds acc
def cGa (fi : En → M (List PyData)) (vs : List Nat) (b : PyData → En → Option En) (t : En → M Bool) (fe : En → M PyData) : En → M (List Int) := fun ρ => fi ρ >>= fun ds => gaGo vs b t fe ρ ds []
theorem at_putC {K : PySem.W.Frag} {av : List Addr} {q : Pt} {D : Addr} {ρ : En} {S : Fd} {σ : G.St} {H : Hp} {o' : HO} (A : At K av q ρ S σ H) (hin : D ∈ av) (n : NotOw ρ σ D) (hm : D ∉ mv q) (hD : ∀ c, H D ≠ some (LamX.CodeO D c)) : At K av q ρ S σ (upd H D o') where
  len := A.len
  slot := fun i s hs => by
    obtain ⟨v, h1, h2⟩ := A.slot i s hs
    have sm : Same (msk av H) (msk av (upd H D o')) := fun b o z => by
      obtain ⟨nb, z⟩ := msk_some z
      exact msk_of nb (by rw [upd_ne fun y => nb (by rw [y]; exact hin)]; exact z)
    refine ⟨v, h1, ?_⟩
    cases s with
    | im d => exact dp_same sm d v h2
    | ow l =>
      obtain ⟨p, ws, rfl, hp, hne, ho, ha⟩ := h2
      have hpD : p ≠ D := fun y => n i l hs (by rw [h1, y])
      exact ⟨p, ws, rfl, hp, hne, by rw [upd_ne hpD]; exact ho, dps_same sm l.1 ws ha⟩
    | fd => exact h2
    | xn a dd x => exact ⟨h2.1, h2.2.keep sm⟩
  inj := A.inj
  feed := feed_put A.feed hin hm hD
  trk := fun p hp => by
    by_cases z : p = D
    · rw [z]; exact ⟨_, upd_same⟩
    · rw [upd_ne z]; exact A.trk p hp
theorem at_newC {K : PySem.W.Frag} {av : List Addr} {q : Pt} {D : Addr} {ρ : En} {S : Fd} {σ : G.St} {H : Hp} {o : HO} (A : At K av q ρ S σ H) (hD : H D = none) : At K (D :: av) q ρ S σ (upd H D o) where
  len := A.len
  slot := fun i s hs => by
    obtain ⟨v, h1, h2⟩ := A.slot i s hs
    have sm : Same (msk av H) (msk (D :: av) (upd H D o)) := fun b o' z => by
      obtain ⟨n, z⟩ := msk_some z
      have nb : b ≠ D := ne_of_none z hD
      exact msk_of (by simp [n, nb]) (same_new hD b o' z)
    refine ⟨v, h1, ?_⟩
    cases s with
    | im d => exact dp_same sm d v h2
    | ow l =>
      obtain ⟨p, vs, rfl, hp, hne, ho, ha⟩ := h2
      exact ⟨p, vs, rfl, by simp [hp], hne, same_new hD _ _ ho, dps_same sm l.1 vs ha⟩
    | fd => exact h2
    | xn a dd x => exact ⟨h2.1, h2.2.keep sm⟩
  inj := A.inj
  feed := by
    obtain ⟨hq, hc, a, b, tt⟩ := A.feed
    exact ⟨fun p h => List.mem_cons_of_mem _ (hq p h), by simp [hc, ne_of_none b hD], same_new hD _ _ a, same_new hD _ _ b, tt.ext (same_new hD)⟩
  trk := fun p hp => by
    rcases List.mem_cons.mp hp with z | z
    · rw [z]; exact ⟨_, upd_same⟩
    · obtain ⟨o', h⟩ := A.trk p z
      exact ⟨o', same_new hD _ _ h⟩
/-- what is known of the set of the members ns at D -/
def GaAt (w : World) (D : Addr) (ns : List Int) (H : Hp) : Prop := H D = some (SetO w D (fun j => decide (j ∈ ns)) ns.length) ∧ ns.Nodup ∧ ns.length ≤ 4001
theorem more_set {ns : List Int} {k : Int} (hn : ns.Nodup) : ((fun j => decide (j ∈ ns) || decide (j = k), if decide (k ∈ ns) = true then ns.length else ns.length + 1) : (Int → Bool) × Nat) =
    (fun j => decide (j ∈ (if ns.contains k then ns else ns ++ [k])), (if ns.contains k then ns else ns ++ [k]).length) ∧ (if ns.contains k then ns else ns ++ [k]).Nodup := by
  by_cases h : k ∈ ns
  · have c : ns.contains k = true := List.contains_iff_mem.mpr h
    rw [if_pos c, if_pos (decide_eq_true h)]
    refine ⟨Prod.ext (funext fun j => ?_) rfl, hn⟩
    by_cases z : j = k
    · subst z; simp [h]
    · simp [z]
  · have c : ¬ ns.contains k = true := fun z => h (List.contains_iff_mem.mp z)
    rw [if_neg c, if_neg (fun z => h (of_decide_eq_true z))]
    refine ⟨Prod.ext (funext fun j => ?_) (by simp), ?_⟩
    · simp [List.mem_append]
    · exact List.nodup_append.mpr ⟨hn, by simp, fun x hx y hy => by rw [List.mem_singleton.mp hy]; exact fun z => h (z ▸ hx)⟩
theorem tGa_of {P : Program} {w : World} {K : PySem.W.Frag} {Wx : WX} {fi : En → M (List PyData)} {is vs0 : List Nat} {b : PyData → En → Option En} {t : En → M Bool} {fe : En → M PyData} (his : ∀ i ∈ is, i ∈ vs0) (σ : G.St) (H : Hp) (Qq : VK) {av : List Addr} {q : Pt} {ρ : En} {S : Fd} (A : At K av q ρ S σ H)
    (p : (cGa fi vs0 b t fe ρ S).post (fun ns S' => ∀ D H', Ext (mv q) H H' → FeedAt av q S' H' → GaAt w D ns H' → Qq (.ref D) H') (xE K (wa Wx σ) av q H))
    {X : Cx} (eP : X.prog = P) (eW : X.w = w) (eK : X.K = K) :
    tGa (X := X) (gaI X.prog X.w X.K) (tI K Wx fi) (tGd K is b) (tD K W0 t) (tE K W0 fe) vs0 σ H Qq := by
  subst eP; subst eW; subst eK
  refine ⟨av, q, ρ, S, A, R.post_imp (post_bind p) (fun ds S1 p1 J H1 e1 f1 wk => ?_) fun _ _ z => z⟩
  have A1 := A.ext e1 f1
  have hmv := A1.feed.1
  intro D hD
  have Hq : D ∉ mv q := fun z => by
    obtain ⟨o, h⟩ := A1.trk D (hmv D z)
    rw [hD] at h; cases h
  refine ⟨fun i m H' => m = ds.length - i ∧ i ≤ ds.length ∧ ∃ (S' : Fd) (ns : List Int), At X.K (D :: av) q ρ S' σ H' ∧ Ext (mv q) H1 H' ∧ GaAt X.w D ns H' ∧
      (gaGo vs0 b t fe ρ (ds.drop i) ns S').post (fun ns S' => ∀ D H', Ext (mv q) H H' → FeedAt av q S' H' → GaAt X.w D ns H' → Qq (.ref D) H') (xE X.K (wa Wx σ) av q H), ⟨ds.length, by simp, Nat.zero_le _, S1, [], at_newC A1 hD, Ext.new hD, ⟨?_, List.nodup_nil, Nat.zero_le _⟩, p1⟩, ?_⟩
  · rw [upd_same]
    show some (SetO X.w D (fun _ => false) 0) = _
    have e : (fun _ => false : Int → Bool) = fun j => decide (j ∈ ([] : List Int)) := funext fun j => by simp
    rw [e]; rfl
  rintro i m H' ⟨rfl, hi, S', ns, A', e', hns, p'⟩
  have w := wk (D :: av) H' (fun p h => by simp [h]) (fun p h n => by
    rcases (List.mem_cons.mp h) with z | z
    · rw [z]; exact hD
    · exact absurd z n) (e'.more hmv) A'.trk i
  by_cases hlt : i < ds.length
  · have hd : ds[i]? = some ds[i] := by simp [hlt]
    obtain ⟨go, y⟩ := w.1 _ hd
    have dr : ds.drop i = ds[i] :: ds.drop (i + 1) := by rw [List.drop_eq_getElem_cons hlt]
    rw [dr] at p'
    refine .inr ⟨go, fun H'' => ∃ (S' : Fd) (ns : List Int), At X.K (D :: av) q ρ S' σ H'' ∧ Ext (mv q) H1 H'' ∧ GaAt X.w D ns H'' ∧
      (gaGo vs0 b t fe ρ (ds.drop (i + 1)) ns S').post (fun ns S' => ∀ D H', Ext (mv q) H H' → FeedAt av q S' H' → GaAt X.w D ns H' → Qq (.ref D) H') (xE X.K (wa Wx σ) av q H), fun H'' h => ⟨ds.length - (i + 1), by omega, rfl, hlt, h⟩, fun x H2 yl => ?_⟩
    obtain ⟨sm, dx⟩ := y x H2 yl
    have A2 : At X.K (D :: av) q ρ S' σ H2 := A'.ext (Ext.of_same sm) (feed_same A'.feed sm)
    have p2 : (match b ds[i] (wipeE ρ vs0) with
      | none => bad
      | some ρ1 => sil (t ρ1) >>= fun c => if c then sil (fe ρ1) >>= fun y => (match y with
        | .int k => if Nat.blt ns.length 4000 then gaGo vs0 b t fe ρ (ds.drop (i + 1)) (if ns.contains k then ns else ns ++ [k]) else bad
        | _ => bad) else gaGo vs0 b t fe ρ (ds.drop (i + 1)) ns : M (List Int)) S' |>.post (fun ns S' => ∀ D H', Ext (mv q) H H' → FeedAt av q S' H' → GaAt X.w D ns H' → Qq (.ref D) H') (xE X.K (wa Wx σ) av q H) := p'
    cases hb : b ds[i] (wipeE ρ vs0) with
    | none => rw [hb] at p2; exact False.elim p2
    | some ρ1 =>
      rw [hb] at p2
      refine ⟨D :: av, q, wipeE ρ vs0, S', ds[i], A2.wipe _, dx, ρ1, hb, fun σ2 A3 hl ho _ => ?_⟩
      refine ⟨(wipe_off his hl ho).trans wipe_idem, ?_⟩
      have ext0 : ∀ {H3 : Hp}, Ext (mv q) H2 H3 → Ext (mv q) H H3 := fun {H3} e b o n hb => e b o n (sm b o (e' b o n (e1 b o n hb)))
      refine ⟨D :: av, q, ρ1, S', A3, R.post_imp (post_sil (post_bind p2)) (fun c S2 p3 H3 e3 f3 => ?_) fun _ _ z => z⟩
      have A4 := A3.ext e3 f3
      have B2 := A'.ext (Ext.of_same sm) (feed_same A'.feed sm)
      have B3 := B2.ext e3 A4.feed
      have v2 : H2 D = some (SetO X.w D (fun j => decide (j ∈ ns)) ns.length) := sm D _ hns.1
      have v3 : H3 D = some (SetO X.w D (fun j => decide (j ∈ ns)) ns.length) := e3 D _ Hq v2
      cases c with
      | true =>
        refine iteT ⟨D :: av, q, ρ1, S2, A4, R.post_imp (post_sil (post_bind p3)) (fun y S3 p4 v H4 e4 f4 d5 => ?_) fun _ _ z => z⟩
        have A5 := A4.ext e4 f4
        have v4 : H4 D = some (SetO X.w D (fun j => decide (j ∈ ns)) ns.length) := e4 D _ Hq v3
        have B4 := B3.ext e4 A5.feed
        cases y with
        | int k =>
          cases d5
          have p5 : ((if Nat.blt ns.length 4000 then gaGo vs0 b t fe ρ (ds.drop (i + 1)) (if ns.contains k then ns else ns ++ [k]) else bad : M (List Int)) S3).post (fun ns S' => ∀ D H', Ext (mv q) H H' → FeedAt av q S' H' → GaAt X.w D ns H' → Qq (.ref D) H') (xE X.K (wa Wx σ) av q H) := p4
          split at p5
          · rename_i hz
            have hz : ns.length < 4000 := by simpa [Nat.blt_eq] using hz
            have ms := more_set (k := k) hns.2.1
            refine ⟨(fun j => decide (j ∈ ns), ns.length), v4, fun sep => ⟨k, rfl, (by show ns.length + 1 < 4096; omega), ?_⟩⟩
            have nc : ∀ c, H4 D ≠ some (LamX.CodeO D c) := fun c z => sep c (Option.some.inj (v4.symm.trans z))
            have eo : (gaI X.prog X.w X.K).ob D (fun j => decide (j ∈ ns) || decide (j = k), if decide (k ∈ ns) = true then ns.length else ns.length + 1) = SetO X.w D (fun j => decide (j ∈ (if ns.contains k then ns else ns ++ [k]))) (if ns.contains k then ns else ns ++ [k]).length := by
              rw [ms.1]; rfl
            show ∃ S' ns', _
            refine ⟨S3, if ns.contains k then ns else ns ++ [k], at_putC B4 (by simp) (notOw_new A1 hD) Hq nc, ?_, ⟨?_, ms.2, ?_⟩, p5⟩
            · intro b o nb hb
              rw [upd_ne (ne_of_none hb hD)]
              exact e4 b o nb (e3 b o nb (sm b o (e' b o nb hb)))
            · rw [upd_same]; exact congrArg some eo
            · split
              · omega
              · rw [List.length_append]; simp; omega
          · exact False.elim p5
        | _ => exact False.elim p4
      | false =>
        refine iteF ⟨S2, ns, B3, ?_, ⟨v3, hns.2⟩, p3⟩
        intro b o nb hb
        exact e3 b o nb (sm b o (e' b o nb hb))
  · have e : i = ds.length := by omega
    subst e
    rw [List.drop_length] at p'
    have kk : ∀ D H', Ext (mv q) H H' → FeedAt av q S' H' → GaAt X.w D ns H' → Qq (.ref D) H' := p'
    exact .inl ⟨w.2 (Nat.le_refl _), kk D H' (e1.trans e') (A'.feed.less (fun p h => by simp [h]) hmv) hns⟩
end G
end

section
set_option Elab.async false
set_option linter.all false
set_option maxRecDepth 100000
set_option maxHeartbeats 4100000
namespace G
open L2 PySem.Spec PyProof.Rows PySem
variable [LamT]
/-! ### len({..}), sorted({..}) of ints; tuple(range(n)) -/
def rLenO (w : World) : List V → Hp → VK → Prop := fun xs H Q => ∃ D ns, xs = [V.ref D] ∧ GaAt w D ns H ∧ Q (.int ns.length) H
section
variable {X : Cx}
theorem cr_lenO : CallR X (.builtin "len") (rLenO X.w) := by
  intro pins s σ H xs us Q I r h
  obtain ⟨D, ns, rfl, ⟨h1, h2, h3⟩, q⟩ := h
  cases r with
  | cons r0 rt =>
    cases rt
    cases r0
    obtain ⟨o, es, ep, t, ho, hex, hd, hg, hnd, hm, hb, hf, hn, hr, hl⟩ := setO_get I h1
    exact call_len_set ho hex hd hf (by rw [hn]; omega) ⟨.int ns.length, H, I.tok _, ⟨_, by rw [hn]⟩, q⟩
def cLenGa (f : En → M (List Int)) : En → M PyData := fun ρ => f ρ >>= fun ns => pure (.int ns.length)
def cSortGa (f : En → M (List Int)) : En → M PyData := fun ρ => f ρ >>= fun ns => if ns.length < 64 then pure (.list ((asc ns).map PyData.int)) else bad
section
variable {elt tg iter : Expr} {ifs : List Expr} {scope : Scope} {own : List (Str × Nat)} {pos1 : Pos} {fi : En → M (List PyData)} {is : List Nat} {b : PyData → En → Option En} {t : En → M Bool} {fe : En → M PyData}
theorem d_lenGa {p pos : Pos} (hm : X.mg "len" = none) (hc : X.calm = true) (hN : X.N.Nodup) (hi : PID X tg iter fi) (ok : BlkOk X.N X.env.scope scope own)
    (hg : ∀ (s : Shared) (H : Hp) (C : Addr) (cl : List (Str × Addr)) (fp : List Addr), PGD (X.blk s H scope (compEnvC scope cl C X.env) fp) tg is b) (ht : ∀ (s : Shared) (H : Hp) (C : Addr) (cl : List (Str × Addr)) (fp : List Addr), PTsD (X.blk s H scope (compEnvC scope cl C X.env) fp) ifs t)
    (he : ∀ (s : Shared) (H : Hp) (C : Addr) (cl : List (Str × Addr)) (fp : List Addr), PD (X.blk s H scope (compEnvC scope cl C X.env) fp) elt fe) (his : ∀ i ∈ is, i ∈ own.map (·.2) := by decide) (hs : ∀ x, foldedSetIterable iter X.env x = pure x := by intro _; rfl)
    (hgl : Gl X "len" := by rfl) (na : starEach [Expr.SetComp elt [⟨tg, iter, ifs, 0⟩] scope pos1] X.env = (false, eval (Expr.SetComp elt [⟨tg, iter, ifs, 0⟩] scope pos1) X.env) :: starEach [] X.env := by rfl) (hpl : (backTo pos (starEach [] X.env)).any (·.1) = false := by rfl) :
    PD X (.Call (.Name "len" p) [.SetComp elt [⟨tg, iter, ifs, 0⟩] scope pos1] [] pos) (cLenGa (cGa fi (own.map (·.2)) b t fe)) :=
  PE_imp (pe_callB cr_lenO hgl hm boot_len (pa_cons (pe_ga (Γ := gaI X.prog X.w X.K) (g := tGd X.K is b) (tt := tD X.K W0 t) (te := tE X.K W0 fe) hc hN hi ok hg ht (fun s H C cl fp => (he s H C cl fp).w0) hs) pa_nil na) (by decide) (by decide) na hpl) fun σ H Q ⟨av, q, ρ, S, A, pp⟩ => by
    have r := tGa_of (X := X) his σ H (fun x H1 => rLenO X.w [x] H1 Q) A (R.post_imp (post_bind pp) (fun ns S1 p1 D H1 e1 f1 g1 => ⟨D, ns, rfl, g1, p1 _ H1 e1 f1 (.int _)⟩) fun _ _ z => z) rfl rfl rfl
    exact r
theorem d_sortGa {p pos : Pos} (hm : X.mg "sorted" = none) (hc : X.calm = true) (hN : X.N.Nodup) (hi : PID X tg iter fi) (ok : BlkOk X.N X.env.scope scope own)
    (hg : ∀ (s : Shared) (H : Hp) (C : Addr) (cl : List (Str × Addr)) (fp : List Addr), PGD (X.blk s H scope (compEnvC scope cl C X.env) fp) tg is b) (ht : ∀ (s : Shared) (H : Hp) (C : Addr) (cl : List (Str × Addr)) (fp : List Addr), PTsD (X.blk s H scope (compEnvC scope cl C X.env) fp) ifs t)
    (he : ∀ (s : Shared) (H : Hp) (C : Addr) (cl : List (Str × Addr)) (fp : List Addr), PD (X.blk s H scope (compEnvC scope cl C X.env) fp) elt fe) (his : ∀ i ∈ is, i ∈ own.map (·.2) := by decide) (hs : ∀ x, foldedSetIterable iter X.env x = pure x := by intro _; rfl)
    (hgl : Gl X "sorted" := by rfl) (na : starEach [Expr.SetComp elt [⟨tg, iter, ifs, 0⟩] scope pos1] X.env = (false, eval (Expr.SetComp elt [⟨tg, iter, ifs, 0⟩] scope pos1) X.env) :: starEach [] X.env := by rfl) (hpl : (backTo pos (starEach [] X.env)).any (·.1) = false := by rfl) :
    PD X (.Call (.Name "sorted" p) [.SetComp elt [⟨tg, iter, ifs, 0⟩] scope pos1] [] pos) (cSortGa (cGa fi (own.map (·.2)) b t fe)) :=
  PE_imp (pe_callB (cr_sortedSet hc) hgl hm (by decide +kernel) (pa_cons (pe_ga (Γ := gaI X.prog X.w X.K) (g := tGd X.K is b) (tt := tD X.K W0 t) (te := tE X.K W0 fe) hc hN hi ok hg ht (fun s H C cl fp => (he s H C cl fp).w0) hs) pa_nil na) (by decide) (by decide) na hpl) fun σ H Q ⟨av, q, ρ, S, A, pp⟩ => by
    have r := tGa_of (X := X) his σ H (fun x H1 => rSortedSet X.w [x] H1 Q) A (R.post_imp (post_bind pp) (fun ns S1 p1 D H1 e1 f1 g1 => by
      have p2 : ((if ns.length < 64 then pure (.list ((asc ns).map PyData.int)) else bad : M PyData) S1).post (fun d S' => ∀ v H', Ext (mv q) H H' → FeedAt av q S' H' → Dx X.K (msk av H') v d → Q v H') (xE X.K (wa (wx X) σ) av q H) := p1
      split at p2
      · rename_i h64
        refine ⟨D, _, _, rfl, g1.1, h64, fun ms c up mem _ hc' => ?_⟩
        have e : ms = asc ns := up_uniq up (asc_up ns) fun k => by rw [mem k, mem_asc]; simp
        subst e
        exact p2 _ _ (e1.trans (Ext.new hc')) (feed_same f1 (same_new hc')) (dp_newLst (A.ext e1 f1).trk hc' (ints_dx _))
      · exact False.elim p2) fun _ _ z => z) rfl rfl rfl
    exact r
end
def gRgT (x : PyData) : Option PyData := match x with
  | .int i => if decide (0 ≤ i ∧ i ≤ 16777216) then some (.tuple (rngD 0 i.toNat)) else none
  | _ => none
def tTupRgF (te : G.St → Hp → (Int → Int → Hp → Prop) → Prop) : TE := fun σ H Q => te σ H fun a b H1 => RgOk a b ∧ ∀ q o, H1 q = none → Pl o → Q (.ref q) (upd H1 q (.frz o (.tup (rgV a b))))
theorem pe_tupRgF {e : Expr} {te : G.St → Hp → (Int → Int → Hp → Prop) → Prop} {p pos : Pos} (hc : X.calm = true) (hg : Gl X "tuple") (hm : X.mg "tuple" = none) (he : PRg X e te) (na : starEach [e] X.env = (false, eval e X.env) :: starEach [] X.env := by rfl) : PE X (.Call (.Name "tuple" p) [e] [] pos) (tTupRgF te) :=
  ⟨fun pn sh env hp Q J hh => Call_ (ld_blt J hg hm boot_tuple (PyProof.Rows.callWith_type1 (PyProof.Rows.args_cons (thn (he pn sh env hp _ J hh) fun x s1 ⟨r, a, b, t, u, v, H1, ex, hr, J1, ok, q⟩ => PyProof.Rows.args_nil (by
    subst ex
    obtain ⟨b1, b2, b3, b4, b5⟩ := ok
    refine call_tuple_range (n := (b - a).toNat) (J1.ok.hd hc) hr (small_one b1 b2 b3 b4) (rangeSize_nat a b) b5 fun h' tk acc hk hi => ?_
    have J2 : Inv X pn env H1 { s1 with heap := h', toks := tk } := J1.kept hk
    have z := frz_ok (P := X.prog) (w := X.w) (H := H1) (h := h') (xs := rgV a b) (us := acc.toList) (by rw [rgV_length, sizeLine_eq]; omega) (vals_rg hi)
    rw [Array.toArray_toList] at z
    exact ⟨.ref h'.objs.size, upd H1 h'.objs.size (.frz { cls := .type "tuple", data := .seq acc } (.tup (rgV a b))), J2.laid (t' := tk) (fun c o e => Heap.get?_push_of_some _ e) (Nat.le_refl _) z, rfl, q _ _ (J2.hok.fresh (Nat.le_refl _)) ⟨rfl, rfl⟩⟩)) na) na))⟩
theorem d_tupRg {a : Expr} {f : En → M PyData} {p p2 pos pos2 : Pos} (hc : X.calm = true) (hm : X.mg "tuple" = none) (hm2 : X.mg "range" = none) (ha : PD X a f) (hg : Gl X "tuple" := by rfl) (hg2 : Gl X "range" := by rfl) (na : starEach [a] X.env = (false, eval a X.env) :: starEach [] X.env := by rfl)
    (nb : starEach [Expr.Call (.Name "range" p2) [a] [] pos2] X.env = (false, eval (Expr.Call (.Name "range" p2) [a] [] pos2) X.env) :: starEach [] X.env := by rfl) : PD X (.Call (.Name "tuple" p) [.Call (.Name "range" p2) [a] [] pos2] [] pos) (cUn gRgT f) :=
  PE_imp (pe_tupRgF hc hg hm (prg_1 hg2 hm2 ha na) nb) fun σ H Q ⟨av, q, ρ, S, A, p⟩ => by
    refine tE_step A p fun x S1 v H1 p1 e1 A1 d1 => ?_
    obtain ⟨d, hd, k⟩ := post_lift p1
    unfold gRgT at hd
    split at hd
    · split at hd
      · rename_i hh
        have hh := of_decide_eq_true hh
        cases hd; cases d1
        exact ⟨_, rfl, RgOk.of_le (by omega) hh.2 (by omega) hh.1, fun p o hp ho => k _ _ (e1.trans (Ext.new hp)) (feed_same A1.feed (same_new hp)) (dp_newTup A1.trk hp ho (rgV_dp _))⟩
      · cases hd
    · cases hd
/-! ### x[::-1] of a list or a tuple -/
def gRevS (x : PyData) : Option PyData := match x with
  | .tuple ds => some (.tuple ds.reverse)
  | .list ds => some (.list ds.reverse)
  | _ => none
theorem d_revS {e : Expr} {f : En → M PyData} {k : Nat} {p1 p2 p3 pos : Pos} (h : PD X e f) : PD X (.Subscript e (.Slice none none (some (.UnaryOp .USub (.Constant (.int 1) k p1) p2)) p3) pos) (cUn gRevS f) := by
  refine ⟨fun pn sh env hp Q J ⟨av, q, ρ, S, A, p⟩ => ?_⟩
  have p0 : (M.bind (f ρ) (fun x => lift (gRevS x)) S).post (fun d S' => ∀ v H', Ext (mv q) hp H' → FeedAt av q S' H' → Dx X.K (msk av H') v d → Q v H') (xE X.K (wa (wx X) env) av q hp) := p
  unfold M.bind at p0
  cases e0 : f ρ S with
  | bad => rw [e0] at p0; exact False.elim p0
  | ex x S1 =>
    rw [e0] at p0
    exact (pe_revT h).run pn sh env hp Q J ⟨av, q, ρ, S, A, by unfold wE; rw [e0]; exact p0⟩
  | ok d S1 =>
    rw [e0] at p0
    obtain ⟨d', hd, k⟩ := post_lift p0
    cases d with
    | tuple ds =>
      cases hd
      exact (pe_revT h).run pn sh env hp Q J ⟨av, q, ρ, S, A, by
        unfold wE; rw [e0]
        intro v H1 e1 f1 d1
        cases d1 with
        | tup hs hn hx => exact ⟨_, _, rfl, sqT_at hs, fun p o hp' ho => k _ _ (e1.trans (Ext.new hp')) (feed_same f1 (same_new hp')) (dp_newTup (A.ext e1 f1).trk hp' ho (dps_rev hx))⟩⟩
    | list ds =>
      cases hd
      exact (pe_revL h).run pn sh env hp Q J ⟨av, q, ρ, S, A, by
        unfold wE; rw [e0]
        intro v H1 e1 f1 d1
        cases d1 with
        | lst hs hx => exact ⟨_, _, rfl, SqL.of (msk_some hs).2, fun p hp' => k _ _ (e1.trans (Ext.new hp')) (feed_same f1 (same_new hp')) (dp_newLst (A.ext e1 f1).trk hp' (dps_rev hx))⟩⟩
    | _ => cases hd
end
end G
end

section
set_option Elab.async false
set_option linter.all false
set_option maxRecDepth 100000
set_option maxHeartbeats 4100000
namespace G
open L2 PySem.Spec PyProof.Rows PySem
variable [LamT]
/-! ### the law whose feed has counted no turn yet -/
def spFeed0 (K : PySem.W.Frag) (ks : Ks) : Sp := fun vs H Q _ => vs.length = 1 ∧ ∃ (a : Addr) (ns : List Int), vs = [.ref a] ∧ SqL K H a (ns.map V.int) ∧ ∀ (q : Pt) (S : Fd) (H' : Hp), S.ks = ks → S.turn = 0 → (∀ b ob, H b = some ob → H' b = some ob) → q.a ≠ q.c → H q.a = none → H q.c = none → H' q.a = some (feedO q S) → H' q.c = some (.lst (S.cells.map V.int)) → Q (.ref q.a) H'
/-- feed = _law_feed(script), rest -/
theorem fn_law0 {P : Program} {w : World} {K : PySem.W.Frag} {mg : Str → Option Value} {base : Heap} {st : Stmt} {fa ff : Addr} {fd fdf : FuncData} {N psf : List Str} {n k kf : Nat} {g : En → M Fl} {ks : Ks} {x fn : Str} {px pf pn cp ap : Pos} {rest : List Stmt} (F : Fun K "law" "law" st fa fd) (Sc : FnScope N ["_law_script"] (defScope st))
    (hb : defBody st = .Assign [.Name x px] (.Call (.Name fn pf) [.Name "_law_script" pn] [] cp) ap :: rest) (hN : N.length = n + 2) (hN0 : N[0]? = some ("_law_script" : Str)) (hN1 : N[1]? = some x) (hv0 : Vis (defScope st) "_law_script") (hl1 : Loc (defScope st) x)
    (gf : FnG P w K mg base kf ff fdf psf (spFeed0 K ks)) (hmf : mg fn = some (.ref ff)) (hkf : PySem.W.keepIn K (.ref ff) = true) (hbf : Binds K fdf psf []) (hkk : kf ≤ k)
    (hbody : ∀ (cdv : Value) (A : Around) (outer : List Env) (s : Shared) (H : Hp) (E : XK), RoomG k (A.deeper (envOfC "law" (defScope st) s.heap.objs.size fa cdv)) →
      PassesOwn (model P w) (cxOf (L2.CX P w) P w K mg base N "law" (defScope st) fa cdv A outer s H E).A (cxOf (L2.CX P w) P w K mg base N "law" (defScope st) fa cdv A outer s H E).env (cxOf (L2.CX P w) P w K mg base N "law" (defScope st) fa cdv A outer s H E).xe →
      PSsD (cxOf (L2.CX P w) P w K mg base N "law" (defScope st) fa cdv A outer s H E) rest g)
    (hpe : ∀ (cdv : Value) (A : Around) (outer : List Env) (s : Shared) (H : Hp) (E : XK), RoomG k (A.deeper (envOfC "law" (defScope st) s.heap.objs.size fa cdv)) →
      ∀ (te : TE) (t : TS), PE (cxOf (L2.CX P w) P w K mg base N "law" (defScope st) fa cdv A outer s H E) (.Call (.Name fn pf) [.Name "_law_script" pn] [] cp) te → PSs (cxOf (L2.CX P w) P w K mg base N "law" (defScope st) fa cdv A outer s H E) rest t →
        PSs (cxOf (L2.CX P w) P w K mg base N "law" (defScope st) fa cdv A outer s H E) (.Assign [.Name x px] (.Call (.Name fn pf) [.Name "_law_script" pn] [] cp) ap :: rest) (tSeq (tAsg te (gName 1)) t) ∧ Gl (cxOf (L2.CX P w) P w K mg base N "law" (defScope st) fa cdv A outer s H E) fn)
    (math : ∀ S : Fd, S.ks = ks → S.turn = 0 → ∃ S', g (rho0 n) S = .ok (.rt (.bool true)) S') (hfd : (fn == ("__debug__" : Str)) = false := by decide) : FnG P w K mg base (k + 1) fa fd ["_law_script"] (spLaw K) := by
  obtain ⟨oc, od, kV, doc, pm, an, cdv, ct, osl, rfl, lk, hcd⟩ := (F.ex)
  refine fn_ofG lk hcd Sc (fun vs H Q E h => h.1) fun A outer s H vs Q E hr h => ?_
  rw [hb]
  let X := cxOf (L2.CX P w) P w K mg base N "law" (defScope st) fa cdv A outer s H E
  have h0 : X.N[0]? = some ("_law_script" : Str) := hN0
  obtain ⟨hl, tabs, a, ns, rfl, hS, kQ⟩ := h
  have hk2 := hpe cdv A outer s H E hr
  -- the call's own reading
  have glf : Gl X fn := (hk2 (fun _ _ _ => False) (fun _ _ _ => False) ⟨fun _ _ _ _ _ _ h => h.elim⟩ ⟨fun _ _ _ _ _ _ h => h.elim⟩).2
  have pcall : PE X (.Call (.Name fn pf) [.Name "_law_script" pn] [] cp) (fun σ H Q => tCons (tVar 0) tNil σ H fun vs H1 => spFeed0 K ks vs H1 Q (wa (wx X) σ)) :=
    pe_fnG (X := X) gf (hr.mono hkk) hmf hkf hbf (pa_cons (pe_var h0 hv0 (by decide) (by decide)) pa_nil (by rfl)) glf hfd (by rfl) (by rfl)
  refine ⟨_, (hk2 _ _ pcall (hbody cdv A outer s H E hr (passes_of rfl))).1, ?_⟩
  have hstart : L2.start N [V.ref a] = some (V.ref a) :: List.replicate (n + 1) none := by
    unfold L2.start
    rw [hN]; rfl
  rw [hstart]
  refine ⟨_, rfl, rfl, a, ns, rfl, hS, fun q S H' hks hz hsub hne ha hc fa' fc => ?_⟩
  obtain ⟨S', hm⟩ := math S hks hz
  have tabs' : LamX.Tabs LamT.ts H' := tabs.ext hsub
  have tabN : ∀ r ∈ LamT.ts, ∃ o, H r.1 = some o := fun r hr => by
    obtain ⟨ps, h1, _⟩ := tabs r hr
    exact ⟨_, h1⟩
  have hnc : q.c ∉ mv q := fun z => by
    rcases List.mem_cons.mp z with y | y
    · exact hne y.symm
    · obtain ⟨r, hr, e⟩ := List.mem_map.mp y
      obtain ⟨o, ho⟩ := tabN r hr
      rw [e, hc] at ho
      cases ho
  have fq : FeedAt (mv q) q S H' := ⟨fun _ h => h, hnc, fa', fc, tabs'⟩
  have trk : ∀ p ∈ mv q, ∃ o, H' p = some o := fun p hp => by
    rcases List.mem_cons.mp hp with y | y
    · rw [y]; exact ⟨_, fa'⟩
    · obtain ⟨r, hr, e⟩ := List.mem_map.mp y
      obtain ⟨ps, h1, _⟩ := tabs' r hr
      rw [← e]; exact ⟨_, h1⟩
  have hAt : At K (mv q) q (rho0 n) S (some (V.ref a) :: some (V.ref q.a) :: List.replicate n none) H' := {
    len := by simp [rho0]
    slot := fun i sl e => by
      match i with
      | 0 => cases e
      | 1 => cases e; exact ⟨_, rfl, rfl⟩
      | j + 2 =>
        have e : (List.replicate n (none : Option Sl))[j]? = some (some sl) := e
        rw [List.getElem?_replicate] at e
        split at e <;> cases e
    inj := fun i j l l' v e _ _ _ => by
      match i with
      | 0 => cases e
      | 1 => cases e
      | j + 2 =>
        have e : (List.replicate n (none : Option Sl))[j]? = some (some (Sl.ow l)) := e
        rw [List.getElem?_replicate] at e
        split at e <;> cases e
    feed := fq
    trk := trk }
  have noOw : ∀ (i : Nat) (l : Ol), (rho0 n)[i]? = some (some (Sl.ow l)) → False := fun i l e => by
    match i with
    | 0 => cases e
    | 1 => cases e
    | j + 2 =>
      have e : (List.replicate n (none : Option Sl))[j]? = some (some (Sl.ow l)) := e
      rw [List.getElem?_replicate] at e
      split at e <;> cases e
  refine ⟨H', mv q, mv q, mv q, q, rho0 n, S, ⟨Ext.refl _, fun _ h => h, fun _ h => h, fun _ h => h, fun _ h n => absurd h n, hAt, fun i l p e _ => (noOw i l e).elim, fun i l p e _ _ => (noOw i l e).elim⟩, ?_⟩
  rw [hm]
  intro v H2 e2 f2 d2
  cases d2
  exact kQ H2
end G
end

section
set_option Elab.async false
set_option linter.all false
set_option maxRecDepth 100000
set_option maxHeartbeats 4100000
namespace G
open L2 PySem
/-! ### the same while no turn is counted: what is drawn from as a list -/
def TT {α : Type} (cs : List Int) (t : Int) (m : M α) (P : α → Prop) : Prop := ∀ S : Fd, (S.ks = .l ∧ S.turn = t) ∧ S.cells = cs → ∃ a S', m S = .ok a S' ∧ ((S'.ks = .l ∧ S'.turn = t) ∧ S'.cells = cs) ∧ P a
section
variable {cs : List Int} {t : Int}
theorem TT_pure {α : Type} {a : α} {P : α → Prop} (h : P a) : TT cs t (pure a : M α) P := fun S k => ⟨a, S, rfl, k, h⟩
theorem TT_bind {α β : Type} {m : M α} {f : α → M β} {P : α → Prop} {Q : β → Prop} (h : TT cs t m P) (k : ∀ a, P a → TT cs t (f a) Q) : TT cs t (m >>= f) Q := fun S hS => by
  obtain ⟨a, S1, e1, hS1, h1⟩ := h S hS
  obtain ⟨b, S2, e2, hS2, h2⟩ := k a h1 S1 hS1
  refine ⟨b, S2, ?_, hS2, h2⟩
  show M.bind m f S = _
  unfold M.bind
  rw [e1]; exact e2
theorem TT_imp {α : Type} {m : M α} {P Q : α → Prop} (h : TT cs t m P) (k : ∀ a, P a → Q a) : TT cs t m Q := fun S hS => by
  obtain ⟨a, S1, e1, hS1, h1⟩ := h S hS
  exact ⟨a, S1, e1, hS1, k a h1⟩
theorem TT_eq {α : Type} {m m' : M α} {P : α → Prop} (e : m = m') (h : TT cs t m' P) : TT cs t m P := by rw [e]; exact h
theorem TT_bin {g : PyData → PyData → Option PyData} {fa fb : En → M PyData} {ρ : En} {P Q R : PyData → Prop} (ha : TT cs t (fa ρ) P) (hb : TT cs t (fb ρ) Q) (hg : ∀ x y, P x → Q y → ∃ d, g x y = some d ∧ R d) : TT cs t (cBin g fa fb ρ) R :=
  TT_bind ha fun x hx => TT_bind hb fun y hy => by
    obtain ⟨d, e, h⟩ := hg x y hx hy
    rw [e]; exact TT_pure h
theorem TT_un {g : PyData → Option PyData} {f : En → M PyData} {ρ : En} {P R : PyData → Prop} (ha : TT cs t (f ρ) P) (hg : ∀ x, P x → ∃ d, g x = some d ∧ R d) : TT cs t (cUn g f ρ) R :=
  TT_bind ha fun x hx => by
    obtain ⟨d, e, h⟩ := hg x hx
    rw [e]; exact TT_pure h
theorem TT_c {d : PyData} {ρ : En} {P : PyData → Prop} (h : P d) : TT cs t (cD d ρ) P := TT_pure h
theorem TT_v {i : Nat} {ρ : En} {d : PyData} {P : PyData → Prop} (e : ρ[i]? = some (some (.im d))) (h : P d) : TT cs t (getD i ρ) P := by
  unfold getD; rw [e]; exact TT_pure h
theorem TT_get {i : Nat} {k : Fk} {ρ : En} (e : ρ[i]? = some (some .fd)) (hk : k ≠ .cells) : TT cs t (cFget .l i k ρ) isI := fun S hS => by
  unfold cFget getF
  rw [e]
  have h : (pure () >>= fun _ => fun S : Fd => if S.ks = .l then R.ok (k.val S) S else R.bad : M PyData) S = .ok (k.val S) S := by
    show (if S.ks = .l then R.ok (k.val S) S else R.bad) = _
    rw [if_pos hS.1.1]
  refine ⟨_, S, h, hS, ?_⟩
  cases k with
  | cells => exact absurd rfl hk
  | place => exact ⟨_, rfl⟩
  | rest => exact ⟨_, rfl⟩
  | turn => exact ⟨_, rfl⟩
theorem TT_put {i : Nat} {k : Fk} {f : En → M PyData} {ρ : En} (hkt : k ≠ .turn) (e : ρ[i]? = some (some .fd)) (h : TT cs t (f ρ) isI) : TT cs t (sFput .l i k f ρ) (fun fl => fl = .nx ρ) := by
  unfold sFput
  refine TT_bind h fun d ⟨n, hn⟩ => ?_
  subst hn
  intro S hS
  unfold getF
  rw [e]
  refine ⟨.nx ρ, k.put S n, ?_, by cases k <;> first | exact absurd rfl hkt | exact hS, rfl⟩
  show (if S.ks = .l then R.ok (Fl.nx ρ) (k.put S n) else R.bad) = _
  rw [if_pos hS.1.1]
theorem TT_cB {f : En → M PyData} {ρ : En} (h : TT cs t (f ρ) (fun d => ∃ b, d = .bool b)) : TT cs t (cB f ρ) (fun _ => True) := TT_bind h fun d ⟨b, e⟩ => by subst e; exact TT_pure trivial
theorem TT_if {c : En → M Bool} {g h : En → M Fl} {ρ : En} {P : Fl → Prop} (hc : TT cs t (c ρ) (fun _ => True)) (hg : TT cs t (g ρ) P) (hh : TT cs t (h ρ) P) : TT cs t (sIf c g h ρ) P := TT_bind hc fun b _ => by cases b; exact hh; exact hg
theorem TT_asg {f : En → M PyData} {i : Nat} {ρ : En} {P : PyData → Prop} (h : TT cs t (f ρ) P) : TT cs t (sAsg f (bNm i) ρ) (fun fl => ∃ d, P d ∧ fl = .nx (ρ.set i (some (.im d)))) := TT_bind h fun d hd => TT_pure ⟨d, hd, rfl⟩
theorem TT_ret {f : En → M PyData} {ρ : En} {P : PyData → Prop} (h : TT cs t (f ρ) P) : TT cs t (sRet f ρ) (fun fl => ∃ d, fl = .rt d ∧ P d) := TT_bind h fun d hd => TT_pure ⟨d, rfl, hd⟩
theorem TT_getC {i : Nat} {ρ : En} (e : ρ[i]? = some (some .fd)) : TT cs t (cFget .l i .cells ρ) (fun d => d = .list (cs.map PyData.int)) := fun S hS => by
  unfold cFget getF
  rw [e]
  refine ⟨_, S, ?_, hS, rfl⟩
  show (if S.ks = .l then R.ok (Fk.val S .cells) S else R.bad) = _
  rw [if_pos hS.1.1, ← hS.2]; rfl
theorem TT_len {f : En → M PyData} {ρ : En} (h : TT cs t (f ρ) (fun d => d = .list (cs.map PyData.int))) : TT cs t (cCall gLen (aD f aNil) ρ) (fun d => d = .int cs.length) :=
  TT_bind (P := fun as => as = [.d (.list (cs.map PyData.int))]) (TT_bind h fun x hx => by subst hx; exact TT_pure rfl) fun as e => by
    subst e
    show TT cs t (pure (PyData.int ((cs.map PyData.int).length : Nat)) : M PyData) _
    rw [List.length_map]
    exact TT_pure rfl
theorem TT_seq {g h : En → M Fl} {ρ : En} {P Q : Fl → Prop} (hg : TT cs t (g ρ) P) (k : ∀ fl, P fl → TT cs t (match fl with | .nx ρ' => h ρ' | x => pure x) Q) : TT cs t (sSeq g h ρ) Q := TT_bind hg fun fl hfl => TT_eq (by cases fl <;> rfl) (k fl hfl)
theorem TT_cellIx {ρ : En} {p : Int} (e : ρ[0]? = some (some .fd)) (hp : ρ[2]? = some (some (.im (.int p)))) (hn : cs ≠ []) : TT cs t (cBin gIx (cFget .l 0 .cells) (cBin gMod (cUn gInt (getD 2)) (cCall gLen (aD (cFget .l 0 .cells) aNil))) ρ) isI := by
  have hpos : (0 : Int) < cs.length := by cases cs with | nil => exact absurd rfl hn | cons a l => simp
  refine TT_bin (Q := inR cs.length) (TT_getC e) (TT_bin (Q := fun d => d = .int cs.length) (TT_un (TT_v (P := isI) hp ⟨_, rfl⟩) fun _ => g_int) (TT_len (TT_getC e)) fun x y hx hy => by subst hy; exact g_mod hpos hx) fun x y hx ⟨n, hy, a0, a1⟩ => ?_
  subst hx hy
  have hlt : n.toNat < cs.length := by omega
  refine ⟨.int cs[n.toNat], ?_, _, rfl⟩
  show L2.atI (cs.map PyData.int) n = _
  unfold L2.atI L2.ixN
  rw [if_pos a0, if_pos (by rw [List.length_map]; omega)]
  show (cs.map PyData.int)[n.toNat]? = _
  rw [List.getElem?_map, List.getElem?_eq_getElem hlt]; rfl
theorem TT_cell {ρ : En} {c0 p : Int} (e : ρ[0]? = some (some .fd)) (hp : ρ[2]? = some (some (.im (.int p)))) : TT cs t (cIf (cB (cBin gNeD (cFget .l 0 .cells) (cLst aNil))) (cBin gIx (cFget .l 0 .cells) (cBin gMod (cUn gInt (getD 2)) (cCall gLen (aD (cFget .l 0 .cells) aNil)))) (cD (.int c0)) ρ) isI := by
  refine TT_bind (P := fun b => b = !cs.isEmpty) (TT_bind (TT_bin (Q := fun d => d = .list []) (R := fun d => d = .bool (!cs.isEmpty)) (TT_getC e) (TT_pure rfl) fun x y hx hy => by subst hx hy; exact ⟨_, ne_nil cs, rfl⟩) fun d hd => by subst hd; exact TT_pure rfl) fun b hb => ?_
  subst hb
  cases hns : cs with
  | nil => exact TT_pure ⟨_, rfl⟩
  | cons a l => exact TT_cellIx e hp (by simp)
theorem TT_modC {f : En → M PyData} {ρ : En} {m : Int} (hm : 0 < m) (hf : TT cs t (f ρ) isI) : TT cs t (cBin gMod f (cD (.int m)) ρ) (inR m) :=
  TT_bin (Q := fun d => d = .int _) hf (TT_c rfl) fun x y hx hy => by subst hy; exact g_mod hm hx
theorem TT_mulC {f : En → M PyData} {ρ : En} {c : Int} (hc : isIn64 c = true) (hf : TT cs t (f ρ) isI) : TT cs t (cBin gMulA (cD (.int c)) f ρ) isI :=
  TT_bin (P := fun d => d = .int _) (TT_c rfl) hf fun x y hx hy => by subst hx; exact g_mulc hc hy
theorem TT_modV {f : En → M PyData} {ρ : En} {m : Int} {j : Nat} (hm : 0 < m) (hf : TT cs t (f ρ) isI) (hj : ρ[j]? = some (some (.im (.int m)))) : TT cs t (cBin gMod f (getD j) ρ) (inR m) :=
  TT_bin (Q := fun d => d = .int m) hf (TT_v hj rfl) fun x y hx hy => by subst hy; exact g_mod hm hx
theorem TT_divV {f : En → M PyData} {ρ : En} {m : Int} {j : Nat} (hm : 0 < m) (h2 : m < 1073741824) (hf : TT cs t (f ρ) isI) (hj : ρ[j]? = some (some (.im (.int m)))) : TT cs t (cBin gDiv f (getD j) ρ) isI :=
  TT_bin (Q := fun d => d = .int m) hf (TT_v hj rfl) fun x y hx hy => by subst hy; exact g_div hm h2 hx
theorem TT_divC {f : En → M PyData} {ρ : En} {m : Int} (hm : 0 < m) (h2 : m < 1073741824) (hf : TT cs t (f ρ) isI) : TT cs t (cBin gDiv f (cD (.int m)) ρ) isI :=
  TT_bin (Q := fun d => d = .int m) hf (TT_c rfl) fun x y hx hy => by subst hy; exact g_div hm h2 hx
theorem TT_int {f : En → M PyData} {ρ : En} (h : TT cs t (f ρ) isI) : TT cs t (cUn gInt f ρ) isI := TT_un h fun _ => g_int
theorem TT_add {f g : En → M PyData} {ρ : En} (h : TT cs t (f ρ) isI) (h2 : TT cs t (g ρ) isI) : TT cs t (cBin gAddB f g ρ) isI := TT_bin h h2 fun _ _ => g_add
theorem TT_vI {i : Nat} {ρ : En} {n : Int} (e : ρ[i]? = some (some (.im (.int n)))) : TT cs t (getD i ρ) isI := TT_v e ⟨_, rfl⟩
theorem TT_cI {n : Int} {ρ : En} : TT cs t (cD (.int n) ρ) isI := TT_c ⟨_, rfl⟩
theorem TT_body {g : En → M Fl} {as : List Ag} {n : Nat} {P : PyData → Prop} (h : TT cs t (g (env0 n as)) (fun fl => ∃ d, fl = .rt d ∧ P d)) : TT cs t (runB n g as) P := TT_bind h fun fl ⟨d, e, hd⟩ => by subst e; exact TT_pure hd

theorem TT_turn {i : Nat} {ρ : En} (e : ρ[i]? = some (some .fd)) : TT cs t (cFget .l i .turn ρ) (fun d => d = .int t) := fun S hS => by
  unfold cFget getF
  rw [e]
  refine ⟨_, S, ?_, hS, rfl⟩
  show (if S.ks = .l then R.ok (Fk.val S .turn) S else R.bad) = _
  rw [if_pos hS.1.1, ← hS.1.2]; rfl
end
end G
end

section
set_option Elab.async false
set_option linter.all false
set_option maxRecDepth 100000
set_option maxHeartbeats 4100000
namespace G
open L2 PySem GM
/-! ### what surely comes while no more than n turns are counted -/
def okN (cs : List Int) (r : Nat) (S : Fd) : Prop := S.ks = .l ∧ S.cells = cs ∧ 0 ≤ S.turn ∧ S.turn + r ≤ 1000000
def TN {α : Type} (cs : List Int) (n : Nat) (m : M α) (P : α → Prop) : Prop := ∀ (r : Nat) (S : Fd), okN cs (n + r) S → ∃ a S', m S = .ok a S' ∧ okN cs r S' ∧ P a
section
variable {cs : List Int} {n k : Nat}
theorem okN_le {r q : Nat} {S : Fd} (h : okN cs q S) (l : r ≤ q) : okN cs r S := ⟨h.1, h.2.1, h.2.2.1, by have := h.2.2.2; omega⟩
theorem TN_le {α : Type} {m : M α} {P : α → Prop} (h : TN cs n m P) (l : n ≤ k) : TN cs k m P := fun r S hS => by
  obtain ⟨a, S', e, o, p⟩ := h (k - n + r) S (okN_le hS (by omega))
  exact ⟨a, S', e, okN_le o (by omega), p⟩
theorem TN_pure {α : Type} {a : α} {P : α → Prop} (h : P a) : TN cs n (pure a : M α) P := fun r S k => ⟨a, S, rfl, okN_le k (by omega), h⟩
theorem TN_bind {α β : Type} {m : M α} {f : α → M β} {P : α → Prop} {Q : β → Prop} (h : TN cs n m P) (g : ∀ a, P a → TN cs k (f a) Q) : TN cs (n + k) (m >>= f) Q := fun r S hS => by
  obtain ⟨a, S1, e1, hS1, h1⟩ := h (k + r) S (okN_le hS (by omega))
  obtain ⟨b, S2, e2, hS2, h2⟩ := g a h1 r S1 hS1
  refine ⟨b, S2, ?_, hS2, h2⟩
  show M.bind m f S = _
  unfold M.bind
  rw [e1]; exact e2
theorem TN_bind0 {α β : Type} {m : M α} {f : α → M β} {P : α → Prop} {Q : β → Prop} (h : TN cs 0 m P) (g : ∀ a, P a → TN cs k (f a) Q) : TN cs k (m >>= f) Q := TN_le (TN_bind h g) (by omega)
theorem TN_imp {α : Type} {m : M α} {P Q : α → Prop} (h : TN cs n m P) (g : ∀ a, P a → Q a) : TN cs n m Q := fun r S hS => by
  obtain ⟨a, S1, e1, hS1, h1⟩ := h r S hS
  exact ⟨a, S1, e1, hS1, g a h1⟩
theorem TN_det {α : Type} {m : M α} {a : α} {P : α → Prop} (e : m = pure a) (h : P a) : TN cs n m P := by rw [e]; exact TN_pure h
theorem TN_eq {α : Type} {m m' : M α} {P : α → Prop} (e : m = m') (h : TN cs n m' P) : TN cs n m P := by rw [e]; exact h
theorem TN_sil {α : Type} {m : M α} {P : α → Prop} (h : TN cs n m P) : TN cs n (sil m) P := fun r S hS => by
  obtain ⟨a, S', e, o, p⟩ := h r S hS
  exact ⟨a, S', by unfold sil; rw [e], o, p⟩
theorem TN_seq {g h : En → M Fl} {ρ : En} {P Q : Fl → Prop} (hg : TN cs n (g ρ) P) (f : ∀ fl, P fl → TN cs k (match fl with | .nx ρ' => h ρ' | x => pure x) Q) : TN cs (n + k) (sSeq g h ρ) Q := TN_bind hg fun fl hfl => TN_eq (by cases fl <;> rfl) (f fl hfl)
theorem TN_seqD {g h : En → M Fl} {ρ ρ' : En} {Q : Fl → Prop} (hg : g ρ = pure (.nx ρ')) (f : TN cs k (h ρ') Q) : TN cs k (sSeq g h ρ) Q := TN_le (TN_seq (n := 0) (TN_det hg (P := fun fl => fl = .nx ρ') rfl) fun fl e => by subst e; exact f) (by omega)
theorem TN_asg {f : En → M PyData} {i : Nat} {ρ : En} {P : PyData → Prop} (h : TN cs n (f ρ) P) : TN cs n (sAsg f (bNm i) ρ) (fun fl => ∃ d, P d ∧ fl = .nx (ρ.set i (some (.im d)))) := TN_le (TN_bind (k := 0) h fun d hd => TN_pure ⟨d, hd, rfl⟩) (by omega)
theorem TN_ret {f : En → M PyData} {ρ : En} {P : PyData → Prop} (h : TN cs n (f ρ) P) : TN cs n (sRet f ρ) (fun fl => ∃ d, fl = .rt d ∧ P d) := TN_le (TN_bind (k := 0) h fun d hd => TN_pure ⟨d, rfl, hd⟩) (by omega)
theorem TN_body {g : En → M Fl} {as : List Ag} {j : Nat} {P : PyData → Prop} (h : TN cs n (g (env0 j as)) (fun fl => ∃ d, fl = .rt d ∧ P d)) : TN cs n (runB j g as) P := TN_le (TN_bind (k := 0) h fun fl ⟨d, e, hd⟩ => by subst e; exact TN_pure hd) (by omega)
theorem TN_bin {g : PyData → PyData → Option PyData} {fa fb : En → M PyData} {ρ : En} {P Q R : PyData → Prop} (ha : TN cs n (fa ρ) P) (hb : TN cs k (fb ρ) Q) (hg : ∀ x y, P x → Q y → ∃ d, g x y = some d ∧ R d) : TN cs (n + k) (cBin g fa fb ρ) R :=
  TN_bind ha fun x hx => TN_le (TN_bind (k := 0) hb fun y hy => by
    obtain ⟨d, e, h⟩ := hg x y hx hy
    rw [e]; exact TN_pure h) (by omega)
theorem TN_un {g : PyData → Option PyData} {f : En → M PyData} {ρ : En} {P R : PyData → Prop} (ha : TN cs n (f ρ) P) (hg : ∀ x, P x → ∃ d, g x = some d ∧ R d) : TN cs n (cUn g f ρ) R :=
  TN_le (TN_bind (k := 0) ha fun x hx => by
    obtain ⟨d, e, h⟩ := hg x hx
    rw [e]; exact TN_pure h) (by omega)
theorem TN_call {F : Fn} {j : Nat} {fs : En → M (List Ag)} {ρ : En} {as : List Ag} {P : PyData → Prop} (h : fs ρ = pure as) (hn : as.length = j) (t : TN cs n (F as) P) : TN cs n (cFn (argN j F) fs ρ) P := by
  refine TN_le (TN_bind (n := 0) (k := n) (P := fun a => a = as) (TN_det h rfl) fun a e => ?_) (by omega)
  subst e
  unfold argN
  rw [if_pos hn]; exact t
theorem TN_for {b : PyData → En → Option En} {g : En → M Fl} (Pv : List PyData → En → Prop) (hs : ∀ d ds ρ, Pv (d :: ds) ρ → ∃ ρ1, b d ρ = some ρ1 ∧ TN cs n (g ρ1) (fun fl => ∃ ρ2, fl = .nx ρ2 ∧ Pv ds ρ2)) : ∀ (ds : List PyData) (ρ : En), Pv ds ρ → TN cs (n * ds.length) (forGo b g ds ρ) (fun fl => ∃ ρ2, fl = .nx ρ2 ∧ Pv [] ρ2)
  | [], ρ, h => TN_pure ⟨ρ, rfl, h⟩
  | d :: ds, ρ, h => by
    obtain ⟨ρ1, e1, t⟩ := hs d ds ρ h
    have z : TN cs (n + n * ds.length) (g ρ1 >>= fun fl => match fl with
      | .nx ρ2 => forGo b g ds ρ2
      | .ct ρ2 => forGo b g ds ρ2
      | .bk ρ2 => pure (.nx ρ2)
      | .rt v => pure (.rt v)) (fun fl => ∃ ρ2, fl = .nx ρ2 ∧ Pv [] ρ2) := TN_bind t fun fl ⟨ρ2, e, p⟩ => by subst e; exact TN_for Pv hs ds ρ2 p
    refine TN_le (TN_eq ?_ z) (by rw [List.length_cons, Nat.mul_add]; omega)
    show (match b d ρ with
      | none => bad
      | some ρ1 => g ρ1 >>= fun fl => match fl with
        | .nx ρ' => forGo b g ds ρ'
        | .ct ρ' => forGo b g ds ρ'
        | .bk ρ' => pure (.nx ρ')
        | .rt d => pure (.rt d) : M Fl) = _
    rw [e1]
theorem TN_sFor {fi : En → M (List PyData)} {b : PyData → En → Option En} {g : En → M Fl} {ρ : En} {D : List PyData → Prop} {m L : Nat} (Pv : List PyData → En → Prop) (hf : TN cs m (fi ρ) D) (hL : ∀ ds, D ds → ds.length ≤ L ∧ Pv ds (age ρ)) (hs : ∀ d ds ρ, Pv (d :: ds) ρ → ∃ ρ1, b d ρ = some ρ1 ∧ TN cs n (g ρ1) (fun fl => ∃ ρ2, fl = .nx ρ2 ∧ Pv ds ρ2)) : TN cs (m + n * L) (sFor fi b g ρ) (fun fl => ∃ ρ', fl = .nx (renew ρ ρ') ∧ Pv [] ρ') :=
  TN_bind hf fun ds hd => TN_le (TN_bind (k := 0) (TN_for Pv hs ds _ (hL ds hd).2) fun fl ⟨ρ', e, h⟩ => by subst e; exact TN_pure ⟨ρ', rfl, h⟩) (by have := Nat.mul_le_mul_left n (hL ds hd).1; omega)
theorem TN_lcGo {vs : List Nat} {b : PyData → En → Option En} {fe : En → M PyData} {ρ : En} {P : PyData → Prop} : ∀ (ds : List PyData) (j : Nat) (acc : List PyData), j + ds.length ≤ 16777216 → (∀ d ∈ ds, ∃ ρ1, b d (wipeE ρ vs) = some ρ1 ∧ TN cs n (fe ρ1) P) →
    TN cs (n * ds.length) (lcGo vs b yes fe ρ ds j acc) (fun r => ∃ ys, r = .list (acc.reverse ++ ys) ∧ ys.length = ds.length ∧ ∀ y ∈ ys, P y)
  | [], j, acc, _, _ => TN_pure ⟨[], by simp, rfl, fun y h => by cases h⟩
  | d :: ds, j, acc, hl, hh => by
    obtain ⟨ρ1, e1, h1⟩ := hh d List.mem_cons_self
    simp only [List.length_cons] at hl
    have e : lcGo vs b yes fe ρ (d :: ds) j acc = (sil (fe ρ1) >>= fun y => if Nat.blt j 16777216 then lcGo vs b yes fe ρ ds (j + 1) (y :: acc) else bad) := by
      show (match b d (wipeE ρ vs) with
        | none => bad
        | some ρ1 => sil (yes ρ1) >>= fun c => if c then sil (fe ρ1) >>= fun y => if Nat.blt j 16777216 then lcGo vs b yes fe ρ ds (j + 1) (y :: acc) else bad else lcGo vs b yes fe ρ ds j acc) = _
      rw [e1]; rfl
    refine TN_le (TN_eq e (TN_bind (k := n * ds.length) (TN_sil h1) fun y hy => ?_)) (by rw [List.length_cons, Nat.mul_add]; omega)
    rw [if_pos (by simp; omega)]
    refine TN_imp (TN_lcGo ds (j + 1) (y :: acc) (by omega) fun d hd => hh d (List.mem_cons_of_mem _ hd)) fun r ⟨ys, e2, l2, h2⟩ => ⟨y :: ys, by rw [e2]; simp, by simp [l2], fun x hx => ?_⟩
    rcases List.mem_cons.mp hx with z | z
    · rw [z]; exact hy
    · exact h2 x z
theorem TN_cLc {fi : En → M (List PyData)} {vs : List Nat} {b : PyData → En → Option En} {fe : En → M PyData} {ρ : En} {P : PyData → Prop} {ds : List PyData} {L : Nat} (hf : fi ρ = pure ds) (hl : ds.length ≤ L) (hL : L ≤ 16777216) (hh : ∀ d ∈ ds, ∃ ρ1, b d (wipeE ρ vs) = some ρ1 ∧ TN cs n (fe ρ1) P) : TN cs (n * L) (cLc fi vs b yes fe ρ) (fun r => ∃ ys, r = .list ys ∧ ys.length = ds.length ∧ ∀ y ∈ ys, P y) :=
  TN_le (TN_bind (n := 0) (P := fun a => a = ds) (TN_det hf rfl) fun a e => by
    subst e
    exact TN_imp (TN_lcGo _ 0 [] (by omega) hh) fun r ⟨ys, e, l, p⟩ => ⟨ys, by simpa using e, l, p⟩) (by have := Nat.mul_le_mul_left n hl; omega)
/-! ### the draw, as the laws of another family write it -/
def drawLr (c0 a0 m1 c1 a1 m2 c2 a2 m3 : Int) : En → M Fl := (sSeq (sIf (cB (cBin gEqD (cFget .l 0 .cells) (cLst aNil))) (sRet (cBin gMod (cUn gInt (cBin gAddB (cBin gMulA (cD (.int c0)) (cFget .l 0 .turn)) (cD (.int a0)))) (getD 1))) sNil) (sSeq (sIf (cB (cBin gGt (cFget .l 0 .rest) (cD (.int 0)))) (sSeq (sAsg (cBin gMod (cUn gInt (cFget .l 0 .rest)) (getD 1)) (bNm 5)) (sSeq (sFput .l 0 .rest (cBin gDiv (cFget .l 0 .rest) (getD 1))) (sRet (getD 5)))) sNil) (sSeq (sAsg (cFget .l 0 .place) (bNm 2)) (sSeq (sFput .l 0 .place (cBin gAddB (getD 2) (cD (.int 1)))) (sSeq (sAsg (cBin gIx (cFget .l 0 .cells) (cBin gMod (cUn gInt (getD 2)) (cCall gLen (aD (cFget .l 0 .cells) aNil)))) (bNm 3)) (sSeq (sIf (cAndB (cB (cBin gGe (getD 3) (cBin gPow (cD (.int 10)) (cD (.int 18))))) (cB (cBin gLt (getD 2) (cCall gLen (aD (cFget .l 0 .cells) aNil))))) (sSeq (sFput .l 0 .rest (cBin gDiv (getD 3) (getD 1))) (sRet (cBin gMod (cUn gInt (getD 3)) (getD 1)))) sNil) (sSeq (sAsg (cBin gMod (cUn gInt (cBin gPow (cBin gAddB (cBin gAddB (cBin gMod (cUn gInt (getD 3)) (cD (.int m1))) (cBin gMulA (cD (.int c1)) (cFget .l 0 .turn))) (cD (.int a1))) (cD (.int 3)))) (cD (.int m2))) (bNm 4)) (sSeq (sAsg (cBin gMod (cUn gInt (cBin gPow (cBin gAddB (cBin gAddB (getD 4) (cBin gMulA (cBin gMulA (cD (.int c2)) (cFget .l 0 .turn)) (cFget .l 0 .turn))) (cD (.int a2))) (cD (.int 5)))) (cD (.int m3))) (bNm 4)) (sRet (cBin gMod (cUn gInt (cBin gDiv (getD 4) (cD (.int 64)))) (getD 1)))))))))))
def drawL (c0 a0 m1 c1 a1 m2 c2 a2 m3 : Int) : En → M Fl := sSeq (sFput .l 0 .turn (cBin gAddB (cFget .l 0 .turn) (cD (.int 1)))) (drawLr c0 a0 m1 c1 a1 m2 c2 a2 m3)
theorem g_addR {a b : Int} {x y : PyData} (hx : inR a x) (hy : inR b y) : ∃ d, gAddB x y = some d ∧ inR (a + b) d := by
  obtain ⟨i, rfl, h1, h2⟩ := hx
  obtain ⟨j, rfl, h3, h4⟩ := hy
  exact ⟨.int (i + j), by unfold gAddB; exact intKe _ _, _, rfl, by omega, by omega⟩
theorem g_mulR {a b : Int} {x y : PyData} (ha : a ≤ 2 ^ 60) (hx : inR a x) (hy : inR b y) : ∃ d, gMulA x y = some d ∧ inR (a * b) d := by
  obtain ⟨i, rfl, h1, h2⟩ := hx
  obtain ⟨j, rfl, h3, h4⟩ := hy
  have h : isIn64 i = true := by
    cases i with
    | ofNat n => exact Nat.ble_eq.mpr (by have : (Int.ofNat n) = (n : Int) := rfl; omega)
    | negSucc n => exact absurd h1 (by omega)
  refine ⟨.int (i * j), ?_, _, rfl, Int.mul_nonneg h1 h3, ?_⟩
  · unfold gMulA
    simp only [h, Bool.true_or, if_true]
    exact intKe _ _
  · exact Int.lt_of_le_of_lt (Int.mul_le_mul_of_nonneg_right (by omega) h3) (Int.mul_lt_mul_of_pos_left h4 (by omega))
theorem g_powR {a : Int} (ha : a ≤ 2 ^ 63) {x : PyData} {e : Nat} (he : e ≤ 1000) (hx : inR a x) : ∃ d, gPow x (.int e) = some d ∧ isI d := by
  obtain ⟨i, rfl, h1, h2⟩ := hx
  refine ⟨.int (i ^ e), ?_, _, rfl⟩
  show (if decide ((0 : Int) ≤ (e : Int) ∧ (e : Int) ≤ 1000000 ∧ i.natAbs < 2 ^ 64) = true then some (PyData.int (i ^ (e : Int).toNat)) else none) = _
  rw [if_pos (by simp; omega)]; rfl
theorem eq_nil (ns : List Int) : gEqD (.list (ns.map PyData.int)) (.list []) = some (.bool ns.isEmpty) := by
  unfold gEqD
  have h2 := shaped_ints []
  rw [List.map_nil] at h2
  rw [shaped_ints, h2]
  cases ns with
  | nil => simp [PyData.eqv, PyData.eqvAll]
  | cons a l => simp [PyData.eqv, PyData.eqvAll]
section
variable {c0 a0 m1 c1 a1 m2 c2 a2 m3 L t : Int}
theorem TT_drawLr (h0 : 0 < L) (h1 : L ≤ 1000000000) (ht : 0 ≤ t ∧ t ≤ 1000000) (kc0 : isIn64 c0 = true) (k1 : 0 < m1 ∧ m1 ≤ 2 ^ 40) (kc1 : 0 ≤ c1 ∧ c1 ≤ 2 ^ 20) (ka1 : 0 ≤ a1 ∧ a1 ≤ 2 ^ 20) (k2 : 0 < m2 ∧ m2 ≤ 2 ^ 40) (kc2 : 0 ≤ c2 ∧ c2 ≤ 2 ^ 18) (ka2 : 0 ≤ a2 ∧ a2 ≤ 2 ^ 20) (k3 : 0 < m3) :
    TT cs t (drawLr c0 a0 m1 c1 a1 m2 c2 a2 m3 (env0 6 [.fd, .d (.int L)])) (fun fl => ∃ d, fl = .rt d ∧ inR L d) := by
  have hL : L < 1073741824 := by omega
  let ρ0 : En := env0 6 [.fd, .d (.int L)]
  refine TT_seq (P := fun fl => (fl = .nx ρ0 ∧ cs ≠ []) ∨ ∃ d, fl = .rt d ∧ inR L d) (TT_bind (P := fun b => b = cs.isEmpty) (TT_bind (TT_bin (Q := fun d => d = .list []) (R := fun d => d = .bool cs.isEmpty) (TT_getC rfl) (TT_pure rfl) fun x y hx hy => by subst hx hy; exact ⟨_, eq_nil cs, rfl⟩) fun d hd => by subst hd; exact TT_pure rfl) fun b hb => ?_) fun fl e => ?_
  · subst hb
    cases cs with
    | nil =>
      refine TT_imp (TT_ret (TT_modV h0 (TT_int (TT_add (TT_mulC kc0 (TT_imp (TT_turn rfl) fun d e => ⟨_, e⟩)) TT_cI)) rfl)) fun _ => .inr
    | cons a l => exact TT_pure (.inl ⟨rfl, by simp⟩)
  rcases e with ⟨e, hne⟩ | ⟨d, e, hd⟩
  rotate_left
  · subst e; exact TT_pure ⟨d, rfl, hd⟩
  subst e
  refine TT_seq (P := fun fl => fl = .nx ρ0 ∨ ∃ d, fl = .rt d ∧ inR L d) (TT_if (TT_cB (TT_bin (TT_get rfl (by decide)) TT_cI fun _ _ => g_cmp)) ?_ (TT_pure (.inl rfl))) fun fl e => ?_
  · refine TT_seq (TT_asg (TT_modV h0 (TT_int (TT_get rfl (by decide))) rfl)) fun fl ⟨d, hd, e⟩ => ?_
    subst e
    refine TT_seq (TT_put (by decide) rfl (TT_divV h0 hL (TT_get rfl (by decide)) rfl)) fun fl e => ?_
    subst e
    exact TT_imp (TT_ret (TT_v rfl hd)) fun _ => .inr
  refine e.elim (fun e => ?_) (fun ⟨d, e, hd⟩ => by subst e; exact TT_pure ⟨d, rfl, hd⟩)
  subst e
  refine TT_seq (TT_asg (TT_get rfl (by decide))) fun fl ⟨d, ⟨p, hp⟩, e⟩ => ?_
  subst e hp
  refine TT_seq (TT_put (by decide) rfl (TT_add (TT_vI rfl) TT_cI)) fun fl e => ?_
  subst e
  refine TT_seq (TT_asg (TT_cellIx rfl rfl hne)) fun fl ⟨d, ⟨c, hc⟩, e⟩ => ?_
  subst e hc
  let ρ1 : En := [some .fd, some (.im (.int L)), some (.im (.int p)), some (.im (.int c)), none, none]
  refine TT_seq (P := fun fl => fl = .nx ρ1 ∨ ∃ d, fl = .rt d ∧ inR L d) (TT_if ?_ ?_ (TT_pure (.inl rfl))) fun fl e => ?_
  · refine TT_bind (TT_cB (TT_bin (TT_vI rfl) (TT_pure (P := isI) ⟨10 ^ 18, rfl⟩) fun _ _ => g_cmp)) fun b _ => ?_
    cases b with
    | false => exact TT_pure trivial
    | true => exact TT_cB (TT_bin (TT_vI rfl) (TT_imp (TT_len (TT_getC rfl)) fun d h => ⟨_, h⟩) fun _ _ => g_cmp)
  · refine TT_seq (TT_put (by decide) rfl (TT_divV h0 hL (TT_vI rfl) rfl)) fun fl e => ?_
    subst e
    exact TT_imp (TT_ret (TT_modV h0 (TT_int (TT_vI rfl)) rfl)) fun _ => .inr
  refine e.elim (fun e => ?_) (fun ⟨d, e, hd⟩ => by subst e; exact TT_pure ⟨d, rfl, hd⟩)
  subst e
  have cst : ∀ (c B : Int) (ρ : En), 0 ≤ c → c < B → TT cs t (cD (.int c) ρ) (inR B) := fun c B ρ h h' => TT_c ⟨c, rfl, h, h'⟩
  have trn : ∀ ρ : En, ρ[0]? = some (some .fd) → TT cs t (cFget .l 0 .turn ρ) (inR 1000001) := fun ρ h => TT_imp (TT_turn h) fun d e => ⟨t, e, ht.1, by omega⟩
  have pw : ∀ (f : En → M PyData) (ρ : En) (B : Int) (e : Nat), B ≤ 2 ^ 63 → e ≤ 1000 → TT cs t (f ρ) (inR B) → TT cs t (cBin gPow f (cD (.int e)) ρ) isI := fun f ρ B e hB he h => TT_bin (Q := fun d => d = .int e) h (TT_c rfl) fun x y hx hy => by subst hy; exact g_powR hB he hx
  refine TT_seq (TT_asg (TT_modC k2.1 (TT_int (pw _ _ _ 3 ?_ (by decide) (TT_bin (TT_bin (TT_modC k1.1 (TT_int (TT_vI rfl))) (TT_bin (cst c1 (2 ^ 20 + 1) _ kc1.1 (by omega)) (trn _ rfl) fun x y hx hy => g_mulR (by decide) hx hy) fun x y => g_addR) (cst a1 (2 ^ 20 + 1) _ ka1.1 (by omega)) fun x y => g_addR))))) fun fl ⟨b1, hb1, e⟩ => ?_
  · omega
  subst e
  refine TT_seq (TT_asg (TT_modC k3 (TT_int (pw _ _ _ 5 ?_ (by decide) (TT_bin (TT_bin (TT_v rfl hb1) (TT_bin (TT_bin (cst c2 (2 ^ 18 + 1) _ kc2.1 (by omega)) (trn _ rfl) fun x y hx hy => g_mulR (by decide) hx hy) (trn _ rfl) fun x y hx hy => g_mulR (by decide) hx hy) fun x y => g_addR) (cst a2 (2 ^ 20 + 1) _ ka2.1 (by omega)) fun x y => g_addR))))) fun fl ⟨b2, hb2, e⟩ => ?_
  · omega
  subst e
  exact TT_ret (TT_modV h0 (TT_int (TT_divC (by decide) (by decide) (TT_v rfl (isI_of hb2)))) rfl)
theorem TN_drawL (h0 : 0 < L) (h1 : L ≤ 1000000000) (kc0 : isIn64 c0 = true) (k1 : 0 < m1 ∧ m1 ≤ 2 ^ 40) (kc1 : 0 ≤ c1 ∧ c1 ≤ 2 ^ 20) (ka1 : 0 ≤ a1 ∧ a1 ≤ 2 ^ 20) (k2 : 0 < m2 ∧ m2 ≤ 2 ^ 40) (kc2 : 0 ≤ c2 ∧ c2 ≤ 2 ^ 18) (ka2 : 0 ≤ a2 ∧ a2 ≤ 2 ^ 20) (k3 : 0 < m3) :
    TN cs 1 (runB 6 (drawL c0 a0 m1 c1 a1 m2 c2 a2 m3) [.fd, .d (.int L)]) (inR L) := TN_body fun r S ⟨hk, hc, hz, hr⟩ => by
  obtain ⟨fl, S', e, ⟨⟨s1, s2⟩, s3⟩, d, hd⟩ := TT_drawLr (cs := cs) (t := S.turn + 1) (a0 := a0) h0 h1 ⟨by omega, by omega⟩ kc0 k1 kc1 ka1 k2 kc2 ka2 k3 { S with turn := S.turn + 1 } ⟨⟨hk, rfl⟩, hc⟩
  refine ⟨fl, S', ?_, ⟨s1, s3, by omega, by omega⟩, d, hd⟩
  have e1 : sFput .l 0 .turn (cBin gAddB (cFget .l 0 .turn) (cD (.int 1))) (env0 6 [.fd, .d (.int L)]) S = .ok (.nx (env0 6 [.fd, .d (.int L)])) { S with turn := S.turn + 1 } := by
    obtain ⟨ks, cells, place, rest, turn⟩ := S
    subst hk
    have eg : cBin gAddB (cFget .l 0 .turn) (cD (.int 1)) (env0 6 [.fd, .d (.int L)]) ⟨.l, cells, place, rest, turn⟩ = .ok (.int (turn + 1)) ⟨.l, cells, place, rest, turn⟩ := by
      show (lift (intK (turn + 1) fun k => some (PyData.int k)) : M PyData) _ = _
      rw [intKe]; rfl
    show M.bind (cBin gAddB (cFget .l 0 .turn) (cD (.int 1)) (env0 6 [.fd, .d (.int L)])) _ _ = _
    unfold M.bind
    rw [eg]; rfl
  show M.bind _ _ S = _
  unfold M.bind
  rw [e1]
  exact e
end
end
end G
end

section
set_option Elab.async false
set_option linter.all false
set_option maxRecDepth 100000
set_option maxHeartbeats 4100000
namespace GM
open PySem G
/-! ### arithmetic of numbers from 0 on; loops by while -/
theorem add_I (a b : Nat) : gAddB (I a) (I b) = some (I (a + b)) := (intKe ((a : Int) + b) fun k => some (PyData.int k)).trans (by rw [← Int.natCast_add]; rfl)
theorem mod_I (a b : Nat) (hb : 0 < b) : gMod (I a) (I b) = some (I (a % b)) := by
  show (if decide ((b : Int) ≠ 0) = true then some (PyData.int ((a : Int).fmod b)) else none) = _
  rw [if_pos (by simp; omega), Int.fmod_eq_emod_of_nonneg _ (by omega), ← Int.natCast_emod]; rfl
theorem div_I (a b : Nat) (hb : 0 < b) (hb2 : b < 1073741824) : gDiv (I a) (I b) = some (I (a / b)) := by
  show (if decide ((b : Int) ≠ 0 ∧ (b : Int).natAbs < 1073741824) = true then some (PyData.int ((a : Int).fdiv b)) else none) = _
  rw [if_pos (by simp; omega), Int.fdiv_eq_ediv_of_nonneg _ (by omega), ← Int.natCast_ediv]; rfl
theorem in64 {b : Nat} (h : b ≤ 2 ^ 60) : isIn64 (b : Int) = true := Nat.ble_eq.mpr (by omega)
theorem mul_I (a b : Nat) (hb : b ≤ 2 ^ 60) : gMulA (I a) (I b) = some (I (a * b)) := by
  unfold gMulA
  simp only [I, in64 hb, Bool.or_true, if_true]
  rw [← Int.natCast_mul]
  exact intKe _ _
theorem gt_I (a b : Nat) : gGt (I a) (I b) = some (.bool (decide (b < a))) := by
  show some (PyData.bool (decide ((b : Int) < (a : Int)))) = _
  simp
theorem lt_I (a b : Nat) : gLt (I a) (I b) = some (.bool (decide (a < b))) := by
  show some (PyData.bool (decide ((a : Int) < (b : Int)))) = _
  simp
theorem ge_I (a b : Nat) : gGe (I a) (I b) = some (.bool (decide (b ≤ a))) := by
  show some (PyData.bool (decide ((b : Int) ≤ (a : Int)))) = _
  simp
theorem eq_I (a b : Nat) : gEqD (I a) (I b) = some (.bool (decide (a = b))) := by
  show gEqD (.int a) (.int b) = _
  rw [eqI_of, decide_eq_decide.mpr (show ((a : Int) = (b : Int)) ↔ a = b by omega)]
theorem ne_I (a b : Nat) : gNeD (I a) (I b) = some (.bool (decide (a ≠ b))) := by
  have h := eq_I a b
  unfold gEqD at h
  unfold gNeD
  split at h
  · rename_i z
    rw [if_pos z]
    have h' : PyData.eqv (I a) (I b) = decide (a = b) := by simpa using h
    rw [h']; simp
  · cases h
theorem whl_key {c : En → M Bool} {g : En → M Fl} (e : Nat → En) : ∀ (m n j : Nat), (∀ i, j ≤ i → i < j + m → c (e i) = pure true ∧ g (e i) = pure (.nx (e (i + 1)))) → c (e (j + m)) = pure false → m < n → whGo c g n (e j) = pure (.nx (e (j + m)))
  | 0, n + 1, j, _, hf, _ => by
    show (c (e j) >>= fun b => _) = _
    rw [show c (e j) = pure false from hf]; rfl
  | m + 1, n + 1, j, hs, hf, hn => by
    obtain ⟨h1, h2⟩ := hs j (Nat.le_refl _) (by omega)
    have ih := whl_key e m n (j + 1) (fun i h3 h4 => hs i (by omega) (by omega)) (by rw [show j + 1 + m = j + (m + 1) by omega]; exact hf) (by omega)
    rw [show j + (m + 1) = j + 1 + m by omega, ← ih]
    show (c (e j) >>= fun b => _) = _
    rw [h1, pure_b]
    show (g (e j) >>= fun fl => _) = _
    rw [h2]; rfl
/-- a while whose turns are told by a list that is used up -/
theorem whl_list {α : Type} {c : En → M Bool} {g : En → M Fl} (e : List α → En) (inv : List α → Prop) (hs : ∀ a l, inv (a :: l) → c (e (a :: l)) = pure true ∧ g (e (a :: l)) = pure (.nx (e l)) ∧ inv l) (hf : c (e []) = pure false) : ∀ (l : List α) (n : Nat), inv l → l.length < n → whGo c g n (e l) = pure (.nx (e []))
  | [], n + 1, _, _ => by
    show (c (e []) >>= fun b => _) = _
    rw [hf]; rfl
  | a :: l, n + 1, hi, hn => by
    obtain ⟨h1, h2, h3⟩ := hs a l hi
    rw [← whl_list e inv hs hf l n h3 (by simp at hn; omega)]
    show (c (e (a :: l)) >>= fun b => _) = _
    rw [h1, pure_b]
    show (g (e (a :: l)) >>= fun fl => _) = _
    rw [h2]; rfl
theorem whl_seq {c : En → M Bool} {g h : En → M Fl} (e : Nat → En) (m : Nat) {x : M Fl} {ρ : En} (he : ρ = e 0) (hm : m < 1000000) (hs : ∀ i, i < m → c (e i) = pure true ∧ g (e i) = pure (.nx (e (i + 1)))) (hf : c (e m) = pure false) (hh : h (e m) = x) : sSeq (sWhile c g) h ρ = x := by
  subst he
  refine GM.seq_of (ρ' := e m) ?_ hh
  have := whl_key e m whFuel 0 (fun i _ h2 => hs i (by omega)) (by rw [Nat.zero_add]; exact hf) (by unfold whFuel; omega)
  rw [Nat.zero_add] at this
  exact this
theorem melt_of {i : Nat} {g : En → M Fl} {ρ : En} {l : List PyData} (h : ρ[i]? = some (some (.ow (l, true)))) : sMelt i g ρ = g (ρ.set i (some (.im (.list l)))) := by
  unfold sMelt; rw [h]
theorem len_rl {f : En → M PyData} {ρ : En} {r : List (List Nat)} (h : f ρ = pure (rl r)) : cCall gLen (aD f aNil) ρ = pure (I r.length) := call1_of h (by show some (PyData.int ((r.map wd).length : Nat)) = _; rw [List.length_map]; rfl)
theorem len_wd {f : En → M PyData} {ρ : En} {w : List Nat} (h : f ρ = pure (wd w)) : cCall gLen (aD f aNil) ρ = pure (I w.length) := call1_of h (by show some (PyData.int ((w.map I).length : Nat)) = _; rw [List.length_map]; rfl)
theorem cut_take (l : List PyData) (k : Nat) : cutD l none (some (k : Int)) = l.take k := by
  unfold cutD
  rw [HT.sIx_none, HT.sIx_nat, List.drop_zero, Nat.sub_zero]
  by_cases h : k ≤ l.length
  · rw [Nat.min_eq_left h]
  · rw [Nat.min_eq_right (by omega), List.take_of_length_le (Nat.le_refl _), List.take_of_length_le (by omega)]
theorem cut_drop (l : List PyData) (k : Nat) : cutD l (some (k : Int)) none = l.drop k := by
  unfold cutD
  rw [HT.sIx_none, HT.sIx_nat]
  by_cases h : k ≤ l.length
  · rw [Nat.min_eq_left h]
    exact List.take_of_length_le (by rw [List.length_drop]; omega)
  · rw [Nat.min_eq_right (by omega), List.drop_length, List.take_nil, List.drop_eq_nil_of_le (by omega)]
theorem sl_take {f : En → M PyData} {ρ : En} {l : List PyData} {k : Nat} (h : f ρ = pure (.tuple l)) : cSl f noP (someP (cD (.int (k : Int)))) ρ = pure (.tuple (l.take k)) := by
  unfold cSl
  rw [h, pure_b]
  show lift (some (PyData.tuple (cutD l none (some (k : Int))))) = _
  rw [cut_take]; rfl
theorem sl_drop {f : En → M PyData} {ρ : En} {l : List PyData} {k : Nat} (h : f ρ = pure (.tuple l)) : cSl f (someP (cD (.int (k : Int)))) noP ρ = pure (.tuple (l.drop k)) := by
  unfold cSl
  rw [h, pure_b]
  show lift (some (PyData.tuple (cutD l (some (k : Int)) none))) = _
  rw [cut_drop]; rfl
theorem for_of {fi : En → M (List PyData)} {b : PyData → En → Option En} {g : En → M Fl} {ρ ρ' : En} {ds : List PyData} (hf : fi ρ = pure ds) (h : forGo b g ds (age ρ) = pure (.nx ρ')) : sFor fi b g ρ = pure (.nx (renew ρ ρ')) := by
  unfold sFor
  rw [hf, pure_b, h, pure_b]; rfl
theorem andB_t {c1 c2 : En → M Bool} {ρ : En} {m : M Bool} (h : c1 ρ = pure true) (h2 : c2 ρ = m) : cAndB c1 c2 ρ = m := by
  unfold cAndB
  rw [h, pure_b]; exact h2
theorem andB_f {c1 c2 : En → M Bool} {ρ : En} (h : c1 ρ = pure false) : cAndB c1 c2 ρ = pure false := by
  unfold cAndB
  rw [h, pure_b]; rfl
theorem orB_f {c1 c2 : En → M Bool} {ρ : En} {m : M Bool} (h : c1 ρ = pure false) (h2 : c2 ρ = m) : cOrB c1 c2 ρ = m := by
  unfold cOrB
  rw [h, pure_b]; exact h2
end GM
end

section
set_option Elab.async false
set_option linter.all false
set_option maxRecDepth 100000
set_option maxHeartbeats 4100000
namespace GM
open PySem G
/-! ### draws within arguments, displays, own lists -/
section
variable {cs : List Int} {n k : Nat}
/-- a number below m -/
def isN (m : Nat) (d : PyData) : Prop := ∃ a : Nat, a < m ∧ d = I a
theorem isN_of {m : Nat} {d : PyData} (h : inR (m : Int) d) : isN m d := by
  obtain ⟨i, rfl, h1, h2⟩ := h
  exact ⟨i.toNat, by omega, by show PyData.int i = PyData.int (i.toNat : Int); rw [Int.toNat_of_nonneg h1]⟩
theorem TN_aD {f : En → M PyData} {fs : En → M (List Ag)} {ρ : En} {P : PyData → Prop} {Q : List Ag → Prop} (h : TN cs n (f ρ) P) (hs : TN cs k (fs ρ) Q) : TN cs (n + k) (aD f fs ρ) (fun as => ∃ d r, P d ∧ Q r ∧ as = .d d :: r) :=
  TN_bind h fun d hd => TN_le (TN_bind (k := 0) hs fun r hr => TN_pure ⟨d, r, hd, hr, rfl⟩) (by omega)
theorem TN_nil {ρ : En} : TN cs 0 (aNil ρ) (fun as => as = []) := TN_pure rfl
theorem TN_tup {fs : En → M (List Ag)} {ρ : En} {Q : List Ag → Prop} {R : PyData → Prop} (h : TN cs n (fs ρ) Q) (g : ∀ as, Q as → ∃ d, mkTup as = some d ∧ R d) : TN cs n (cTup fs ρ) R := TN_le (TN_bind (k := 0) h fun as ha => by
  obtain ⟨d, e, hd⟩ := g as ha
  rw [e]; exact TN_pure hd) (by omega)
theorem TN_call1 {g : List PyData → Option PyData} {f : En → M PyData} {ρ : En} {P R : PyData → Prop} (h : TN cs n (f ρ) P) (hg : ∀ x, P x → ∃ d, g [x] = some d ∧ R d) : TN cs n (cCall g (aD f aNil) ρ) R := by
  refine TN_le (TN_bind (k := 0) (TN_aD (k := 0) h TN_nil) fun as ⟨d, r, hd, hr, e⟩ => ?_) (by omega)
  subst hr e
  obtain ⟨y, hy, hr⟩ := hg d hd
  show TN cs 0 (lift (g [d])) R
  rw [hy]; exact TN_pure hr
theorem TN_own {f : En → M PyData} {i : Nat} {ρ : En} {P : List PyData → Prop} (h : TN cs n (f ρ) (fun d => ∃ l, d = .list l ∧ P l)) : TN cs n (sOwn i f ρ) (fun fl => ∃ l, P l ∧ fl = .nx (ρ.set i (some (.ow (l, true))))) := TN_le (TN_bind (k := 0) h fun d ⟨l, e, hl⟩ => by subst e; exact TN_pure ⟨l, hl, rfl⟩) (by omega)
theorem args_f0 {i : Nat} {ρ : En} (e : ρ[i]? = some (some .fd)) : aF i aNil ρ = pure [.fd] := by
  unfold aF getF
  rw [e]; rfl
theorem TN_asgT {f : En → M PyData} {b : PyData → En → Option En} {ρ : En} {P : PyData → Prop} {Q : En → Prop} (h : TN cs n (f ρ) P) (g : ∀ d, P d → ∃ ρ', b d ρ = some ρ' ∧ Q ρ') : TN cs n (sAsg f b ρ) (fun fl => ∃ ρ', Q ρ' ∧ fl = .nx ρ') := TN_le (TN_bind (k := 0) h fun d hd => by
  obtain ⟨ρ', e, q⟩ := g d hd
  rw [e]; exact TN_pure ⟨ρ', q, rfl⟩) (by omega)
end
end GM
end

section
set_option Elab.async false
set_option linter.all false
set_option maxRecDepth 100000
set_option maxHeartbeats 4100000
namespace G
open L2 PySem
section
variable {ks : Ks} {cs : List Int}
/-! ### the same draw with greater bounds -/
theorem T_drawD2 {c0 m1 c1 a1 m2 c2 a2 m3 c3 m4 : Int} {L : Int} (h0 : 0 < L) (h1 : L < 1073741824) (k1 : 0 < m1) (k2 : 0 < m2) (k3 : 0 < m3) (k4 : 0 < m4) (k5 : isIn64 c1 = true) (k6 : isIn64 c2 = true) (k7 : isIn64 c3 = true) (k8 : m2 < 2 ^ 60) (k9 : m3 < 2 ^ 60) : T .d cs (runB 6 (drawD c0 m1 c1 a1 m2 c2 a2 m3 c3 m4) [.fd, .d (.int L)]) (inR L) := by
  refine T_body ?_
  refine T_seq (T_put rfl (T_add (T_get rfl (by decide)) T_cI)) fun fl e => ?_
  subst e
  let ρ0 : En := env0 6 [.fd, .d (.int L)]
  refine T_seq (P := fun fl => fl = .nx ρ0 ∨ ∃ d, fl = .rt d ∧ inR L d) (T_if (T_cB (T_bin (T_get rfl (by decide)) T_cI fun _ _ => g_cmp)) ?_ (T_pure (.inl rfl))) fun fl e => ?_
  · refine T_seq (T_asg (T_modV h0 (T_int (T_get rfl (by decide))) rfl)) fun fl ⟨d, hd, e⟩ => ?_
    subst e
    refine T_seq (T_put rfl (T_divV h0 (by omega) (T_get rfl (by decide)) rfl)) fun fl e => ?_
    subst e
    exact T_imp (T_ret (T_v rfl hd)) fun _ => .inr
  refine e.elim (fun e => ?_) (fun ⟨d, e, hd⟩ => by subst e; exact T_pure ⟨d, rfl, hd⟩)
  subst e
  refine T_seq (T_asg (T_get rfl (by decide))) fun fl ⟨d, ⟨p, hp⟩, e⟩ => ?_
  subst e hp
  refine T_seq (T_put rfl (T_add (T_vI rfl) T_cI)) fun fl e => ?_
  subst e
  refine T_seq (T_asg (T_cell rfl rfl)) fun fl ⟨d, ⟨c, hc⟩, e⟩ => ?_
  subst e hc
  let ρ1 : En := [some .fd, some (.im (.int L)), some (.im (.int p)), some (.im (.int c)), none, none]
  refine T_seq (P := fun fl => fl = .nx ρ1 ∨ ∃ d, fl = .rt d ∧ inR L d) (T_if ?_ ?_ (T_pure (.inl rfl))) fun fl e => ?_
  · refine T_bind (T_cB (T_bin (T_vI rfl) (T_pure (P := isI) ⟨10 ^ 18, rfl⟩) fun _ _ => g_cmp)) fun b _ => ?_
    cases b with
    | false => exact T_pure trivial
    | true => exact T_cB (T_bin (T_vI rfl) (T_imp (T_len (T_getC rfl)) fun d h => ⟨_, h⟩) fun _ _ => g_cmp)
  · refine T_seq (T_put rfl (T_divV h0 (by omega) (T_vI rfl) rfl)) fun fl e => ?_
    subst e
    exact T_imp (T_ret (T_modV h0 (T_int (T_vI rfl)) rfl)) fun _ => .inr
  refine e.elim (fun e => ?_) (fun ⟨d, e, hd⟩ => by subst e; exact T_pure ⟨d, rfl, hd⟩)
  subst e
  refine T_seq (T_asg (T_modC k2 (T_int (T_add (T_add (T_imp (T_modC k1 (T_int (T_vI rfl))) fun _ => isI_of) (T_mulC k5 (T_get rfl (by decide)))) T_cI)))) fun fl ⟨b1, hb1, e⟩ => ?_
  subst e
  refine T_seq (T_asg (T_modC k3 (T_int (T_add (T_add (T_bin (T_v rfl hb1) (T_v rfl (isI_of hb1)) fun _ _ => g_mulr k8) (T_mulC k6 (T_get rfl (by decide)))) T_cI)))) fun fl ⟨b2, hb2, e⟩ => ?_
  subst e
  exact T_ret (T_modV h0 (T_int (T_divC (by decide) (by decide) (T_imp (T_modC k4 (T_int (T_add (T_bin (T_v rfl hb2) (T_v rfl (isI_of hb2)) fun _ _ => g_mulr k9) (T_mulC k7 (T_v rfl (isI_of hb2)))))) fun _ => isI_of))) rfl)
end
end G
end

section
set_option Elab.async false
set_option linter.all false
set_option maxRecDepth 100000
set_option maxHeartbeats 4100000
namespace G
open L2 PySem.Spec PyProof.Rows PySem
variable [LamT]
/-! ### repr of an int, a list, a tuple -/
def gReprA (x : PyData) : Option PyData := match x with
  | .int i => if Nat.blt i.natAbs.log2 1920 then some (.str (PyData.int i).shown) else none
  | x => gRepr x
section
variable {X : Cx}
theorem d_reprA {k : Nat} {p pos : Pos} {e : Expr} {f : En → M PyData} (hr : RoomG k X.A) (hm : X.mg "repr" = none) (ha : PD X e f) (hg : Gl X "repr" := by rfl) (hv : bootBuiltins "repr" = some (.builtin "repr") := by decide +kernel)
    (he : starEach (e :: []) X.env = (false, eval e X.env) :: starEach [] X.env := by rfl) (hpl : (backTo pos (starEach [] X.env)).any (·.1) = false := by rfl) : PD X (.Call (.Name "repr" p) [e] [] pos) (cUn gReprA f) := by
  have hI : PE X (.Call (.Name "repr" p) [e] [] pos) _ := pe_callB SkE.call_repr_int hg hm hv (pa_cons ha pa_nil he) (by decide) (by decide) he hpl
  have hD : PD X (.Call (.Name "repr" p) [e] [] pos) (cUn gRepr f) := d_repr hr hm ha hg hv he hpl
  refine ⟨fun pn sh env hp Q J ⟨av, q, ρ, S, A, p⟩ => ?_⟩
  have p0 : (M.bind (f ρ) (fun x => lift (gReprA x)) S).post (fun d S' => ∀ v H', Ext (mv q) hp H' → FeedAt av q S' H' → Dx X.K (msk av H') v d → Q v H') (xE X.K (wa (wx X) env) av q hp) := p
  have other : (∀ d S1, f ρ S = .ok d S1 → gReprA d = gRepr d) → wpAny (model X.prog X.w) X.A (eval (.Call (.Name "repr" _) [e] [] pos) X.env) (EP X pn env Q) X.xe sh := fun ho => by
    refine hD.run pn sh env hp Q J ⟨av, q, ρ, S, A, ?_⟩
    show (M.bind (f ρ) (fun x => lift (gRepr x)) S).post _ _
    unfold M.bind at p0 ⊢
    cases e0 : f ρ S with
    | bad => rw [e0] at p0; exact p0
    | ex x S1 => rw [e0] at p0; exact p0
    | ok d S1 =>
      rw [e0] at p0
      have p1 : (lift (gReprA d) S1).post _ _ := p0
      rw [ho d S1 e0] at p1
      exact p1
  cases e0 : f ρ S with
  | bad => exact other fun d S1 z => by rw [e0] at z; cases z
  | ex x S1 => exact other fun d S1 z => by rw [e0] at z; cases z
  | ok d S1 =>
    cases d with
    | int i =>
      refine hI.run pn sh env hp Q J ⟨av, q, ρ, S, A, ?_⟩
      unfold M.bind at p0
      rw [e0] at p0
      obtain ⟨d', hd, kk⟩ := post_lift p0
      have hd : (if Nat.blt i.natAbs.log2 1920 then some (PyData.str (PyData.int i).shown) else none) = some d' := hd
      split at hd
      · rename_i hh
        cases hd
        unfold wE; rw [e0]
        intro v H1 e1 f1 d1
        cases d1
        refine ⟨i, rfl, Nat.blt_eq.mp hh, ?_⟩
        have es : (PyData.int i).shown = (toString i : String) := by simp only [PyData.shown]
        rw [← es]
        exact kk _ H1 e1 f1 (.str _)
      · cases hd
    | _ => exact other fun d S2 z => by rw [e0] at z; cases z; rfl
end
end G
end

section
set_option Elab.async false
set_option linter.all false
set_option maxRecDepth 100000
set_option maxHeartbeats 4100000
namespace G
open L2 PySem.Spec PyProof.Rows PySem
/-! ### answers that are known already are looked up: for the kernel -/
mutual
def eqP (x y : PyData) : Bool := match x with
  | .none => match y with | .none => true | _ => false
  | .bool a => match y with | .bool b => (match a with | true => b | false => !b) | _ => false
  | .int a => match y with | .int b => decide (a = b) | _ => false
  | .list a => match y with | .list b => eqPs a b | _ => false
  | .tuple a => match y with | .tuple b => eqPs a b | _ => false
  | .str a => match y with | .str b => decide (a = b) | _ => false
  | .dict _ => false
def eqPs (xs ys : List PyData) : Bool := match xs with
  | [] => ys.isEmpty
  | x :: xs => match ys with | [] => false | y :: ys => (match eqP x y with | true => eqPs xs ys | false => false)
end
mutual
theorem eqP_ok : ∀ (x y : PyData), eqP x y = true → x = y
  | .none, y, h => by cases y <;> simp [eqP] at h ⊢
  | .bool a, y, h => by cases y <;> cases a <;> simp [eqP] at h ⊢ <;> exact h
  | .int a, y, h => by cases y <;> simp [eqP] at h ⊢; exact h
  | .str a, y, h => by cases y <;> simp [eqP] at h ⊢; exact h
  | .dict a, y, h => by simp [eqP] at h
  | .list a, y, h => by cases y <;> simp [eqP] at h ⊢; exact eqPs_ok _ _ h
  | .tuple a, y, h => by cases y <;> simp [eqP] at h ⊢; exact eqPs_ok _ _ h
theorem eqPs_ok : ∀ (xs ys : List PyData), eqPs xs ys = true → xs = ys
  | [], ys, h => by cases ys <;> simp [eqPs] at h ⊢
  | x :: xs, [], h => by simp [eqPs] at h
  | x :: xs, y :: ys, h => by
    unfold eqPs at h
    simp only at h
    cases e : eqP x y with
    | false => rw [e] at h; exact absurd h Bool.false_ne_true
    | true =>
      rw [e] at h
      rw [eqP_ok x y e, eqPs_ok xs ys h]
end
def eqGs : List Ag → List PyData → Bool
  | [], ys => ys.isEmpty
  | .d x :: xs, ys => match ys with | [] => false | y :: ys => (match eqP x y with | true => eqGs xs ys | false => false)
  | .fd :: _, _ => false
theorem eqGs_ok : ∀ (xs : List Ag) (ys : List PyData), eqGs xs ys = true → xs = ys.map Ag.d
  | [], ys, h => by cases ys <;> simp [eqGs] at h ⊢
  | .fd :: _, _, h => by simp [eqGs] at h
  | .d x :: xs, [], h => by simp [eqGs] at h
  | .d x :: xs, y :: ys, h => by
    unfold eqGs at h
    simp only at h
    cases e : eqP x y with
    | false => rw [e] at h; exact absurd h Bool.false_ne_true
    | true =>
      rw [e] at h
      rw [eqP_ok x y e, eqGs_ok xs ys h, List.map_cons]
/-- F, but what the table holds is looked up -/
def memoT (F : Fn) : List (List PyData × PyData) → Fn
  | [] => F
  | p :: t => fun as S => match eqGs as p.1 with | true => .ok p.2 S | false => memoT F t as S
theorem memoT_nil {F : Fn} : memoT F [] = F := rfl
theorem memoT_cons {F : Fn} {k : List PyData} {v : PyData} {t : List (List PyData × PyData)} (h : ∀ S : Fd, F (k.map Ag.d) S = .ok v S) (e : memoT F t = F) : memoT F ((k, v) :: t) = F := funext fun as => funext fun S => by
  unfold memoT
  split
  · rename_i q
    rw [eqGs_ok _ _ q, h S]
  · rw [e]
end G
end

section
set_option Elab.async false
set_option linter.all false
set_option maxRecDepth 100000
set_option maxHeartbeats 4100000
namespace G
open L2 PySem.Spec PyProof.Rows PySem
variable [LamT]
/-! ### values are worked out once: for the kernel -/
mutual
def fcP {β : Type} (x : PyData) (k : PyData → β) : β := match x with
  | .none => k .none
  | .bool b => match b with | true => k (.bool true) | false => k (.bool false)
  | .int i => intK i fun m => k (.int m)
  | .str s => k (.str s)
  | .list l => fcPs l fun m => k (.list m)
  | .tuple l => fcPs l fun m => k (.tuple m)
  | .dict l => k (.dict l)
def fcPs {β : Type} (xs : List PyData) (k : List PyData → β) : β := match xs with
  | [] => k []
  | x :: xs => fcP x fun y => fcPs xs fun ys => k (y :: ys)
end
mutual
theorem fcP_eq {β : Type} : ∀ (x : PyData) (k : PyData → β), fcP x k = k x
  | .none, k => by simp only [fcP]
  | .bool b, k => by cases b <;> simp only [fcP]
  | .int i, k => by simp only [fcP]; exact intK_eq i _
  | .str s, k => by simp only [fcP]
  | .dict l, k => by simp only [fcP]
  | .list l, k => by simp only [fcP]; exact fcPs_eq l _
  | .tuple l, k => by simp only [fcP]; exact fcPs_eq l _
theorem fcPs_eq {β : Type} : ∀ (xs : List PyData) (k : List PyData → β), fcPs xs k = k xs
  | [], k => by simp only [fcPs]
  | x :: xs, k => by
    simp only [fcPs]
    rw [fcP_eq x, fcPs_eq xs]
end
/-- f's value, worked out -/
def cNow (f : En → M PyData) : En → M PyData := fun ρ S => match f ρ S with
  | .ok d S1 => fcP d fun d => .ok d S1
  | r => r
theorem cNow_eq (f : En → M PyData) : cNow f = f := funext fun ρ => funext fun S => by
  unfold cNow
  split
  · rename_i e; rw [fcP_eq, e]
  · rfl
def sAsgN (f : En → M PyData) (b : PyData → En → Option En) : En → M Fl := sAsg (cNow f) b
theorem asgN_eq (f : En → M PyData) (b : PyData → En → Option En) : sAsg f b = sAsgN f b := by
  unfold sAsgN; rw [cNow_eq]
def sameShown (x y : PyData) : Bool := (match x with | .list _ => true | .tuple _ => true | _ => false) && (eqP x y && (GM.okD x && (Nat.ble x.depth 100 && Nat.ble (GM.nod x) 50000)))
theorem sameShown_ok {x y : PyData} (h : sameShown x y = true) : x = y ∧ gRepr x = some (.str x.shown) ∧ gEqD (.str x.shown) (.str x.shown) = some (.bool true) := by
  unfold sameShown at h
  simp only [Bool.and_eq_true] at h
  obtain ⟨h0, h1, h2, h3, h4⟩ := h
  refine ⟨eqP_ok x y h1, GM.gRepr_ok ?_ h2 (Nat.ble_eq.mp h3) (Nat.ble_eq.mp h4), GM.eq_str (GM.sOk_shown x h2)⟩
  cases x with
  | list xs => exact .inl ⟨xs, rfl⟩
  | tuple xs => exact .inr ⟨xs, rfl⟩
  | none => exact absurd h0 Bool.false_ne_true
  | bool _ => exact absurd h0 Bool.false_ne_true
  | int _ => exact absurd h0 Bool.false_ne_true
  | str _ => exact absurd h0 Bool.false_ne_true
  | dict _ => exact absurd h0 Bool.false_ne_true
/-- repr(f) == repr(g), looked at as values first -/
def cSameR (f g slow : En → M PyData) : En → M PyData := fun ρ S => match f ρ S with
  | .ok x S1 => (match g ρ S1 with
    | .ok y S2 => fcP x fun x => fcP y fun y => (match sameShown x y with | true => .ok (.bool true) S2 | false => slow ρ S)
    | _ => slow ρ S)
  | _ => slow ρ S
theorem cSameR_eq (f g : En → M PyData) : cBin gEqD (cUn gRepr f) (cUn gRepr g) = cSameR f g (cBin gEqD (cUn gRepr f) (cUn gRepr g)) := funext fun ρ => funext fun S => by
  unfold cSameR
  split
  · rename_i x S1 ef
    split
    · rename_i y S2 eg
      rw [fcP_eq, fcP_eq]
      split
      · rename_i h
        obtain ⟨rfl, h1, h2⟩ := sameShown_ok h
        have e1 : cUn gRepr f ρ S = .ok (.str x.shown) S1 := by
          show M.bind (f ρ) _ S = _
          unfold M.bind
          rw [ef]
          show lift (gRepr x) S1 = _
          rw [h1]; rfl
        have e2 : cUn gRepr g ρ S1 = .ok (.str x.shown) S2 := by
          show M.bind (g ρ) _ S1 = _
          unfold M.bind
          rw [eg]
          show lift (gRepr x) S2 = _
          rw [h1]; rfl
        show M.bind (cUn gRepr f ρ) _ S = _
        unfold M.bind
        rw [e1]
        show M.bind (cUn gRepr g ρ) _ S1 = _
        unfold M.bind
        rw [e2]
        show lift (gEqD (.str x.shown) (.str x.shown)) S2 = _
        rw [h2]; rfl
      · rfl
    · rfl
  · rfl
def allN : List PyData → Bool
  | [] => true
  | .int _ :: r => allN r
  | _ :: _ => false
theorem allN_ok : ∀ xs : List PyData, allN xs = true → ∃ ns : List Int, xs = ns.map PyData.int
  | [], _ => ⟨[], rfl⟩
  | .int i :: r, h => let ⟨ns, e⟩ := allN_ok r h; ⟨i :: ns, by rw [e]; rfl⟩
  | .none :: _, h => by cases h
  | .bool _ :: _, h => by cases h
  | .str _ :: _, h => by cases h
  | .list _ :: _, h => by cases h
  | .tuple _ :: _, h => by cases h
  | .dict _ :: _, h => by cases h
/-- f != g, looked at as tuples of numbers first -/
def cDiffN (f g slow : En → M PyData) : En → M PyData := fun ρ S => match f ρ S with
  | .ok x S1 => (match g ρ S1 with
    | .ok y S2 => (match (match x with | .tuple xs => (match y with | .tuple ys => eqPs xs ys && allN xs | _ => false) | _ => false) with | true => .ok (.bool false) S2 | false => slow ρ S)
    | _ => slow ρ S)
  | _ => slow ρ S
theorem cDiffN_eq (f g : En → M PyData) : cBin gNeD f g = cDiffN f g (cBin gNeD f g) := funext fun ρ => funext fun S => by
  unfold cDiffN
  split
  · rename_i x S1 ef
    split
    · rename_i y S2 eg
      split
      · rename_i h
        cases x <;> try exact absurd h Bool.false_ne_true
        rename_i xs
        cases y <;> try exact absurd h Bool.false_ne_true
        rename_i ys
        simp only [Bool.and_eq_true] at h
        have e := eqPs_ok _ _ h.1
        subst e
        obtain ⟨ns, rfl⟩ := allN_ok _ h.2
        show M.bind (f ρ) _ S = _
        unfold M.bind
        rw [ef]
        show M.bind (g ρ) _ S1 = _
        unfold M.bind
        rw [eg]
        show lift (gNeD _ _) S2 = _
        rw [ne_same]; rfl
      · rfl
    · rfl
  · rfl
end G
end

section
set_option Elab.async false
set_option linter.all false
set_option maxRecDepth 100000
set_option maxHeartbeats 4100000
namespace GM
open PySem PySem.Spec PyProof.Rows L2 G
variable [LamT]
/-! ### what is shown, with texts and numbers below nought: looked at leaf by leaf -/
mutual
def okE : PyData → Bool
  | .none => true
  | .bool _ => true
  | .int i => decide (i.natAbs < 10 ^ 300) && Nat.ble (PyData.int i).shown.length 300
  | .str s => (PyData.str s).showable && (Nat.ble (PyData.str s).shown.length 300 && PyData.strOk (PyData.str s).shown)
  | .list xs => okEs xs
  | .tuple xs => okEs xs
  | .dict _ => false
def okEs : List PyData → Bool
  | [] => true
  | x :: xs => okE x && okEs xs
end
mutual
theorem shownE_le : ∀ d : PyData, okE d = true → d.showable = true ∧ d.hasDict = false ∧ d.shown.length + 2 ≤ 310 * nod d
  | .none, _ => ⟨by simp [PyData.showable], by simp [PyData.hasDict], by simp only [PyData.shown, nod]; decide⟩
  | .bool b, _ => ⟨by simp [PyData.showable], by simp [PyData.hasDict], by cases b <;> simp only [PyData.shown, nod] <;> decide⟩
  | .int i, h => by
    have h' := Bool.and_eq_true_iff.mp (show (decide (i.natAbs < 10 ^ 300) && Nat.ble (PyData.int i).shown.length 300) = true from h)
    have b := of_decide_eq_true h'.1
    have l := Nat.ble_eq.mp h'.2
    refine ⟨?_, by simp [PyData.hasDict], ?_⟩
    · have : i.natAbs.log2 < 1920 := by
        by_cases z : i.natAbs = 0
        · rw [z]; decide
        · have z3 : i.natAbs < 2 ^ 1000 := Nat.lt_of_lt_of_le b (by decide +kernel)
          have z2 : i.natAbs.log2 < 1000 := (Nat.log2_lt z).mpr z3
          omega
      simpa [PyData.showable] using this
    · show _ + 2 ≤ 310 * 1
      omega
  | .str s, h => by
    have h' := Bool.and_eq_true_iff.mp (show ((PyData.str s).showable && (Nat.ble (PyData.str s).shown.length 300 && PyData.strOk (PyData.str s).shown)) = true from h)
    have h2 := Bool.and_eq_true_iff.mp h'.2
    have l := Nat.ble_eq.mp h2.1
    exact ⟨h'.1, by simp [PyData.hasDict], by show _ + 2 ≤ 310 * 1; omega⟩
  | .list xs, h => by
    obtain ⟨h1, h2, h3⟩ := shownE_les xs h
    refine ⟨by simpa [PyData.showable] using h1, by simpa [PyData.hasDict] using h2, ?_⟩
    have e : (PyData.list xs).shown = listText (PyData.shownAll xs) := by simp only [PyData.shown]
    have := listText_le (PyData.shownAll xs)
    rw [e]
    show _ ≤ 310 * (1 + nods xs)
    omega
  | .tuple xs, h => by
    obtain ⟨h1, h2, h3⟩ := shownE_les xs h
    refine ⟨by simpa [PyData.showable] using h1, by simpa [PyData.hasDict] using h2, ?_⟩
    have e : (PyData.tuple xs).shown = tupleText (PyData.shownAll xs) := by simp only [PyData.shown]
    have := tupleText_le (PyData.shownAll xs)
    rw [e]
    show _ ≤ 310 * (1 + nods xs)
    omega
  | .dict _, h => by cases h
theorem shownE_les : ∀ xs : List PyData, okEs xs = true → PyData.showableAll xs = true ∧ PyData.hasDictAll xs = false ∧ piled (PyData.shownAll xs) ≤ 310 * nods xs
  | [], _ => ⟨by simp [PyData.showableAll], by simp [PyData.hasDictAll], by simp [PyData.shownAll, piled_nil, nods]⟩
  | x :: xs, h => by
    have h' := Bool.and_eq_true_iff.mp (show (okE x && okEs xs) = true from h)
    obtain ⟨a1, a2, a3⟩ := shownE_le x h'.1
    obtain ⟨b1, b2, b3⟩ := shownE_les xs h'.2
    refine ⟨by simp [PyData.showableAll, a1, b1], by simp [PyData.hasDictAll, a2, b2], ?_⟩
    have e : PyData.shownAll (x :: xs) = x.shown :: PyData.shownAll xs := by simp only [PyData.shownAll]
    rw [e, piled_cons]
    show _ ≤ 310 * (nod x + nods xs)
    omega
end
mutual
theorem sOkE_shown : ∀ d : PyData, okE d = true → PyData.strOk d.shown = true
  | .none, _ => by simp only [PyData.shown]; exact sOk_of _
  | .bool b, _ => by cases b <;> simp only [PyData.shown] <;> exact sOk_of _
  | .int i, _ => by simp only [PyData.shown]; exact sOk_of _
  | .str s, h => by
    have h' := Bool.and_eq_true_iff.mp (show ((PyData.str s).showable && (Nat.ble (PyData.str s).shown.length 300 && PyData.strOk (PyData.str s).shown)) = true from h)
    exact (Bool.and_eq_true_iff.mp h'.2).2
  | .list xs, h => by
    have e : (PyData.list xs).shown = listText (PyData.shownAll xs) := by simp only [PyData.shown]
    rw [e]
    exact sOk_app (sOk_from _ _ _ (sOk_of "[") (sOkE_all xs h)) (sOk_of "]")
  | .tuple xs, h => by
    have e : (PyData.tuple xs).shown = tupleText (PyData.shownAll xs) := by simp only [PyData.shown]
    rw [e]
    exact sOk_app (sOk_app (sOk_of "(") (sOk_join _ (sOkE_all xs h))) (sOk_of _)
  | .dict _, h => by cases h
theorem sOkE_all : ∀ xs : List PyData, okEs xs = true → ∀ t ∈ PyData.shownAll xs, PyData.strOk t = true
  | [], _, t, ht => by simp [PyData.shownAll] at ht
  | x :: xs, h, t, ht => by
    have h' := Bool.and_eq_true_iff.mp (show (okE x && okEs xs) = true from h)
    have e : PyData.shownAll (x :: xs) = x.shown :: PyData.shownAll xs := by simp only [PyData.shownAll]
    rw [e] at ht
    rcases List.mem_cons.mp ht with z | z
    · rw [z]; exact sOkE_shown x h'.1
    · exact sOkE_all xs h'.2 t z
end
theorem gReprE_ok {d : PyData} (hl : (∃ xs, d = .list xs) ∨ ∃ xs, d = .tuple xs) (h1 : okE d = true) (h2 : d.depth ≤ 100) (h3 : nod d ≤ 50000) : gRepr d = some (.str d.shown) := by
  obtain ⟨a1, a2, a3⟩ := shownE_le d h1
  have h4 : d.shown.length ≤ 16777216 := by omega
  rcases hl with ⟨xs, rfl⟩ | ⟨xs, rfl⟩
  · unfold gRepr
    simp [a1, a2, h2, h4]
  · unfold gRepr
    simp [a1, a2, h2, h4]
end GM
namespace G
open L2 PySem.Spec PyProof.Rows PySem
variable [LamT]
def sameShownE (x y : PyData) : Bool := (match x with | .list _ => true | .tuple _ => true | _ => false) && (eqP x y && (GM.okE x && (Nat.ble x.depth 100 && Nat.ble (GM.nod x) 50000)))
theorem sameShownE_ok {x y : PyData} (h : sameShownE x y = true) : x = y ∧ gRepr x = some (.str x.shown) ∧ gEqD (.str x.shown) (.str x.shown) = some (.bool true) := by
  unfold sameShownE at h
  simp only [Bool.and_eq_true] at h
  obtain ⟨h0, h1, h2, h3, h4⟩ := h
  refine ⟨eqP_ok x y h1, GM.gReprE_ok ?_ h2 (Nat.ble_eq.mp h3) (Nat.ble_eq.mp h4), GM.eq_str (GM.sOkE_shown x h2)⟩
  cases x with
  | list xs => exact .inl ⟨xs, rfl⟩
  | tuple xs => exact .inr ⟨xs, rfl⟩
  | none => exact absurd h0 Bool.false_ne_true
  | bool _ => exact absurd h0 Bool.false_ne_true
  | int _ => exact absurd h0 Bool.false_ne_true
  | str _ => exact absurd h0 Bool.false_ne_true
  | dict _ => exact absurd h0 Bool.false_ne_true
/-- repr(f) == repr(g), looked at as values first -/
def cSameE (f g slow : En → M PyData) : En → M PyData := fun ρ S => match f ρ S with
  | .ok x S1 => (match g ρ S1 with
    | .ok y S2 => fcP x fun x => fcP y fun y => (match sameShownE x y with | true => .ok (.bool true) S2 | false => slow ρ S)
    | _ => slow ρ S)
  | _ => slow ρ S
theorem cSameE_eq (f g : En → M PyData) : cBin gEqD (cUn gRepr f) (cUn gRepr g) = cSameE f g (cBin gEqD (cUn gRepr f) (cUn gRepr g)) := funext fun ρ => funext fun S => by
  unfold cSameE
  split
  · rename_i x S1 ef
    split
    · rename_i y S2 eg
      rw [fcP_eq, fcP_eq]
      split
      · rename_i h
        obtain ⟨rfl, h1, h2⟩ := sameShownE_ok h
        have e1 : cUn gRepr f ρ S = .ok (.str x.shown) S1 := by
          show M.bind (f ρ) _ S = _
          unfold M.bind
          rw [ef]
          show lift (gRepr x) S1 = _
          rw [h1]; rfl
        have e2 : cUn gRepr g ρ S1 = .ok (.str x.shown) S2 := by
          show M.bind (g ρ) _ S1 = _
          unfold M.bind
          rw [eg]
          show lift (gRepr x) S2 = _
          rw [h1]; rfl
        show M.bind (cUn gRepr f ρ) _ S = _
        unfold M.bind
        rw [e1]
        show M.bind (cUn gRepr g ρ) _ S1 = _
        unfold M.bind
        rw [e2]
        show lift (gEqD (.str x.shown) (.str x.shown)) S2 = _
        rw [h2]; rfl
      · rfl
    · rfl
  · rfl
end G
end

section
set_option Elab.async false
set_option linter.all false
set_option maxRecDepth 100000
set_option maxHeartbeats 4000000
namespace K15
open PySem PySem.Spec PyProof.Rows L2 G
variable [LamT]
def top (i : Nat) : Stmt := PySem.Challenge.pw_ledalong_k15_blocks_and_places_told.main.body.getD i (.Pass ⟨0, 0, 0, 0⟩)
def meth (i j : Nat) : Stmt := match top i with
  | .ClassDef (body := b) .. => b.getD j (.Pass ⟨0, 0, 0, 0⟩)
  | _ => .Pass ⟨0, 0, 0, 0⟩
abbrev t_need : Stmt := top 6
abbrev t_spread : Stmt := top 7
abbrev t_added_up : Stmt := top 8
abbrev t_is_integer : Stmt := top 10
abbrev t_is_number : Stmt := top 11
abbrev t_is_full : Stmt := top 14
abbrev t_is_below : Stmt := top 13
abbrev t_rule_fault : Stmt := top 15
abbrev t_is_rule : Stmt := top 12
abbrev t_need_block : Stmt := top 21
abbrev t_block_in : Stmt := top 22
abbrev t_block_of : Stmt := top 17
abbrev t_added_rows : Stmt := top 25
abbrev t_length_rows : Stmt := top 23
abbrev t_length_of : Stmt := top 18
abbrev t_lengths_of : Stmt := top 19
abbrev t_count_rows : Stmt := top 24
abbrev t_counts_in : Stmt := top 20
abbrev t_lot_behind : Stmt := top 30
abbrev t_lots_behind : Stmt := top 29
abbrev t_all_full : Stmt := top 31
abbrev t_growth_in : Stmt := top 28
abbrev t_is_growing : Stmt := top 27
abbrev t_path_in : Stmt := top 38
abbrev t_letter_at : Stmt := top 33
abbrev t_cut_word : Stmt := top 36
abbrev t_word_in : Stmt := top 35
abbrev t_word_at : Stmt := top 34
abbrev t_path_to : Stmt := top 37
abbrev t_is_path : Stmt := top 40
abbrev t_passed_by : Stmt := top 41
abbrev t_place_by : Stmt := top 39
abbrev t_count_before : Stmt := top 42
abbrev t_place_of : Stmt := top 43
abbrev t_seed_level : Stmt := top 45
abbrev t_seeds : Stmt := top 44
abbrev t_level_holding : Stmt := top 46
abbrev t__law_feed : Stmt := top 48
abbrev t__law_same : Stmt := top 49
abbrev t__law_draw : Stmt := top 50
abbrev t__law_heard : Stmt := top 51
abbrev t__law_rules : Stmt := top 52
abbrev t__law_are_blocks_told : Stmt := top 53
abbrev t__law_are_places_told : Stmt := top 54
abbrev t__law_are_counts_told : Stmt := top 55
abbrev t__law_level_told : Stmt := top 56
abbrev t__law_place_told : Stmt := top 57
abbrev t__law_more_told : Stmt := top 58
abbrev t__law_are_refused : Stmt := top 59
abbrev t__law_are_first_refused : Stmt := top 60
abbrev t__law_are_places_refused : Stmt := top 61
abbrev t__law_are_later_refused : Stmt := top 62
abbrev t_law : Stmt := top 63
abbrev ti_6 : Stmt := meth 4 0
structure TX (K : PySem.W.Frag) (mg : Str → Option Value) (base : Heap) (f cc pp : Nat → Addr) (fd : Nat → FuncData) (cl fi : Nat → Addr) (fdi : Nat → FuncData) : Prop where
  d6 : Fun K "need" "need" t_need (f 6) (fd 6)
  g6 : mg "need" = some (.ref (f 6))
  b6 : Binds K (fd 6) ["fine", "name"] []
  d7 : Fun K "spread" "spread" t_spread (f 7) (fd 7)
  g7 : mg "spread" = some (.ref (f 7))
  b7 : Binds K (fd 7) ["blocks", "word"] []
  d8 : Fun K "added_up" "added_up" t_added_up (f 8) (fd 8)
  g8 : mg "added_up" = some (.ref (f 8))
  b8 : Binds K (fd 8) ["rule", "amounts"] []
  d10 : Fun K "is_integer" "is_integer" t_is_integer (f 10) (fd 10)
  g10 : mg "is_integer" = some (.ref (f 10))
  b10 : Binds K (fd 10) ["thing"] []
  d11 : Fun K "is_number" "is_number" t_is_number (f 11) (fd 11)
  g11 : mg "is_number" = some (.ref (f 11))
  b11 : Binds K (fd 11) ["thing"] []
  d14 : Fun K "is_full" "is_full" t_is_full (f 14) (fd 14)
  g14 : mg "is_full" = some (.ref (f 14))
  b14 : Binds K (fd 14) ["thing"] []
  d13 : Fun K "is_below" "is_below" t_is_below (f 13) (fd 13)
  g13 : mg "is_below" = some (.ref (f 13))
  b13 : Binds K (fd 13) ["thing", "many"] []
  d15 : Fun K "rule_fault" "rule_fault" t_rule_fault (f 15) (fd 15)
  g15 : mg "rule_fault" = some (.ref (f 15))
  b15 : Binds K (fd 15) ["thing"] []
  d12 : Fun K "is_rule" "is_rule" t_is_rule (f 12) (fd 12)
  g12 : mg "is_rule" = some (.ref (f 12))
  b12 : Binds K (fd 12) ["thing"] []
  d21 : Fun K "need_block" "need_block" t_need_block (f 21) (fd 21)
  g21 : mg "need_block" = some (.ref (f 21))
  b21 : Binds K (fd 21) ["rule", "letter", "level"] []
  d22 : Fun K "block_in" "block_in" t_block_in (f 22) (fd 22)
  g22 : mg "block_in" = some (.ref (f 22))
  b22 : Binds K (fd 22) ["rule", "letter", "level"] []
  d17 : Fun K "block_of" "block_of" t_block_of (f 17) (fd 17)
  g17 : mg "block_of" = some (.ref (f 17))
  b17 : Binds K (fd 17) ["rule", "letter", "level"] []
  d25 : Fun K "added_rows" "added_rows" t_added_rows (f 25) (fd 25)
  g25 : mg "added_rows" = some (.ref (f 25))
  b25 : Binds K (fd 25) ["rule", "first", "level"] []
  d23 : Fun K "length_rows" "length_rows" t_length_rows (f 23) (fd 23)
  g23 : mg "length_rows" = some (.ref (f 23))
  b23 : Binds K (fd 23) ["rule", "level"] []
  d18 : Fun K "length_of" "length_of" t_length_of (f 18) (fd 18)
  g18 : mg "length_of" = some (.ref (f 18))
  b18 : Binds K (fd 18) ["rule", "letter", "level"] []
  d19 : Fun K "lengths_of" "lengths_of" t_lengths_of (f 19) (fd 19)
  g19 : mg "lengths_of" = some (.ref (f 19))
  b19 : Binds K (fd 19) ["rule", "letter", "level"] []
  d24 : Fun K "count_rows" "count_rows" t_count_rows (f 24) (fd 24)
  g24 : mg "count_rows" = some (.ref (f 24))
  b24 : Binds K (fd 24) ["rule", "other", "level"] []
  d20 : Fun K "counts_in" "counts_in" t_counts_in (f 20) (fd 20)
  g20 : mg "counts_in" = some (.ref (f 20))
  b20 : Binds K (fd 20) ["rule", "letter", "level"] []
  d30 : Fun K "lot_behind" "lot_behind" t_lot_behind (f 30) (fd 30)
  g30 : mg "lot_behind" = some (.ref (f 30))
  b30 : Binds K (fd 30) ["lot", "leap"] []
  d29 : Fun K "lots_behind" "lots_behind" t_lots_behind (f 29) (fd 29)
  g29 : mg "lots_behind" = some (.ref (f 29))
  b29 : Binds K (fd 29) ["lots", "leap"] []
  d31 : Fun K "all_full" "all_full" t_all_full (f 31) (fd 31)
  g31 : mg "all_full" = some (.ref (f 31))
  b31 : Binds K (fd 31) ["lots"] []
  d28 : Fun K "growth_in" "growth_in" t_growth_in (f 28) (fd 28)
  g28 : mg "growth_in" = some (.ref (f 28))
  b28 : Binds K (fd 28) ["rule"] []
  d27 : Fun K "is_growing" "is_growing" t_is_growing (f 27) (fd 27)
  g27 : mg "is_growing" = some (.ref (f 27))
  b27 : Binds K (fd 27) ["thing"] []
  d38 : Fun K "path_in" "path_in" t_path_in (f 38) (fd 38)
  g38 : mg "path_in" = some (.ref (f 38))
  b38 : Binds K (fd 38) ["rule", "rows", "letter", "place"] []
  d33 : Fun K "letter_at" "letter_at" t_letter_at (f 33) (fd 33)
  g33 : mg "letter_at" = some (.ref (f 33))
  b33 : Binds K (fd 33) ["rule", "letter", "level", "place"] []
  d36 : Fun K "cut_word" "cut_word" t_cut_word (f 36) (fd 36)
  g36 : mg "cut_word" = some (.ref (f 36))
  b36 : Binds K (fd 36) ["lengths", "word", "place", "length"] []
  d35 : Fun K "word_in" "word_in" t_word_in (f 35) (fd 35)
  g35 : mg "word_in" = some (.ref (f 35))
  b35 : Binds K (fd 35) ["rule", "rows", "letter", "place", "length"] []
  d34 : Fun K "word_at" "word_at" t_word_at (f 34) (fd 34)
  g34 : mg "word_at" = some (.ref (f 34))
  b34 : Binds K (fd 34) ["rule", "letter", "level", "place", "length"] []
  d37 : Fun K "path_to" "path_to" t_path_to (f 37) (fd 37)
  g37 : mg "path_to" = some (.ref (f 37))
  b37 : Binds K (fd 37) ["rule", "letter", "level", "place"] []
  d40 : Fun K "is_path" "is_path" t_is_path (f 40) (fd 40)
  g40 : mg "is_path" = some (.ref (f 40))
  b40 : Binds K (fd 40) ["rule", "letter", "thing"] []
  d41 : Fun K "passed_by" "passed_by" t_passed_by (f 41) (fd 41)
  g41 : mg "passed_by" = some (.ref (f 41))
  b41 : Binds K (fd 41) ["rule", "rows", "letter", "path"] []
  d39 : Fun K "place_by" "place_by" t_place_by (f 39) (fd 39)
  g39 : mg "place_by" = some (.ref (f 39))
  b39 : Binds K (fd 39) ["rule", "letter", "path"] []
  d42 : Fun K "count_before" "count_before" t_count_before (f 42) (fd 42)
  g42 : mg "count_before" = some (.ref (f 42))
  b42 : Binds K (fd 42) ["rule", "letter", "level", "place", "other"] []
  d43 : Fun K "place_of" "place_of" t_place_of (f 43) (fd 43)
  g43 : mg "place_of" = some (.ref (f 43))
  b43 : Binds K (fd 43) ["rule", "letter", "level", "other", "index"] []
  d45 : Fun K "seed_level" "seed_level" t_seed_level (f 45) (fd 45)
  g45 : mg "seed_level" = some (.ref (f 45))
  b45 : Binds K (fd 45) ["rule", "letter"] []
  d44 : Fun K "seeds" "seeds" t_seeds (f 44) (fd 44)
  g44 : mg "seeds" = some (.ref (f 44))
  b44 : Binds K (fd 44) ["rule"] []
  d46 : Fun K "level_holding" "level_holding" t_level_holding (f 46) (fd 46)
  g46 : mg "level_holding" = some (.ref (f 46))
  b46 : Binds K (fd 46) ["rule", "letter", "place"] []
  d48 : Fun K "_law_feed" "_law_feed" t__law_feed (f 48) (fd 48)
  g48 : mg "_law_feed" = some (.ref (f 48))
  b48 : Binds K (fd 48) ["_law_script"] []
  d49 : Fun K "_law_same" "_law_same" t__law_same (f 49) (fd 49)
  g49 : mg "_law_same" = some (.ref (f 49))
  b49 : Binds K (fd 49) ["_law_heard_here", "_law_due"] []
  d50 : Fun K "_law_draw" "_law_draw" t__law_draw (f 50) (fd 50)
  g50 : mg "_law_draw" = some (.ref (f 50))
  b50 : Binds K (fd 50) ["_law_feed_here", "_law_many"] []
  d51 : Fun K "_law_heard" "_law_heard" t__law_heard (f 51) (fd 51)
  g51 : mg "_law_heard" = some (.ref (f 51))
  b51 : Binds K (fd 51) ["_law_call"] []
  d52 : Fun K "_law_rules" "_law_rules" t__law_rules (f 52) (fd 52)
  g52 : mg "_law_rules" = some (.ref (f 52))
  b52 : Binds K (fd 52) [] []
  d53 : Fun K "_law_are_blocks_told" "_law_are_blocks_told" t__law_are_blocks_told (f 53) (fd 53)
  g53 : mg "_law_are_blocks_told" = some (.ref (f 53))
  b53 : Binds K (fd 53) [] []
  d54 : Fun K "_law_are_places_told" "_law_are_places_told" t__law_are_places_told (f 54) (fd 54)
  g54 : mg "_law_are_places_told" = some (.ref (f 54))
  b54 : Binds K (fd 54) [] []
  d55 : Fun K "_law_are_counts_told" "_law_are_counts_told" t__law_are_counts_told (f 55) (fd 55)
  g55 : mg "_law_are_counts_told" = some (.ref (f 55))
  b55 : Binds K (fd 55) [] []
  d56 : Fun K "_law_level_told" "_law_level_told" t__law_level_told (f 56) (fd 56)
  g56 : mg "_law_level_told" = some (.ref (f 56))
  b56 : Binds K (fd 56) ["_law_rule_now", "_law_a", "_law_rise"] []
  c56 : FunC K "_law_level_told" "_law_level_told" t__law_level_told (f 56) (fd 56) (cc 56)
  tb56 : LamX.TabB base mg (cc 56) (pp 56)
  tu56 : (pp 56, ("_law_level_told" : Str) ++ ".<locals>." ++ "<lambda>") ∈ LamT.ts ∧ ∀ r ∈ LamT.ts, r.1 = pp 56 → r.2 = ("_law_level_told" : Str) ++ ".<locals>." ++ "<lambda>"
  d57 : Fun K "_law_place_told" "_law_place_told" t__law_place_told (f 57) (fd 57)
  g57 : mg "_law_place_told" = some (.ref (f 57))
  b57 : Binds K (fd 57) ["_law_rule_now", "_law_a", "_law_rise", "_law_spot"] []
  c57 : FunC K "_law_place_told" "_law_place_told" t__law_place_told (f 57) (fd 57) (cc 57)
  tb57 : LamX.TabB base mg (cc 57) (pp 57)
  tu57 : (pp 57, ("_law_place_told" : Str) ++ ".<locals>." ++ "<lambda>") ∈ LamT.ts ∧ ∀ r ∈ LamT.ts, r.1 = pp 57 → r.2 = ("_law_place_told" : Str) ++ ".<locals>." ++ "<lambda>"
  d58 : Fun K "_law_more_told" "_law_more_told" t__law_more_told (f 58) (fd 58)
  g58 : mg "_law_more_told" = some (.ref (f 58))
  b58 : Binds K (fd 58) ["_law_rule_now", "_law_a"] []
  c58 : FunC K "_law_more_told" "_law_more_told" t__law_more_told (f 58) (fd 58) (cc 58)
  tb58 : LamX.TabB base mg (cc 58) (pp 58)
  tu58 : (pp 58, ("_law_more_told" : Str) ++ ".<locals>." ++ "<lambda>") ∈ LamT.ts ∧ ∀ r ∈ LamT.ts, r.1 = pp 58 → r.2 = ("_law_more_told" : Str) ++ ".<locals>." ++ "<lambda>"
  d59 : Fun K "_law_are_refused" "_law_are_refused" t__law_are_refused (f 59) (fd 59)
  g59 : mg "_law_are_refused" = some (.ref (f 59))
  b59 : Binds K (fd 59) ["_law_told", "_law_sign"] []
  d60 : Fun K "_law_are_first_refused" "_law_are_first_refused" t__law_are_first_refused (f 60) (fd 60)
  g60 : mg "_law_are_first_refused" = some (.ref (f 60))
  b60 : Binds K (fd 60) [] []
  c60 : FunC K "_law_are_first_refused" "_law_are_first_refused" t__law_are_first_refused (f 60) (fd 60) (cc 60)
  tb60 : LamX.TabB base mg (cc 60) (pp 60)
  tu60 : (pp 60, ("_law_are_first_refused" : Str) ++ ".<locals>." ++ "<lambda>") ∈ LamT.ts ∧ ∀ r ∈ LamT.ts, r.1 = pp 60 → r.2 = ("_law_are_first_refused" : Str) ++ ".<locals>." ++ "<lambda>"
  d61 : Fun K "_law_are_places_refused" "_law_are_places_refused" t__law_are_places_refused (f 61) (fd 61)
  g61 : mg "_law_are_places_refused" = some (.ref (f 61))
  b61 : Binds K (fd 61) [] []
  c61 : FunC K "_law_are_places_refused" "_law_are_places_refused" t__law_are_places_refused (f 61) (fd 61) (cc 61)
  tb61 : LamX.TabB base mg (cc 61) (pp 61)
  tu61 : (pp 61, ("_law_are_places_refused" : Str) ++ ".<locals>." ++ "<lambda>") ∈ LamT.ts ∧ ∀ r ∈ LamT.ts, r.1 = pp 61 → r.2 = ("_law_are_places_refused" : Str) ++ ".<locals>." ++ "<lambda>"
  d62 : Fun K "_law_are_later_refused" "_law_are_later_refused" t__law_are_later_refused (f 62) (fd 62)
  g62 : mg "_law_are_later_refused" = some (.ref (f 62))
  b62 : Binds K (fd 62) [] []
  c62 : FunC K "_law_are_later_refused" "_law_are_later_refused" t__law_are_later_refused (f 62) (fd 62) (cc 62)
  tb62 : LamX.TabB base mg (cc 62) (pp 62)
  tu62 : (pp 62, ("_law_are_later_refused" : Str) ++ ".<locals>." ++ "<lambda>") ∈ LamT.ts ∧ ∀ r ∈ LamT.ts, r.1 = pp 62 → r.2 = ("_law_are_later_refused" : Str) ++ ".<locals>." ++ "<lambda>"
  d63 : Fun K "law" "law" t_law (f 63) (fd 63)
  g63 : mg "law" = some (.ref (f 63))
  b63 : Binds K (fd 63) ["_law_script"] []
  k17_level_letter_rule : KwB K (fd 17) ["rule", "letter", "level"] ["level", "letter", "rule"] [2, 1, 0]
  k42_other_place_level_letter_rule : KwB K (fd 42) ["rule", "letter", "level", "place", "other"] ["other", "place", "level", "letter", "rule"] [4, 3, 2, 1, 0]
  k20_level_letter_rule : KwB K (fd 20) ["rule", "letter", "level"] ["level", "letter", "rule"] [2, 1, 0]
  k18_level_letter_rule : KwB K (fd 18) ["rule", "letter", "level"] ["level", "letter", "rule"] [2, 1, 0]
  k19_level_letter_rule : KwB K (fd 19) ["rule", "letter", "level"] ["level", "letter", "rule"] [2, 1, 0]
  k33_place_level_letter_rule : KwB K (fd 33) ["rule", "letter", "level", "place"] ["place", "level", "letter", "rule"] [3, 2, 1, 0]
  k46_place_letter_rule : KwB K (fd 46) ["rule", "letter", "place"] ["place", "letter", "rule"] [2, 1, 0]
  k37_place_level_letter_rule : KwB K (fd 37) ["rule", "letter", "level", "place"] ["place", "level", "letter", "rule"] [3, 2, 1, 0]
  k39_path_letter_rule : KwB K (fd 39) ["rule", "letter", "path"] ["path", "letter", "rule"] [2, 1, 0]
  k43_index_other_level_letter_rule : KwB K (fd 43) ["rule", "letter", "level", "other", "index"] ["index", "other", "level", "letter", "rule"] [4, 3, 2, 1, 0]
  k44_rule : KwB K (fd 44) ["rule"] ["rule"] [0]
  k34_length_place_level_letter_rule : KwB K (fd 34) ["rule", "letter", "level", "place", "length"] ["length", "place", "level", "letter", "rule"] [4, 3, 2, 1, 0]
  m_all : mg "all" = none
  m_bool : mg "bool" = none
  m_enumerate : mg "enumerate" = none
  m_int : mg "int" = none
  m_isinstance : mg "isinstance" = none
  m_len : mg "len" = none
  m_list : mg "list" = none
  m_max : mg "max" = none
  m_range : mg "range" = none
  m_repr : mg "repr" = none
  m_sum : mg "sum" = none
  m_tuple : mg "tuple" = none
  e6 : ErrC K mg 6 (cl 6) (fi 6) "word" "at"
  fn6 : Fun K "__init__" "NotUsable.__init__" ti_6 (fi 6) (fdi 6)
  bi6 : Binds K (fdi 6) ["self", "word", "at"] []
  ei6 : ErrI K (cl 6)
  gx_LedError : mg "LedError" = some (.ref (cl 0))
  xm6_LedError : PySem.W.exmOne K (.ref (cl 6)) (.ref (cl 0)) = some true
  gx_NotUsable : mg "NotUsable" = some (.ref (cl 6))
  xk6_NotUsable : PySem.W.kitOne K (.ref (cl 6)) (.ref (cl 6)) = some true
  gx_PaperError : mg "PaperError" = some (.ref (cl 1))
  xk6_PaperError : PySem.W.kitOne K (.ref (cl 6)) (.ref (cl 1)) = some false
  gx_WorldError : mg "WorldError" = some (.ref (cl 2))
  xk6_WorldError : PySem.W.kitOne K (.ref (cl 6)) (.ref (cl 2)) = some true
section
variable {P : Program} {w : World} {K : PySem.W.Frag} {mg : Str → Option Value} {base : Heap} {f cc pp : Nat → Addr} {fd : Nat → FuncData} {cl fi : Nat → Addr} {fdi : Nat → FuncData}
theorem sci_6 : FnScope ["self", "word", "at"] ["self", "word", "at"] (defScope ti_6) := ⟨rfl, rfl, rfl, by decide +kernel, rfl, by decide +kernel, by decide +kernel⟩
theorem ok_init6 (T : TX K mg base f cc pp fd cl fi fdi) : FnOk P w K mg base (L2.CX P w) 1 (fi 6) (fdi 6) ["self", "word", "at"] (spInit K (cl 6) "word" "at") := T.fn6.okX (k := 0) sci_6 (fun _ _ _ _ h => h.1) fun cdv A outer s H vs Q E _ h => ⟨_, pss_cons (ps_ost (pv 0) (pv 1)) (pss_one (ps_ost (pv 0) (pv 2))), init_reads T.e6.ox T.e6.n1 T.e6.n2 rfl h⟩
def fi_at : Nat → Option Nat
  | 6 => some 0
  | _ => none
theorem hf_at (T : TX K mg base f cc pp fd cl fi fdi) {Z : Cx} (eK : Z.K = K) {c0 : Nat} : ∀ k, fi_at c0 = some k → XfC Z.K (clOf Z.K c0) ∧ PySem.W.findIn Z.K (.ref (clOf Z.K c0)) "at" = some none ∧ (fldNm c0)[k]? = some (Str.ofString "at") ∧ (fldNm c0).Nodup := fun k h => by
  rw [eK]
  unfold fi_at at h
  split at h
  · cases h; rw [T.e6.cl]; exact ⟨T.e6.xf, T.e6.n2, rfl, by decide +kernel⟩
  · cases h
def fi_word : Nat → Option Nat
  | 6 => some 1
  | _ => none
theorem hf_word (T : TX K mg base f cc pp fd cl fi fdi) {Z : Cx} (eK : Z.K = K) {c0 : Nat} : ∀ k, fi_word c0 = some k → XfC Z.K (clOf Z.K c0) ∧ PySem.W.findIn Z.K (.ref (clOf Z.K c0)) "word" = some none ∧ (fldNm c0)[k]? = some (Str.ofString "word") ∧ (fldNm c0).Nodup := fun k h => by
  rw [eK]
  unfold fi_word at h
  split at h
  · cases h; rw [T.e6.cl]; exact ⟨T.e6.xf, T.e6.n1, rfl, by decide +kernel⟩
  · cases h
def tb_NotUsable : Nat → Option Bool
  | 6 => some true
  | _ => none
theorem hk_NotUsable (T : TX K mg base f cc pp fd cl fi fdi) {Z : Cx} (eK : Z.K = K) (em : Z.mg = mg) {c0 : Nat} : ∀ b, tb_NotUsable c0 = some b → ErrI Z.K (clOf Z.K c0) ∧ PySem.W.kitOne Z.K (.ref (clOf Z.K c0)) (.ref (cl 6)) = some b := fun b h => by
  rw [eK]
  unfold tb_NotUsable at h
  split at h
  · cases h; rw [T.e6.cl]; exact ⟨T.ei6, T.xk6_NotUsable⟩
  · cases h
theorem ny_NotUsable (T : TX K mg base f cc pp fd cl fi fdi) {Z X' : Cx} (eK : Z.K = K) (em : Z.mg = mg) {a0 : Addr} {pn : List (Addr × Obj)} {p2 : Pos} (eX : X' = Z.suite a0 pn) (hg : Gl X' "NotUsable" := by subst eX; rfl) : PE X' (.Name "NotUsable" p2) (tC (.ref (cl 6))) := pe_glob hg (by rw [eX]; show Z.mg _ = _; rw [em]; exact T.gx_NotUsable) rfl
def tb_PaperError : Nat → Option Bool
  | 6 => some false
  | _ => none
theorem hk_PaperError (T : TX K mg base f cc pp fd cl fi fdi) {Z : Cx} (eK : Z.K = K) (em : Z.mg = mg) {c0 : Nat} : ∀ b, tb_PaperError c0 = some b → ErrI Z.K (clOf Z.K c0) ∧ PySem.W.kitOne Z.K (.ref (clOf Z.K c0)) (.ref (cl 1)) = some b := fun b h => by
  rw [eK]
  unfold tb_PaperError at h
  split at h
  · cases h; rw [T.e6.cl]; exact ⟨T.ei6, T.xk6_PaperError⟩
  · cases h
theorem ny_PaperError (T : TX K mg base f cc pp fd cl fi fdi) {Z X' : Cx} (eK : Z.K = K) (em : Z.mg = mg) {a0 : Addr} {pn : List (Addr × Obj)} {p2 : Pos} (eX : X' = Z.suite a0 pn) (hg : Gl X' "PaperError" := by subst eX; rfl) : PE X' (.Name "PaperError" p2) (tC (.ref (cl 1))) := pe_glob hg (by rw [eX]; show Z.mg _ = _; rw [em]; exact T.gx_PaperError) rfl
def tb_WorldError : Nat → Option Bool
  | 6 => some true
  | _ => none
theorem hk_WorldError (T : TX K mg base f cc pp fd cl fi fdi) {Z : Cx} (eK : Z.K = K) (em : Z.mg = mg) {c0 : Nat} : ∀ b, tb_WorldError c0 = some b → ErrI Z.K (clOf Z.K c0) ∧ PySem.W.kitOne Z.K (.ref (clOf Z.K c0)) (.ref (cl 2)) = some b := fun b h => by
  rw [eK]
  unfold tb_WorldError at h
  split at h
  · cases h; rw [T.e6.cl]; exact ⟨T.ei6, T.xk6_WorldError⟩
  · cases h
theorem ny_WorldError (T : TX K mg base f cc pp fd cl fi fdi) {Z X' : Cx} (eK : Z.K = K) (em : Z.mg = mg) {a0 : Addr} {pn : List (Addr × Obj)} {p2 : Pos} (eX : X' = Z.suite a0 pn) (hg : Gl X' "WorldError" := by subst eX; rfl) : PE X' (.Name "WorldError" p2) (tC (.ref (cl 2))) := pe_glob hg (by rw [eX]; show Z.mg _ = _; rw [em]; exact T.gx_WorldError) rfl
theorem sc_need : FnScope ["fine", "name"] ["fine", "name"] (defScope t_need) := ⟨rfl, rfl, rfl, by decide +kernel, rfl, by decide +kernel, by decide +kernel⟩
def g_need : En → M Fl := (sIf (cNotB (cB (getD 0))) (sRaise 6 (aD (getD 1) (aD (cUn gNeg (cD (.int 1))) aNil))) sNil)
def F_need : Fn := runB 2 g_need
theorem ok_need (T : TX K mg base f cc pp fd cl fi fdi) : FnG P w K mg base 3 (f 6) (fd 6) ["fine", "name"] (spD K 2 F_need) := fn_bodyG (k := 2) (N := ["fine", "name"]) T.d6 sc_need rfl fun cdv A outer s H E hr hp => by
  have nd := sc_need.nd
  exact (ss_one (s_if (b_not (b_val (d_var 0))) (ss_one (s_raise (c := 6) T.e6 (ok_init6 T) rfl (hr.mono (by decide)) T.bi6 (a_d (d_var 1) (a_d (d_neg' d_int) a_nil)))) ss_nil))
theorem sc_spread : FnScope ["blocks", "word", "a", "letter"] ["blocks", "word"] (defScope t_spread) := ⟨rfl, rfl, rfl, by decide +kernel, rfl, by decide +kernel, by decide +kernel⟩
def g_spread : En → M Fl := (sRet (cCall gTupOf (aD (cLc2 (fun ρ => (getD 1) ρ >>= asS) [2, 3] (bNm 2) yes (fun ρ => (cBin gIx (getD 0) (getD 2)) ρ >>= asS) [3] (bNm 3) yes (getD 3)) aNil)))
def F_spread : Fn := runB 4 g_spread
theorem ok_spread (T : TX K mg base f cc pp fd cl fi fdi) : FnG P w K mg base 1 (f 7) (fd 7) ["blocks", "word"] (spD K 2 F_spread) := fn_bodyG (k := 0) (N := ["blocks", "word", "a", "letter"]) T.d7 sc_spread rfl fun cdv A outer s H E hr hp => by
  have nd := sc_spread.nd
  exact (ss_one (s_ret (d_callTy call_tupF callD_tupOf T.m_tuple (a_d (d_lc2 (own := [(Str.ofString "a", 2), (Str.ofString "letter", 3)]) (vs1 := [3]) rfl nd (i_seq (d_var 1)) (blkOk_by (by first | decide +kernel | rfl)) (by decide) (fun _ _ _ _ _ => (g_nm 2 nd)) (fun _ _ _ _ _ => t_nil) (fun _ _ _ _ _ => (i_seq (d_at (d_var 0) (d_var 2)))) (fun _ _ _ _ _ => (g_nm 3 nd)) (fun _ _ _ _ _ => t_nil) (fun _ _ _ _ _ => (d_var 3))) a_nil))))
theorem sc_added_up : FnScope ["rule", "amounts", "block", "a"] ["rule", "amounts"] (defScope t_added_up) := ⟨rfl, rfl, rfl, by decide +kernel, rfl, by decide +kernel, by decide +kernel⟩
def g_added_up : En → M Fl := (sRet (cLc (fun ρ => (getD 0) ρ >>= asS) [2] (bNm 2) yes (cCall gSum (aD (cLc (fun ρ => (getD 2) ρ >>= asS) [3] (bNm 3) yes (cBin gIx (getD 1) (getD 3))) aNil))))
def F_added_up : Fn := runB 4 g_added_up
theorem ok_added_up (T : TX K mg base f cc pp fd cl fi fdi) : FnG P w K mg base 1 (f 8) (fd 8) ["rule", "amounts"] (spD K 2 F_added_up) := fn_bodyG (k := 0) (N := ["rule", "amounts", "block", "a"]) T.d8 sc_added_up rfl fun cdv A outer s H E hr hp => by
  have nd := sc_added_up.nd
  exact (ss_one (s_ret (d_lc (own := [(Str.ofString "block", 2)]) rfl nd (i_seq (d_var 0)) (blkOk_by (by first | decide +kernel | rfl)) (fun _ _ _ _ _ => (g_nm 2 nd)) (fun _ _ _ _ _ => t_nil) (fun _ _ _ _ _ => (d_callB (cr_sum rfl) callD_sum T.m_sum (a_d (d_lc (own := [(Str.ofString "a", 3)]) rfl nd (i_seq (d_var 2)) (blkOk_by (by first | decide +kernel | rfl)) (fun _ _ _ _ _ => (g_nm 3 nd)) (fun _ _ _ _ _ => t_nil) (fun _ _ _ _ _ => (d_at (d_var 1) (d_var 3)))) a_nil))))))
theorem sc_is_integer : FnScope ["thing"] ["thing"] (defScope t_is_integer) := ⟨rfl, rfl, rfl, by decide +kernel, rfl, by decide +kernel, by decide +kernel⟩
def g_is_integer : En → M Fl := (sRet (cAnd (cIsi "int" (getD 0)) (cNot (cIsi "bool" (getD 0)))))
def F_is_integer : Fn := runB 1 g_is_integer
theorem ok_is_integer (T : TX K mg base f cc pp fd cl fi fdi) : FnG P w K mg base 1 (f 10) (fd 10) ["thing"] (spD K 1 F_is_integer) := fn_bodyG (k := 0) (N := ["thing"]) T.d10 sc_is_integer rfl fun cdv A outer s H E hr hp => by
  have nd := sc_is_integer.nd
  exact (ss_one (s_ret (d_and (d_isi T.m_isinstance T.m_int (d_var 0)) (d_one (d_not (d_isi T.m_isinstance T.m_bool (d_var 0)))))))
theorem sc_is_number : FnScope ["thing"] ["thing"] (defScope t_is_number) := ⟨rfl, rfl, rfl, by decide +kernel, rfl, by decide +kernel, by decide +kernel⟩
def g_is_number : En → M Fl := (sRet (cAnd (cFn (argN 1 F_is_integer) (aD (getD 0) aNil)) (cBin gGe (getD 0) (cD (.int 0)))))
def F_is_number : Fn := runB 1 g_is_number
theorem ok_is_number (T : TX K mg base f cc pp fd cl fi fdi) : FnG P w K mg base 2 (f 11) (fd 11) ["thing"] (spD K 1 F_is_number) := fn_bodyG (k := 1) (N := ["thing"]) T.d11 sc_is_number rfl fun cdv A outer s H E hr hp => by
  have nd := sc_is_number.nd
  exact (ss_one (s_ret (d_and (d_fn (ok_is_integer T) (hr.mono (by decide)) T.g10 T.d10.kp T.b10 (a_d (d_var 0) a_nil)) (d_one (d_ge (d_var 0) d_int)))))
theorem sc_is_full : FnScope ["thing"] ["thing"] (defScope t_is_full) := ⟨rfl, rfl, rfl, by decide +kernel, rfl, by decide +kernel, by decide +kernel⟩
def g_is_full : En → M Fl := (sRet (cAnd (cIsi "tuple" (getD 0)) (cBin gGt (cCall gLen (aD (getD 0) aNil)) (cD (.int 0)))))
def F_is_full : Fn := runB 1 g_is_full
theorem ok_is_full (T : TX K mg base f cc pp fd cl fi fdi) : FnG P w K mg base 1 (f 14) (fd 14) ["thing"] (spD K 1 F_is_full) := fn_bodyG (k := 0) (N := ["thing"]) T.d14 sc_is_full rfl fun cdv A outer s H E hr hp => by
  have nd := sc_is_full.nd
  exact (ss_one (s_ret (d_and (d_isi T.m_isinstance T.m_tuple (d_var 0)) (d_one (d_gt (d_callB call_len_seq callD_len T.m_len (a_d (d_var 0) a_nil)) d_int)))))
theorem sc_is_below : FnScope ["thing", "many"] ["thing", "many"] (defScope t_is_below) := ⟨rfl, rfl, rfl, by decide +kernel, rfl, by decide +kernel, by decide +kernel⟩
def g_is_below : En → M Fl := (sRet (cAnd (cFn (argN 1 F_is_number) (aD (getD 0) aNil)) (cBin gLt (getD 0) (getD 1))))
def F_is_below : Fn := runB 2 g_is_below
theorem ok_is_below (T : TX K mg base f cc pp fd cl fi fdi) : FnG P w K mg base 3 (f 13) (fd 13) ["thing", "many"] (spD K 2 F_is_below) := fn_bodyG (k := 2) (N := ["thing", "many"]) T.d13 sc_is_below rfl fun cdv A outer s H E hr hp => by
  have nd := sc_is_below.nd
  exact (ss_one (s_ret (d_and (d_fn (ok_is_number T) (hr.mono (by decide)) T.g11 T.d11.kp T.b11 (a_d (d_var 0) a_nil)) (d_one (d_lt (d_var 0) (d_var 1))))))
theorem sc_rule_fault : FnScope ["thing", "a", "block", "j", "letter"] ["thing"] (defScope t_rule_fault) := ⟨rfl, rfl, rfl, by decide +kernel, rfl, by decide +kernel, by decide +kernel⟩
def g_rule_fault : En → M Fl := (sSeq (sIf (cNotB (cB (cFn (argN 1 F_is_full) (aD (getD 0) aNil)))) (sRet (cTup (aD (cD (.str (Str.ofString "shape"))) (aD (cUn gNeg (cD (.int 1))) aNil)))) sNil) (sSeq (sFor (fun ρ => (aD (getD 0) aNil) ρ >>= asEs) (bTup 2 (bsCons (bNm 1) (bsCons (bNm 2) bsNil))) (sSeq (sIf (cNotB (cB (cFn (argN 1 F_is_full) (aD (getD 2) aNil)))) (sRet (cTup (aD (cD (.str (Str.ofString "block"))) (aD (getD 1) aNil)))) sNil) (sFor (fun ρ => (aD (getD 2) aNil) ρ >>= asEs) (bTup 2 (bsCons (bNm 3) (bsCons (bNm 4) bsNil))) (sIf (cNotB (cB (cFn (argN 2 F_is_below) (aD (getD 4) (aD (cCall gLen (aD (getD 0) aNil)) aNil))))) (sRet (cTup (aD (cD (.str (Str.ofString "letter"))) (aD (cTup (aD (getD 1) (aD (getD 3) aNil))) aNil)))) sNil)))) (sRet (cD .none))))
def F_rule_fault : Fn := runB 5 g_rule_fault
theorem ok_rule_fault (T : TX K mg base f cc pp fd cl fi fdi) : FnG P w K mg base 4 (f 15) (fd 15) ["thing"] (spD K 1 F_rule_fault) := fn_bodyG (k := 3) (N := ["thing", "a", "block", "j", "letter"]) T.d15 sc_rule_fault rfl fun cdv A outer s H E hr hp => by
  have nd := sc_rule_fault.nd
  exact (ss_cons (s_if (b_not (b_val (d_fn (ok_is_full T) (hr.mono (by decide)) T.g14 T.d14.kp T.b14 (a_d (d_var 0) a_nil)))) (ss_one (s_ret (d_tup (a_d d_str (a_d (d_neg' d_int) a_nil))))) ss_nil) (ss_cons (s_for hp rfl (i_enS T.m_enumerate (a_d (d_var 0) a_nil)) (g_tup rfl (gs_cons (g_nm 1 nd) (gs_cons (g_nm 2 nd) gs_nil))) (ss_cons (s_if (b_not (b_val (d_fn (ok_is_full T) (hr.mono (by decide)) T.g14 T.d14.kp T.b14 (a_d (d_var 2) a_nil)))) (ss_one (s_ret (d_tup (a_d d_str (a_d (d_var 1) a_nil))))) ss_nil) (ss_one (s_for hp rfl (i_enS T.m_enumerate (a_d (d_var 2) a_nil)) (g_tup rfl (gs_cons (g_nm 3 nd) (gs_cons (g_nm 4 nd) gs_nil))) (ss_one (s_if (b_not (b_val (d_fn (ok_is_below T) (hr.mono (by decide)) T.g13 T.d13.kp T.b13 (a_d (d_var 4) (a_d (d_callB call_len_seq callD_len T.m_len (a_d (d_var 0) a_nil)) a_nil))))) (ss_one (s_ret (d_tup (a_d d_str (a_d (d_tup (a_d (d_var 1) (a_d (d_var 3) a_nil))) a_nil))))) ss_nil)))))) (ss_one (s_ret d_non))))
theorem sc_is_rule : FnScope ["thing"] ["thing"] (defScope t_is_rule) := ⟨rfl, rfl, rfl, by decide +kernel, rfl, by decide +kernel, by decide +kernel⟩
def g_is_rule : En → M Fl := (sRet (cBin gIsN (cFn (argN 1 F_rule_fault) (aD (getD 0) aNil)) (cD .none)))
def F_is_rule : Fn := runB 1 g_is_rule
theorem ok_is_rule (T : TX K mg base f cc pp fd cl fi fdi) : FnG P w K mg base 5 (f 12) (fd 12) ["thing"] (spD K 1 F_is_rule) := fn_bodyG (k := 4) (N := ["thing"]) T.d12 sc_is_rule rfl fun cdv A outer s H E hr hp => by
  have nd := sc_is_rule.nd
  exact (ss_one (s_ret (d_isN (d_fn (ok_rule_fault T) (hr.mono (by decide)) T.g15 T.d15.kp T.b15 (a_d (d_var 0) a_nil)) d_non)))
theorem sc_need_block : FnScope ["rule", "letter", "level"] ["rule", "letter", "level"] (defScope t_need_block) := ⟨rfl, rfl, rfl, by decide +kernel, rfl, by decide +kernel, by decide +kernel⟩
def g_need_block : En → M Fl := (sSeq (sExpr (cFn (argN 2 F_need) (aD (cFn (argN 1 F_is_rule) (aD (getD 0) aNil)) (aD (cD (.str (Str.ofString "rule"))) aNil)))) (sSeq (sExpr (cFn (argN 2 F_need) (aD (cFn (argN 2 F_is_below) (aD (getD 1) (aD (cCall gLen (aD (getD 0) aNil)) aNil))) (aD (cD (.str (Str.ofString "letter"))) aNil)))) (sExpr (cFn (argN 2 F_need) (aD (cFn (argN 1 F_is_number) (aD (getD 2) aNil)) (aD (cD (.str (Str.ofString "level"))) aNil))))))
def F_need_block : Fn := runB 3 g_need_block
theorem ok_need_block (T : TX K mg base f cc pp fd cl fi fdi) : FnG P w K mg base 6 (f 21) (fd 21) ["rule", "letter", "level"] (spD K 3 F_need_block) := fn_bodyG (k := 5) (N := ["rule", "letter", "level"]) T.d21 sc_need_block rfl fun cdv A outer s H E hr hp => by
  have nd := sc_need_block.nd
  exact (ss_cons (s_expr (d_fn (ok_need T) (hr.mono (by decide)) T.g6 T.d6.kp T.b6 (a_d (d_fn (ok_is_rule T) (hr.mono (by decide)) T.g12 T.d12.kp T.b12 (a_d (d_var 0) a_nil)) (a_d d_str a_nil)))) (ss_cons (s_expr (d_fn (ok_need T) (hr.mono (by decide)) T.g6 T.d6.kp T.b6 (a_d (d_fn (ok_is_below T) (hr.mono (by decide)) T.g13 T.d13.kp T.b13 (a_d (d_var 1) (a_d (d_callB call_len_seq callD_len T.m_len (a_d (d_var 0) a_nil)) a_nil))) (a_d d_str a_nil)))) (ss_one (s_expr (d_fn (ok_need T) (hr.mono (by decide)) T.g6 T.d6.kp T.b6 (a_d (d_fn (ok_is_number T) (hr.mono (by decide)) T.g11 T.d11.kp T.b11 (a_d (d_var 2) a_nil)) (a_d d_str a_nil)))))))
theorem sc_block_in : FnScope ["rule", "letter", "level", "block", "_"] ["rule", "letter", "level"] (defScope t_block_in) := ⟨rfl, rfl, rfl, by decide +kernel, rfl, by decide +kernel, by decide +kernel⟩
def g_block_in : En → M Fl := (sSeq (sAsg (cTup (aD (getD 1) aNil)) (bNm 3)) (sSeq (sFor (fun ρ => (aD (getD 2) aNil) ρ >>= rg1) (bNm 4) (sAsg (cFn (argN 2 F_spread) (aD (getD 0) (aD (getD 3) aNil))) (bNm 3))) (sRet (getD 3))))
def F_block_in : Fn := runB 5 g_block_in
theorem ok_block_in (T : TX K mg base f cc pp fd cl fi fdi) : FnG P w K mg base 2 (f 22) (fd 22) ["rule", "letter", "level"] (spD K 3 F_block_in) := fn_bodyG (k := 1) (N := ["rule", "letter", "level", "block", "_"]) T.d22 sc_block_in rfl fun cdv A outer s H E hr hp => by
  have nd := sc_block_in.nd
  exact (ss_cons (s_asg (d_tup (a_d (d_var 1) a_nil)) (g_nm 3 nd)) (ss_cons (s_for hp rfl (i_rg1 T.m_range (a_d (d_var 2) a_nil)) (g_nm 4 nd) (ss_one (s_asg (d_fn (ok_spread T) (hr.mono (by decide)) T.g7 T.d7.kp T.b7 (a_d (d_var 0) (a_d (d_var 3) a_nil))) (g_nm 3 nd)))) (ss_one (s_ret (d_var 3)))))
theorem sc_block_of : FnScope ["rule", "letter", "level"] ["rule", "letter", "level"] (defScope t_block_of) := ⟨rfl, rfl, rfl, by decide +kernel, rfl, by decide +kernel, by decide +kernel⟩
def g_block_of : En → M Fl := (sSeq (sExpr (cFn (argN 3 F_need_block) (aD (getD 0) (aD (getD 1) (aD (getD 2) aNil))))) (sRet (cFn (argN 3 F_block_in) (aD (getD 0) (aD (getD 1) (aD (getD 2) aNil))))))
def F_block_of : Fn := runB 3 g_block_of
theorem ok_block_of (T : TX K mg base f cc pp fd cl fi fdi) : FnG P w K mg base 7 (f 17) (fd 17) ["rule", "letter", "level"] (spD K 3 F_block_of) := fn_bodyG (k := 6) (N := ["rule", "letter", "level"]) T.d17 sc_block_of rfl fun cdv A outer s H E hr hp => by
  have nd := sc_block_of.nd
  exact (ss_cons (s_expr (d_fn (ok_need_block T) (hr.mono (by decide)) T.g21 T.d21.kp T.b21 (a_d (d_var 0) (a_d (d_var 1) (a_d (d_var 2) a_nil))))) (ss_one (s_ret (d_fn (ok_block_in T) (hr.mono (by decide)) T.g22 T.d22.kp T.b22 (a_d (d_var 0) (a_d (d_var 1) (a_d (d_var 2) a_nil)))))))
theorem sc_added_rows : FnScope ["rule", "first", "level", "rows", "_"] ["rule", "first", "level"] (defScope t_added_rows) := ⟨rfl, rfl, rfl, by decide +kernel, rfl, by decide +kernel, by decide +kernel⟩
def g_added_rows : En → M Fl := (sSeq (sOwn 3 (cLst (aD (getD 1) aNil))) (sSeq (sFor (fun ρ => (aD (getD 2) aNil) ρ >>= rg1) (bNm 4) (sApp 3 (cFn (argN 2 F_added_up) (aD (getD 0) (aD (cIxO 3 (cUn gNeg (cD (.int 1)))) aNil))))) (sRetO 3)))
def F_added_rows : Fn := runB 5 g_added_rows
theorem ok_added_rows (T : TX K mg base f cc pp fd cl fi fdi) : FnG P w K mg base 2 (f 25) (fd 25) ["rule", "first", "level"] (spD K 3 F_added_rows) := fn_bodyG (k := 1) (N := ["rule", "first", "level", "rows", "_"]) T.d25 sc_added_rows rfl fun cdv A outer s H E hr hp => by
  have nd := sc_added_rows.nd
  exact (ss_cons (s_ownLst 3 nd (a_d (d_var 1) a_nil)) (ss_cons (s_for hp rfl (i_rg1 T.m_range (a_d (d_var 2) a_nil)) (g_nm 4 nd) (ss_one (s_app 3 (d_fn (ok_added_up T) (hr.mono (by decide)) T.g8 T.d8.kp T.b8 (a_d (d_var 0) (a_d (d_ixO 3 (d_neg' d_int)) a_nil)))))) (ss_one (s_retO 3))))
theorem sc_length_rows : FnScope ["rule", "level", "_"] ["rule", "level"] (defScope t_length_rows) := ⟨rfl, rfl, rfl, by decide +kernel, rfl, by decide +kernel, by decide +kernel⟩
def g_length_rows : En → M Fl := (sRet (cFn (argN 3 F_added_rows) (aD (getD 0) (aD (cLc (fun ρ => (getD 0) ρ >>= asS) [2] (bNm 2) yes (cD (.int 1))) (aD (getD 1) aNil)))))
def F_length_rows : Fn := runB 3 g_length_rows
theorem ok_length_rows (T : TX K mg base f cc pp fd cl fi fdi) : FnG P w K mg base 3 (f 23) (fd 23) ["rule", "level"] (spD K 2 F_length_rows) := fn_bodyG (k := 2) (N := ["rule", "level", "_"]) T.d23 sc_length_rows rfl fun cdv A outer s H E hr hp => by
  have nd := sc_length_rows.nd
  exact (ss_one (s_ret (d_fn (ok_added_rows T) (hr.mono (by decide)) T.g25 T.d25.kp T.b25 (a_d (d_var 0) (a_d (d_lc (own := [(Str.ofString "_", 2)]) rfl nd (i_seq (d_var 0)) (blkOk_by (by first | decide +kernel | rfl)) (fun _ _ _ _ _ => (g_nm 2 nd)) (fun _ _ _ _ _ => t_nil) (fun _ _ _ _ _ => d_int)) (a_d (d_var 1) a_nil))))))
theorem sc_length_of : FnScope ["rule", "letter", "level"] ["rule", "letter", "level"] (defScope t_length_of) := ⟨rfl, rfl, rfl, by decide +kernel, rfl, by decide +kernel, by decide +kernel⟩
def g_length_of : En → M Fl := (sSeq (sExpr (cFn (argN 3 F_need_block) (aD (getD 0) (aD (getD 1) (aD (getD 2) aNil))))) (sRet (cBin gIx (cBin gIx (cFn (argN 2 F_length_rows) (aD (getD 0) (aD (getD 2) aNil))) (getD 2)) (getD 1))))
def F_length_of : Fn := runB 3 g_length_of
theorem ok_length_of (T : TX K mg base f cc pp fd cl fi fdi) : FnG P w K mg base 7 (f 18) (fd 18) ["rule", "letter", "level"] (spD K 3 F_length_of) := fn_bodyG (k := 6) (N := ["rule", "letter", "level"]) T.d18 sc_length_of rfl fun cdv A outer s H E hr hp => by
  have nd := sc_length_of.nd
  exact (ss_cons (s_expr (d_fn (ok_need_block T) (hr.mono (by decide)) T.g21 T.d21.kp T.b21 (a_d (d_var 0) (a_d (d_var 1) (a_d (d_var 2) a_nil))))) (ss_one (s_ret (d_at (d_at (d_fn (ok_length_rows T) (hr.mono (by decide)) T.g23 T.d23.kp T.b23 (a_d (d_var 0) (a_d (d_var 2) a_nil))) (d_var 2)) (d_var 1)))))
theorem sc_lengths_of : FnScope ["rule", "letter", "level", "row"] ["rule", "letter", "level"] (defScope t_lengths_of) := ⟨rfl, rfl, rfl, by decide +kernel, rfl, by decide +kernel, by decide +kernel⟩
def g_lengths_of : En → M Fl := (sSeq (sExpr (cFn (argN 3 F_need_block) (aD (getD 0) (aD (getD 1) (aD (getD 2) aNil))))) (sRet (cCall gTupOf (aD (cLc (fun ρ => (cFn (argN 2 F_length_rows) (aD (getD 0) (aD (getD 2) aNil))) ρ >>= asS) [3] (bNm 3) yes (cBin gIx (getD 3) (getD 1))) aNil))))
def F_lengths_of : Fn := runB 4 g_lengths_of
theorem ok_lengths_of (T : TX K mg base f cc pp fd cl fi fdi) : FnG P w K mg base 7 (f 19) (fd 19) ["rule", "letter", "level"] (spD K 3 F_lengths_of) := fn_bodyG (k := 6) (N := ["rule", "letter", "level", "row"]) T.d19 sc_lengths_of rfl fun cdv A outer s H E hr hp => by
  have nd := sc_lengths_of.nd
  exact (ss_cons (s_expr (d_fn (ok_need_block T) (hr.mono (by decide)) T.g21 T.d21.kp T.b21 (a_d (d_var 0) (a_d (d_var 1) (a_d (d_var 2) a_nil))))) (ss_one (s_ret (d_callTy call_tupF callD_tupOf T.m_tuple (a_d (d_lc (own := [(Str.ofString "row", 3)]) rfl nd (i_seq (d_fn (ok_length_rows T) (hr.mono (by decide)) T.g23 T.d23.kp T.b23 (a_d (d_var 0) (a_d (d_var 2) a_nil)))) (blkOk_by (by first | decide +kernel | rfl)) (fun _ _ _ _ _ => (g_nm 3 nd)) (fun _ _ _ _ _ => t_nil) (fun _ _ _ _ _ => (d_at (d_var 3) (d_var 1)))) a_nil)))))
theorem sc_count_rows : FnScope ["rule", "other", "level", "a"] ["rule", "other", "level"] (defScope t_count_rows) := ⟨rfl, rfl, rfl, by decide +kernel, rfl, by decide +kernel, by decide +kernel⟩
def g_count_rows : En → M Fl := (sRet (cFn (argN 3 F_added_rows) (aD (getD 0) (aD (cLc (fun ρ => (aD (cCall gLen (aD (getD 0) aNil)) aNil) ρ >>= rg1) [3] (bNm 3) yes (cIf (cB (cBin gEqD (getD 3) (getD 1))) (cD (.int 1)) (cD (.int 0)))) (aD (getD 2) aNil)))))
def F_count_rows : Fn := runB 4 g_count_rows
theorem ok_count_rows (T : TX K mg base f cc pp fd cl fi fdi) : FnG P w K mg base 3 (f 24) (fd 24) ["rule", "other", "level"] (spD K 3 F_count_rows) := fn_bodyG (k := 2) (N := ["rule", "other", "level", "a"]) T.d24 sc_count_rows rfl fun cdv A outer s H E hr hp => by
  have nd := sc_count_rows.nd
  exact (ss_one (s_ret (d_fn (ok_added_rows T) (hr.mono (by decide)) T.g25 T.d25.kp T.b25 (a_d (d_var 0) (a_d (d_lc (own := [(Str.ofString "a", 3)]) rfl nd (i_rg1 T.m_range (a_d (d_callB call_len_seq callD_len T.m_len (a_d (d_var 0) a_nil)) a_nil)) (blkOk_by (by first | decide +kernel | rfl)) (fun _ _ _ _ _ => (g_nm 3 nd)) (fun _ _ _ _ _ => t_nil) (fun _ _ _ _ _ => (d_if (c_eqD hr (d_var 3) (d_var 1)) d_int d_int))) (a_d (d_var 2) a_nil))))))
theorem sc_counts_in : FnScope ["rule", "letter", "level", "other"] ["rule", "letter", "level"] (defScope t_counts_in) := ⟨rfl, rfl, rfl, by decide +kernel, rfl, by decide +kernel, by decide +kernel⟩
def g_counts_in : En → M Fl := (sSeq (sExpr (cFn (argN 3 F_need_block) (aD (getD 0) (aD (getD 1) (aD (getD 2) aNil))))) (sRet (cCall gTupOf (aD (cLc (fun ρ => (aD (cCall gLen (aD (getD 0) aNil)) aNil) ρ >>= rg1) [3] (bNm 3) yes (cBin gIx (cBin gIx (cFn (argN 3 F_count_rows) (aD (getD 0) (aD (getD 3) (aD (getD 2) aNil)))) (getD 2)) (getD 1))) aNil))))
def F_counts_in : Fn := runB 4 g_counts_in
theorem ok_counts_in (T : TX K mg base f cc pp fd cl fi fdi) : FnG P w K mg base 7 (f 20) (fd 20) ["rule", "letter", "level"] (spD K 3 F_counts_in) := fn_bodyG (k := 6) (N := ["rule", "letter", "level", "other"]) T.d20 sc_counts_in rfl fun cdv A outer s H E hr hp => by
  have nd := sc_counts_in.nd
  exact (ss_cons (s_expr (d_fn (ok_need_block T) (hr.mono (by decide)) T.g21 T.d21.kp T.b21 (a_d (d_var 0) (a_d (d_var 1) (a_d (d_var 2) a_nil))))) (ss_one (s_ret (d_callTy call_tupF callD_tupOf T.m_tuple (a_d (d_lc (own := [(Str.ofString "other", 3)]) rfl nd (i_rg1 T.m_range (a_d (d_callB call_len_seq callD_len T.m_len (a_d (d_var 0) a_nil)) a_nil)) (blkOk_by (by first | decide +kernel | rfl)) (fun _ _ _ _ _ => (g_nm 3 nd)) (fun _ _ _ _ _ => t_nil) (fun _ _ _ _ _ => (d_at (d_at (d_fn (ok_count_rows T) (hr.mono (by decide)) T.g24 T.d24.kp T.b24 (a_d (d_var 0) (a_d (d_var 3) (a_d (d_var 2) a_nil)))) (d_var 2)) (d_var 1)))) a_nil)))))
theorem sc_lot_behind : FnScope ["lot", "leap", "far", "a", "more"] ["lot", "leap"] (defScope t_lot_behind) := ⟨rfl, rfl, rfl, by decide +kernel, rfl, by decide +kernel, by decide +kernel⟩
def g_lot_behind : En → M Fl := (sSeq (sAsg (cD (.int 0)) (bNm 2)) (sSeq (sFor (fun ρ => (aD (getD 1) aNil) ρ >>= asEs) (bTup 2 (bsCons (bNm 3) (bsCons (bNm 4) bsNil))) (sIf (cB (cBin gEqD (cBin gAnd (cBin gShr (getD 0) (getD 3)) (cD (.int 1))) (cD (.int 1)))) (sAsg (cBin gOr (getD 2) (getD 4)) (bNm 2)) sNil)) (sRet (getD 2))))
def F_lot_behind : Fn := runB 5 g_lot_behind
theorem ok_lot_behind (T : TX K mg base f cc pp fd cl fi fdi) : FnG P w K mg base 1 (f 30) (fd 30) ["lot", "leap"] (spD K 2 F_lot_behind) := fn_bodyG (k := 0) (N := ["lot", "leap", "far", "a", "more"]) T.d30 sc_lot_behind rfl fun cdv A outer s H E hr hp => by
  have nd := sc_lot_behind.nd
  exact (ss_cons (s_asg d_int (g_nm 2 nd)) (ss_cons (s_for hp rfl (i_enS T.m_enumerate (a_d (d_var 1) a_nil)) (g_tup rfl (gs_cons (g_nm 3 nd) (gs_cons (g_nm 4 nd) gs_nil))) (ss_one (s_if (c_eqD hr (d_band (d_shr (d_var 0) (d_var 3)) d_int) d_int) (ss_one (s_asg (d_bor (d_var 2) (d_var 4)) (g_nm 2 nd))) ss_nil))) (ss_one (s_ret (d_var 2)))))
theorem sc_lots_behind : FnScope ["lots", "leap", "lot"] ["lots", "leap"] (defScope t_lots_behind) := ⟨rfl, rfl, rfl, by decide +kernel, rfl, by decide +kernel, by decide +kernel⟩
def g_lots_behind : En → M Fl := (sRet (cLc (fun ρ => (getD 0) ρ >>= asS) [2] (bNm 2) yes (cFn (argN 2 F_lot_behind) (aD (getD 2) (aD (getD 1) aNil)))))
def F_lots_behind : Fn := runB 3 g_lots_behind
theorem ok_lots_behind (T : TX K mg base f cc pp fd cl fi fdi) : FnG P w K mg base 2 (f 29) (fd 29) ["lots", "leap"] (spD K 2 F_lots_behind) := fn_bodyG (k := 1) (N := ["lots", "leap", "lot"]) T.d29 sc_lots_behind rfl fun cdv A outer s H E hr hp => by
  have nd := sc_lots_behind.nd
  exact (ss_one (s_ret (d_lc (own := [(Str.ofString "lot", 2)]) rfl nd (i_seq (d_var 0)) (blkOk_by (by first | decide +kernel | rfl)) (fun _ _ _ _ _ => (g_nm 2 nd)) (fun _ _ _ _ _ => t_nil) (fun _ _ _ _ _ => (d_fn (ok_lot_behind T) (hr.mono (by decide)) T.g30 T.d30.kp T.b30 (a_d (d_var 2) (a_d (d_var 1) a_nil)))))))
theorem sc_all_full : FnScope ["lots", "lot"] ["lots"] (defScope t_all_full) := ⟨rfl, rfl, rfl, by decide +kernel, rfl, by decide +kernel, by decide +kernel⟩
def g_all_full : En → M Fl := (sRet (cCall gAll (aD (cLc (fun ρ => (getD 0) ρ >>= asS) [1] (bNm 1) yes (cBin gEqD (getD 1) (cBin gSub (cBin gShl (cD (.int 1)) (cCall gLen (aD (getD 0) aNil))) (cD (.int 1))))) aNil)))
def F_all_full : Fn := runB 2 g_all_full
theorem ok_all_full (T : TX K mg base f cc pp fd cl fi fdi) : FnG P w K mg base 1 (f 31) (fd 31) ["lots"] (spD K 1 F_all_full) := fn_bodyG (k := 0) (N := ["lots", "lot"]) T.d31 sc_all_full rfl fun cdv A outer s H E hr hp => by
  have nd := sc_all_full.nd
  exact (ss_one (s_ret (d_callB (cr_all rfl) callD_all T.m_all (a_d (d_lc (own := [(Str.ofString "lot", 1)]) rfl nd (i_seq (d_var 0)) (blkOk_by (by first | decide +kernel | rfl)) (fun _ _ _ _ _ => (g_nm 1 nd)) (fun _ _ _ _ _ => t_nil) (fun _ _ _ _ _ => (d_eqD hr (d_var 1) (d_sub (d_shl d_int (d_callB call_len_seq callD_len T.m_len (a_d (d_var 0) a_nil))) d_int)))) a_nil))))
theorem sc_growth_in : FnScope ["rule", "many", "lots", "leaps", "level", "k", "far", "a", "block", "b"] ["rule"] (defScope t_growth_in) := ⟨rfl, rfl, rfl, by decide +kernel, rfl, by decide +kernel, by decide +kernel⟩
def g_growth_in : En → M Fl := (sSeq (sAsg (cCall gLen (aD (getD 0) aNil)) (bNm 1)) (sSeq (sIf (cB (cBin gLt (cCall gMax (aD (cLc (fun ρ => (getD 0) ρ >>= asS) [8] (bNm 8) yes (cCall gLen (aD (getD 8) aNil))) aNil)) (cD (.int 2)))) (sRet (cD .none)) sNil) (sSeq (sAsg (cLc (fun ρ => (aD (getD 1) aNil) ρ >>= rg1) [7] (bNm 7) yes (cBin gShl (cD (.int 1)) (getD 7))) (bNm 2)) (sSeq (sOwn 3 (cLst (aD (cLc (fun ρ => (getD 0) ρ >>= asS) [8] (bNm 8) yes (cCall gSum (aD (cLc (fun ρ => (aD (getD 1) aNil) ρ >>= rg1) [9] (bNm 9) (cB (cBin (gInI false) (getD 9) (getD 8))) (cBin gShl (cD (.int 1)) (getD 9))) aNil))) aNil))) (sSeq (sWhile (cB (cBin gLt (cBin gShl (cD (.int 1)) (cBin gSub (cLenO 3) (cD (.int 1)))) (cBin gAddB (cBin gPow (cBin gSub (getD 1) (cD (.int 1))) (cD (.int 2))) (cD (.int 1))))) (sApp 3 (cFn (argN 2 F_lots_behind) (aD (cIxO 3 (cUn gNeg (cD (.int 1)))) (aD (cIxO 3 (cUn gNeg (cD (.int 1)))) aNil))))) (sSeq (sIf (cNotB (cB (cFn (argN 1 F_all_full) (aD (cIxO 3 (cUn gNeg (cD (.int 1)))) aNil)))) (sRet (cD .none)) sNil) (sSeq (sIf (cB (cFn (argN 1 F_all_full) (aD (getD 2) aNil))) (sRet (cD (.int 0))) sNil) (sSeq (sAsg (cD (.int 0)) (bNm 4)) (sSeq (sFor (fun ρ => (aD (cBin gSub (cLenO 3) (cD (.int 1))) (aD (cUn gNeg (cD (.int 1))) (aD (cUn gNeg (cD (.int 1))) aNil))) ρ >>= rg3) (bNm 5) (sSeq (sAsg (cFn (argN 2 F_lots_behind) (aD (getD 2) (aD (cIxO 3 (getD 5)) aNil))) (bNm 6)) (sIf (cNotB (cB (cFn (argN 1 F_all_full) (aD (getD 6) aNil)))) (sPar 2 4 (aD (getD 6) (aD (cBin gAddB (getD 4) (cBin gShl (cD (.int 1)) (getD 5))) aNil))) sNil))) (sRet (cBin gAddB (getD 4) (cD (.int 1)))))))))))))
def F_growth_in : Fn := runB 10 g_growth_in
theorem ok_growth_in (T : TX K mg base f cc pp fd cl fi fdi) : FnG P w K mg base 3 (f 28) (fd 28) ["rule"] (spD K 1 F_growth_in) := fn_bodyG (k := 2) (N := ["rule", "many", "lots", "leaps", "level", "k", "far", "a", "block", "b"]) T.d28 sc_growth_in rfl fun cdv A outer s H E hr hp => by
  have nd := sc_growth_in.nd
  exact (ss_cons (s_asg (d_callB call_len_seq callD_len T.m_len (a_d (d_var 0) a_nil)) (g_nm 1 nd)) (ss_cons (s_if (c_lt (d_callB (cr_max rfl) callD_max T.m_max (a_d (d_lc (own := [(Str.ofString "block", 8)]) rfl nd (i_seq (d_var 0)) (blkOk_by (by first | decide +kernel | rfl)) (fun _ _ _ _ _ => (g_nm 8 nd)) (fun _ _ _ _ _ => t_nil) (fun _ _ _ _ _ => (d_callB call_len_seq callD_len T.m_len (a_d (d_var 8) a_nil)))) a_nil)) d_int) (ss_one (s_ret d_non)) ss_nil) (ss_cons (s_lc (i := 2) (own := [(Str.ofString "a", 7)]) rfl nd (i_rg1 T.m_range (a_d (d_var 1) a_nil)) (blkOk_by (by first | decide +kernel | rfl)) (fun _ _ _ _ _ => (g_nm 7 nd)) (fun _ _ _ _ _ => t_nil) (fun _ _ _ _ _ => (d_shl d_int (d_var 7))) (hsw := sw_true rfl rfl rfl (by decide +kernel))) (ss_cons (s_ownLst 3 nd (a_d (d_lc (own := [(Str.ofString "block", 8)]) rfl nd (i_seq (d_var 0)) (blkOk_by (by first | decide +kernel | rfl)) (fun _ _ _ _ _ => (g_nm 8 nd)) (fun _ _ _ _ _ => t_nil) (fun _ _ _ _ _ => (d_callB (cr_sum rfl) callD_sum T.m_sum (a_d (d_lc (own := [(Str.ofString "b", 9)]) rfl nd (i_rg1 T.m_range (a_d (d_var 1) a_nil)) (blkOk_by (by first | decide +kernel | rfl)) (fun _ _ _ _ _ => (g_nm 9 nd)) (fun _ _ _ _ _ => (t_one (c_inI (d_var 9) (d_var 8)))) (fun _ _ _ _ _ => (d_shl d_int (d_var 9)))) a_nil)))) a_nil)) (ss_cons (s_while hp (c_lt (d_shl d_int (d_sub (d_lenO 3 T.m_len) d_int)) (d_addB (d_pow (d_sub (d_var 1) d_int) d_int) d_int)) (ss_one (s_app 3 (d_fn (ok_lots_behind T) (hr.mono (by decide)) T.g29 T.d29.kp T.b29 (a_d (d_ixO 3 (d_neg' d_int)) (a_d (d_ixO 3 (d_neg' d_int)) a_nil)))))) (ss_cons (s_if (b_not (b_val (d_fn (ok_all_full T) (hr.mono (by decide)) T.g31 T.d31.kp T.b31 (a_d (d_ixO 3 (d_neg' d_int)) a_nil)))) (ss_one (s_ret d_non)) ss_nil) (ss_cons (s_if (b_val (d_fn (ok_all_full T) (hr.mono (by decide)) T.g31 T.d31.kp T.b31 (a_d (d_var 2) a_nil))) (ss_one (s_ret d_int)) ss_nil) (ss_cons (s_asg d_int (g_nm 4 nd)) (ss_cons (s_for hp rfl (i_rg3 T.m_range (a_d (d_sub (d_lenO 3 T.m_len) d_int) (a_d (d_neg' d_int) (a_d (d_neg' d_int) a_nil)))) (g_nm 5 nd) (ss_cons (s_asg (d_fn (ok_lots_behind T) (hr.mono (by decide)) T.g29 T.d29.kp T.b29 (a_d (d_var 2) (a_d (d_ixO 3 (d_var 5)) a_nil))) (g_nm 6 nd)) (ss_one (s_if (b_not (b_val (d_fn (ok_all_full T) (hr.mono (by decide)) T.g31 T.d31.kp T.b31 (a_d (d_var 6) a_nil)))) (ss_one (s_par (i := 2) (j := 4) rfl nd (a_d (d_var 6) (a_d (d_addB (d_var 4) (d_shl d_int (d_var 5))) a_nil)))) ss_nil)))) (ss_one (s_ret (d_addB (d_var 4) d_int))))))))))))
theorem sc_is_growing : FnScope ["thing"] ["thing"] (defScope t_is_growing) := ⟨rfl, rfl, rfl, by decide +kernel, rfl, by decide +kernel, by decide +kernel⟩
def g_is_growing : En → M Fl := (sRet (cAnd (cFn (argN 1 F_is_rule) (aD (getD 0) aNil)) (cBin gNotN (cFn (argN 1 F_growth_in) (aD (getD 0) aNil)) (cD .none))))
def F_is_growing : Fn := runB 1 g_is_growing
theorem ok_is_growing (T : TX K mg base f cc pp fd cl fi fdi) : FnG P w K mg base 6 (f 27) (fd 27) ["thing"] (spD K 1 F_is_growing) := fn_bodyG (k := 5) (N := ["thing"]) T.d27 sc_is_growing rfl fun cdv A outer s H E hr hp => by
  have nd := sc_is_growing.nd
  exact (ss_one (s_ret (d_and (d_fn (ok_is_rule T) (hr.mono (by decide)) T.g12 T.d12.kp T.b12 (a_d (d_var 0) a_nil)) (d_one (d_notN (d_fn (ok_growth_in T) (hr.mono (by decide)) T.g28 T.d28.kp T.b28 (a_d (d_var 0) a_nil)) d_non)))))
theorem sc_path_in : FnScope ["rule", "rows", "letter", "place", "path", "below", "index"] ["rule", "rows", "letter", "place"] (defScope t_path_in) := ⟨rfl, rfl, rfl, by decide +kernel, rfl, by decide +kernel, by decide +kernel⟩
def g_path_in : En → M Fl := (sSeq (sOwn 4 (cLst aNil)) (sSeq (sFor (fun ρ => (aD (cBin gSub (cCall gLen (aD (getD 1) aNil)) (cD (.int 2))) (aD (cUn gNeg (cD (.int 1))) (aD (cUn gNeg (cD (.int 1))) aNil))) ρ >>= rg3) (bNm 5) (sSeq (sAsg (cD (.int 0)) (bNm 6)) (sSeq (sWhile (cB (cBin gGe (getD 3) (cBin gIx (cBin gIx (getD 1) (getD 5)) (cBin gIx (cBin gIx (getD 0) (getD 2)) (getD 6))))) (sSeq (sAsg (cBin gSub (getD 3) (cBin gIx (cBin gIx (getD 1) (getD 5)) (cBin gIx (cBin gIx (getD 0) (getD 2)) (getD 6)))) (bNm 3)) (sAsg (cBin gAddB (getD 6) (cD (.int 1))) (bNm 6)))) (sSeq (sApp 4 (getD 6)) (sAsg (cBin gIx (cBin gIx (getD 0) (getD 2)) (getD 6)) (bNm 2)))))) (sRet (cTupO 4))))
def F_path_in : Fn := runB 7 g_path_in
theorem ok_path_in (T : TX K mg base f cc pp fd cl fi fdi) : FnG P w K mg base 1 (f 38) (fd 38) ["rule", "rows", "letter", "place"] (spD K 4 F_path_in) := fn_bodyG (k := 0) (N := ["rule", "rows", "letter", "place", "path", "below", "index"]) T.d38 sc_path_in rfl fun cdv A outer s H E hr hp => by
  have nd := sc_path_in.nd
  exact (ss_cons (s_ownLst 4 nd a_nil) (ss_cons (s_for hp rfl (i_rg3 T.m_range (a_d (d_sub (d_callB call_len_seq callD_len T.m_len (a_d (d_var 1) a_nil)) d_int) (a_d (d_neg' d_int) (a_d (d_neg' d_int) a_nil)))) (g_nm 5 nd) (ss_cons (s_asg d_int (g_nm 6 nd)) (ss_cons (s_while hp (c_ge (d_var 3) (d_at (d_at (d_var 1) (d_var 5)) (d_at (d_at (d_var 0) (d_var 2)) (d_var 6)))) (ss_cons (s_asg (d_sub (d_var 3) (d_at (d_at (d_var 1) (d_var 5)) (d_at (d_at (d_var 0) (d_var 2)) (d_var 6)))) (g_nm 3 nd)) (ss_one (s_asg (d_addB (d_var 6) d_int) (g_nm 6 nd))))) (ss_cons (s_app 4 (d_var 6)) (ss_one (s_asg (d_at (d_at (d_var 0) (d_var 2)) (d_var 6)) (g_nm 2 nd))))))) (ss_one (s_ret (d_tupO 4 T.m_tuple)))))
theorem sc_letter_at : FnScope ["rule", "letter", "level", "place", "rows", "index"] ["rule", "letter", "level", "place"] (defScope t_letter_at) := ⟨rfl, rfl, rfl, by decide +kernel, rfl, by decide +kernel, by decide +kernel⟩
def g_letter_at : En → M Fl := (sSeq (sExpr (cFn (argN 3 F_need_block) (aD (getD 0) (aD (getD 1) (aD (getD 2) aNil))))) (sSeq (sAsg (cFn (argN 2 F_length_rows) (aD (getD 0) (aD (getD 2) aNil))) (bNm 4)) (sSeq (sExpr (cFn (argN 2 F_need) (aD (cFn (argN 2 F_is_below) (aD (getD 3) (aD (cBin gIx (cBin gIx (getD 4) (getD 2)) (getD 1)) aNil))) (aD (cD (.str (Str.ofString "place"))) aNil)))) (sSeq (sFor (fun ρ => (cFn (argN 4 F_path_in) (aD (getD 0) (aD (getD 4) (aD (getD 1) (aD (getD 3) aNil))))) ρ >>= asS) (bNm 5) (sAsg (cBin gIx (cBin gIx (getD 0) (getD 1)) (getD 5)) (bNm 1))) (sRet (getD 1))))))
def F_letter_at : Fn := runB 6 g_letter_at
theorem ok_letter_at (T : TX K mg base f cc pp fd cl fi fdi) : FnG P w K mg base 7 (f 33) (fd 33) ["rule", "letter", "level", "place"] (spD K 4 F_letter_at) := fn_bodyG (k := 6) (N := ["rule", "letter", "level", "place", "rows", "index"]) T.d33 sc_letter_at rfl fun cdv A outer s H E hr hp => by
  have nd := sc_letter_at.nd
  exact (ss_cons (s_expr (d_fn (ok_need_block T) (hr.mono (by decide)) T.g21 T.d21.kp T.b21 (a_d (d_var 0) (a_d (d_var 1) (a_d (d_var 2) a_nil))))) (ss_cons (s_asg (d_fn (ok_length_rows T) (hr.mono (by decide)) T.g23 T.d23.kp T.b23 (a_d (d_var 0) (a_d (d_var 2) a_nil))) (g_nm 4 nd)) (ss_cons (s_expr (d_fn (ok_need T) (hr.mono (by decide)) T.g6 T.d6.kp T.b6 (a_d (d_fn (ok_is_below T) (hr.mono (by decide)) T.g13 T.d13.kp T.b13 (a_d (d_var 3) (a_d (d_at (d_at (d_var 4) (d_var 2)) (d_var 1)) a_nil))) (a_d d_str a_nil)))) (ss_cons (s_for hp rfl (i_seq (d_fn (ok_path_in T) (hr.mono (by decide)) T.g38 T.d38.kp T.b38 (a_d (d_var 0) (a_d (d_var 4) (a_d (d_var 1) (a_d (d_var 3) a_nil)))))) (g_nm 5 nd) (ss_one (s_asg (d_at (d_at (d_var 0) (d_var 1)) (d_var 5)) (g_nm 1 nd)))) (ss_one (s_ret (d_var 1)))))))
theorem sc_cut_word : FnScope ["lengths", "word", "place", "length", "first", "behind", "covered"] ["lengths", "word", "place", "length"] (defScope t_cut_word) := ⟨rfl, rfl, rfl, by decide +kernel, rfl, by decide +kernel, by decide +kernel⟩
def g_cut_word : En → M Fl := (sSeq (sAsg (cD (.int 0)) (bNm 4)) (sSeq (sWhile (cB (cBin gGe (getD 2) (cBin gIx (getD 0) (cBin gIx (getD 1) (getD 4))))) (sSeq (sAsg (cBin gSub (getD 2) (cBin gIx (getD 0) (cBin gIx (getD 1) (getD 4)))) (bNm 2)) (sAsg (cBin gAddB (getD 4) (cD (.int 1))) (bNm 4)))) (sSeq (sAsg (getD 4) (bNm 5)) (sSeq (sAsg (cD (.int 0)) (bNm 6)) (sSeq (sWhile (cB (cBin gLt (getD 6) (cBin gAddB (getD 2) (getD 3)))) (sSeq (sAsg (cBin gAddB (getD 6) (cBin gIx (getD 0) (cBin gIx (getD 1) (getD 5)))) (bNm 6)) (sAsg (cBin gAddB (getD 5) (cD (.int 1))) (bNm 5)))) (sRet (cTup (aD (cSl (getD 1) (someP (getD 4)) (someP (getD 5))) (aD (getD 2) aNil)))))))))
def F_cut_word : Fn := runB 7 g_cut_word
theorem ok_cut_word (T : TX K mg base f cc pp fd cl fi fdi) : FnG P w K mg base 1 (f 36) (fd 36) ["lengths", "word", "place", "length"] (spD K 4 F_cut_word) := fn_bodyG (k := 0) (N := ["lengths", "word", "place", "length", "first", "behind", "covered"]) T.d36 sc_cut_word rfl fun cdv A outer s H E hr hp => by
  have nd := sc_cut_word.nd
  exact (ss_cons (s_asg d_int (g_nm 4 nd)) (ss_cons (s_while hp (c_ge (d_var 2) (d_at (d_var 0) (d_at (d_var 1) (d_var 4)))) (ss_cons (s_asg (d_sub (d_var 2) (d_at (d_var 0) (d_at (d_var 1) (d_var 4)))) (g_nm 2 nd)) (ss_one (s_asg (d_addB (d_var 4) d_int) (g_nm 4 nd))))) (ss_cons (s_asg (d_var 4) (g_nm 5 nd)) (ss_cons (s_asg d_int (g_nm 6 nd)) (ss_cons (s_while hp (c_lt (d_var 6) (d_addB (d_var 2) (d_var 3))) (ss_cons (s_asg (d_addB (d_var 6) (d_at (d_var 0) (d_at (d_var 1) (d_var 5)))) (g_nm 6 nd)) (ss_one (s_asg (d_addB (d_var 5) d_int) (g_nm 5 nd))))) (ss_one (s_ret (d_tup (a_d (d_sl (d_var 1) (pod_some (d_var 4)) (pod_some (d_var 5))) (a_d (d_var 2) a_nil))))))))))
theorem sc_word_in : FnScope ["rule", "rows", "letter", "place", "length", "word", "below"] ["rule", "rows", "letter", "place", "length"] (defScope t_word_in) := ⟨rfl, rfl, rfl, by decide +kernel, rfl, by decide +kernel, by decide +kernel⟩
def g_word_in : En → M Fl := (sSeq (sIf (cB (cBin gEqD (getD 4) (cD (.int 0)))) (sRet (cTup aNil)) sNil) (sSeq (sAsg (cTup (aD (getD 2) aNil)) (bNm 5)) (sSeq (sFor (fun ρ => (aD (cBin gSub (cCall gLen (aD (getD 1) aNil)) (cD (.int 2))) (aD (cUn gNeg (cD (.int 1))) (aD (cUn gNeg (cD (.int 1))) aNil))) ρ >>= rg3) (bNm 6) (sAsg (cFn (argN 4 F_cut_word) (aD (cBin gIx (getD 1) (getD 6)) (aD (cFn (argN 2 F_spread) (aD (getD 0) (aD (getD 5) aNil))) (aD (getD 3) (aD (getD 4) aNil))))) (bTup 2 (bsCons (bNm 5) (bsCons (bNm 3) bsNil))))) (sRet (getD 5)))))
def F_word_in : Fn := runB 7 g_word_in
theorem ok_word_in (T : TX K mg base f cc pp fd cl fi fdi) : FnG P w K mg base 2 (f 35) (fd 35) ["rule", "rows", "letter", "place", "length"] (spD K 5 F_word_in) := fn_bodyG (k := 1) (N := ["rule", "rows", "letter", "place", "length", "word", "below"]) T.d35 sc_word_in rfl fun cdv A outer s H E hr hp => by
  have nd := sc_word_in.nd
  exact (ss_cons (s_if (c_eqD hr (d_var 4) d_int) (ss_one (s_ret (d_tup a_nil))) ss_nil) (ss_cons (s_asg (d_tup (a_d (d_var 2) a_nil)) (g_nm 5 nd)) (ss_cons (s_for hp rfl (i_rg3 T.m_range (a_d (d_sub (d_callB call_len_seq callD_len T.m_len (a_d (d_var 1) a_nil)) d_int) (a_d (d_neg' d_int) (a_d (d_neg' d_int) a_nil)))) (g_nm 6 nd) (ss_one (s_asg (d_fn (ok_cut_word T) (hr.mono (by decide)) T.g36 T.d36.kp T.b36 (a_d (d_at (d_var 1) (d_var 6)) (a_d (d_fn (ok_spread T) (hr.mono (by decide)) T.g7 T.d7.kp T.b7 (a_d (d_var 0) (a_d (d_var 5) a_nil))) (a_d (d_var 3) (a_d (d_var 4) a_nil))))) (g_tup rfl (gs_cons (g_nm 5 nd) (gs_cons (g_nm 3 nd) gs_nil)))))) (ss_one (s_ret (d_var 5))))))
theorem sc_word_at : FnScope ["rule", "letter", "level", "place", "length", "rows", "whole"] ["rule", "letter", "level", "place", "length"] (defScope t_word_at) := ⟨rfl, rfl, rfl, by decide +kernel, rfl, by decide +kernel, by decide +kernel⟩
def g_word_at : En → M Fl := (sSeq (sExpr (cFn (argN 3 F_need_block) (aD (getD 0) (aD (getD 1) (aD (getD 2) aNil))))) (sSeq (sAsg (cFn (argN 2 F_length_rows) (aD (getD 0) (aD (getD 2) aNil))) (bNm 5)) (sSeq (sAsg (cBin gIx (cBin gIx (getD 5) (getD 2)) (getD 1)) (bNm 6)) (sSeq (sExpr (cFn (argN 2 F_need) (aD (cFn (argN 2 F_is_below) (aD (getD 3) (aD (cBin gAddB (getD 6) (cD (.int 1))) aNil))) (aD (cD (.str (Str.ofString "place"))) aNil)))) (sSeq (sExpr (cFn (argN 2 F_need) (aD (cFn (argN 2 F_is_below) (aD (getD 4) (aD (cBin gAddB (cBin gSub (getD 6) (getD 3)) (cD (.int 1))) aNil))) (aD (cD (.str (Str.ofString "length"))) aNil)))) (sRet (cFn (argN 5 F_word_in) (aD (getD 0) (aD (getD 5) (aD (getD 1) (aD (getD 3) (aD (getD 4) aNil))))))))))))
def F_word_at : Fn := runB 7 g_word_at
theorem ok_word_at (T : TX K mg base f cc pp fd cl fi fdi) : FnG P w K mg base 7 (f 34) (fd 34) ["rule", "letter", "level", "place", "length"] (spD K 5 F_word_at) := fn_bodyG (k := 6) (N := ["rule", "letter", "level", "place", "length", "rows", "whole"]) T.d34 sc_word_at rfl fun cdv A outer s H E hr hp => by
  have nd := sc_word_at.nd
  exact (ss_cons (s_expr (d_fn (ok_need_block T) (hr.mono (by decide)) T.g21 T.d21.kp T.b21 (a_d (d_var 0) (a_d (d_var 1) (a_d (d_var 2) a_nil))))) (ss_cons (s_asg (d_fn (ok_length_rows T) (hr.mono (by decide)) T.g23 T.d23.kp T.b23 (a_d (d_var 0) (a_d (d_var 2) a_nil))) (g_nm 5 nd)) (ss_cons (s_asg (d_at (d_at (d_var 5) (d_var 2)) (d_var 1)) (g_nm 6 nd)) (ss_cons (s_expr (d_fn (ok_need T) (hr.mono (by decide)) T.g6 T.d6.kp T.b6 (a_d (d_fn (ok_is_below T) (hr.mono (by decide)) T.g13 T.d13.kp T.b13 (a_d (d_var 3) (a_d (d_addB (d_var 6) d_int) a_nil))) (a_d d_str a_nil)))) (ss_cons (s_expr (d_fn (ok_need T) (hr.mono (by decide)) T.g6 T.d6.kp T.b6 (a_d (d_fn (ok_is_below T) (hr.mono (by decide)) T.g13 T.d13.kp T.b13 (a_d (d_var 4) (a_d (d_addB (d_sub (d_var 6) (d_var 3)) d_int) a_nil))) (a_d d_str a_nil)))) (ss_one (s_ret (d_fn (ok_word_in T) (hr.mono (by decide)) T.g35 T.d35.kp T.b35 (a_d (d_var 0) (a_d (d_var 5) (a_d (d_var 1) (a_d (d_var 3) (a_d (d_var 4) a_nil)))))))))))))
theorem sc_path_to : FnScope ["rule", "letter", "level", "place", "rows"] ["rule", "letter", "level", "place"] (defScope t_path_to) := ⟨rfl, rfl, rfl, by decide +kernel, rfl, by decide +kernel, by decide +kernel⟩
def g_path_to : En → M Fl := (sSeq (sExpr (cFn (argN 3 F_need_block) (aD (getD 0) (aD (getD 1) (aD (getD 2) aNil))))) (sSeq (sAsg (cFn (argN 2 F_length_rows) (aD (getD 0) (aD (getD 2) aNil))) (bNm 4)) (sSeq (sExpr (cFn (argN 2 F_need) (aD (cFn (argN 2 F_is_below) (aD (getD 3) (aD (cBin gIx (cBin gIx (getD 4) (getD 2)) (getD 1)) aNil))) (aD (cD (.str (Str.ofString "place"))) aNil)))) (sRet (cFn (argN 4 F_path_in) (aD (getD 0) (aD (getD 4) (aD (getD 1) (aD (getD 3) aNil)))))))))
def F_path_to : Fn := runB 5 g_path_to
theorem ok_path_to (T : TX K mg base f cc pp fd cl fi fdi) : FnG P w K mg base 7 (f 37) (fd 37) ["rule", "letter", "level", "place"] (spD K 4 F_path_to) := fn_bodyG (k := 6) (N := ["rule", "letter", "level", "place", "rows"]) T.d37 sc_path_to rfl fun cdv A outer s H E hr hp => by
  have nd := sc_path_to.nd
  exact (ss_cons (s_expr (d_fn (ok_need_block T) (hr.mono (by decide)) T.g21 T.d21.kp T.b21 (a_d (d_var 0) (a_d (d_var 1) (a_d (d_var 2) a_nil))))) (ss_cons (s_asg (d_fn (ok_length_rows T) (hr.mono (by decide)) T.g23 T.d23.kp T.b23 (a_d (d_var 0) (a_d (d_var 2) a_nil))) (g_nm 4 nd)) (ss_cons (s_expr (d_fn (ok_need T) (hr.mono (by decide)) T.g6 T.d6.kp T.b6 (a_d (d_fn (ok_is_below T) (hr.mono (by decide)) T.g13 T.d13.kp T.b13 (a_d (d_var 3) (a_d (d_at (d_at (d_var 4) (d_var 2)) (d_var 1)) a_nil))) (a_d d_str a_nil)))) (ss_one (s_ret (d_fn (ok_path_in T) (hr.mono (by decide)) T.g38 T.d38.kp T.b38 (a_d (d_var 0) (a_d (d_var 4) (a_d (d_var 1) (a_d (d_var 3) a_nil))))))))))
theorem sc_is_path : FnScope ["rule", "letter", "thing", "index"] ["rule", "letter", "thing"] (defScope t_is_path) := ⟨rfl, rfl, rfl, by decide +kernel, rfl, by decide +kernel, by decide +kernel⟩
def g_is_path : En → M Fl := (sSeq (sIf (cNotB (cB (cIsi "tuple" (getD 2)))) (sRet (cD (.bool false))) sNil) (sSeq (sFor (fun ρ => (getD 2) ρ >>= asS) (bNm 3) (sSeq (sIf (cNotB (cB (cFn (argN 2 F_is_below) (aD (getD 3) (aD (cCall gLen (aD (cBin gIx (getD 0) (getD 1)) aNil)) aNil))))) (sRet (cD (.bool false))) sNil) (sAsg (cBin gIx (cBin gIx (getD 0) (getD 1)) (getD 3)) (bNm 1)))) (sRet (cD (.bool true)))))
def F_is_path : Fn := runB 4 g_is_path
theorem ok_is_path (T : TX K mg base f cc pp fd cl fi fdi) : FnG P w K mg base 4 (f 40) (fd 40) ["rule", "letter", "thing"] (spD K 3 F_is_path) := fn_bodyG (k := 3) (N := ["rule", "letter", "thing", "index"]) T.d40 sc_is_path rfl fun cdv A outer s H E hr hp => by
  have nd := sc_is_path.nd
  exact (ss_cons (s_if (b_not (b_val (d_isi T.m_isinstance T.m_tuple (d_var 2)))) (ss_one (s_ret d_bl)) ss_nil) (ss_cons (s_for hp rfl (i_seq (d_var 2)) (g_nm 3 nd) (ss_cons (s_if (b_not (b_val (d_fn (ok_is_below T) (hr.mono (by decide)) T.g13 T.d13.kp T.b13 (a_d (d_var 3) (a_d (d_callB call_len_seq callD_len T.m_len (a_d (d_at (d_var 0) (d_var 1)) a_nil)) a_nil))))) (ss_one (s_ret d_bl)) ss_nil) (ss_one (s_asg (d_at (d_at (d_var 0) (d_var 1)) (d_var 3)) (g_nm 1 nd))))) (ss_one (s_ret d_bl))))
theorem sc_passed_by : FnScope ["rule", "rows", "letter", "path", "passed", "step", "index", "row", "a"] ["rule", "rows", "letter", "path"] (defScope t_passed_by) := ⟨rfl, rfl, rfl, by decide +kernel, rfl, by decide +kernel, by decide +kernel⟩
def g_passed_by : En → M Fl := (sSeq (sAsg (cD (.int 0)) (bNm 4)) (sSeq (sFor (fun ρ => (aD (getD 3) aNil) ρ >>= asEs) (bTup 2 (bsCons (bNm 5) (bsCons (bNm 6) bsNil))) (sSeq (sAsg (cBin gIx (getD 1) (cBin gSub (cBin gSub (cCall gLen (aD (getD 3) aNil)) (cD (.int 1))) (getD 5))) (bNm 7)) (sSeq (sAsg (cBin gAddB (getD 4) (cCall gSum (aD (cLc (fun ρ => (cSl (cBin gIx (getD 0) (getD 2)) noP (someP (getD 6))) ρ >>= asS) [8] (bNm 8) yes (cBin gIx (getD 7) (getD 8))) aNil))) (bNm 4)) (sAsg (cBin gIx (cBin gIx (getD 0) (getD 2)) (getD 6)) (bNm 2))))) (sRet (getD 4))))
def F_passed_by : Fn := runB 9 g_passed_by
theorem ok_passed_by (T : TX K mg base f cc pp fd cl fi fdi) : FnG P w K mg base 1 (f 41) (fd 41) ["rule", "rows", "letter", "path"] (spD K 4 F_passed_by) := fn_bodyG (k := 0) (N := ["rule", "rows", "letter", "path", "passed", "step", "index", "row", "a"]) T.d41 sc_passed_by rfl fun cdv A outer s H E hr hp => by
  have nd := sc_passed_by.nd
  exact (ss_cons (s_asg d_int (g_nm 4 nd)) (ss_cons (s_for hp rfl (i_enS T.m_enumerate (a_d (d_var 3) a_nil)) (g_tup rfl (gs_cons (g_nm 5 nd) (gs_cons (g_nm 6 nd) gs_nil))) (ss_cons (s_asg (d_at (d_var 1) (d_sub (d_sub (d_callB call_len_seq callD_len T.m_len (a_d (d_var 3) a_nil)) d_int) (d_var 5))) (g_nm 7 nd)) (ss_cons (s_asg (d_addB (d_var 4) (d_callB (cr_sum rfl) callD_sum T.m_sum (a_d (d_lc (own := [(Str.ofString "a", 8)]) rfl nd (i_seq (d_sl (d_at (d_var 0) (d_var 2)) pod_none (pod_some (d_var 6)))) (blkOk_by (by first | decide +kernel | rfl)) (fun _ _ _ _ _ => (g_nm 8 nd)) (fun _ _ _ _ _ => t_nil) (fun _ _ _ _ _ => (d_at (d_var 7) (d_var 8)))) a_nil))) (g_nm 4 nd)) (ss_one (s_asg (d_at (d_at (d_var 0) (d_var 2)) (d_var 6)) (g_nm 2 nd)))))) (ss_one (s_ret (d_var 4)))))
theorem sc_place_by : FnScope ["rule", "letter", "path"] ["rule", "letter", "path"] (defScope t_place_by) := ⟨rfl, rfl, rfl, by decide +kernel, rfl, by decide +kernel, by decide +kernel⟩
def g_place_by : En → M Fl := (sSeq (sExpr (cFn (argN 2 F_need) (aD (cFn (argN 1 F_is_rule) (aD (getD 0) aNil)) (aD (cD (.str (Str.ofString "rule"))) aNil)))) (sSeq (sExpr (cFn (argN 2 F_need) (aD (cFn (argN 2 F_is_below) (aD (getD 1) (aD (cCall gLen (aD (getD 0) aNil)) aNil))) (aD (cD (.str (Str.ofString "letter"))) aNil)))) (sSeq (sExpr (cFn (argN 2 F_need) (aD (cFn (argN 3 F_is_path) (aD (getD 0) (aD (getD 1) (aD (getD 2) aNil)))) (aD (cD (.str (Str.ofString "path"))) aNil)))) (sRet (cFn (argN 4 F_passed_by) (aD (getD 0) (aD (cFn (argN 2 F_length_rows) (aD (getD 0) (aD (cCall gLen (aD (getD 2) aNil)) aNil))) (aD (getD 1) (aD (getD 2) aNil)))))))))
def F_place_by : Fn := runB 3 g_place_by
theorem ok_place_by (T : TX K mg base f cc pp fd cl fi fdi) : FnG P w K mg base 6 (f 39) (fd 39) ["rule", "letter", "path"] (spD K 3 F_place_by) := fn_bodyG (k := 5) (N := ["rule", "letter", "path"]) T.d39 sc_place_by rfl fun cdv A outer s H E hr hp => by
  have nd := sc_place_by.nd
  exact (ss_cons (s_expr (d_fn (ok_need T) (hr.mono (by decide)) T.g6 T.d6.kp T.b6 (a_d (d_fn (ok_is_rule T) (hr.mono (by decide)) T.g12 T.d12.kp T.b12 (a_d (d_var 0) a_nil)) (a_d d_str a_nil)))) (ss_cons (s_expr (d_fn (ok_need T) (hr.mono (by decide)) T.g6 T.d6.kp T.b6 (a_d (d_fn (ok_is_below T) (hr.mono (by decide)) T.g13 T.d13.kp T.b13 (a_d (d_var 1) (a_d (d_callB call_len_seq callD_len T.m_len (a_d (d_var 0) a_nil)) a_nil))) (a_d d_str a_nil)))) (ss_cons (s_expr (d_fn (ok_need T) (hr.mono (by decide)) T.g6 T.d6.kp T.b6 (a_d (d_fn (ok_is_path T) (hr.mono (by decide)) T.g40 T.d40.kp T.b40 (a_d (d_var 0) (a_d (d_var 1) (a_d (d_var 2) a_nil)))) (a_d d_str a_nil)))) (ss_one (s_ret (d_fn (ok_passed_by T) (hr.mono (by decide)) T.g41 T.d41.kp T.b41 (a_d (d_var 0) (a_d (d_fn (ok_length_rows T) (hr.mono (by decide)) T.g23 T.d23.kp T.b23 (a_d (d_var 0) (a_d (d_callB call_len_seq callD_len T.m_len (a_d (d_var 2) a_nil)) a_nil))) (a_d (d_var 1) (a_d (d_var 2) a_nil))))))))))
theorem sc_count_before : FnScope ["rule", "letter", "level", "place", "other", "rows", "counts"] ["rule", "letter", "level", "place", "other"] (defScope t_count_before) := ⟨rfl, rfl, rfl, by decide +kernel, rfl, by decide +kernel, by decide +kernel⟩
def g_count_before : En → M Fl := (sSeq (sExpr (cFn (argN 3 F_need_block) (aD (getD 0) (aD (getD 1) (aD (getD 2) aNil))))) (sSeq (sAsg (cFn (argN 2 F_length_rows) (aD (getD 0) (aD (getD 2) aNil))) (bNm 5)) (sSeq (sExpr (cFn (argN 2 F_need) (aD (cFn (argN 2 F_is_below) (aD (getD 3) (aD (cBin gAddB (cBin gIx (cBin gIx (getD 5) (getD 2)) (getD 1)) (cD (.int 1))) aNil))) (aD (cD (.str (Str.ofString "place"))) aNil)))) (sSeq (sExpr (cFn (argN 2 F_need) (aD (cFn (argN 2 F_is_below) (aD (getD 4) (aD (cCall gLen (aD (getD 0) aNil)) aNil))) (aD (cD (.str (Str.ofString "other"))) aNil)))) (sSeq (sAsg (cFn (argN 3 F_count_rows) (aD (getD 0) (aD (getD 4) (aD (getD 2) aNil)))) (bNm 6)) (sSeq (sIf (cB (cBin gEqD (getD 3) (cBin gIx (cBin gIx (getD 5) (getD 2)) (getD 1)))) (sRet (cBin gIx (cBin gIx (getD 6) (getD 2)) (getD 1))) sNil) (sRet (cFn (argN 4 F_passed_by) (aD (getD 0) (aD (getD 6) (aD (getD 1) (aD (cFn (argN 4 F_path_in) (aD (getD 0) (aD (getD 5) (aD (getD 1) (aD (getD 3) aNil))))) aNil))))))))))))
def F_count_before : Fn := runB 7 g_count_before
theorem ok_count_before (T : TX K mg base f cc pp fd cl fi fdi) : FnG P w K mg base 7 (f 42) (fd 42) ["rule", "letter", "level", "place", "other"] (spD K 5 F_count_before) := fn_bodyG (k := 6) (N := ["rule", "letter", "level", "place", "other", "rows", "counts"]) T.d42 sc_count_before rfl fun cdv A outer s H E hr hp => by
  have nd := sc_count_before.nd
  exact (ss_cons (s_expr (d_fn (ok_need_block T) (hr.mono (by decide)) T.g21 T.d21.kp T.b21 (a_d (d_var 0) (a_d (d_var 1) (a_d (d_var 2) a_nil))))) (ss_cons (s_asg (d_fn (ok_length_rows T) (hr.mono (by decide)) T.g23 T.d23.kp T.b23 (a_d (d_var 0) (a_d (d_var 2) a_nil))) (g_nm 5 nd)) (ss_cons (s_expr (d_fn (ok_need T) (hr.mono (by decide)) T.g6 T.d6.kp T.b6 (a_d (d_fn (ok_is_below T) (hr.mono (by decide)) T.g13 T.d13.kp T.b13 (a_d (d_var 3) (a_d (d_addB (d_at (d_at (d_var 5) (d_var 2)) (d_var 1)) d_int) a_nil))) (a_d d_str a_nil)))) (ss_cons (s_expr (d_fn (ok_need T) (hr.mono (by decide)) T.g6 T.d6.kp T.b6 (a_d (d_fn (ok_is_below T) (hr.mono (by decide)) T.g13 T.d13.kp T.b13 (a_d (d_var 4) (a_d (d_callB call_len_seq callD_len T.m_len (a_d (d_var 0) a_nil)) a_nil))) (a_d d_str a_nil)))) (ss_cons (s_asg (d_fn (ok_count_rows T) (hr.mono (by decide)) T.g24 T.d24.kp T.b24 (a_d (d_var 0) (a_d (d_var 4) (a_d (d_var 2) a_nil)))) (g_nm 6 nd)) (ss_cons (s_if (c_eqD hr (d_var 3) (d_at (d_at (d_var 5) (d_var 2)) (d_var 1))) (ss_one (s_ret (d_at (d_at (d_var 6) (d_var 2)) (d_var 1)))) ss_nil) (ss_one (s_ret (d_fn (ok_passed_by T) (hr.mono (by decide)) T.g41 T.d41.kp T.b41 (a_d (d_var 0) (a_d (d_var 6) (a_d (d_var 1) (a_d (d_fn (ok_path_in T) (hr.mono (by decide)) T.g38 T.d38.kp T.b38 (a_d (d_var 0) (a_d (d_var 5) (a_d (d_var 1) (a_d (d_var 3) a_nil))))) a_nil)))))))))))))
theorem sc_place_of : FnScope ["rule", "letter", "level", "other", "index", "counts", "path"] ["rule", "letter", "level", "other", "index"] (defScope t_place_of) := ⟨rfl, rfl, rfl, by decide +kernel, rfl, by decide +kernel, by decide +kernel⟩
def g_place_of : En → M Fl := (sSeq (sExpr (cFn (argN 3 F_need_block) (aD (getD 0) (aD (getD 1) (aD (getD 2) aNil))))) (sSeq (sExpr (cFn (argN 2 F_need) (aD (cFn (argN 2 F_is_below) (aD (getD 3) (aD (cCall gLen (aD (getD 0) aNil)) aNil))) (aD (cD (.str (Str.ofString "other"))) aNil)))) (sSeq (sExpr (cFn (argN 2 F_need) (aD (cFn (argN 1 F_is_number) (aD (getD 4) aNil)) (aD (cD (.str (Str.ofString "index"))) aNil)))) (sSeq (sAsg (cFn (argN 3 F_count_rows) (aD (getD 0) (aD (getD 3) (aD (getD 2) aNil)))) (bNm 5)) (sSeq (sIf (cB (cBin gGe (getD 4) (cBin gIx (cBin gIx (getD 5) (getD 2)) (getD 1)))) (sRet (cD .none)) sNil) (sSeq (sAsg (cFn (argN 4 F_path_in) (aD (getD 0) (aD (getD 5) (aD (getD 1) (aD (getD 4) aNil))))) (bNm 6)) (sRet (cFn (argN 4 F_passed_by) (aD (getD 0) (aD (cFn (argN 2 F_length_rows) (aD (getD 0) (aD (getD 2) aNil))) (aD (getD 1) (aD (getD 6) aNil))))))))))))
def F_place_of : Fn := runB 7 g_place_of
theorem ok_place_of (T : TX K mg base f cc pp fd cl fi fdi) : FnG P w K mg base 7 (f 43) (fd 43) ["rule", "letter", "level", "other", "index"] (spD K 5 F_place_of) := fn_bodyG (k := 6) (N := ["rule", "letter", "level", "other", "index", "counts", "path"]) T.d43 sc_place_of rfl fun cdv A outer s H E hr hp => by
  have nd := sc_place_of.nd
  exact (ss_cons (s_expr (d_fn (ok_need_block T) (hr.mono (by decide)) T.g21 T.d21.kp T.b21 (a_d (d_var 0) (a_d (d_var 1) (a_d (d_var 2) a_nil))))) (ss_cons (s_expr (d_fn (ok_need T) (hr.mono (by decide)) T.g6 T.d6.kp T.b6 (a_d (d_fn (ok_is_below T) (hr.mono (by decide)) T.g13 T.d13.kp T.b13 (a_d (d_var 3) (a_d (d_callB call_len_seq callD_len T.m_len (a_d (d_var 0) a_nil)) a_nil))) (a_d d_str a_nil)))) (ss_cons (s_expr (d_fn (ok_need T) (hr.mono (by decide)) T.g6 T.d6.kp T.b6 (a_d (d_fn (ok_is_number T) (hr.mono (by decide)) T.g11 T.d11.kp T.b11 (a_d (d_var 4) a_nil)) (a_d d_str a_nil)))) (ss_cons (s_asg (d_fn (ok_count_rows T) (hr.mono (by decide)) T.g24 T.d24.kp T.b24 (a_d (d_var 0) (a_d (d_var 3) (a_d (d_var 2) a_nil)))) (g_nm 5 nd)) (ss_cons (s_if (c_ge (d_var 4) (d_at (d_at (d_var 5) (d_var 2)) (d_var 1))) (ss_one (s_ret d_non)) ss_nil) (ss_cons (s_asg (d_fn (ok_path_in T) (hr.mono (by decide)) T.g38 T.d38.kp T.b38 (a_d (d_var 0) (a_d (d_var 5) (a_d (d_var 1) (a_d (d_var 4) a_nil))))) (g_nm 6 nd)) (ss_one (s_ret (d_fn (ok_passed_by T) (hr.mono (by decide)) T.g41 T.d41.kp T.b41 (a_d (d_var 0) (a_d (d_fn (ok_length_rows T) (hr.mono (by decide)) T.g23 T.d23.kp T.b23 (a_d (d_var 0) (a_d (d_var 2) a_nil))) (a_d (d_var 1) (a_d (d_var 6) a_nil)))))))))))))
theorem sc_seed_level : FnScope ["rule", "letter", "first", "level"] ["rule", "letter"] (defScope t_seed_level) := ⟨rfl, rfl, rfl, by decide +kernel, rfl, by decide +kernel, by decide +kernel⟩
def g_seed_level : En → M Fl := (sSeq (sAsg (getD 1) (bNm 2)) (sSeq (sFor (fun ρ => (aD (cD (.int 1)) (aD (cBin gAddB (cCall gLen (aD (getD 0) aNil)) (cD (.int 1))) aNil)) ρ >>= rg2) (bNm 3) (sSeq (sAsg (cBin gIx (cBin gIx (getD 0) (getD 2)) (cD (.int 0))) (bNm 2)) (sIf (cB (cBin gEqD (getD 2) (getD 1))) (sRet (getD 3)) sNil))) (sRet (cD (.int 0)))))
def F_seed_level : Fn := runB 4 g_seed_level
theorem ok_seed_level (T : TX K mg base f cc pp fd cl fi fdi) : FnG P w K mg base 1 (f 45) (fd 45) ["rule", "letter"] (spD K 2 F_seed_level) := fn_bodyG (k := 0) (N := ["rule", "letter", "first", "level"]) T.d45 sc_seed_level rfl fun cdv A outer s H E hr hp => by
  have nd := sc_seed_level.nd
  exact (ss_cons (s_asg (d_var 1) (g_nm 2 nd)) (ss_cons (s_for hp rfl (i_rg2 T.m_range (a_d d_int (a_d (d_addB (d_callB call_len_seq callD_len T.m_len (a_d (d_var 0) a_nil)) d_int) a_nil))) (g_nm 3 nd) (ss_cons (s_asg (d_at (d_at (d_var 0) (d_var 2)) d_int) (g_nm 2 nd)) (ss_one (s_if (c_eqD hr (d_var 2) (d_var 1)) (ss_one (s_ret (d_var 3))) ss_nil)))) (ss_one (s_ret d_int))))
theorem sc_seeds : FnScope ["rule", "found", "letter", "seed"] ["rule"] (defScope t_seeds) := ⟨rfl, rfl, rfl, by decide +kernel, rfl, by decide +kernel, by decide +kernel⟩
def g_seeds : En → M Fl := (sSeq (sExpr (cFn (argN 2 F_need) (aD (cFn (argN 1 F_is_rule) (aD (getD 0) aNil)) (aD (cD (.str (Str.ofString "rule"))) aNil)))) (sSeq (sAsg (cLc (fun ρ => (aD (cCall gLen (aD (getD 0) aNil)) aNil) ρ >>= rg1) [2] (bNm 2) yes (cTup (aD (getD 2) (aD (cFn (argN 2 F_seed_level) (aD (getD 0) (aD (getD 2) aNil))) aNil)))) (bNm 1)) (sRet (cCall gTupOf (aD (cLc (fun ρ => (getD 1) ρ >>= asS) [3] (bNm 3) (cB (cBin gGt (cBin gIx (getD 3) (cD (.int 1))) (cD (.int 0)))) (getD 3)) aNil)))))
def F_seeds : Fn := runB 4 g_seeds
theorem ok_seeds (T : TX K mg base f cc pp fd cl fi fdi) : FnG P w K mg base 6 (f 44) (fd 44) ["rule"] (spD K 1 F_seeds) := fn_bodyG (k := 5) (N := ["rule", "found", "letter", "seed"]) T.d44 sc_seeds rfl fun cdv A outer s H E hr hp => by
  have nd := sc_seeds.nd
  exact (ss_cons (s_expr (d_fn (ok_need T) (hr.mono (by decide)) T.g6 T.d6.kp T.b6 (a_d (d_fn (ok_is_rule T) (hr.mono (by decide)) T.g12 T.d12.kp T.b12 (a_d (d_var 0) a_nil)) (a_d d_str a_nil)))) (ss_cons (s_lc (i := 1) (own := [(Str.ofString "letter", 2)]) rfl nd (i_rg1 T.m_range (a_d (d_callB call_len_seq callD_len T.m_len (a_d (d_var 0) a_nil)) a_nil)) (blkOk_by (by first | decide +kernel | rfl)) (fun _ _ _ _ _ => (g_nm 2 nd)) (fun _ _ _ _ _ => t_nil) (fun _ _ _ _ _ => (d_tup (a_d (d_var 2) (a_d (d_fn (ok_seed_level T) (hr.mono (by decide)) T.g45 T.d45.kp T.b45 (a_d (d_var 0) (a_d (d_var 2) a_nil))) a_nil)))) (hsw := sw_true rfl rfl rfl (by decide +kernel))) (ss_one (s_ret (d_callTy call_tupF callD_tupOf T.m_tuple (a_d (d_lc (own := [(Str.ofString "seed", 3)]) rfl nd (i_seq (d_var 1)) (blkOk_by (by first | decide +kernel | rfl)) (fun _ _ _ _ _ => (g_nm 3 nd)) (fun _ _ _ _ _ => (t_one (c_gt (d_at (d_var 3) d_int) d_int))) (fun _ _ _ _ _ => (d_var 3))) a_nil))))))
theorem sc_level_holding : FnScope ["rule", "letter", "place", "level", "lengths", "_"] ["rule", "letter", "place"] (defScope t_level_holding) := ⟨rfl, rfl, rfl, by decide +kernel, rfl, by decide +kernel, by decide +kernel⟩
def g_level_holding : En → M Fl := (sSeq (sExpr (cFn (argN 2 F_need) (aD (cFn (argN 1 F_is_growing) (aD (getD 0) aNil)) (aD (cD (.str (Str.ofString "rule"))) aNil)))) (sSeq (sExpr (cFn (argN 2 F_need) (aD (cFn (argN 2 F_is_below) (aD (getD 1) (aD (cCall gLen (aD (getD 0) aNil)) aNil))) (aD (cD (.str (Str.ofString "letter"))) aNil)))) (sSeq (sExpr (cFn (argN 2 F_need) (aD (cFn (argN 1 F_is_number) (aD (getD 2) aNil)) (aD (cD (.str (Str.ofString "place"))) aNil)))) (sSeq (sAsg (cD (.int 0)) (bNm 3)) (sSeq (sAsg (cLc (fun ρ => (getD 0) ρ >>= asS) [5] (bNm 5) yes (cD (.int 1))) (bNm 4)) (sSeq (sWhile (cB (cBin gLe (cBin gIx (getD 4) (getD 1)) (getD 2))) (sSeq (sAsg (cBin gAddB (getD 3) (cD (.int 1))) (bNm 3)) (sAsg (cFn (argN 2 F_added_up) (aD (getD 0) (aD (getD 4) aNil))) (bNm 4)))) (sRet (getD 3))))))))
def F_level_holding : Fn := runB 6 g_level_holding
theorem ok_level_holding (T : TX K mg base f cc pp fd cl fi fdi) : FnG P w K mg base 7 (f 46) (fd 46) ["rule", "letter", "place"] (spD K 3 F_level_holding) := fn_bodyG (k := 6) (N := ["rule", "letter", "place", "level", "lengths", "_"]) T.d46 sc_level_holding rfl fun cdv A outer s H E hr hp => by
  have nd := sc_level_holding.nd
  exact (ss_cons (s_expr (d_fn (ok_need T) (hr.mono (by decide)) T.g6 T.d6.kp T.b6 (a_d (d_fn (ok_is_growing T) (hr.mono (by decide)) T.g27 T.d27.kp T.b27 (a_d (d_var 0) a_nil)) (a_d d_str a_nil)))) (ss_cons (s_expr (d_fn (ok_need T) (hr.mono (by decide)) T.g6 T.d6.kp T.b6 (a_d (d_fn (ok_is_below T) (hr.mono (by decide)) T.g13 T.d13.kp T.b13 (a_d (d_var 1) (a_d (d_callB call_len_seq callD_len T.m_len (a_d (d_var 0) a_nil)) a_nil))) (a_d d_str a_nil)))) (ss_cons (s_expr (d_fn (ok_need T) (hr.mono (by decide)) T.g6 T.d6.kp T.b6 (a_d (d_fn (ok_is_number T) (hr.mono (by decide)) T.g11 T.d11.kp T.b11 (a_d (d_var 2) a_nil)) (a_d d_str a_nil)))) (ss_cons (s_asg d_int (g_nm 3 nd)) (ss_cons (s_lc (i := 4) (own := [(Str.ofString "_", 5)]) rfl nd (i_seq (d_var 0)) (blkOk_by (by first | decide +kernel | rfl)) (fun _ _ _ _ _ => (g_nm 5 nd)) (fun _ _ _ _ _ => t_nil) (fun _ _ _ _ _ => d_int) (hsw := sw_true rfl rfl rfl (by decide +kernel))) (ss_cons (s_while hp (c_le (d_at (d_var 4) (d_var 1)) (d_var 2)) (ss_cons (s_asg (d_addB (d_var 3) d_int) (g_nm 3 nd)) (ss_one (s_asg (d_fn (ok_added_up T) (hr.mono (by decide)) T.g8 T.d8.kp T.b8 (a_d (d_var 0) (a_d (d_var 4) a_nil))) (g_nm 4 nd))))) (ss_one (s_ret (d_var 3)))))))))
-- _law_feed: by hand
theorem sc__law_same : FnScope ["_law_heard_here", "_law_due"] ["_law_heard_here", "_law_due"] (defScope t__law_same) := ⟨rfl, rfl, rfl, by decide +kernel, rfl, by decide +kernel, by decide +kernel⟩
def g__law_same : En → M Fl := (sRet (cBin gEqD (cUn gRepr (getD 0)) (cUn gRepr (getD 1))))
def F__law_same : Fn := runB 2 g__law_same
theorem ok__law_same (T : TX K mg base f cc pp fd cl fi fdi) : FnG P w K mg base 1 (f 49) (fd 49) ["_law_heard_here", "_law_due"] (spD K 2 F__law_same) := fn_bodyG (k := 0) (N := ["_law_heard_here", "_law_due"]) T.d49 sc__law_same rfl fun cdv A outer s H E hr hp => by
  have nd := sc__law_same.nd
  exact (ss_one (s_ret (d_eqD hr (d_repr hr T.m_repr (d_var 0)) (d_repr hr T.m_repr (d_var 1)))))
theorem sc__law_draw : FnScope ["_law_feed_here", "_law_many", "_law_near", "_law_cell", "_law_mixed", "_law_digit"] ["_law_feed_here", "_law_many"] (defScope t__law_draw) := ⟨rfl, rfl, rfl, by decide +kernel, rfl, by decide +kernel, by decide +kernel⟩
def g__law_draw : En → M Fl := (sSeq (sFput .d 0 .turn (cBin gAddB (cFget .d 0 .turn) (cD (.int 1)))) (sSeq (sIf (cB (cBin gGt (cFget .d 0 .rest) (cD (.int 0)))) (sSeq (sAsg (cBin gMod (cUn gInt (cFget .d 0 .rest)) (getD 1)) (bNm 5)) (sSeq (sFput .d 0 .rest (cBin gDiv (cFget .d 0 .rest) (getD 1))) (sRet (getD 5)))) sNil) (sSeq (sAsg (cFget .d 0 .place) (bNm 2)) (sSeq (sFput .d 0 .place (cBin gAddB (getD 2) (cD (.int 1)))) (sSeq (sAsg (cIf (cB (cBin gNeD (cFget .d 0 .cells) (cLst aNil))) (cBin gIx (cFget .d 0 .cells) (cBin gMod (cUn gInt (getD 2)) (cCall gLen (aD (cFget .d 0 .cells) aNil)))) (cD (.int 827167))) (bNm 3)) (sSeq (sIf (cAndB (cB (cBin gGe (getD 3) (cBin gPow (cD (.int 10)) (cD (.int 18))))) (cB (cBin gLt (getD 2) (cCall gLen (aD (cFget .d 0 .cells) aNil))))) (sSeq (sFput .d 0 .rest (cBin gDiv (getD 3) (getD 1))) (sRet (cBin gMod (cUn gInt (getD 3)) (getD 1)))) sNil) (sSeq (sAsg (cBin gMod (cUn gInt (cBin gAddB (cBin gAddB (cBin gMod (cUn gInt (getD 3)) (cD (.int 1000032779))) (cBin gMulA (cD (.int 364373)) (cFget .d 0 .turn))) (cD (.int 10627)))) (cD (.int 2147486081))) (bNm 4)) (sSeq (sAsg (cBin gMod (cUn gInt (cBin gAddB (cBin gAddB (cBin gMulA (getD 4) (getD 4)) (cBin gMulA (cD (.int 7807757)) (cFget .d 0 .turn))) (cD (.int 11027)))) (cD (.int 2147486099))) (bNm 4)) (sRet (cBin gMod (cUn gInt (cBin gDiv (cBin gMod (cUn gInt (cBin gAddB (cBin gMulA (getD 4) (getD 4)) (cBin gMulA (cD (.int 12941)) (getD 4)))) (cD (.int 2147486921))) (cD (.int 256)))) (getD 1)))))))))))
def F__law_draw : Fn := runB 6 g__law_draw
theorem ok__law_draw (T : TX K mg base f cc pp fd cl fi fdi) : FnG P w K mg base 1 (f 50) (fd 50) ["_law_feed_here", "_law_many"] (spD K 2 F__law_draw) := fn_bodyG (k := 0) (N := ["_law_feed_here", "_law_many", "_law_near", "_law_cell", "_law_mixed", "_law_digit"]) T.d50 sc__law_draw rfl fun cdv A outer s H E hr hp => by
  have nd := sc__law_draw.nd
  exact (ss_cons (s_fput .d .turn 0 hr (d_addB (d_fget .d .turn 0 hr) d_int)) (ss_cons (s_if (c_gt (d_fget .d .rest 0 hr) d_int) (ss_cons (s_asg (d_mod (d_intOf T.m_int (d_fget .d .rest 0 hr)) (d_var 1)) (g_nm 5 nd)) (ss_cons (s_fput .d .rest 0 hr (d_div (d_fget .d .rest 0 hr) (d_var 1))) (ss_one (s_ret (d_var 5))))) ss_nil) (ss_cons (s_asg (d_fget .d .place 0 hr) (g_nm 2 nd)) (ss_cons (s_fput .d .place 0 hr (d_addB (d_var 2) d_int)) (ss_cons (s_asg (d_if (c_neD hr (d_fget .d .cells 0 hr) (d_lst a_nil)) (d_at (d_fget .d .cells 0 hr) (d_mod (d_intOf T.m_int (d_var 2)) (d_callB call_len_seq callD_len T.m_len (a_d (d_fget .d .cells 0 hr) a_nil)))) d_int) (g_nm 3 nd)) (ss_cons (s_if (b_w (w_and (c_ge (d_var 3) (d_pow d_int d_int)) (w_and1 (c_lt (d_var 2) (d_callB call_len_seq callD_len T.m_len (a_d (d_fget .d .cells 0 hr) a_nil)))))) (ss_cons (s_fput .d .rest 0 hr (d_div (d_var 3) (d_var 1))) (ss_one (s_ret (d_mod (d_intOf T.m_int (d_var 3)) (d_var 1))))) ss_nil) (ss_cons (s_asg (d_mod (d_intOf T.m_int (d_addB (d_addB (d_mod (d_intOf T.m_int (d_var 3)) d_int) (d_mulA d_int (d_fget .d .turn 0 hr))) d_int)) d_int) (g_nm 4 nd)) (ss_cons (s_asg (d_mod (d_intOf T.m_int (d_addB (d_addB (d_mulA (d_var 4) (d_var 4)) (d_mulA d_int (d_fget .d .turn 0 hr))) d_int)) d_int) (g_nm 4 nd)) (ss_one (s_ret (d_mod (d_intOf T.m_int (d_div (d_mod (d_intOf T.m_int (d_addB (d_mulA (d_var 4) (d_var 4)) (d_mulA d_int (d_var 4)))) d_int) d_int)) (d_var 1))))))))))))
theorem sc__law_heard : FnScope ["_law_call", "error", "_law_is_own"] ["_law_call"] (defScope t__law_heard) := ⟨rfl, rfl, rfl, by decide +kernel, rfl, by decide +kernel, by decide +kernel⟩
def told__law_heard : Str := "told"
def tbc__law_heard : Nat → Bool
  | 6 => true
  | _ => false
def hs__law_heard (a0 d0 : Addr) (c0 : Nat) : En → M Fl := (sSeq (sAsg (cAnd (cIsx a0 d0 c0 1 tb_NotUsable) (cAnd (cIsx a0 d0 c0 1 tb_WorldError) (cNot (cIsx a0 d0 c0 1 tb_PaperError)))) (bNm 2)) (sRet (cIf (cB (getD 2)) (cTup (aD (cD (.str (Str.ofString "use"))) (aD (cXf a0 d0 c0 1 fi_word) (aD (cXf a0 d0 c0 1 fi_at) aNil)))) (cTup (aD (cD (.str (Str.ofString "odd"))) aNil)))))
theorem pr__law_heard : ∀ (a d : Addr) (x : Xn) (S : Fd), tbc__law_heard x.cls = true → rtOf (hs__law_heard a d x.cls (xEnv 3 1 a d x) S) = rtOf (hs__law_heard 0 0 x.cls (xEnv 3 1 0 0 x) S) := fun a d x S h => by
  obtain ⟨c, fs⟩ := x
  have h : tbc__law_heard c = true := h
  unfold tbc__law_heard at h
  split at h
  · simp [hs__law_heard, sSeq, sAsg, sRet, sIf, sNil, cB, cNotB, cAndB, cOrB, cIf, cTup, cLst, aD, aNil, cD, cAnd, cOr, cNot, cIsx_self, cXf_self, xEnv, bind, M.bind, bNm, getD, lift, pure, asB, mkTup, mkLst, small, dats, List.set, tb_NotUsable, tb_PaperError, tb_WorldError, fi_at, fi_word]
  · cases h
theorem hear__law_heard (T : TX K mg base f cc pp fd cl fi fdi) {X : Cx} {k : Nat} (eK : X.K = K) (em : X.mg = mg) : HearT X k "_law_heard" "_law_call" "error" "LedError" (f 51) (cl 0) (fd 51) ["_law_call", "error", "_law_is_own"] told__law_heard tbc__law_heard 1 hs__law_heard where
  g' := by rw [em]; exact T.g51
  kp := by rw [eK]; exact T.d51.kp
  bd := by rw [eK]; exact T.b51
  ex := by
    refine ⟨t__law_heard, _, _, _, _, _, _, _, _, _, _, _, _, by rw [eK]; exact T.d51, sc__law_heard, rfl, .inl rfl, sc__law_heard.nd, rfl, rfl, rfl, by decide, rfl, by decide, by decide, fun cdv s H a0 d0 c0 oe pn hr hz hf => ?_⟩
    have nd := sc__law_heard.nd
    have eK : (zCx X ["_law_call", "error", "_law_is_own"] "_law_heard" (defScope t__law_heard) (f 51) cdv s H).K = K := eK
    have em : (zCx X ["_law_call", "error", "_law_is_own"] "_law_heard" (defScope t__law_heard) (f 51) cdv s H).mg = mg := em
    exact (ss_cons (s_asg (d_and (d_isx (by rw [em]; exact T.m_isinstance) (fun X' eX => ny_NotUsable T eK em eX) (fun _ z => z) (hk_NotUsable T eK em) hz hf) (d_and (d_isx (by rw [em]; exact T.m_isinstance) (fun X' eX => ny_WorldError T eK em eX) (fun _ z => z) (hk_WorldError T eK em) hz hf) (d_one (d_not (d_isx (by rw [em]; exact T.m_isinstance) (fun X' eX => ny_PaperError T eK em eX) (fun _ z => z) (hk_PaperError T eK em) hz hf))))) (g_nm 2 nd)) (ss_one (s_ret (d_if (b_val (d_var 2)) (d_tup (a_d d_str (a_d (d_xf (hf_word T eK) hz hf) (a_d (d_xf (hf_at T eK) hz hf) a_nil)))) (d_tup (a_d d_str a_nil))))))
  le := by rw [em]; exact T.gx_LedError
  ca := fun c h => by
    rw [eK]
    unfold tbc__law_heard at h
    split at h
    · rw [T.e6.cl]; exact T.xm6_LedError
    · cases h
  pr := pr__law_heard
theorem sc__law_rules : FnScope [] [] (defScope t__law_rules) := ⟨rfl, rfl, rfl, by decide +kernel, rfl, by decide +kernel, by decide +kernel⟩
def g__law_rules : En → M Fl := (sRet (cTup (aD (cTup (aD (cTup (aD (cD (.int 0)) (aD (cD (.int 1)) aNil))) (aD (cTup (aD (cD (.int 1)) (aD (cD (.int 0)) aNil))) aNil))) (aD (cTup (aD (cTup (aD (cD (.int 0)) (aD (cD (.int 1)) aNil))) (aD (cTup (aD (cD (.int 0)) aNil)) aNil))) (aD (cTup (aD (cTup (aD (cD (.int 1)) aNil)) (aD (cTup (aD (cD (.int 0)) aNil)) aNil))) (aD (cTup (aD (cTup (aD (cD (.int 0)) (aD (cD (.int 1)) aNil))) (aD (cTup (aD (cD (.int 0)) (aD (cD (.int 2)) aNil))) (aD (cTup (aD (cD (.int 0)) aNil)) aNil)))) (aD (cTup (aD (cTup (aD (cD (.int 0)) (aD (cD (.int 0)) aNil))) aNil)) aNil)))))))
def F__law_rules : Fn := runB 0 g__law_rules
theorem ok__law_rules (T : TX K mg base f cc pp fd cl fi fdi) : FnG P w K mg base 1 (f 52) (fd 52) [] (spD K 0 F__law_rules) := fn_bodyG (k := 0) (N := []) T.d52 sc__law_rules rfl fun cdv A outer s H E hr hp => by
  have nd := sc__law_rules.nd
  exact (ss_one (s_ret (d_tup (a_d (d_tup (a_d (d_tup (a_d d_int (a_d d_int a_nil))) (a_d (d_tup (a_d d_int (a_d d_int a_nil))) a_nil))) (a_d (d_tup (a_d (d_tup (a_d d_int (a_d d_int a_nil))) (a_d (d_tup (a_d d_int a_nil)) a_nil))) (a_d (d_tup (a_d (d_tup (a_d d_int a_nil)) (a_d (d_tup (a_d d_int a_nil)) a_nil))) (a_d (d_tup (a_d (d_tup (a_d d_int (a_d d_int a_nil))) (a_d (d_tup (a_d d_int (a_d d_int a_nil))) (a_d (d_tup (a_d d_int a_nil)) a_nil)))) (a_d (d_tup (a_d (d_tup (a_d d_int (a_d d_int a_nil))) a_nil)) a_nil))))))))
theorem sc__law_are_blocks_told : FnScope ["_law_told", "_law_due", "_law_thue", "_law_gold", "_law_swap", "_law_three", "_law_double"] [] (defScope t__law_are_blocks_told) := ⟨rfl, rfl, rfl, by decide +kernel, rfl, by decide +kernel, by decide +kernel⟩
def g__law_are_blocks_told : En → M Fl := (sSeq (sAsg (cFn0 F__law_rules) (bTup 5 (bsCons (bNm 2) (bsCons (bNm 3) (bsCons (bNm 4) (bsCons (bNm 5) (bsCons (bNm 6) bsNil))))))) (sSeq (sAsg (cLst (aD (cFn (argN 3 F_block_of) (aD (getD 2) (aD (cD (.int 0)) (aD (cD (.int 3)) aNil)))) (aD (cFn (argN 3 F_block_of) (aD (getD 3) (aD (cD (.int 0)) (aD (cD (.int 4)) aNil)))) (aD (cFn (argN 3 F_block_of) (aD (getD 3) (aD (cD (.int 1)) (aD (cD (.int 0)) aNil)))) (aD (cFn (argN 3 F_block_of) (aD (getD 4) (aD (cD (.int 1)) (aD (cD (.int 7)) aNil)))) (aD (cFn (argN 3 F_block_of) (aD (getD 5) (aD (cD (.int 0)) (aD (cD (.int 3)) aNil)))) (aD (cKw' F_block_of 3 3 [2, 1, 0] (aD (cD (.int 2)) (aD (cD (.int 0)) (aD (getD 6) aNil)))) aNil))))))) (bNm 0)) (sSeq (sAsg (cLst (aD (cTup (aD (cD (.int 0)) (aD (cD (.int 1)) (aD (cD (.int 1)) (aD (cD (.int 0)) (aD (cD (.int 1)) (aD (cD (.int 0)) (aD (cD (.int 0)) (aD (cD (.int 1)) aNil))))))))) (aD (cTup (aD (cD (.int 0)) (aD (cD (.int 1)) (aD (cD (.int 0)) (aD (cD (.int 0)) (aD (cD (.int 1)) (aD (cD (.int 0)) (aD (cD (.int 1)) (aD (cD (.int 0)) aNil))))))))) (aD (cTup (aD (cD (.int 1)) aNil)) (aD (cTup (aD (cD (.int 0)) aNil)) (aD (cTup (aD (cD (.int 0)) (aD (cD (.int 1)) (aD (cD (.int 0)) (aD (cD (.int 2)) (aD (cD (.int 0)) (aD (cD (.int 1)) (aD (cD (.int 0)) aNil)))))))) (aD (cBin gMulA (cTup (aD (cD (.int 0)) aNil)) (cD (.int 4))) aNil))))))) (bNm 1)) (sSeq (sIf (cOrB (cB (cBin gNeD (cFn (argN 3 F_block_of) (aD (getD 6) (aD (cD (.int 0)) (aD (cD (.int 13)) aNil)))) (cBin gMulA (cTup (aD (cD (.int 0)) aNil)) (cD (.int 8192))))) (cB (cBin gNeD (cFn (argN 5 F_word_at) (aD (getD 3) (aD (cD (.int 0)) (aD (cD (.int 4)) (aD (cD (.int 8)) (aD (cD (.int 0)) aNil)))))) (cTup aNil)))) (sRet (cD (.bool false))) sNil) (sSeq (sAsg (cBin gAddB (getD 0) (cLst (aD (cFn (argN 3 F_length_of) (aD (getD 3) (aD (cD (.int 0)) (aD (cD (.int 5)) aNil)))) (aD (cFn (argN 3 F_length_of) (aD (getD 4) (aD (cD (.int 0)) (aD (cD (.int 200)) aNil)))) (aD (cKw' F_length_of 3 3 [2, 1, 0] (aD (cD (.int 60)) (aD (cD (.int 0)) (aD (getD 6) aNil)))) (aD (cFn (argN 3 F_length_of) (aD (getD 5) (aD (cD (.int 2)) (aD (cD (.int 4)) aNil)))) aNil)))))) (bNm 0)) (sSeq (sAsg (cBin gAddB (getD 1) (cLst (aD (cD (.int 13)) (aD (cD (.int 1)) (aD (cBin gPow (cD (.int 2)) (cD (.int 60))) (aD (cD (.int 7)) aNil)))))) (bNm 1)) (sSeq (sAsg (cBin gAddB (getD 0) (cLst (aD (cFn (argN 3 F_lengths_of) (aD (getD 3) (aD (cD (.int 1)) (aD (cD (.int 5)) aNil)))) (aD (cKw' F_lengths_of 3 3 [2, 1, 0] (aD (cD (.int 0)) (aD (cD (.int 1)) (aD (getD 2) aNil)))) (aD (cFn (argN 3 F_lengths_of) (aD (getD 4) (aD (cD (.int 0)) (aD (cD (.int 3)) aNil)))) (aD (cFn (argN 3 F_lengths_of) (aD (getD 5) (aD (cD (.int 1)) (aD (cD (.int 4)) aNil)))) aNil)))))) (bNm 0)) (sSeq (sAsg (cBin gAddB (getD 1) (cLst (aD (cTup (aD (cD (.int 1)) (aD (cD (.int 1)) (aD (cD (.int 2)) (aD (cD (.int 3)) (aD (cD (.int 5)) (aD (cD (.int 8)) aNil))))))) (aD (cTup (aD (cD (.int 1)) aNil)) (aD (cTup (aD (cD (.int 1)) (aD (cD (.int 1)) (aD (cD (.int 1)) (aD (cD (.int 1)) aNil))))) (aD (cTup (aD (cD (.int 1)) (aD (cD (.int 2)) (aD (cD (.int 3)) (aD (cD (.int 6)) (aD (cD (.int 11)) aNil)))))) aNil)))))) (bNm 1)) (sSeq (sAsg (cBin gAddB (getD 0) (cLst (aD (cFn (argN 3 F_counts_in) (aD (getD 3) (aD (cD (.int 0)) (aD (cD (.int 4)) aNil)))) (aD (cFn (argN 3 F_counts_in) (aD (getD 2) (aD (cD (.int 1)) (aD (cD (.int 3)) aNil)))) (aD (cFn (argN 3 F_counts_in) (aD (getD 4) (aD (cD (.int 0)) (aD (cD (.int 5)) aNil)))) (aD (cKw' F_counts_in 3 3 [2, 1, 0] (aD (cD (.int 3)) (aD (cD (.int 0)) (aD (getD 5) aNil)))) (aD (cFn (argN 3 F_counts_in) (aD (getD 6) (aD (cD (.int 0)) (aD (cD (.int 64)) aNil)))) aNil))))))) (bNm 0)) (sRet (cFn (argN 2 F__law_same) (aD (getD 0) (aD (cBin gAddB (getD 1) (cLst (aD (cTup (aD (cD (.int 5)) (aD (cD (.int 3)) aNil))) (aD (cTup (aD (cD (.int 4)) (aD (cD (.int 4)) aNil))) (aD (cTup (aD (cD (.int 0)) (aD (cD (.int 1)) aNil))) (aD (cTup (aD (cD (.int 4)) (aD (cD (.int 2)) (aD (cD (.int 1)) aNil)))) (aD (cTup (aD (cBin gPow (cD (.int 2)) (cD (.int 64))) aNil)) aNil))))))) aNil)))))))))))))
def F__law_are_blocks_told : Fn := runB 7 g__law_are_blocks_told
theorem ok__law_are_blocks_told (T : TX K mg base f cc pp fd cl fi fdi) : FnG P w K mg base 8 (f 53) (fd 53) [] (spD K 0 F__law_are_blocks_told) := fn_bodyG (k := 7) (N := ["_law_told", "_law_due", "_law_thue", "_law_gold", "_law_swap", "_law_three", "_law_double"]) T.d53 sc__law_are_blocks_told rfl fun cdv A outer s H E hr hp => by
  have nd := sc__law_are_blocks_told.nd
  exact (ss_cons (s_asg (d_fn0 (ok__law_rules T) (hr.mono (by decide)) T.g52 T.d52.kp T.b52) (g_tup rfl (gs_cons (g_nm 2 nd) (gs_cons (g_nm 3 nd) (gs_cons (g_nm 4 nd) (gs_cons (g_nm 5 nd) (gs_cons (g_nm 6 nd) gs_nil))))))) (ss_cons (s_asg (d_lst (a_d (d_fn (ok_block_of T) (hr.mono (by decide)) T.g17 T.d17.kp T.b17 (a_d (d_var 2) (a_d d_int (a_d d_int a_nil)))) (a_d (d_fn (ok_block_of T) (hr.mono (by decide)) T.g17 T.d17.kp T.b17 (a_d (d_var 3) (a_d d_int (a_d d_int a_nil)))) (a_d (d_fn (ok_block_of T) (hr.mono (by decide)) T.g17 T.d17.kp T.b17 (a_d (d_var 3) (a_d d_int (a_d d_int a_nil)))) (a_d (d_fn (ok_block_of T) (hr.mono (by decide)) T.g17 T.d17.kp T.b17 (a_d (d_var 4) (a_d d_int (a_d d_int a_nil)))) (a_d (d_fn (ok_block_of T) (hr.mono (by decide)) T.g17 T.d17.kp T.b17 (a_d (d_var 5) (a_d d_int (a_d d_int a_nil)))) (a_d (d_kw (ok_block_of T) (hr.mono (by decide)) T.g17 T.d17.kp T.k17_level_letter_rule (k_d d_int (k_d d_int (k_d (d_var 6) k_nil)))) a_nil))))))) (g_nm 0 nd)) (ss_cons (s_asg (d_lst (a_d (d_tup (a_d d_int (a_d d_int (a_d d_int (a_d d_int (a_d d_int (a_d d_int (a_d d_int (a_d d_int a_nil))))))))) (a_d (d_tup (a_d d_int (a_d d_int (a_d d_int (a_d d_int (a_d d_int (a_d d_int (a_d d_int (a_d d_int a_nil))))))))) (a_d (d_tup (a_d d_int a_nil)) (a_d (d_tup (a_d d_int a_nil)) (a_d (d_tup (a_d d_int (a_d d_int (a_d d_int (a_d d_int (a_d d_int (a_d d_int (a_d d_int a_nil)))))))) (a_d (d_mulA (d_tup (a_d d_int a_nil)) d_int) a_nil))))))) (g_nm 1 nd)) (ss_cons (s_if (b_w (w_or (c_neD hr (d_fn (ok_block_of T) (hr.mono (by decide)) T.g17 T.d17.kp T.b17 (a_d (d_var 6) (a_d d_int (a_d d_int a_nil)))) (d_mulA (d_tup (a_d d_int a_nil)) d_int)) (w_or1 (c_neD hr (d_fn (ok_word_at T) (hr.mono (by decide)) T.g34 T.d34.kp T.b34 (a_d (d_var 3) (a_d d_int (a_d d_int (a_d d_int (a_d d_int a_nil)))))) (d_tup a_nil))))) (ss_one (s_ret d_bl)) ss_nil) (ss_cons (s_asg (d_addB (d_var 0) (d_lst (a_d (d_fn (ok_length_of T) (hr.mono (by decide)) T.g18 T.d18.kp T.b18 (a_d (d_var 3) (a_d d_int (a_d d_int a_nil)))) (a_d (d_fn (ok_length_of T) (hr.mono (by decide)) T.g18 T.d18.kp T.b18 (a_d (d_var 4) (a_d d_int (a_d d_int a_nil)))) (a_d (d_kw (ok_length_of T) (hr.mono (by decide)) T.g18 T.d18.kp T.k18_level_letter_rule (k_d d_int (k_d d_int (k_d (d_var 6) k_nil)))) (a_d (d_fn (ok_length_of T) (hr.mono (by decide)) T.g18 T.d18.kp T.b18 (a_d (d_var 5) (a_d d_int (a_d d_int a_nil)))) a_nil)))))) (g_nm 0 nd)) (ss_cons (s_asg (d_addB (d_var 1) (d_lst (a_d d_int (a_d d_int (a_d (d_pow d_int d_int) (a_d d_int a_nil)))))) (g_nm 1 nd)) (ss_cons (s_asg (d_addB (d_var 0) (d_lst (a_d (d_fn (ok_lengths_of T) (hr.mono (by decide)) T.g19 T.d19.kp T.b19 (a_d (d_var 3) (a_d d_int (a_d d_int a_nil)))) (a_d (d_kw (ok_lengths_of T) (hr.mono (by decide)) T.g19 T.d19.kp T.k19_level_letter_rule (k_d d_int (k_d d_int (k_d (d_var 2) k_nil)))) (a_d (d_fn (ok_lengths_of T) (hr.mono (by decide)) T.g19 T.d19.kp T.b19 (a_d (d_var 4) (a_d d_int (a_d d_int a_nil)))) (a_d (d_fn (ok_lengths_of T) (hr.mono (by decide)) T.g19 T.d19.kp T.b19 (a_d (d_var 5) (a_d d_int (a_d d_int a_nil)))) a_nil)))))) (g_nm 0 nd)) (ss_cons (s_asg (d_addB (d_var 1) (d_lst (a_d (d_tup (a_d d_int (a_d d_int (a_d d_int (a_d d_int (a_d d_int (a_d d_int a_nil))))))) (a_d (d_tup (a_d d_int a_nil)) (a_d (d_tup (a_d d_int (a_d d_int (a_d d_int (a_d d_int a_nil))))) (a_d (d_tup (a_d d_int (a_d d_int (a_d d_int (a_d d_int (a_d d_int a_nil)))))) a_nil)))))) (g_nm 1 nd)) (ss_cons (s_asg (d_addB (d_var 0) (d_lst (a_d (d_fn (ok_counts_in T) (hr.mono (by decide)) T.g20 T.d20.kp T.b20 (a_d (d_var 3) (a_d d_int (a_d d_int a_nil)))) (a_d (d_fn (ok_counts_in T) (hr.mono (by decide)) T.g20 T.d20.kp T.b20 (a_d (d_var 2) (a_d d_int (a_d d_int a_nil)))) (a_d (d_fn (ok_counts_in T) (hr.mono (by decide)) T.g20 T.d20.kp T.b20 (a_d (d_var 4) (a_d d_int (a_d d_int a_nil)))) (a_d (d_kw (ok_counts_in T) (hr.mono (by decide)) T.g20 T.d20.kp T.k20_level_letter_rule (k_d d_int (k_d d_int (k_d (d_var 5) k_nil)))) (a_d (d_fn (ok_counts_in T) (hr.mono (by decide)) T.g20 T.d20.kp T.b20 (a_d (d_var 6) (a_d d_int (a_d d_int a_nil)))) a_nil))))))) (g_nm 0 nd)) (ss_one (s_ret (d_fn (ok__law_same T) (hr.mono (by decide)) T.g49 T.d49.kp T.b49 (a_d (d_var 0) (a_d (d_addB (d_var 1) (d_lst (a_d (d_tup (a_d d_int (a_d d_int a_nil))) (a_d (d_tup (a_d d_int (a_d d_int a_nil))) (a_d (d_tup (a_d d_int (a_d d_int a_nil))) (a_d (d_tup (a_d d_int (a_d d_int (a_d d_int a_nil)))) (a_d (d_tup (a_d (d_pow d_int d_int) a_nil)) a_nil))))))) a_nil))))))))))))))
theorem sc__law_are_places_told : FnScope ["_law_told", "_law_due", "_law_thue", "_law_gold", "_law_swap", "_law_three", "_law_double"] [] (defScope t__law_are_places_told) := ⟨rfl, rfl, rfl, by decide +kernel, rfl, by decide +kernel, by decide +kernel⟩
def g__law_are_places_told : En → M Fl := (sSeq (sAsg (cFn0 F__law_rules) (bTup 5 (bsCons (bNm 2) (bsCons (bNm 3) (bsCons (bNm 4) (bsCons (bNm 5) (bsCons (bNm 6) bsNil))))))) (sSeq (sAsg (cLst (aD (cFn (argN 4 F_letter_at) (aD (getD 2) (aD (cD (.int 0)) (aD (cD (.int 3)) (aD (cD (.int 6)) aNil))))) (aD (cFn (argN 4 F_letter_at) (aD (getD 2) (aD (cD (.int 0)) (aD (cD (.int 200)) (aD (cBin gPow (cD (.int 2)) (cD (.int 60))) aNil))))) (aD (cFn (argN 4 F_letter_at) (aD (getD 2) (aD (cD (.int 0)) (aD (cD (.int 200)) (aD (cBin gAddB (cBin gPow (cD (.int 2)) (cD (.int 60))) (cD (.int 1))) aNil))))) (aD (cFn (argN 4 F_letter_at) (aD (getD 3) (aD (cD (.int 0)) (aD (cD (.int 4)) (aD (cD (.int 7)) aNil))))) (aD (cKw' F_letter_at 4 4 [3, 2, 1, 0] (aD (cD (.int 0)) (aD (cD (.int 9)) (aD (cD (.int 0)) (aD (getD 4) aNil))))) aNil)))))) (bNm 0)) (sSeq (sAsg (cLst (aD (cD (.int 0)) (aD (cD (.int 1)) (aD (cD (.int 0)) (aD (cD (.int 0)) (aD (cD (.int 1)) aNil)))))) (bNm 1)) (sSeq (sAsg (cBin gAddB (getD 0) (cLst (aD (cFn (argN 5 F_word_at) (aD (getD 3) (aD (cD (.int 0)) (aD (cD (.int 4)) (aD (cD (.int 3)) (aD (cD (.int 4)) aNil)))))) (aD (cFn (argN 5 F_word_at) (aD (getD 3) (aD (cD (.int 0)) (aD (cD (.int 2)) (aD (cD (.int 3)) (aD (cD (.int 0)) aNil)))))) (aD (cFn (argN 5 F_word_at) (aD (getD 2) (aD (cD (.int 1)) (aD (cD (.int 2)) (aD (cD (.int 0)) (aD (cD (.int 4)) aNil)))))) (aD (cKw' F_word_at 5 5 [4, 3, 2, 1, 0] (aD (cD (.int 3)) (aD (cD (.int 4)) (aD (cD (.int 3)) (aD (cD (.int 0)) (aD (getD 5) aNil)))))) aNil)))))) (bNm 0)) (sSeq (sAsg (cBin gAddB (getD 1) (cLst (aD (cTup (aD (cD (.int 0)) (aD (cD (.int 1)) (aD (cD (.int 0)) (aD (cD (.int 1)) aNil))))) (aD (cTup aNil) (aD (cTup (aD (cD (.int 1)) (aD (cD (.int 0)) (aD (cD (.int 0)) (aD (cD (.int 1)) aNil))))) (aD (cTup (aD (cD (.int 0)) (aD (cD (.int 1)) (aD (cD (.int 0)) aNil)))) aNil)))))) (bNm 1)) (sSeq (sAsg (cBin gAddB (getD 0) (cLst (aD (cFn (argN 4 F_path_to) (aD (getD 3) (aD (cD (.int 0)) (aD (cD (.int 4)) (aD (cD (.int 6)) aNil))))) (aD (cFn (argN 4 F_path_to) (aD (getD 3) (aD (cD (.int 1)) (aD (cD (.int 0)) (aD (cD (.int 0)) aNil))))) (aD (cFn (argN 4 F_path_to) (aD (getD 4) (aD (cD (.int 0)) (aD (cD (.int 3)) (aD (cD (.int 0)) aNil))))) (aD (cKw' F_path_to 4 4 [3, 2, 1, 0] (aD (cD (.int 6)) (aD (cD (.int 3)) (aD (cD (.int 0)) (aD (getD 2) aNil))))) (aD (cFn (argN 4 F_path_to) (aD (getD 5) (aD (cD (.int 0)) (aD (cD (.int 3)) (aD (cD (.int 3)) aNil))))) aNil))))))) (bNm 0)) (sSeq (sAsg (cBin gAddB (getD 1) (cLst (aD (cTup (aD (cD (.int 1)) (aD (cD (.int 0)) (aD (cD (.int 0)) (aD (cD (.int 1)) aNil))))) (aD (cTup aNil) (aD (cTup (aD (cD (.int 0)) (aD (cD (.int 0)) (aD (cD (.int 0)) aNil)))) (aD (cTup (aD (cD (.int 1)) (aD (cD (.int 1)) (aD (cD (.int 0)) aNil)))) (aD (cTup (aD (cD (.int 0)) (aD (cD (.int 1)) (aD (cD (.int 1)) aNil)))) aNil))))))) (bNm 1)) (sSeq (sAsg (cBin gAddB (getD 0) (cLst (aD (cFn (argN 3 F_place_by) (aD (getD 3) (aD (cD (.int 0)) (aD (cTup (aD (cD (.int 1)) (aD (cD (.int 0)) (aD (cD (.int 0)) (aD (cD (.int 1)) aNil))))) aNil)))) (aD (cFn (argN 3 F_place_by) (aD (getD 2) (aD (cD (.int 0)) (aD (cTup aNil) aNil)))) (aD (cKw' F_place_by 3 3 [2, 1, 0] (aD (cTup (aD (cD (.int 1)) (aD (cD (.int 1)) (aD (cD (.int 0)) aNil)))) (aD (cD (.int 0)) (aD (getD 2) aNil)))) (aD (cFn (argN 3 F_place_by) (aD (getD 6) (aD (cD (.int 0)) (aD (cBin gMulA (cTup (aD (cD (.int 1)) aNil)) (cD (.int 60))) aNil)))) aNil)))))) (bNm 0)) (sRet (cFn (argN 2 F__law_same) (aD (getD 0) (aD (cBin gAddB (getD 1) (cLst (aD (cD (.int 6)) (aD (cD (.int 0)) (aD (cD (.int 6)) (aD (cBin gSub (cBin gPow (cD (.int 2)) (cD (.int 60))) (cD (.int 1))) aNil)))))) aNil))))))))))))
def F__law_are_places_told : Fn := runB 7 g__law_are_places_told
theorem ok__law_are_places_told (T : TX K mg base f cc pp fd cl fi fdi) : FnG P w K mg base 8 (f 54) (fd 54) [] (spD K 0 F__law_are_places_told) := fn_bodyG (k := 7) (N := ["_law_told", "_law_due", "_law_thue", "_law_gold", "_law_swap", "_law_three", "_law_double"]) T.d54 sc__law_are_places_told rfl fun cdv A outer s H E hr hp => by
  have nd := sc__law_are_places_told.nd
  exact (ss_cons (s_asg (d_fn0 (ok__law_rules T) (hr.mono (by decide)) T.g52 T.d52.kp T.b52) (g_tup rfl (gs_cons (g_nm 2 nd) (gs_cons (g_nm 3 nd) (gs_cons (g_nm 4 nd) (gs_cons (g_nm 5 nd) (gs_cons (g_nm 6 nd) gs_nil))))))) (ss_cons (s_asg (d_lst (a_d (d_fn (ok_letter_at T) (hr.mono (by decide)) T.g33 T.d33.kp T.b33 (a_d (d_var 2) (a_d d_int (a_d d_int (a_d d_int a_nil))))) (a_d (d_fn (ok_letter_at T) (hr.mono (by decide)) T.g33 T.d33.kp T.b33 (a_d (d_var 2) (a_d d_int (a_d d_int (a_d (d_pow d_int d_int) a_nil))))) (a_d (d_fn (ok_letter_at T) (hr.mono (by decide)) T.g33 T.d33.kp T.b33 (a_d (d_var 2) (a_d d_int (a_d d_int (a_d (d_addB (d_pow d_int d_int) d_int) a_nil))))) (a_d (d_fn (ok_letter_at T) (hr.mono (by decide)) T.g33 T.d33.kp T.b33 (a_d (d_var 3) (a_d d_int (a_d d_int (a_d d_int a_nil))))) (a_d (d_kw (ok_letter_at T) (hr.mono (by decide)) T.g33 T.d33.kp T.k33_place_level_letter_rule (k_d d_int (k_d d_int (k_d d_int (k_d (d_var 4) k_nil))))) a_nil)))))) (g_nm 0 nd)) (ss_cons (s_asg (d_lst (a_d d_int (a_d d_int (a_d d_int (a_d d_int (a_d d_int a_nil)))))) (g_nm 1 nd)) (ss_cons (s_asg (d_addB (d_var 0) (d_lst (a_d (d_fn (ok_word_at T) (hr.mono (by decide)) T.g34 T.d34.kp T.b34 (a_d (d_var 3) (a_d d_int (a_d d_int (a_d d_int (a_d d_int a_nil)))))) (a_d (d_fn (ok_word_at T) (hr.mono (by decide)) T.g34 T.d34.kp T.b34 (a_d (d_var 3) (a_d d_int (a_d d_int (a_d d_int (a_d d_int a_nil)))))) (a_d (d_fn (ok_word_at T) (hr.mono (by decide)) T.g34 T.d34.kp T.b34 (a_d (d_var 2) (a_d d_int (a_d d_int (a_d d_int (a_d d_int a_nil)))))) (a_d (d_kw (ok_word_at T) (hr.mono (by decide)) T.g34 T.d34.kp T.k34_length_place_level_letter_rule (k_d d_int (k_d d_int (k_d d_int (k_d d_int (k_d (d_var 5) k_nil)))))) a_nil)))))) (g_nm 0 nd)) (ss_cons (s_asg (d_addB (d_var 1) (d_lst (a_d (d_tup (a_d d_int (a_d d_int (a_d d_int (a_d d_int a_nil))))) (a_d (d_tup a_nil) (a_d (d_tup (a_d d_int (a_d d_int (a_d d_int (a_d d_int a_nil))))) (a_d (d_tup (a_d d_int (a_d d_int (a_d d_int a_nil)))) a_nil)))))) (g_nm 1 nd)) (ss_cons (s_asg (d_addB (d_var 0) (d_lst (a_d (d_fn (ok_path_to T) (hr.mono (by decide)) T.g37 T.d37.kp T.b37 (a_d (d_var 3) (a_d d_int (a_d d_int (a_d d_int a_nil))))) (a_d (d_fn (ok_path_to T) (hr.mono (by decide)) T.g37 T.d37.kp T.b37 (a_d (d_var 3) (a_d d_int (a_d d_int (a_d d_int a_nil))))) (a_d (d_fn (ok_path_to T) (hr.mono (by decide)) T.g37 T.d37.kp T.b37 (a_d (d_var 4) (a_d d_int (a_d d_int (a_d d_int a_nil))))) (a_d (d_kw (ok_path_to T) (hr.mono (by decide)) T.g37 T.d37.kp T.k37_place_level_letter_rule (k_d d_int (k_d d_int (k_d d_int (k_d (d_var 2) k_nil))))) (a_d (d_fn (ok_path_to T) (hr.mono (by decide)) T.g37 T.d37.kp T.b37 (a_d (d_var 5) (a_d d_int (a_d d_int (a_d d_int a_nil))))) a_nil))))))) (g_nm 0 nd)) (ss_cons (s_asg (d_addB (d_var 1) (d_lst (a_d (d_tup (a_d d_int (a_d d_int (a_d d_int (a_d d_int a_nil))))) (a_d (d_tup a_nil) (a_d (d_tup (a_d d_int (a_d d_int (a_d d_int a_nil)))) (a_d (d_tup (a_d d_int (a_d d_int (a_d d_int a_nil)))) (a_d (d_tup (a_d d_int (a_d d_int (a_d d_int a_nil)))) a_nil))))))) (g_nm 1 nd)) (ss_cons (s_asg (d_addB (d_var 0) (d_lst (a_d (d_fn (ok_place_by T) (hr.mono (by decide)) T.g39 T.d39.kp T.b39 (a_d (d_var 3) (a_d d_int (a_d (d_tup (a_d d_int (a_d d_int (a_d d_int (a_d d_int a_nil))))) a_nil)))) (a_d (d_fn (ok_place_by T) (hr.mono (by decide)) T.g39 T.d39.kp T.b39 (a_d (d_var 2) (a_d d_int (a_d (d_tup a_nil) a_nil)))) (a_d (d_kw (ok_place_by T) (hr.mono (by decide)) T.g39 T.d39.kp T.k39_path_letter_rule (k_d (d_tup (a_d d_int (a_d d_int (a_d d_int a_nil)))) (k_d d_int (k_d (d_var 2) k_nil)))) (a_d (d_fn (ok_place_by T) (hr.mono (by decide)) T.g39 T.d39.kp T.b39 (a_d (d_var 6) (a_d d_int (a_d (d_mulA (d_tup (a_d d_int a_nil)) d_int) a_nil)))) a_nil)))))) (g_nm 0 nd)) (ss_one (s_ret (d_fn (ok__law_same T) (hr.mono (by decide)) T.g49 T.d49.kp T.b49 (a_d (d_var 0) (a_d (d_addB (d_var 1) (d_lst (a_d d_int (a_d d_int (a_d d_int (a_d (d_sub (d_pow d_int d_int) d_int) a_nil)))))) a_nil)))))))))))))
theorem sc__law_are_counts_told : FnScope ["_law_told", "_law_due", "_law_thue", "_law_gold", "_law_swap", "_law_three", "_law_double"] [] (defScope t__law_are_counts_told) := ⟨rfl, rfl, rfl, by decide +kernel, rfl, by decide +kernel, by decide +kernel⟩
def g__law_are_counts_told : En → M Fl := (sSeq (sAsg (cFn0 F__law_rules) (bTup 5 (bsCons (bNm 2) (bsCons (bNm 3) (bsCons (bNm 4) (bsCons (bNm 5) (bsCons (bNm 6) bsNil))))))) (sSeq (sAsg (cLst (aD (cFn (argN 5 F_count_before) (aD (getD 3) (aD (cD (.int 0)) (aD (cD (.int 4)) (aD (cD (.int 5)) (aD (cD (.int 0)) aNil)))))) (aD (cFn (argN 5 F_count_before) (aD (getD 2) (aD (cD (.int 0)) (aD (cD (.int 200)) (aD (cBin gPow (cD (.int 2)) (cD (.int 60))) (aD (cD (.int 1)) aNil)))))) (aD (cFn (argN 5 F_count_before) (aD (getD 2) (aD (cD (.int 0)) (aD (cD (.int 3)) (aD (cD (.int 8)) (aD (cD (.int 1)) aNil)))))) (aD (cKw' F_count_before 5 5 [4, 3, 2, 1, 0] (aD (cD (.int 2)) (aD (cD (.int 6)) (aD (cD (.int 3)) (aD (cD (.int 0)) (aD (getD 5) aNil)))))) (aD (cFn (argN 5 F_count_before) (aD (getD 3) (aD (cD (.int 0)) (aD (cD (.int 4)) (aD (cD (.int 0)) (aD (cD (.int 1)) aNil)))))) aNil)))))) (bNm 0)) (sSeq (sAsg (cLst (aD (cD (.int 3)) (aD (cBin gPow (cD (.int 2)) (cD (.int 59))) (aD (cD (.int 4)) (aD (cD (.int 1)) (aD (cD (.int 0)) aNil)))))) (bNm 1)) (sSeq (sAsg (cBin gAddB (getD 0) (cLst (aD (cFn (argN 5 F_place_of) (aD (getD 3) (aD (cD (.int 0)) (aD (cD (.int 4)) (aD (cD (.int 1)) (aD (cD (.int 2)) aNil)))))) (aD (cFn (argN 5 F_place_of) (aD (getD 3) (aD (cD (.int 0)) (aD (cD (.int 4)) (aD (cD (.int 1)) (aD (cD (.int 3)) aNil)))))) (aD (cFn (argN 5 F_place_of) (aD (getD 2) (aD (cD (.int 0)) (aD (cD (.int 2)) (aD (cD (.int 1)) (aD (cD (.int 0)) aNil)))))) (aD (cKw' F_place_of 5 5 [4, 3, 2, 1, 0] (aD (cD (.int 0)) (aD (cD (.int 2)) (aD (cD (.int 3)) (aD (cD (.int 0)) (aD (getD 5) aNil)))))) (aD (cFn (argN 5 F_place_of) (aD (getD 4) (aD (cD (.int 0)) (aD (cD (.int 2)) (aD (cD (.int 1)) (aD (cD (.int 0)) aNil)))))) aNil))))))) (bNm 0)) (sSeq (sAsg (cBin gAddB (getD 1) (cLst (aD (cD (.int 6)) (aD (cD .none) (aD (cD (.int 1)) (aD (cD (.int 3)) (aD (cD .none) aNil))))))) (bNm 1)) (sSeq (sAsg (cBin gAddB (getD 0) (cLst (aD (cFn (argN 1 F_seeds) (aD (getD 2) aNil)) (aD (cFn (argN 1 F_seeds) (aD (getD 3) aNil)) (aD (cFn (argN 1 F_seeds) (aD (cTup (aD (cTup (aD (cD (.int 1)) (aD (cD (.int 0)) aNil))) (aD (cTup (aD (cD (.int 0)) (aD (cD (.int 1)) aNil))) aNil))) aNil)) (aD (cKw' F_seeds 1 1 [0] (aD (getD 5) aNil)) (aD (cFn (argN 1 F_seeds) (aD (getD 4) aNil)) (aD (cFn (argN 1 F_seeds) (aD (cTup (aD (cTup (aD (cD (.int 1)) aNil)) (aD (cTup (aD (cD (.int 2)) aNil)) (aD (cTup (aD (cD (.int 1)) aNil)) aNil)))) aNil)) aNil)))))))) (bNm 0)) (sSeq (sAsg (cBin gAddB (getD 1) (cLst (aD (cTup (aD (cTup (aD (cD (.int 0)) (aD (cD (.int 1)) aNil))) (aD (cTup (aD (cD (.int 1)) (aD (cD (.int 1)) aNil))) aNil))) (aD (cTup (aD (cTup (aD (cD (.int 0)) (aD (cD (.int 1)) aNil))) aNil)) (aD (cTup (aD (cTup (aD (cD (.int 0)) (aD (cD (.int 2)) aNil))) (aD (cTup (aD (cD (.int 1)) (aD (cD (.int 2)) aNil))) aNil))) (aD (cTup (aD (cTup (aD (cD (.int 0)) (aD (cD (.int 1)) aNil))) aNil)) (aD (cTup (aD (cTup (aD (cD (.int 0)) (aD (cD (.int 2)) aNil))) (aD (cTup (aD (cD (.int 1)) (aD (cD (.int 2)) aNil))) aNil))) (aD (cTup (aD (cTup (aD (cD (.int 1)) (aD (cD (.int 2)) aNil))) (aD (cTup (aD (cD (.int 2)) (aD (cD (.int 2)) aNil))) aNil))) aNil)))))))) (bNm 1)) (sSeq (sAsg (cBin gAddB (getD 0) (cLst (aD (cFn (argN 3 F_level_holding) (aD (getD 3) (aD (cD (.int 0)) (aD (cD (.int 7)) aNil)))) (aD (cFn (argN 3 F_level_holding) (aD (getD 3) (aD (cD (.int 0)) (aD (cBin gPow (cD (.int 10)) (cD (.int 59))) aNil)))) (aD (cFn (argN 3 F_level_holding) (aD (getD 2) (aD (cD (.int 0)) (aD (cBin gPow (cD (.int 10)) (cD (.int 59))) aNil)))) (aD (cFn (argN 3 F_level_holding) (aD (getD 2) (aD (cD (.int 1)) (aD (cD (.int 0)) aNil)))) (aD (cKw' F_level_holding 3 3 [2, 1, 0] (aD (cD (.int 1)) (aD (cD (.int 1)) (aD (getD 3) aNil)))) (aD (cFn (argN 3 F_level_holding) (aD (getD 6) (aD (cD (.int 0)) (aD (cBin gSub (cBin gPow (cD (.int 2)) (cD (.int 60))) (cD (.int 1))) aNil)))) aNil)))))))) (bNm 0)) (sRet (cFn (argN 2 F__law_same) (aD (getD 0) (aD (cBin gAddB (getD 1) (cLst (aD (cD (.int 4)) (aD (cD (.int 282)) (aD (cD (.int 196)) (aD (cD (.int 0)) (aD (cD (.int 2)) (aD (cD (.int 60)) aNil)))))))) aNil))))))))))))
def F__law_are_counts_told : Fn := runB 7 g__law_are_counts_told
theorem ok__law_are_counts_told (T : TX K mg base f cc pp fd cl fi fdi) : FnG P w K mg base 8 (f 55) (fd 55) [] (spD K 0 F__law_are_counts_told) := fn_bodyG (k := 7) (N := ["_law_told", "_law_due", "_law_thue", "_law_gold", "_law_swap", "_law_three", "_law_double"]) T.d55 sc__law_are_counts_told rfl fun cdv A outer s H E hr hp => by
  have nd := sc__law_are_counts_told.nd
  exact (ss_cons (s_asg (d_fn0 (ok__law_rules T) (hr.mono (by decide)) T.g52 T.d52.kp T.b52) (g_tup rfl (gs_cons (g_nm 2 nd) (gs_cons (g_nm 3 nd) (gs_cons (g_nm 4 nd) (gs_cons (g_nm 5 nd) (gs_cons (g_nm 6 nd) gs_nil))))))) (ss_cons (s_asg (d_lst (a_d (d_fn (ok_count_before T) (hr.mono (by decide)) T.g42 T.d42.kp T.b42 (a_d (d_var 3) (a_d d_int (a_d d_int (a_d d_int (a_d d_int a_nil)))))) (a_d (d_fn (ok_count_before T) (hr.mono (by decide)) T.g42 T.d42.kp T.b42 (a_d (d_var 2) (a_d d_int (a_d d_int (a_d (d_pow d_int d_int) (a_d d_int a_nil)))))) (a_d (d_fn (ok_count_before T) (hr.mono (by decide)) T.g42 T.d42.kp T.b42 (a_d (d_var 2) (a_d d_int (a_d d_int (a_d d_int (a_d d_int a_nil)))))) (a_d (d_kw (ok_count_before T) (hr.mono (by decide)) T.g42 T.d42.kp T.k42_other_place_level_letter_rule (k_d d_int (k_d d_int (k_d d_int (k_d d_int (k_d (d_var 5) k_nil)))))) (a_d (d_fn (ok_count_before T) (hr.mono (by decide)) T.g42 T.d42.kp T.b42 (a_d (d_var 3) (a_d d_int (a_d d_int (a_d d_int (a_d d_int a_nil)))))) a_nil)))))) (g_nm 0 nd)) (ss_cons (s_asg (d_lst (a_d d_int (a_d (d_pow d_int d_int) (a_d d_int (a_d d_int (a_d d_int a_nil)))))) (g_nm 1 nd)) (ss_cons (s_asg (d_addB (d_var 0) (d_lst (a_d (d_fn (ok_place_of T) (hr.mono (by decide)) T.g43 T.d43.kp T.b43 (a_d (d_var 3) (a_d d_int (a_d d_int (a_d d_int (a_d d_int a_nil)))))) (a_d (d_fn (ok_place_of T) (hr.mono (by decide)) T.g43 T.d43.kp T.b43 (a_d (d_var 3) (a_d d_int (a_d d_int (a_d d_int (a_d d_int a_nil)))))) (a_d (d_fn (ok_place_of T) (hr.mono (by decide)) T.g43 T.d43.kp T.b43 (a_d (d_var 2) (a_d d_int (a_d d_int (a_d d_int (a_d d_int a_nil)))))) (a_d (d_kw (ok_place_of T) (hr.mono (by decide)) T.g43 T.d43.kp T.k43_index_other_level_letter_rule (k_d d_int (k_d d_int (k_d d_int (k_d d_int (k_d (d_var 5) k_nil)))))) (a_d (d_fn (ok_place_of T) (hr.mono (by decide)) T.g43 T.d43.kp T.b43 (a_d (d_var 4) (a_d d_int (a_d d_int (a_d d_int (a_d d_int a_nil)))))) a_nil))))))) (g_nm 0 nd)) (ss_cons (s_asg (d_addB (d_var 1) (d_lst (a_d d_int (a_d d_non (a_d d_int (a_d d_int (a_d d_non a_nil))))))) (g_nm 1 nd)) (ss_cons (s_asg (d_addB (d_var 0) (d_lst (a_d (d_fn (ok_seeds T) (hr.mono (by decide)) T.g44 T.d44.kp T.b44 (a_d (d_var 2) a_nil)) (a_d (d_fn (ok_seeds T) (hr.mono (by decide)) T.g44 T.d44.kp T.b44 (a_d (d_var 3) a_nil)) (a_d (d_fn (ok_seeds T) (hr.mono (by decide)) T.g44 T.d44.kp T.b44 (a_d (d_tup (a_d (d_tup (a_d d_int (a_d d_int a_nil))) (a_d (d_tup (a_d d_int (a_d d_int a_nil))) a_nil))) a_nil)) (a_d (d_kw (ok_seeds T) (hr.mono (by decide)) T.g44 T.d44.kp T.k44_rule (k_d (d_var 5) k_nil)) (a_d (d_fn (ok_seeds T) (hr.mono (by decide)) T.g44 T.d44.kp T.b44 (a_d (d_var 4) a_nil)) (a_d (d_fn (ok_seeds T) (hr.mono (by decide)) T.g44 T.d44.kp T.b44 (a_d (d_tup (a_d (d_tup (a_d d_int a_nil)) (a_d (d_tup (a_d d_int a_nil)) (a_d (d_tup (a_d d_int a_nil)) a_nil)))) a_nil)) a_nil)))))))) (g_nm 0 nd)) (ss_cons (s_asg (d_addB (d_var 1) (d_lst (a_d (d_tup (a_d (d_tup (a_d d_int (a_d d_int a_nil))) (a_d (d_tup (a_d d_int (a_d d_int a_nil))) a_nil))) (a_d (d_tup (a_d (d_tup (a_d d_int (a_d d_int a_nil))) a_nil)) (a_d (d_tup (a_d (d_tup (a_d d_int (a_d d_int a_nil))) (a_d (d_tup (a_d d_int (a_d d_int a_nil))) a_nil))) (a_d (d_tup (a_d (d_tup (a_d d_int (a_d d_int a_nil))) a_nil)) (a_d (d_tup (a_d (d_tup (a_d d_int (a_d d_int a_nil))) (a_d (d_tup (a_d d_int (a_d d_int a_nil))) a_nil))) (a_d (d_tup (a_d (d_tup (a_d d_int (a_d d_int a_nil))) (a_d (d_tup (a_d d_int (a_d d_int a_nil))) a_nil))) a_nil)))))))) (g_nm 1 nd)) (ss_cons (s_asg (d_addB (d_var 0) (d_lst (a_d (d_fn (ok_level_holding T) (hr.mono (by decide)) T.g46 T.d46.kp T.b46 (a_d (d_var 3) (a_d d_int (a_d d_int a_nil)))) (a_d (d_fn (ok_level_holding T) (hr.mono (by decide)) T.g46 T.d46.kp T.b46 (a_d (d_var 3) (a_d d_int (a_d (d_pow d_int d_int) a_nil)))) (a_d (d_fn (ok_level_holding T) (hr.mono (by decide)) T.g46 T.d46.kp T.b46 (a_d (d_var 2) (a_d d_int (a_d (d_pow d_int d_int) a_nil)))) (a_d (d_fn (ok_level_holding T) (hr.mono (by decide)) T.g46 T.d46.kp T.b46 (a_d (d_var 2) (a_d d_int (a_d d_int a_nil)))) (a_d (d_kw (ok_level_holding T) (hr.mono (by decide)) T.g46 T.d46.kp T.k46_place_letter_rule (k_d d_int (k_d d_int (k_d (d_var 3) k_nil)))) (a_d (d_fn (ok_level_holding T) (hr.mono (by decide)) T.g46 T.d46.kp T.b46 (a_d (d_var 6) (a_d d_int (a_d (d_sub (d_pow d_int d_int) d_int) a_nil)))) a_nil)))))))) (g_nm 0 nd)) (ss_one (s_ret (d_fn (ok__law_same T) (hr.mono (by decide)) T.g49 T.d49.kp T.b49 (a_d (d_var 0) (a_d (d_addB (d_var 1) (d_lst (a_d d_int (a_d d_int (a_d d_int (a_d d_int (a_d d_int (a_d d_int a_nil)))))))) a_nil)))))))))))))
theorem sc__law_level_told : FnScope ["_law_rule_now", "_law_a", "_law_rise", "_law_told"] ["_law_rule_now", "_law_a", "_law_rise"] (defScope t__law_level_told) := ⟨rfl, rfl, rfl, by decide +kernel, rfl, by decide +kernel, by decide +kernel⟩
def g__law_level_told : En → M Fl := (sSeq (sOwn 3 (cLst (aD (cHeard told__law_heard tbc__law_heard 3 1 hs__law_heard (cFn (argN 3 F_block_of) (aD (getD 0) (aD (getD 1) (aD (getD 2) aNil))))) aNil))) (sSeq (sApp 3 (cHeard told__law_heard tbc__law_heard 3 1 hs__law_heard (cFn (argN 3 F_length_of) (aD (getD 0) (aD (getD 1) (aD (getD 2) aNil)))))) (sSeq (sApp 3 (cHeard told__law_heard tbc__law_heard 3 1 hs__law_heard (cFn (argN 3 F_lengths_of) (aD (getD 0) (aD (getD 1) (aD (getD 2) aNil)))))) (sSeq (sApp 3 (cHeard told__law_heard tbc__law_heard 3 1 hs__law_heard (cFn (argN 3 F_counts_in) (aD (getD 0) (aD (getD 1) (aD (getD 2) aNil)))))) (sRetO 3)))))
def F__law_level_told : Fn := runB 4 g__law_level_told
theorem ok__law_level_told (T : TX K mg base f cc pp fd cl fi fdi) : FnG P w K mg base 10 (f 56) (fd 56) ["_law_rule_now", "_law_a", "_law_rise"] (spD K 3 F__law_level_told) := fn_bodyC (k := 9) (N := ["_law_rule_now", "_law_a", "_law_rise", "_law_told"]) T.c56 sc__law_level_told rfl fun A outer s H E hr hp => by
  have nd := sc__law_level_told.nd
  have tbL := T.tb56
  have huL := T.tu56
  exact (ss_cons (s_ownLst 3 nd (a_d (d_heard (k := 7) (hear__law_heard T (k := 7) rfl rfl) tbL rfl huL.1 huL.2 (hr.mono (by decide)) (by first | rfl | decide +kernel) (fun A outer s1 H1 E f c' hr => (d_fn (ok_block_of T) (hr.mono (by decide)) T.g17 T.d17.kp T.b17 (a_d (d_var 0) (a_d (d_var 1) (a_d (d_var 2) a_nil)))))) a_nil)) (ss_cons (s_app 3 (d_heard (k := 7) (hear__law_heard T (k := 7) rfl rfl) tbL rfl huL.1 huL.2 (hr.mono (by decide)) (by first | rfl | decide +kernel) (fun A outer s1 H1 E f c' hr => (d_fn (ok_length_of T) (hr.mono (by decide)) T.g18 T.d18.kp T.b18 (a_d (d_var 0) (a_d (d_var 1) (a_d (d_var 2) a_nil))))))) (ss_cons (s_app 3 (d_heard (k := 7) (hear__law_heard T (k := 7) rfl rfl) tbL rfl huL.1 huL.2 (hr.mono (by decide)) (by first | rfl | decide +kernel) (fun A outer s1 H1 E f c' hr => (d_fn (ok_lengths_of T) (hr.mono (by decide)) T.g19 T.d19.kp T.b19 (a_d (d_var 0) (a_d (d_var 1) (a_d (d_var 2) a_nil))))))) (ss_cons (s_app 3 (d_heard (k := 7) (hear__law_heard T (k := 7) rfl rfl) tbL rfl huL.1 huL.2 (hr.mono (by decide)) (by first | rfl | decide +kernel) (fun A outer s1 H1 E f c' hr => (d_fn (ok_counts_in T) (hr.mono (by decide)) T.g20 T.d20.kp T.b20 (a_d (d_var 0) (a_d (d_var 1) (a_d (d_var 2) a_nil))))))) (ss_one (s_retO 3))))))
theorem sc__law_place_told : FnScope ["_law_rule_now", "_law_a", "_law_rise", "_law_spot", "_law_told"] ["_law_rule_now", "_law_a", "_law_rise", "_law_spot"] (defScope t__law_place_told) := ⟨rfl, rfl, rfl, by decide +kernel, rfl, by decide +kernel, by decide +kernel⟩
def g__law_place_told : En → M Fl := (sSeq (sOwn 4 (cLst (aD (cHeard told__law_heard tbc__law_heard 3 1 hs__law_heard (cFn (argN 4 F_letter_at) (aD (getD 0) (aD (getD 1) (aD (getD 2) (aD (getD 3) aNil)))))) aNil))) (sSeq (sApp 4 (cHeard told__law_heard tbc__law_heard 3 1 hs__law_heard (cFn (argN 5 F_word_at) (aD (getD 0) (aD (getD 1) (aD (getD 2) (aD (getD 3) (aD (cD .none) aNil)))))))) (sSeq (sApp 4 (cHeard told__law_heard tbc__law_heard 3 1 hs__law_heard (cFn (argN 4 F_path_to) (aD (getD 0) (aD (getD 1) (aD (getD 2) (aD (getD 3) aNil))))))) (sSeq (sApp 4 (cHeard told__law_heard tbc__law_heard 3 1 hs__law_heard (cFn (argN 5 F_count_before) (aD (getD 0) (aD (getD 1) (aD (getD 2) (aD (getD 3) (aD (cD .none) aNil)))))))) (sRetO 4)))))
def F__law_place_told : Fn := runB 5 g__law_place_told
theorem ok__law_place_told (T : TX K mg base f cc pp fd cl fi fdi) : FnG P w K mg base 10 (f 57) (fd 57) ["_law_rule_now", "_law_a", "_law_rise", "_law_spot"] (spD K 4 F__law_place_told) := fn_bodyC (k := 9) (N := ["_law_rule_now", "_law_a", "_law_rise", "_law_spot", "_law_told"]) T.c57 sc__law_place_told rfl fun A outer s H E hr hp => by
  have nd := sc__law_place_told.nd
  have tbL := T.tb57
  have huL := T.tu57
  exact (ss_cons (s_ownLst 4 nd (a_d (d_heard (k := 7) (hear__law_heard T (k := 7) rfl rfl) tbL rfl huL.1 huL.2 (hr.mono (by decide)) (by first | rfl | decide +kernel) (fun A outer s1 H1 E f c' hr => (d_fn (ok_letter_at T) (hr.mono (by decide)) T.g33 T.d33.kp T.b33 (a_d (d_var 0) (a_d (d_var 1) (a_d (d_var 2) (a_d (d_var 3) a_nil))))))) a_nil)) (ss_cons (s_app 4 (d_heard (k := 7) (hear__law_heard T (k := 7) rfl rfl) tbL rfl huL.1 huL.2 (hr.mono (by decide)) (by first | rfl | decide +kernel) (fun A outer s1 H1 E f c' hr => (d_fn (ok_word_at T) (hr.mono (by decide)) T.g34 T.d34.kp T.b34 (a_d (d_var 0) (a_d (d_var 1) (a_d (d_var 2) (a_d (d_var 3) (a_d d_non a_nil))))))))) (ss_cons (s_app 4 (d_heard (k := 7) (hear__law_heard T (k := 7) rfl rfl) tbL rfl huL.1 huL.2 (hr.mono (by decide)) (by first | rfl | decide +kernel) (fun A outer s1 H1 E f c' hr => (d_fn (ok_path_to T) (hr.mono (by decide)) T.g37 T.d37.kp T.b37 (a_d (d_var 0) (a_d (d_var 1) (a_d (d_var 2) (a_d (d_var 3) a_nil)))))))) (ss_cons (s_app 4 (d_heard (k := 7) (hear__law_heard T (k := 7) rfl rfl) tbL rfl huL.1 huL.2 (hr.mono (by decide)) (by first | rfl | decide +kernel) (fun A outer s1 H1 E f c' hr => (d_fn (ok_count_before T) (hr.mono (by decide)) T.g42 T.d42.kp T.b42 (a_d (d_var 0) (a_d (d_var 1) (a_d (d_var 2) (a_d (d_var 3) (a_d d_non a_nil))))))))) (ss_one (s_retO 4))))))
theorem sc__law_more_told : FnScope ["_law_rule_now", "_law_a", "_law_told"] ["_law_rule_now", "_law_a"] (defScope t__law_more_told) := ⟨rfl, rfl, rfl, by decide +kernel, rfl, by decide +kernel, by decide +kernel⟩
def g__law_more_told : En → M Fl := (sSeq (sOwn 2 (cLst (aD (cHeard told__law_heard tbc__law_heard 3 1 hs__law_heard (cFn (argN 3 F_place_by) (aD (getD 0) (aD (getD 1) (aD (cD .none) aNil))))) aNil))) (sSeq (sApp 2 (cHeard told__law_heard tbc__law_heard 3 1 hs__law_heard (cFn (argN 3 F_level_holding) (aD (getD 0) (aD (getD 1) (aD (cD .none) aNil)))))) (sSeq (sApp 2 (cHeard told__law_heard tbc__law_heard 3 1 hs__law_heard (cFn (argN 5 F_place_of) (aD (getD 0) (aD (getD 1) (aD (cD .none) (aD (cD .none) (aD (cD .none) aNil)))))))) (sRetO 2))))
def F__law_more_told : Fn := runB 3 g__law_more_told
theorem ok__law_more_told (T : TX K mg base f cc pp fd cl fi fdi) : FnG P w K mg base 10 (f 58) (fd 58) ["_law_rule_now", "_law_a"] (spD K 2 F__law_more_told) := fn_bodyC (k := 9) (N := ["_law_rule_now", "_law_a", "_law_told"]) T.c58 sc__law_more_told rfl fun A outer s H E hr hp => by
  have nd := sc__law_more_told.nd
  have tbL := T.tb58
  have huL := T.tu58
  exact (ss_cons (s_ownLst 2 nd (a_d (d_heard (k := 6) (hear__law_heard T (k := 6) rfl rfl) tbL rfl huL.1 huL.2 (hr.mono (by decide)) (by first | rfl | decide +kernel) (fun A outer s1 H1 E f c' hr => (d_fn (ok_place_by T) (hr.mono (by decide)) T.g39 T.d39.kp T.b39 (a_d (d_var 0) (a_d (d_var 1) (a_d d_non a_nil)))))) a_nil)) (ss_cons (s_app 2 (d_heard (k := 7) (hear__law_heard T (k := 7) rfl rfl) tbL rfl huL.1 huL.2 (hr.mono (by decide)) (by first | rfl | decide +kernel) (fun A outer s1 H1 E f c' hr => (d_fn (ok_level_holding T) (hr.mono (by decide)) T.g46 T.d46.kp T.b46 (a_d (d_var 0) (a_d (d_var 1) (a_d d_non a_nil))))))) (ss_cons (s_app 2 (d_heard (k := 7) (hear__law_heard T (k := 7) rfl rfl) tbL rfl huL.1 huL.2 (hr.mono (by decide)) (by first | rfl | decide +kernel) (fun A outer s1 H1 E f c' hr => (d_fn (ok_place_of T) (hr.mono (by decide)) T.g43 T.d43.kp T.b43 (a_d (d_var 0) (a_d (d_var 1) (a_d d_non (a_d d_non (a_d d_non a_nil))))))))) (ss_one (s_retO 2)))))
theorem sc__law_are_refused : FnScope ["_law_told", "_law_sign"] ["_law_told", "_law_sign"] (defScope t__law_are_refused) := ⟨rfl, rfl, rfl, by decide +kernel, rfl, by decide +kernel, by decide +kernel⟩
def g__law_are_refused : En → M Fl := (sRet (cFn (argN 2 F__law_same) (aD (getD 0) (aD (cBin gMulA (cLst (aD (cTup (aD (cD (.str (Str.ofString "use"))) (aD (getD 1) (aD (cUn gNeg (cD (.int 1))) aNil)))) aNil)) (cCall gLen (aD (getD 0) aNil))) aNil))))
def F__law_are_refused : Fn := runB 2 g__law_are_refused
theorem ok__law_are_refused (T : TX K mg base f cc pp fd cl fi fdi) : FnG P w K mg base 2 (f 59) (fd 59) ["_law_told", "_law_sign"] (spD K 2 F__law_are_refused) := fn_bodyG (k := 1) (N := ["_law_told", "_law_sign"]) T.d59 sc__law_are_refused rfl fun cdv A outer s H E hr hp => by
  have nd := sc__law_are_refused.nd
  exact (ss_one (s_ret (d_fn (ok__law_same T) (hr.mono (by decide)) T.g49 T.d49.kp T.b49 (a_d (d_var 0) (a_d (d_mulA (d_lst (a_d (d_tup (a_d d_str (a_d (d_var 1) (a_d (d_neg' d_int) a_nil)))) a_nil)) (d_callB call_len_seq callD_len T.m_len (a_d (d_var 0) a_nil))) a_nil)))))
theorem sc__law_are_first_refused : FnScope ["_law_odd", "_law_thue", "_law_gold", "_law_told"] [] (defScope t__law_are_first_refused) := ⟨rfl, rfl, rfl, by decide +kernel, rfl, by decide +kernel, by decide +kernel⟩
def g__law_are_first_refused : En → M Fl := (sSeq (sAsg (cSl (cFn0 F__law_rules) noP (someP (cD (.int 2)))) (bTup 2 (bsCons (bNm 1) (bsCons (bNm 2) bsNil)))) (sSeq (sFor (fun ρ => (cLst (aD (cD .none) (aD (cD (.int 0)) (aD (cTup aNil) (aD (cTup (aD (cTup aNil) aNil)) (aD (cTup (aD (cTup (aD (cD (.int 0)) (aD (cD (.int 2)) aNil))) (aD (cTup (aD (cD (.int 1)) aNil)) aNil))) (aD (cLst (aD (cTup (aD (cD (.int 0)) (aD (cD (.int 1)) aNil))) (aD (cTup (aD (cD (.int 0)) aNil)) aNil))) (aD (cTup (aD (cTup (aD (cD (.int 0)) (aD (cD (.int 1)) aNil))) (aD (cLst (aD (cD (.int 0)) aNil)) aNil))) (aD (cTup (aD (cTup (aD (cD (.int 0)) (aD (cUn gNeg (cD (.int 1))) aNil))) (aD (cTup (aD (cD (.int 0)) aNil)) aNil))) (aD (cTup (aD (cTup (aD (cD (.int 0)) (aD (cD (.bool true)) aNil))) (aD (cTup (aD (cD (.int 0)) aNil)) aNil))) (aD (cD (.str (Str.ofString "01"))) (aD (cTup (aD (cTup (aD (cD (.int 0)) (aD (cD (.int 1)) aNil))) (aD (cD (.int 0)) aNil))) aNil)))))))))))) ρ >>= asS) (bNm 0) (sSeq (sOwn 3 (cBin gCatL (cBin gAddB (cFn (argN 3 F__law_level_told) (aD (getD 0) (aD (cD .none) (aD (cD .none) aNil)))) (cFn (argN 4 F__law_place_told) (aD (getD 0) (aD (cD .none) (aD (cD .none) (aD (cD .none) aNil)))))) (cFn (argN 2 F__law_more_told) (aD (getD 0) (aD (cD .none) aNil))))) (sSeq (sApp 3 (cHeard told__law_heard tbc__law_heard 3 1 hs__law_heard (cFn (argN 1 F_seeds) (aD (getD 0) aNil)))) (sIf (cNotB (cB (cFnO 2 F__law_are_refused (oO 3 (oD (cD (.str (Str.ofString "rule"))) oNil))))) (sRet (cD (.bool false))) sNil)))) (sSeq (sFor (fun ρ => (cLst (aD (cTup (aD (cTup (aD (cD (.int 1)) aNil)) (aD (cTup (aD (cD (.int 0)) aNil)) aNil))) (aD (cTup (aD (cTup (aD (cD (.int 0)) aNil)) aNil)) (aD (cTup (aD (cTup (aD (cD (.int 0)) (aD (cD (.int 1)) aNil))) (aD (cTup (aD (cD (.int 1)) (aD (cD (.int 1)) aNil))) aNil))) (aD (cTup (aD (cTup (aD (cD (.int 0)) (aD (cD (.int 1)) aNil))) (aD (cTup (aD (cD (.int 1)) aNil)) aNil))) aNil))))) ρ >>= asS) (bNm 0) (sIf (cNotB (cB (cFn (argN 2 F__law_are_refused) (aD (cLst (aD (cHeard told__law_heard tbc__law_heard 3 1 hs__law_heard (cFn (argN 3 F_level_holding) (aD (getD 0) (aD (cD .none) (aD (cD .none) aNil))))) aNil)) (aD (cD (.str (Str.ofString "rule"))) aNil))))) (sRet (cD (.bool false))) sNil)) (sSeq (sFor (fun ρ => (cLst (aD (cD .none) (aD (cD (.int 2)) (aD (cUn gNeg (cD (.int 1))) (aD (cD (.bool true)) (aD (cD (.str (Str.ofString "0"))) (aD (cTup (aD (cD (.int 0)) aNil)) (aD (cLst (aD (cD (.int 0)) aNil)) (aD (cBin gPow (cD (.int 10)) (cD (.int 20))) aNil))))))))) ρ >>= asS) (bNm 0) (sSeq (sOwn 3 (cBin gCatL (cBin gAddB (cFn (argN 3 F__law_level_told) (aD (getD 2) (aD (getD 0) (aD (cD .none) aNil)))) (cFn (argN 4 F__law_place_told) (aD (getD 2) (aD (getD 0) (aD (cD .none) (aD (cD .none) aNil)))))) (cFn (argN 2 F__law_more_told) (aD (getD 2) (aD (getD 0) aNil))))) (sIf (cNotB (cB (cFnO 2 F__law_are_refused (oO 3 (oD (cD (.str (Str.ofString "letter"))) oNil))))) (sRet (cD (.bool false))) sNil))) (sSeq (sFor (fun ρ => (cLst (aD (cD .none) (aD (cUn gNeg (cD (.int 1))) (aD (cD (.bool true)) (aD (cD (.bool false)) (aD (cD (.str (Str.ofString "1"))) (aD (cTup (aD (cD (.int 1)) aNil)) (aD (cLst (aD (cD (.int 1)) aNil)) aNil)))))))) ρ >>= asS) (bNm 0) (sSeq (sOwn 3 (cBin gCatL (cFn (argN 3 F__law_level_told) (aD (getD 2) (aD (cD (.int 0)) (aD (getD 0) aNil)))) (cFn (argN 4 F__law_place_told) (aD (getD 2) (aD (cD (.int 0)) (aD (getD 0) (aD (cD .none) aNil))))))) (sSeq (sApp 3 (cHeard told__law_heard tbc__law_heard 3 1 hs__law_heard (cFn (argN 5 F_place_of) (aD (getD 2) (aD (cD (.int 0)) (aD (getD 0) (aD (cD .none) (aD (cD .none) aNil)))))))) (sIf (cNotB (cB (cFnO 2 F__law_are_refused (oO 3 (oD (cD (.str (Str.ofString "level"))) oNil))))) (sRet (cD (.bool false))) sNil)))) (sRet (cD (.bool true))))))))
def F__law_are_first_refused : Fn := runB 4 g__law_are_first_refused
theorem ok__law_are_first_refused (T : TX K mg base f cc pp fd cl fi fdi) : FnG P w K mg base 11 (f 60) (fd 60) [] (spD K 0 F__law_are_first_refused) := fn_bodyC (k := 10) (N := ["_law_odd", "_law_thue", "_law_gold", "_law_told"]) T.c60 sc__law_are_first_refused rfl fun A outer s H E hr hp => by
  have nd := sc__law_are_first_refused.nd
  have tbL := T.tb60
  have huL := T.tu60
  exact (ss_cons (s_asg (d_sl (d_fn0 (ok__law_rules T) (hr.mono (by decide)) T.g52 T.d52.kp T.b52) pod_none (pod_some d_int)) (g_tup rfl (gs_cons (g_nm 1 nd) (gs_cons (g_nm 2 nd) gs_nil)))) (ss_cons (s_for hp rfl (i_seq (d_lst (a_d d_non (a_d d_int (a_d (d_tup a_nil) (a_d (d_tup (a_d (d_tup a_nil) a_nil)) (a_d (d_tup (a_d (d_tup (a_d d_int (a_d d_int a_nil))) (a_d (d_tup (a_d d_int a_nil)) a_nil))) (a_d (d_lst (a_d (d_tup (a_d d_int (a_d d_int a_nil))) (a_d (d_tup (a_d d_int a_nil)) a_nil))) (a_d (d_tup (a_d (d_tup (a_d d_int (a_d d_int a_nil))) (a_d (d_lst (a_d d_int a_nil)) a_nil))) (a_d (d_tup (a_d (d_tup (a_d d_int (a_d (d_neg' d_int) a_nil))) (a_d (d_tup (a_d d_int a_nil)) a_nil))) (a_d (d_tup (a_d (d_tup (a_d d_int (a_d d_bl a_nil))) (a_d (d_tup (a_d d_int a_nil)) a_nil))) (a_d d_str (a_d (d_tup (a_d (d_tup (a_d d_int (a_d d_int a_nil))) (a_d d_int a_nil))) a_nil))))))))))))) (g_nm 0 nd) (ss_cons (s_ownCat 3 nd (d_addB (d_fn (ok__law_level_told T) (hr.mono (by decide)) T.g56 T.d56.kp T.b56 (a_d (d_var 0) (a_d d_non (a_d d_non a_nil)))) (d_fn (ok__law_place_told T) (hr.mono (by decide)) T.g57 T.d57.kp T.b57 (a_d (d_var 0) (a_d d_non (a_d d_non (a_d d_non a_nil)))))) (d_fn (ok__law_more_told T) (hr.mono (by decide)) T.g58 T.d58.kp T.b58 (a_d (d_var 0) (a_d d_non a_nil)))) (ss_cons (s_app 3 (d_heard (k := 6) (hear__law_heard T (k := 6) rfl rfl) tbL rfl huL.1 huL.2 (hr.mono (by decide)) (by first | rfl | decide +kernel) (fun A outer s1 H1 E f c' hr => (d_fn (ok_seeds T) (hr.mono (by decide)) T.g44 T.d44.kp T.b44 (a_d (d_var 0) a_nil))))) (ss_one (s_if (b_not (b_val (d_fnO (ok__law_are_refused T) (hr.mono (by decide)) T.g59 T.d59.kp T.b59 (o_o 3 (o_d d_str o_nil))))) (ss_one (s_ret d_bl)) ss_nil))))) (ss_cons (s_for hp rfl (i_seq (d_lst (a_d (d_tup (a_d (d_tup (a_d d_int a_nil)) (a_d (d_tup (a_d d_int a_nil)) a_nil))) (a_d (d_tup (a_d (d_tup (a_d d_int a_nil)) a_nil)) (a_d (d_tup (a_d (d_tup (a_d d_int (a_d d_int a_nil))) (a_d (d_tup (a_d d_int (a_d d_int a_nil))) a_nil))) (a_d (d_tup (a_d (d_tup (a_d d_int (a_d d_int a_nil))) (a_d (d_tup (a_d d_int a_nil)) a_nil))) a_nil)))))) (g_nm 0 nd) (ss_one (s_if (b_not (b_val (d_fn (ok__law_are_refused T) (hr.mono (by decide)) T.g59 T.d59.kp T.b59 (a_d (d_lst (a_d (d_heard (k := 7) (hear__law_heard T (k := 7) rfl rfl) tbL rfl huL.1 huL.2 (hr.mono (by decide)) (by first | rfl | decide +kernel) (fun A outer s1 H1 E f c' hr => (d_fn (ok_level_holding T) (hr.mono (by decide)) T.g46 T.d46.kp T.b46 (a_d (d_var 0) (a_d d_non (a_d d_non a_nil)))))) a_nil)) (a_d d_str a_nil))))) (ss_one (s_ret d_bl)) ss_nil))) (ss_cons (s_for hp rfl (i_seq (d_lst (a_d d_non (a_d d_int (a_d (d_neg' d_int) (a_d d_bl (a_d d_str (a_d (d_tup (a_d d_int a_nil)) (a_d (d_lst (a_d d_int a_nil)) (a_d (d_pow d_int d_int) a_nil)))))))))) (g_nm 0 nd) (ss_cons (s_ownCat 3 nd (d_addB (d_fn (ok__law_level_told T) (hr.mono (by decide)) T.g56 T.d56.kp T.b56 (a_d (d_var 2) (a_d (d_var 0) (a_d d_non a_nil)))) (d_fn (ok__law_place_told T) (hr.mono (by decide)) T.g57 T.d57.kp T.b57 (a_d (d_var 2) (a_d (d_var 0) (a_d d_non (a_d d_non a_nil)))))) (d_fn (ok__law_more_told T) (hr.mono (by decide)) T.g58 T.d58.kp T.b58 (a_d (d_var 2) (a_d (d_var 0) a_nil)))) (ss_one (s_if (b_not (b_val (d_fnO (ok__law_are_refused T) (hr.mono (by decide)) T.g59 T.d59.kp T.b59 (o_o 3 (o_d d_str o_nil))))) (ss_one (s_ret d_bl)) ss_nil)))) (ss_cons (s_for hp rfl (i_seq (d_lst (a_d d_non (a_d (d_neg' d_int) (a_d d_bl (a_d d_bl (a_d d_str (a_d (d_tup (a_d d_int a_nil)) (a_d (d_lst (a_d d_int a_nil)) a_nil))))))))) (g_nm 0 nd) (ss_cons (s_ownCat 3 nd (d_fn (ok__law_level_told T) (hr.mono (by decide)) T.g56 T.d56.kp T.b56 (a_d (d_var 2) (a_d d_int (a_d (d_var 0) a_nil)))) (d_fn (ok__law_place_told T) (hr.mono (by decide)) T.g57 T.d57.kp T.b57 (a_d (d_var 2) (a_d d_int (a_d (d_var 0) (a_d d_non a_nil)))))) (ss_cons (s_app 3 (d_heard (k := 7) (hear__law_heard T (k := 7) rfl rfl) tbL rfl huL.1 huL.2 (hr.mono (by decide)) (by first | rfl | decide +kernel) (fun A outer s1 H1 E f c' hr => (d_fn (ok_place_of T) (hr.mono (by decide)) T.g43 T.d43.kp T.b43 (a_d (d_var 2) (a_d d_int (a_d (d_var 0) (a_d d_non (a_d d_non a_nil))))))))) (ss_one (s_if (b_not (b_val (d_fnO (ok__law_are_refused T) (hr.mono (by decide)) T.g59 T.d59.kp T.b59 (o_o 3 (o_d d_str o_nil))))) (ss_one (s_ret d_bl)) ss_nil))))) (ss_one (s_ret d_bl)))))))
theorem sc__law_are_places_refused : FnScope ["_law_gold", "_law_odd", "_law_told"] [] (defScope t__law_are_places_refused) := ⟨rfl, rfl, rfl, by decide +kernel, rfl, by decide +kernel, by decide +kernel⟩
def g__law_are_places_refused : En → M Fl := (sSeq (sAsg (cBin gIx (cFn0 F__law_rules) (cD (.int 1))) (bNm 0)) (sSeq (sFor (fun ρ => (cLst (aD (cD .none) (aD (cUn gNeg (cD (.int 1))) (aD (cD (.int 9)) (aD (cD (.bool true)) (aD (cD (.str (Str.ofString "1"))) (aD (cTup (aD (cD (.int 1)) aNil)) (aD (cBin gPow (cD (.int 10)) (cD (.int 59))) aNil)))))))) ρ >>= asS) (bNm 1) (sIf (cNotB (cB (cFn (argN 2 F__law_are_refused) (aD (cFn (argN 4 F__law_place_told) (aD (getD 0) (aD (cD (.int 0)) (aD (cD (.int 4)) (aD (getD 1) aNil))))) (aD (cD (.str (Str.ofString "place"))) aNil))))) (sRet (cD (.bool false))) sNil)) (sSeq (sOwn 2 (cLst (aD (cHeard told__law_heard tbc__law_heard 3 1 hs__law_heard (cFn (argN 4 F_letter_at) (aD (getD 0) (aD (cD (.int 0)) (aD (cD (.int 4)) (aD (cD (.int 8)) aNil)))))) aNil))) (sSeq (sApp 2 (cHeard told__law_heard tbc__law_heard 3 1 hs__law_heard (cFn (argN 4 F_path_to) (aD (getD 0) (aD (cD (.int 0)) (aD (cD (.int 4)) (aD (cD (.int 8)) aNil))))))) (sSeq (sApp 2 (cHeard told__law_heard tbc__law_heard 3 1 hs__law_heard (cFn (argN 4 F_letter_at) (aD (getD 0) (aD (cD (.int 1)) (aD (cD (.int 0)) (aD (cD (.int 1)) aNil))))))) (sSeq (sApp 2 (cHeard told__law_heard tbc__law_heard 3 1 hs__law_heard (cFn (argN 3 F_level_holding) (aD (getD 0) (aD (cD (.int 0)) (aD (cUn gNeg (cD (.int 1))) aNil)))))) (sSeq (sApp 2 (cHeard told__law_heard tbc__law_heard 3 1 hs__law_heard (cFn (argN 3 F_level_holding) (aD (getD 0) (aD (cD (.int 0)) (aD (cD (.bool true)) aNil)))))) (sSeq (sApp 2 (cHeard told__law_heard tbc__law_heard 3 1 hs__law_heard (cFn (argN 3 F_level_holding) (aD (getD 0) (aD (cD (.int 1)) (aD (cD .none) aNil)))))) (sRet (cFnO 2 F__law_are_refused (oO 2 (oD (cD (.str (Str.ofString "place"))) oNil))))))))))))
def F__law_are_places_refused : Fn := runB 3 g__law_are_places_refused
theorem ok__law_are_places_refused (T : TX K mg base f cc pp fd cl fi fdi) : FnG P w K mg base 11 (f 61) (fd 61) [] (spD K 0 F__law_are_places_refused) := fn_bodyC (k := 10) (N := ["_law_gold", "_law_odd", "_law_told"]) T.c61 sc__law_are_places_refused rfl fun A outer s H E hr hp => by
  have nd := sc__law_are_places_refused.nd
  have tbL := T.tb61
  have huL := T.tu61
  exact (ss_cons (s_asg (d_at (d_fn0 (ok__law_rules T) (hr.mono (by decide)) T.g52 T.d52.kp T.b52) d_int) (g_nm 0 nd)) (ss_cons (s_for hp rfl (i_seq (d_lst (a_d d_non (a_d (d_neg' d_int) (a_d d_int (a_d d_bl (a_d d_str (a_d (d_tup (a_d d_int a_nil)) (a_d (d_pow d_int d_int) a_nil))))))))) (g_nm 1 nd) (ss_one (s_if (b_not (b_val (d_fn (ok__law_are_refused T) (hr.mono (by decide)) T.g59 T.d59.kp T.b59 (a_d (d_fn (ok__law_place_told T) (hr.mono (by decide)) T.g57 T.d57.kp T.b57 (a_d (d_var 0) (a_d d_int (a_d d_int (a_d (d_var 1) a_nil))))) (a_d d_str a_nil))))) (ss_one (s_ret d_bl)) ss_nil))) (ss_cons (s_ownLst 2 nd (a_d (d_heard (k := 7) (hear__law_heard T (k := 7) rfl rfl) tbL rfl huL.1 huL.2 (hr.mono (by decide)) (by first | rfl | decide +kernel) (fun A outer s1 H1 E f c' hr => (d_fn (ok_letter_at T) (hr.mono (by decide)) T.g33 T.d33.kp T.b33 (a_d (d_var 0) (a_d d_int (a_d d_int (a_d d_int a_nil))))))) a_nil)) (ss_cons (s_app 2 (d_heard (k := 7) (hear__law_heard T (k := 7) rfl rfl) tbL rfl huL.1 huL.2 (hr.mono (by decide)) (by first | rfl | decide +kernel) (fun A outer s1 H1 E f c' hr => (d_fn (ok_path_to T) (hr.mono (by decide)) T.g37 T.d37.kp T.b37 (a_d (d_var 0) (a_d d_int (a_d d_int (a_d d_int a_nil)))))))) (ss_cons (s_app 2 (d_heard (k := 7) (hear__law_heard T (k := 7) rfl rfl) tbL rfl huL.1 huL.2 (hr.mono (by decide)) (by first | rfl | decide +kernel) (fun A outer s1 H1 E f c' hr => (d_fn (ok_letter_at T) (hr.mono (by decide)) T.g33 T.d33.kp T.b33 (a_d (d_var 0) (a_d d_int (a_d d_int (a_d d_int a_nil)))))))) (ss_cons (s_app 2 (d_heard (k := 7) (hear__law_heard T (k := 7) rfl rfl) tbL rfl huL.1 huL.2 (hr.mono (by decide)) (by first | rfl | decide +kernel) (fun A outer s1 H1 E f c' hr => (d_fn (ok_level_holding T) (hr.mono (by decide)) T.g46 T.d46.kp T.b46 (a_d (d_var 0) (a_d d_int (a_d (d_neg' d_int) a_nil))))))) (ss_cons (s_app 2 (d_heard (k := 7) (hear__law_heard T (k := 7) rfl rfl) tbL rfl huL.1 huL.2 (hr.mono (by decide)) (by first | rfl | decide +kernel) (fun A outer s1 H1 E f c' hr => (d_fn (ok_level_holding T) (hr.mono (by decide)) T.g46 T.d46.kp T.b46 (a_d (d_var 0) (a_d d_int (a_d d_bl a_nil))))))) (ss_cons (s_app 2 (d_heard (k := 7) (hear__law_heard T (k := 7) rfl rfl) tbL rfl huL.1 huL.2 (hr.mono (by decide)) (by first | rfl | decide +kernel) (fun A outer s1 H1 E f c' hr => (d_fn (ok_level_holding T) (hr.mono (by decide)) T.g46 T.d46.kp T.b46 (a_d (d_var 0) (a_d d_int (a_d d_non a_nil))))))) (ss_one (s_ret (d_fnO (ok__law_are_refused T) (hr.mono (by decide)) T.g59 T.d59.kp T.b59 (o_o 2 (o_d d_str o_nil)))))))))))))
theorem sc__law_are_later_refused : FnScope ["_law_odd", "_law_thue", "_law_gold", "_law_told"] [] (defScope t__law_are_later_refused) := ⟨rfl, rfl, rfl, by decide +kernel, rfl, by decide +kernel, by decide +kernel⟩
def g__law_are_later_refused : En → M Fl := (sSeq (sAsg (cSl (cFn0 F__law_rules) noP (someP (cD (.int 2)))) (bTup 2 (bsCons (bNm 1) (bsCons (bNm 2) bsNil)))) (sSeq (sFor (fun ρ => (cLst (aD (cD .none) (aD (cUn gNeg (cD (.int 1))) (aD (cD (.int 2)) (aD (cD (.bool true)) (aD (cD (.str (Str.ofString "1"))) (aD (cTup (aD (cD (.int 1)) aNil)) (aD (cBin gPow (cD (.int 10)) (cD (.int 59))) aNil)))))))) ρ >>= asS) (bNm 0) (sSeq (sOwn 3 (cLst (aD (cHeard told__law_heard tbc__law_heard 3 1 hs__law_heard (cFn (argN 5 F_word_at) (aD (getD 2) (aD (cD (.int 0)) (aD (cD (.int 4)) (aD (cD (.int 7)) (aD (getD 0) aNil))))))) aNil))) (sSeq (sApp 3 (cHeard told__law_heard tbc__law_heard 3 1 hs__law_heard (cFn (argN 5 F_word_at) (aD (getD 1) (aD (cD (.int 0)) (aD (cD (.int 1)) (aD (cD (.int 1)) (aD (getD 0) aNil)))))))) (sSeq (sIf (cNotB (cB (cFnO 2 F__law_are_refused (oO 3 (oD (cD (.str (Str.ofString "length"))) oNil))))) (sRet (cD (.bool false))) sNil) (sSeq (sOwn 3 (cLst (aD (cHeard told__law_heard tbc__law_heard 3 1 hs__law_heard (cFn (argN 5 F_count_before) (aD (getD 2) (aD (cD (.int 0)) (aD (cD (.int 4)) (aD (cD (.int 8)) (aD (getD 0) aNil))))))) aNil))) (sSeq (sApp 3 (cHeard told__law_heard tbc__law_heard 3 1 hs__law_heard (cFn (argN 5 F_place_of) (aD (getD 2) (aD (cD (.int 0)) (aD (cD (.int 4)) (aD (getD 0) (aD (cD .none) aNil)))))))) (sIf (cNotB (cB (cFnO 2 F__law_are_refused (oO 3 (oD (cD (.str (Str.ofString "other"))) oNil))))) (sRet (cD (.bool false))) sNil))))))) (sSeq (sIf (cNotB (cB (cFn (argN 2 F__law_are_refused) (aD (cLst (aD (cHeard told__law_heard tbc__law_heard 3 1 hs__law_heard (cFn (argN 5 F_word_at) (aD (getD 2) (aD (cD (.int 0)) (aD (cD (.int 4)) (aD (cD (.int 8)) (aD (cD (.int 1)) aNil))))))) aNil)) (aD (cD (.str (Str.ofString "length"))) aNil))))) (sRet (cD (.bool false))) sNil) (sSeq (sFor (fun ρ => (cLst (aD (cD .none) (aD (cUn gNeg (cD (.int 1))) (aD (cD (.bool true)) (aD (cD (.str (Str.ofString "1"))) (aD (cTup (aD (cD (.int 1)) aNil)) aNil)))))) ρ >>= asS) (bNm 0) (sIf (cNotB (cB (cFn (argN 2 F__law_are_refused) (aD (cLst (aD (cHeard told__law_heard tbc__law_heard 3 1 hs__law_heard (cFn (argN 5 F_place_of) (aD (getD 2) (aD (cD (.int 0)) (aD (cD (.int 4)) (aD (cD (.int 1)) (aD (getD 0) aNil))))))) aNil)) (aD (cD (.str (Str.ofString "index"))) aNil))))) (sRet (cD (.bool false))) sNil)) (sSeq (sFor (fun ρ => (cLst (aD (cD .none) (aD (cD (.int 0)) (aD (cLst (aD (cD (.int 0)) aNil)) (aD (cTup (aD (cD (.int 2)) aNil)) (aD (cTup (aD (cD (.int 1)) (aD (cD (.int 1)) aNil))) (aD (cTup (aD (cD (.int 0)) (aD (cD (.bool true)) aNil))) (aD (cTup (aD (cD (.int 0)) (aD (cUn gNeg (cD (.int 1))) aNil))) (aD (cTup (aD (cD (.str (Str.ofString "0"))) aNil)) (aD (cTup (aD (cD .none) aNil)) (aD (cTup (aD (cD (.int 1)) (aD (cD (.int 0)) (aD (cD (.int 2)) aNil)))) (aD (cTup (aD (cLst (aD (cD (.int 0)) aNil)) aNil)) aNil)))))))))))) ρ >>= asS) (bNm 0) (sIf (cNotB (cB (cFn (argN 2 F__law_are_refused) (aD (cLst (aD (cHeard told__law_heard tbc__law_heard 3 1 hs__law_heard (cFn (argN 3 F_place_by) (aD (getD 2) (aD (cD (.int 0)) (aD (getD 0) aNil))))) aNil)) (aD (cD (.str (Str.ofString "path"))) aNil))))) (sRet (cD (.bool false))) sNil)) (sRet (cD (.bool true))))))))
def F__law_are_later_refused : Fn := runB 4 g__law_are_later_refused
theorem ok__law_are_later_refused (T : TX K mg base f cc pp fd cl fi fdi) : FnG P w K mg base 10 (f 62) (fd 62) [] (spD K 0 F__law_are_later_refused) := fn_bodyC (k := 9) (N := ["_law_odd", "_law_thue", "_law_gold", "_law_told"]) T.c62 sc__law_are_later_refused rfl fun A outer s H E hr hp => by
  have nd := sc__law_are_later_refused.nd
  have tbL := T.tb62
  have huL := T.tu62
  exact (ss_cons (s_asg (d_sl (d_fn0 (ok__law_rules T) (hr.mono (by decide)) T.g52 T.d52.kp T.b52) pod_none (pod_some d_int)) (g_tup rfl (gs_cons (g_nm 1 nd) (gs_cons (g_nm 2 nd) gs_nil)))) (ss_cons (s_for hp rfl (i_seq (d_lst (a_d d_non (a_d (d_neg' d_int) (a_d d_int (a_d d_bl (a_d d_str (a_d (d_tup (a_d d_int a_nil)) (a_d (d_pow d_int d_int) a_nil))))))))) (g_nm 0 nd) (ss_cons (s_ownLst 3 nd (a_d (d_heard (k := 7) (hear__law_heard T (k := 7) rfl rfl) tbL rfl huL.1 huL.2 (hr.mono (by decide)) (by first | rfl | decide +kernel) (fun A outer s1 H1 E f c' hr => (d_fn (ok_word_at T) (hr.mono (by decide)) T.g34 T.d34.kp T.b34 (a_d (d_var 2) (a_d d_int (a_d d_int (a_d d_int (a_d (d_var 0) a_nil)))))))) a_nil)) (ss_cons (s_app 3 (d_heard (k := 7) (hear__law_heard T (k := 7) rfl rfl) tbL rfl huL.1 huL.2 (hr.mono (by decide)) (by first | rfl | decide +kernel) (fun A outer s1 H1 E f c' hr => (d_fn (ok_word_at T) (hr.mono (by decide)) T.g34 T.d34.kp T.b34 (a_d (d_var 1) (a_d d_int (a_d d_int (a_d d_int (a_d (d_var 0) a_nil))))))))) (ss_cons (s_if (b_not (b_val (d_fnO (ok__law_are_refused T) (hr.mono (by decide)) T.g59 T.d59.kp T.b59 (o_o 3 (o_d d_str o_nil))))) (ss_one (s_ret d_bl)) ss_nil) (ss_cons (s_ownLst 3 nd (a_d (d_heard (k := 7) (hear__law_heard T (k := 7) rfl rfl) tbL rfl huL.1 huL.2 (hr.mono (by decide)) (by first | rfl | decide +kernel) (fun A outer s1 H1 E f c' hr => (d_fn (ok_count_before T) (hr.mono (by decide)) T.g42 T.d42.kp T.b42 (a_d (d_var 2) (a_d d_int (a_d d_int (a_d d_int (a_d (d_var 0) a_nil)))))))) a_nil)) (ss_cons (s_app 3 (d_heard (k := 7) (hear__law_heard T (k := 7) rfl rfl) tbL rfl huL.1 huL.2 (hr.mono (by decide)) (by first | rfl | decide +kernel) (fun A outer s1 H1 E f c' hr => (d_fn (ok_place_of T) (hr.mono (by decide)) T.g43 T.d43.kp T.b43 (a_d (d_var 2) (a_d d_int (a_d d_int (a_d (d_var 0) (a_d d_non a_nil))))))))) (ss_one (s_if (b_not (b_val (d_fnO (ok__law_are_refused T) (hr.mono (by decide)) T.g59 T.d59.kp T.b59 (o_o 3 (o_d d_str o_nil))))) (ss_one (s_ret d_bl)) ss_nil)))))))) (ss_cons (s_if (b_not (b_val (d_fn (ok__law_are_refused T) (hr.mono (by decide)) T.g59 T.d59.kp T.b59 (a_d (d_lst (a_d (d_heard (k := 7) (hear__law_heard T (k := 7) rfl rfl) tbL rfl huL.1 huL.2 (hr.mono (by decide)) (by first | rfl | decide +kernel) (fun A outer s1 H1 E f c' hr => (d_fn (ok_word_at T) (hr.mono (by decide)) T.g34 T.d34.kp T.b34 (a_d (d_var 2) (a_d d_int (a_d d_int (a_d d_int (a_d d_int a_nil)))))))) a_nil)) (a_d d_str a_nil))))) (ss_one (s_ret d_bl)) ss_nil) (ss_cons (s_for hp rfl (i_seq (d_lst (a_d d_non (a_d (d_neg' d_int) (a_d d_bl (a_d d_str (a_d (d_tup (a_d d_int a_nil)) a_nil))))))) (g_nm 0 nd) (ss_one (s_if (b_not (b_val (d_fn (ok__law_are_refused T) (hr.mono (by decide)) T.g59 T.d59.kp T.b59 (a_d (d_lst (a_d (d_heard (k := 7) (hear__law_heard T (k := 7) rfl rfl) tbL rfl huL.1 huL.2 (hr.mono (by decide)) (by first | rfl | decide +kernel) (fun A outer s1 H1 E f c' hr => (d_fn (ok_place_of T) (hr.mono (by decide)) T.g43 T.d43.kp T.b43 (a_d (d_var 2) (a_d d_int (a_d d_int (a_d d_int (a_d (d_var 0) a_nil)))))))) a_nil)) (a_d d_str a_nil))))) (ss_one (s_ret d_bl)) ss_nil))) (ss_cons (s_for hp rfl (i_seq (d_lst (a_d d_non (a_d d_int (a_d (d_lst (a_d d_int a_nil)) (a_d (d_tup (a_d d_int a_nil)) (a_d (d_tup (a_d d_int (a_d d_int a_nil))) (a_d (d_tup (a_d d_int (a_d d_bl a_nil))) (a_d (d_tup (a_d d_int (a_d (d_neg' d_int) a_nil))) (a_d (d_tup (a_d d_str a_nil)) (a_d (d_tup (a_d d_non a_nil)) (a_d (d_tup (a_d d_int (a_d d_int (a_d d_int a_nil)))) (a_d (d_tup (a_d (d_lst (a_d d_int a_nil)) a_nil)) a_nil))))))))))))) (g_nm 0 nd) (ss_one (s_if (b_not (b_val (d_fn (ok__law_are_refused T) (hr.mono (by decide)) T.g59 T.d59.kp T.b59 (a_d (d_lst (a_d (d_heard (k := 6) (hear__law_heard T (k := 6) rfl rfl) tbL rfl huL.1 huL.2 (hr.mono (by decide)) (by first | rfl | decide +kernel) (fun A outer s1 H1 E f c' hr => (d_fn (ok_place_by T) (hr.mono (by decide)) T.g39 T.d39.kp T.b39 (a_d (d_var 2) (a_d d_int (a_d (d_var 0) a_nil)))))) a_nil)) (a_d d_str a_nil))))) (ss_one (s_ret d_bl)) ss_nil))) (ss_one (s_ret d_bl)))))))

end
end K15
end

section
set_option Elab.async false
set_option linter.all false
set_option maxRecDepth 100000
set_option maxHeartbeats 4000000
namespace K15
open PySem PySem.Spec PyProof.Rows L2 G
variable [LamT]
section
variable {P : Program} {w : World} {K : PySem.W.Frag} {mg : Str → Option Value} {base : Heap} {f cc pp : Nat → Addr} {fd : Nat → FuncData} {cl fi : Nat → Addr} {fdi : Nat → FuncData}
theorem sc__law_feed : FnScope ["_law_script"] ["_law_script"] (defScope t__law_feed) := ⟨rfl, rfl, rfl, by decide +kernel, rfl, by decide +kernel, by decide +kernel⟩
theorem ok__law_feed (T : TX K mg base f cc pp fd cl fi fdi) : FnG P w K mg base 2 (f 48) (fd 48) ["_law_script"] (spFeed K .d) := by
  obtain ⟨oc, od, kV, doc, pm, an, cdv, ct, osl, e, lk, hcd⟩ := T.d48.ex
  rw [e] at lk ⊢
  refine fn_ofG (k := 1) lk hcd sc__law_feed (fun vs H Q E h => h.1) fun A outer s H vs Q E hr h => ⟨_, pss_one (ps_ret (pe_disp (pps_cons pe_str (pe_callTy call_list_of rfl T.m_list (by decide +kernel) (pa_cons (pe_slice sl_list (pv 0) po_none (po_some pe_int)) pa_nil))
      (pps_cons pe_str pe_int (pps_cons pe_str pe_int (pps_cons pe_str pe_int pps_nil)))) rfl rfl (by simp) (by decide))), ?_⟩
  obtain ⟨hl, a, ns, rfl, hS, k⟩ := h
  intro p hp
  have hS1 : SqL K (upd H p (.dK [])) a (ns.map V.int) := (same_new hp).seq hS
  refine ⟨_, rfl, 63, rfl, a, _, rfl, hS1, fun l hl => ?_⟩
  have ecut : cutV (ns.map V.int) none (some 63) = (ns.take 63).map V.int := take_vals (k := 63)
  rw [ecut]
  have np : l ≠ p := fun z => by rw [z, upd_same] at hl; cases hl
  refine ⟨l, _, rfl, .inl (SqL.of upd_same), fun D hD => ?_⟩
  have nl : D ≠ l := fun z => by rw [z, upd_same] at hD; cases hD
  have nD : D ≠ p := fun z => by rw [z, upd_ne (Ne.symm np), upd_same] at hD; cases hD
  have hlH : H l = none := by rw [upd_ne np] at hl; exact hl
  have hDH : H D = none := by rw [upd_ne nl, upd_ne nD] at hD; exact hD
  refine ⟨by rw [upd_ne (Ne.symm nD), upd_ne (Ne.symm np), upd_same], [(.inr "cells", .ref D), (.inr "next", .int 0), (.inr "left", .int 0), (.inr "turn", .int 0)], rfl, (by show 4 ≤ 15; decide), ?_⟩
  refine k ⟨p, D, fun _ _ => True⟩ ⟨.d, ns.take 63, 0, 0, 0⟩ _ rfl (fun b ob hb => ?_) (Ne.symm nD) hp hDH ?_ (by rw [upd_ne nD, upd_same])
  · rw [upd_ne (ne_of_none hb hp), upd_ne (ne_of_none hb hDH), upd_ne (ne_of_none hb hlH), upd_ne (ne_of_none hb hp)]; exact hb
  · rw [upd_same]
    first | rfl | decide +kernel
theorem sc_law : FnScope ["_law_script", "_law_feed_here"] ["_law_script"] (defScope t_law) := ⟨rfl, rfl, rfl, by decide +kernel, rfl, by decide +kernel, by decide +kernel⟩
def g_law : En → M Fl := (sSeq (sIf (cB (cBin gEqD (cFn (argN 2 F__law_draw) (aF 1 (aD (cD (.int 2)) aNil))) (cD (.int 0)))) (sSeq (sIf (cOrB (cNotB (cB (cFn0 F__law_are_blocks_told))) (cOrB (cNotB (cB (cFn0 F__law_are_places_told))) (cNotB (cB (cFn0 F__law_are_counts_told))))) (sRet (cD (.bool false))) sNil) (sRet (cAnd (cFn0 F__law_are_first_refused) (cAnd (cFn0 F__law_are_places_refused) (cFn0 F__law_are_later_refused))))) sNil) (sSeq (sIf (cOrB (cNotB (cB (cFn0 F__law_are_later_refused))) (cOrB (cNotB (cB (cFn0 F__law_are_places_refused))) (cNotB (cB (cFn0 F__law_are_first_refused))))) (sRet (cD (.bool false))) sNil) (sRet (cAnd (cFn0 F__law_are_counts_told) (cAnd (cFn0 F__law_are_places_told) (cFn0 F__law_are_blocks_told))))))
abbrev MATH : Prop := ∀ S : Fd, S.ks = .d → ∃ S', g_law (rho0 0) S = .ok (.rt (.bool true)) S'
theorem ok_law (T : TX K mg base f cc pp fd cl fi fdi) (math : MATH) : FnG P w K mg base 12 (f 63) (fd 63) ["_law_script"] (spLaw K) := fn_law (k := 11) (n := 0) (N := ["_law_script", "_law_feed_here"]) T.d63 sc_law rfl rfl rfl rfl (.inl rfl) (.inl rfl) (ok__law_feed T) T.g48 T.d48.kp T.b48 (by decide) (fun cdv A outer s H E hr hp => by
  have nd := sc_law.nd
  exact (ss_cons (s_if (c_eqD hr (d_fn (ok__law_draw T) (hr.mono (by decide)) T.g50 T.d50.kp T.b50 (a_f 1 (a_d d_int a_nil))) d_int) (ss_cons (s_if (b_w (w_or (b_not (b_val (d_fn0 (ok__law_are_blocks_told T) (hr.mono (by decide)) T.g53 T.d53.kp T.b53))) (w_or (b_not (b_val (d_fn0 (ok__law_are_places_told T) (hr.mono (by decide)) T.g54 T.d54.kp T.b54))) (w_or1 (b_not (b_val (d_fn0 (ok__law_are_counts_told T) (hr.mono (by decide)) T.g55 T.d55.kp T.b55))))))) (ss_one (s_ret d_bl)) ss_nil) (ss_one (s_ret (d_and (d_fn0 (ok__law_are_first_refused T) (hr.mono (by decide)) T.g60 T.d60.kp T.b60) (d_and (d_fn0 (ok__law_are_places_refused T) (hr.mono (by decide)) T.g61 T.d61.kp T.b61) (d_one (d_fn0 (ok__law_are_later_refused T) (hr.mono (by decide)) T.g62 T.d62.kp T.b62))))))) ss_nil) (ss_cons (s_if (b_w (w_or (b_not (b_val (d_fn0 (ok__law_are_later_refused T) (hr.mono (by decide)) T.g62 T.d62.kp T.b62))) (w_or (b_not (b_val (d_fn0 (ok__law_are_places_refused T) (hr.mono (by decide)) T.g61 T.d61.kp T.b61))) (w_or1 (b_not (b_val (d_fn0 (ok__law_are_first_refused T) (hr.mono (by decide)) T.g60 T.d60.kp T.b60))))))) (ss_one (s_ret d_bl)) ss_nil) (ss_one (s_ret (d_and (d_fn0 (ok__law_are_counts_told T) (hr.mono (by decide)) T.g55 T.d55.kp T.b55) (d_and (d_fn0 (ok__law_are_places_told T) (hr.mono (by decide)) T.g54 T.d54.kp T.b54) (d_one (d_fn0 (ok__law_are_blocks_told T) (hr.mono (by decide)) T.g53 T.d53.kp T.b53))))))))) (fun cdv A outer s H E hr te t h1 h2 => ⟨pss_cons (ps_asg h1 (pg_name (i := 1) sc_law.nd rfl (.inl rfl)) rfl rfl rfl) h2, rfl⟩) math
end

end K15
end

section
set_option Elab.async false
set_option linter.all false
set_option maxRecDepth 1000000
set_option maxHeartbeats 4000000
namespace K15
open PySem PySem.Spec PyProof.Rows L2 G
variable [LamT]
def F_same : Fn := runB 2 (sRet (cSameE (getD 0) (getD 1) (cBin gEqD (cUn gRepr (getD 0)) (cUn gRepr (getD 1)))))
theorem same_is : F__law_same = F_same := congrArg (fun f => runB 2 (sRet f)) (cSameE_eq (getD 0) (getD 1))
theorem t_blocks (S : Fd) : F__law_are_blocks_told [] S = .ok (.bool true) S := by
  unfold F__law_are_blocks_told g__law_are_blocks_told
  simp only [asgN_eq]
  rw [same_is]
  rw [cDiffN_eq]
  kernel_rfl
theorem e_blocks : F__law_are_blocks_told [] = pure (.bool true) := funext fun S => t_blocks S
theorem t_places (S : Fd) : F__law_are_places_told [] S = .ok (.bool true) S := by
  unfold F__law_are_places_told g__law_are_places_told
  simp only [asgN_eq]
  rw [same_is]
  kernel_rfl
theorem e_places : F__law_are_places_told [] = pure (.bool true) := funext fun S => t_places S
theorem t_counts (S : Fd) : F__law_are_counts_told [] S = .ok (.bool true) S := by
  unfold F__law_are_counts_told g__law_are_counts_told
  simp only [asgN_eq]
  rw [same_is]
  kernel_rfl
theorem e_counts : F__law_are_counts_told [] = pure (.bool true) := funext fun S => t_counts S
theorem t_first (S : Fd) : F__law_are_first_refused [] S = .ok (.bool true) S := by
  unfold F__law_are_first_refused g__law_are_first_refused
  unfold F__law_are_refused g__law_are_refused
  simp only [asgN_eq]
  rw [same_is]
  kernel_rfl
theorem e_first : F__law_are_first_refused [] = pure (.bool true) := funext fun S => t_first S
theorem t_spots (S : Fd) : F__law_are_places_refused [] S = .ok (.bool true) S := by
  unfold F__law_are_places_refused g__law_are_places_refused
  unfold F__law_are_refused g__law_are_refused
  simp only [asgN_eq]
  rw [same_is]
  kernel_rfl
theorem e_spots : F__law_are_places_refused [] = pure (.bool true) := funext fun S => t_spots S
theorem t_later (S : Fd) : F__law_are_later_refused [] S = .ok (.bool true) S := by
  unfold F__law_are_later_refused g__law_are_later_refused
  unfold F__law_are_refused g__law_are_refused
  simp only [asgN_eq]
  rw [same_is]
  kernel_rfl
theorem e_later : F__law_are_later_refused [] = pure (.bool true) := funext fun S => t_later S
theorem draw_is : F__law_draw = runB 6 (drawD 827167 1000032779 364373 10627 2147486081 7807757 11027 2147486099 12941 2147486921) := by kernel_rfl
theorem draw (S : Fd) (hS : S.ks = .d) : ∃ n S', F__law_draw [.fd, .d (.int 2)] S = .ok (.int n) S' ∧ 0 ≤ n ∧ n < 2 := by
  have h : T .d S.cells (F__law_draw [.fd, .d (.int 2)]) (inR 2) := by
    rw [draw_is]
    exact T_drawD (by decide +kernel) (by decide +kernel) (by decide +kernel) (by decide +kernel) (by decide +kernel) (by decide +kernel) (by decide +kernel) (by decide +kernel) (by decide +kernel) (by decide +kernel) (by decide +kernel)
  obtain ⟨d, S', e, _, n, rfl, a, b⟩ := h S ⟨hS, rfl⟩
  exact ⟨n, S', e, a, b⟩
theorem math : MATH := fun S hS => by
  obtain ⟨n, S', e, a, b⟩ := draw S hS
  have hc : cB (cBin gEqD (cFn (argN 2 F__law_draw) (aF 1 (aD (cD (.int 2)) aNil))) (cD (.int 0))) (rho0 0) S = .ok (decide (n = 0)) S' := cB_of (bin_of (drawn_of rfl e) rfl eqI_of)
  refine ⟨S', ?_⟩
  have no : ∀ {F G1 G2 : Fn} {ρ : En} {S : Fd}, F [] = pure (.bool true) → G1 [] = pure (.bool true) → G2 [] = pure (.bool true) → cOrB (cNotB (cB (cFn0 F))) (cOrB (cNotB (cB (cFn0 G1))) (cNotB (cB (cFn0 G2)))) ρ S = .ok false S := fun h1 h2 h3 => by
    rw [orB_of (notB_of (cB_of (fn0_of h1 _ _))), orB_of (notB_of (cB_of (fn0_of h2 _ _)))]
    exact notB_of (cB_of (fn0_of h3 _ _))
  have ys : ∀ {F G1 G2 : Fn} {ρ : En} {S : Fd}, F [] = pure (.bool true) → G1 [] = pure (.bool true) → G2 [] = pure (.bool true) → sRet (cAnd (cFn0 F) (cAnd (cFn0 G1) (cFn0 G2))) ρ S = .ok (.rt (.bool true)) S := fun h1 h2 h3 => by
    refine ret_of' ?_
    rw [and_of (fn0_of h1 _ _), and_of (fn0_of h2 _ _)]
    exact fn0_of h3 _ _
  have skip : ∀ {c : En → M Bool} {g h : En → M Fl} {ρ : En} {S : Fd}, c ρ S = .ok false S → sSeq (sIf c g sNil) h ρ S = h ρ S := fun hc => by
    rw [seq_of (ρ1 := _) (S1 := _) (by rw [if_of hc]; rfl)]
  have step : ∀ {c : En → M Bool} {g h : En → M Fl} {ρ : En} {S S1 : Fd} {d : PyData}, c ρ S = .ok true S1 → g ρ S1 = .ok (.rt d) S1 → sSeq (sIf c g sNil) h ρ S = .ok (.rt d) S1 := fun hc hg => by
    show M.bind (sIf _ _ _ _) _ _ = _
    unfold M.bind
    rw [if_of hc, if_pos rfl, hg]; rfl
  have step2 : ∀ {c : En → M Bool} {g h : En → M Fl} {ρ : En} {S S1 : Fd}, c ρ S = .ok false S1 → sSeq (sIf c g sNil) h ρ S = h ρ S1 := fun hc => by
    rw [seq_of (ρ1 := _) (S1 := _) (by rw [if_of hc]; rfl)]
  unfold g_law
  by_cases h : n = 0
  · rw [decide_eq_true h] at hc
    refine step hc ?_
    rw [skip (no e_blocks e_places e_counts)]
    exact ys e_first e_spots e_later
  · rw [decide_eq_false h] at hc
    rw [step2 hc, skip (no e_later e_spots e_first)]
    exact ys e_counts e_places e_blocks
end K15
end

section
set_option Elab.async false
set_option linter.all false
set_option maxRecDepth 100000
set_option maxHeartbeats 0
namespace K15
open PySem PySem.Spec PyProof.Rows L2 G
theorem kwb_of {K : PySem.W.Frag} {x qual : Str} {st : Stmt} {fa : Addr} {fd : FuncData} {ps ks : List Str} {pm : List Nat} (F : Fun K x qual st fa fd) (h : ∀ (kV doc pm' : Value) (an : Option Addr) (cdv ct : Value) (ws : List Value), ws.length = ks.length → bindArgs (PySem.W.fnOf x qual (defArgs st) (defBody st) (defScope st) .none kV doc pm' an cdv ct) ⟨[], ks.zip ws⟩ = pure (ps.zip (pick pm ws))) : KwB K fd ps ks pm := by
  obtain ⟨oc, od, kV, doc, pm', an, cdv, ct, osl, rfl, lk, hcd⟩ := F.ex
  exact ⟨fun s ws _ _ hl => .of_eq (h kV doc pm' an cdv ct ws hl)⟩
theorem all_mk {P : Program} {w : World} {K : PySem.W.Frag} {h : Heap} {mg : Str → Option Value} {fa : Addr} (X : K.In h) (G : h.Ns mainGlobals mg) (hfa : mg "law" = some (.ref fa))
    {f6 : Addr} {od6 an6 : Option Addr} {sl6 : Array (Option Value)} {oc6 kV6 dc6 pm6 cd6 ct6 : Value}
    {f7 : Addr} {od7 an7 : Option Addr} {sl7 : Array (Option Value)} {oc7 kV7 dc7 pm7 cd7 ct7 : Value}
    {f8 : Addr} {od8 an8 : Option Addr} {sl8 : Array (Option Value)} {oc8 kV8 dc8 pm8 cd8 ct8 : Value}
    {f10 : Addr} {od10 an10 : Option Addr} {sl10 : Array (Option Value)} {oc10 kV10 dc10 pm10 cd10 ct10 : Value}
    {f11 : Addr} {od11 an11 : Option Addr} {sl11 : Array (Option Value)} {oc11 kV11 dc11 pm11 cd11 ct11 : Value}
    {f12 : Addr} {od12 an12 : Option Addr} {sl12 : Array (Option Value)} {oc12 kV12 dc12 pm12 cd12 ct12 : Value}
    {f13 : Addr} {od13 an13 : Option Addr} {sl13 : Array (Option Value)} {oc13 kV13 dc13 pm13 cd13 ct13 : Value}
    {f14 : Addr} {od14 an14 : Option Addr} {sl14 : Array (Option Value)} {oc14 kV14 dc14 pm14 cd14 ct14 : Value}
    {f15 : Addr} {od15 an15 : Option Addr} {sl15 : Array (Option Value)} {oc15 kV15 dc15 pm15 cd15 ct15 : Value}
    {f17 : Addr} {od17 an17 : Option Addr} {sl17 : Array (Option Value)} {oc17 kV17 dc17 pm17 cd17 ct17 : Value}
    {f18 : Addr} {od18 an18 : Option Addr} {sl18 : Array (Option Value)} {oc18 kV18 dc18 pm18 cd18 ct18 : Value}
    {f19 : Addr} {od19 an19 : Option Addr} {sl19 : Array (Option Value)} {oc19 kV19 dc19 pm19 cd19 ct19 : Value}
    {f20 : Addr} {od20 an20 : Option Addr} {sl20 : Array (Option Value)} {oc20 kV20 dc20 pm20 cd20 ct20 : Value}
    {f21 : Addr} {od21 an21 : Option Addr} {sl21 : Array (Option Value)} {oc21 kV21 dc21 pm21 cd21 ct21 : Value}
    {f22 : Addr} {od22 an22 : Option Addr} {sl22 : Array (Option Value)} {oc22 kV22 dc22 pm22 cd22 ct22 : Value}
    {f23 : Addr} {od23 an23 : Option Addr} {sl23 : Array (Option Value)} {oc23 kV23 dc23 pm23 cd23 ct23 : Value}
    {f24 : Addr} {od24 an24 : Option Addr} {sl24 : Array (Option Value)} {oc24 kV24 dc24 pm24 cd24 ct24 : Value}
    {f25 : Addr} {od25 an25 : Option Addr} {sl25 : Array (Option Value)} {oc25 kV25 dc25 pm25 cd25 ct25 : Value}
    {f27 : Addr} {od27 an27 : Option Addr} {sl27 : Array (Option Value)} {oc27 kV27 dc27 pm27 cd27 ct27 : Value}
    {f28 : Addr} {od28 an28 : Option Addr} {sl28 : Array (Option Value)} {oc28 kV28 dc28 pm28 cd28 ct28 : Value}
    {f29 : Addr} {od29 an29 : Option Addr} {sl29 : Array (Option Value)} {oc29 kV29 dc29 pm29 cd29 ct29 : Value}
    {f30 : Addr} {od30 an30 : Option Addr} {sl30 : Array (Option Value)} {oc30 kV30 dc30 pm30 cd30 ct30 : Value}
    {f31 : Addr} {od31 an31 : Option Addr} {sl31 : Array (Option Value)} {oc31 kV31 dc31 pm31 cd31 ct31 : Value}
    {f33 : Addr} {od33 an33 : Option Addr} {sl33 : Array (Option Value)} {oc33 kV33 dc33 pm33 cd33 ct33 : Value}
    {f34 : Addr} {od34 an34 : Option Addr} {sl34 : Array (Option Value)} {oc34 kV34 dc34 pm34 cd34 ct34 : Value}
    {f35 : Addr} {od35 an35 : Option Addr} {sl35 : Array (Option Value)} {oc35 kV35 dc35 pm35 cd35 ct35 : Value}
    {f36 : Addr} {od36 an36 : Option Addr} {sl36 : Array (Option Value)} {oc36 kV36 dc36 pm36 cd36 ct36 : Value}
    {f37 : Addr} {od37 an37 : Option Addr} {sl37 : Array (Option Value)} {oc37 kV37 dc37 pm37 cd37 ct37 : Value}
    {f38 : Addr} {od38 an38 : Option Addr} {sl38 : Array (Option Value)} {oc38 kV38 dc38 pm38 cd38 ct38 : Value}
    {f39 : Addr} {od39 an39 : Option Addr} {sl39 : Array (Option Value)} {oc39 kV39 dc39 pm39 cd39 ct39 : Value}
    {f40 : Addr} {od40 an40 : Option Addr} {sl40 : Array (Option Value)} {oc40 kV40 dc40 pm40 cd40 ct40 : Value}
    {f41 : Addr} {od41 an41 : Option Addr} {sl41 : Array (Option Value)} {oc41 kV41 dc41 pm41 cd41 ct41 : Value}
    {f42 : Addr} {od42 an42 : Option Addr} {sl42 : Array (Option Value)} {oc42 kV42 dc42 pm42 cd42 ct42 : Value}
    {f43 : Addr} {od43 an43 : Option Addr} {sl43 : Array (Option Value)} {oc43 kV43 dc43 pm43 cd43 ct43 : Value}
    {f44 : Addr} {od44 an44 : Option Addr} {sl44 : Array (Option Value)} {oc44 kV44 dc44 pm44 cd44 ct44 : Value}
    {f45 : Addr} {od45 an45 : Option Addr} {sl45 : Array (Option Value)} {oc45 kV45 dc45 pm45 cd45 ct45 : Value}
    {f46 : Addr} {od46 an46 : Option Addr} {sl46 : Array (Option Value)} {oc46 kV46 dc46 pm46 cd46 ct46 : Value}
    {f48 : Addr} {od48 an48 : Option Addr} {sl48 : Array (Option Value)} {oc48 kV48 dc48 pm48 cd48 ct48 : Value}
    {f49 : Addr} {od49 an49 : Option Addr} {sl49 : Array (Option Value)} {oc49 kV49 dc49 pm49 cd49 ct49 : Value}
    {f50 : Addr} {od50 an50 : Option Addr} {sl50 : Array (Option Value)} {oc50 kV50 dc50 pm50 cd50 ct50 : Value}
    {f51 : Addr} {od51 an51 : Option Addr} {sl51 : Array (Option Value)} {oc51 kV51 dc51 pm51 cd51 ct51 : Value}
    {f52 : Addr} {od52 an52 : Option Addr} {sl52 : Array (Option Value)} {oc52 kV52 dc52 pm52 cd52 ct52 : Value}
    {f53 : Addr} {od53 an53 : Option Addr} {sl53 : Array (Option Value)} {oc53 kV53 dc53 pm53 cd53 ct53 : Value}
    {f54 : Addr} {od54 an54 : Option Addr} {sl54 : Array (Option Value)} {oc54 kV54 dc54 pm54 cd54 ct54 : Value}
    {f55 : Addr} {od55 an55 : Option Addr} {sl55 : Array (Option Value)} {oc55 kV55 dc55 pm55 cd55 ct55 : Value}
    {f56 : Addr} {od56 an56 : Option Addr} {sl56 : Array (Option Value)} {oc56 kV56 dc56 pm56 ct56 : Value} {co56 tb56 : Addr} {ot56 : Value} {dt56 : Option Addr} {vt56 : Array Value} {st56 : Array (Option Value)}
    {f57 : Addr} {od57 an57 : Option Addr} {sl57 : Array (Option Value)} {oc57 kV57 dc57 pm57 ct57 : Value} {co57 tb57 : Addr} {ot57 : Value} {dt57 : Option Addr} {vt57 : Array Value} {st57 : Array (Option Value)}
    {f58 : Addr} {od58 an58 : Option Addr} {sl58 : Array (Option Value)} {oc58 kV58 dc58 pm58 ct58 : Value} {co58 tb58 : Addr} {ot58 : Value} {dt58 : Option Addr} {vt58 : Array Value} {st58 : Array (Option Value)}
    {f59 : Addr} {od59 an59 : Option Addr} {sl59 : Array (Option Value)} {oc59 kV59 dc59 pm59 cd59 ct59 : Value}
    {f60 : Addr} {od60 an60 : Option Addr} {sl60 : Array (Option Value)} {oc60 kV60 dc60 pm60 ct60 : Value} {co60 tb60 : Addr} {ot60 : Value} {dt60 : Option Addr} {vt60 : Array Value} {st60 : Array (Option Value)}
    {f61 : Addr} {od61 an61 : Option Addr} {sl61 : Array (Option Value)} {oc61 kV61 dc61 pm61 ct61 : Value} {co61 tb61 : Addr} {ot61 : Value} {dt61 : Option Addr} {vt61 : Array Value} {st61 : Array (Option Value)}
    {f62 : Addr} {od62 an62 : Option Addr} {sl62 : Array (Option Value)} {oc62 kV62 dc62 pm62 ct62 : Value} {co62 tb62 : Addr} {ot62 : Value} {dt62 : Option Addr} {vt62 : Array Value} {st62 : Array (Option Value)}
    {f63 : Addr} {od63 an63 : Option Addr} {sl63 : Array (Option Value)} {oc63 kV63 dc63 pm63 cd63 ct63 : Value}
    {fi6 : Addr} {odi6 ani6 : Option Addr} {sli6 : Array (Option Value)} {oci6 kVi6 dci6 pmi6 cdi6 cti6 : Value}
    {C0 : Addr}
    {C1 : Addr}
    {C2 : Addr}
    {C6 : Addr} {ob6 : Obj}
    (a6 : PySem.W.nsIn K mainGlobals "need" = some (some (.ref f6)))
    (l6 : K.lookup f6 = some ⟨oc6, od6, .func (PySem.W.fnOf "need" "need" (defArgs t_need) (defBody t_need) (defScope t_need) .none kV6 dc6 pm6 an6 cd6 ct6), sl6⟩)
    (c6 : PySem.W.codeIn K cd6 "need" = true)
    (k6 : PySem.W.keepIn K (.ref f6) = true)
    (a7 : PySem.W.nsIn K mainGlobals "spread" = some (some (.ref f7)))
    (l7 : K.lookup f7 = some ⟨oc7, od7, .func (PySem.W.fnOf "spread" "spread" (defArgs t_spread) (defBody t_spread) (defScope t_spread) .none kV7 dc7 pm7 an7 cd7 ct7), sl7⟩)
    (c7 : PySem.W.codeIn K cd7 "spread" = true)
    (k7 : PySem.W.keepIn K (.ref f7) = true)
    (a8 : PySem.W.nsIn K mainGlobals "added_up" = some (some (.ref f8)))
    (l8 : K.lookup f8 = some ⟨oc8, od8, .func (PySem.W.fnOf "added_up" "added_up" (defArgs t_added_up) (defBody t_added_up) (defScope t_added_up) .none kV8 dc8 pm8 an8 cd8 ct8), sl8⟩)
    (c8 : PySem.W.codeIn K cd8 "added_up" = true)
    (k8 : PySem.W.keepIn K (.ref f8) = true)
    (a10 : PySem.W.nsIn K mainGlobals "is_integer" = some (some (.ref f10)))
    (l10 : K.lookup f10 = some ⟨oc10, od10, .func (PySem.W.fnOf "is_integer" "is_integer" (defArgs t_is_integer) (defBody t_is_integer) (defScope t_is_integer) .none kV10 dc10 pm10 an10 cd10 ct10), sl10⟩)
    (c10 : PySem.W.codeIn K cd10 "is_integer" = true)
    (k10 : PySem.W.keepIn K (.ref f10) = true)
    (a11 : PySem.W.nsIn K mainGlobals "is_number" = some (some (.ref f11)))
    (l11 : K.lookup f11 = some ⟨oc11, od11, .func (PySem.W.fnOf "is_number" "is_number" (defArgs t_is_number) (defBody t_is_number) (defScope t_is_number) .none kV11 dc11 pm11 an11 cd11 ct11), sl11⟩)
    (c11 : PySem.W.codeIn K cd11 "is_number" = true)
    (k11 : PySem.W.keepIn K (.ref f11) = true)
    (a12 : PySem.W.nsIn K mainGlobals "is_rule" = some (some (.ref f12)))
    (l12 : K.lookup f12 = some ⟨oc12, od12, .func (PySem.W.fnOf "is_rule" "is_rule" (defArgs t_is_rule) (defBody t_is_rule) (defScope t_is_rule) .none kV12 dc12 pm12 an12 cd12 ct12), sl12⟩)
    (c12 : PySem.W.codeIn K cd12 "is_rule" = true)
    (k12 : PySem.W.keepIn K (.ref f12) = true)
    (a13 : PySem.W.nsIn K mainGlobals "is_below" = some (some (.ref f13)))
    (l13 : K.lookup f13 = some ⟨oc13, od13, .func (PySem.W.fnOf "is_below" "is_below" (defArgs t_is_below) (defBody t_is_below) (defScope t_is_below) .none kV13 dc13 pm13 an13 cd13 ct13), sl13⟩)
    (c13 : PySem.W.codeIn K cd13 "is_below" = true)
    (k13 : PySem.W.keepIn K (.ref f13) = true)
    (a14 : PySem.W.nsIn K mainGlobals "is_full" = some (some (.ref f14)))
    (l14 : K.lookup f14 = some ⟨oc14, od14, .func (PySem.W.fnOf "is_full" "is_full" (defArgs t_is_full) (defBody t_is_full) (defScope t_is_full) .none kV14 dc14 pm14 an14 cd14 ct14), sl14⟩)
    (c14 : PySem.W.codeIn K cd14 "is_full" = true)
    (k14 : PySem.W.keepIn K (.ref f14) = true)
    (a15 : PySem.W.nsIn K mainGlobals "rule_fault" = some (some (.ref f15)))
    (l15 : K.lookup f15 = some ⟨oc15, od15, .func (PySem.W.fnOf "rule_fault" "rule_fault" (defArgs t_rule_fault) (defBody t_rule_fault) (defScope t_rule_fault) .none kV15 dc15 pm15 an15 cd15 ct15), sl15⟩)
    (c15 : PySem.W.codeIn K cd15 "rule_fault" = true)
    (k15 : PySem.W.keepIn K (.ref f15) = true)
    (a17 : PySem.W.nsIn K mainGlobals "block_of" = some (some (.ref f17)))
    (l17 : K.lookup f17 = some ⟨oc17, od17, .func (PySem.W.fnOf "block_of" "block_of" (defArgs t_block_of) (defBody t_block_of) (defScope t_block_of) .none kV17 dc17 pm17 an17 cd17 ct17), sl17⟩)
    (c17 : PySem.W.codeIn K cd17 "block_of" = true)
    (k17 : PySem.W.keepIn K (.ref f17) = true)
    (a18 : PySem.W.nsIn K mainGlobals "length_of" = some (some (.ref f18)))
    (l18 : K.lookup f18 = some ⟨oc18, od18, .func (PySem.W.fnOf "length_of" "length_of" (defArgs t_length_of) (defBody t_length_of) (defScope t_length_of) .none kV18 dc18 pm18 an18 cd18 ct18), sl18⟩)
    (c18 : PySem.W.codeIn K cd18 "length_of" = true)
    (k18 : PySem.W.keepIn K (.ref f18) = true)
    (a19 : PySem.W.nsIn K mainGlobals "lengths_of" = some (some (.ref f19)))
    (l19 : K.lookup f19 = some ⟨oc19, od19, .func (PySem.W.fnOf "lengths_of" "lengths_of" (defArgs t_lengths_of) (defBody t_lengths_of) (defScope t_lengths_of) .none kV19 dc19 pm19 an19 cd19 ct19), sl19⟩)
    (c19 : PySem.W.codeIn K cd19 "lengths_of" = true)
    (k19 : PySem.W.keepIn K (.ref f19) = true)
    (a20 : PySem.W.nsIn K mainGlobals "counts_in" = some (some (.ref f20)))
    (l20 : K.lookup f20 = some ⟨oc20, od20, .func (PySem.W.fnOf "counts_in" "counts_in" (defArgs t_counts_in) (defBody t_counts_in) (defScope t_counts_in) .none kV20 dc20 pm20 an20 cd20 ct20), sl20⟩)
    (c20 : PySem.W.codeIn K cd20 "counts_in" = true)
    (k20 : PySem.W.keepIn K (.ref f20) = true)
    (a21 : PySem.W.nsIn K mainGlobals "need_block" = some (some (.ref f21)))
    (l21 : K.lookup f21 = some ⟨oc21, od21, .func (PySem.W.fnOf "need_block" "need_block" (defArgs t_need_block) (defBody t_need_block) (defScope t_need_block) .none kV21 dc21 pm21 an21 cd21 ct21), sl21⟩)
    (c21 : PySem.W.codeIn K cd21 "need_block" = true)
    (k21 : PySem.W.keepIn K (.ref f21) = true)
    (a22 : PySem.W.nsIn K mainGlobals "block_in" = some (some (.ref f22)))
    (l22 : K.lookup f22 = some ⟨oc22, od22, .func (PySem.W.fnOf "block_in" "block_in" (defArgs t_block_in) (defBody t_block_in) (defScope t_block_in) .none kV22 dc22 pm22 an22 cd22 ct22), sl22⟩)
    (c22 : PySem.W.codeIn K cd22 "block_in" = true)
    (k22 : PySem.W.keepIn K (.ref f22) = true)
    (a23 : PySem.W.nsIn K mainGlobals "length_rows" = some (some (.ref f23)))
    (l23 : K.lookup f23 = some ⟨oc23, od23, .func (PySem.W.fnOf "length_rows" "length_rows" (defArgs t_length_rows) (defBody t_length_rows) (defScope t_length_rows) .none kV23 dc23 pm23 an23 cd23 ct23), sl23⟩)
    (c23 : PySem.W.codeIn K cd23 "length_rows" = true)
    (k23 : PySem.W.keepIn K (.ref f23) = true)
    (a24 : PySem.W.nsIn K mainGlobals "count_rows" = some (some (.ref f24)))
    (l24 : K.lookup f24 = some ⟨oc24, od24, .func (PySem.W.fnOf "count_rows" "count_rows" (defArgs t_count_rows) (defBody t_count_rows) (defScope t_count_rows) .none kV24 dc24 pm24 an24 cd24 ct24), sl24⟩)
    (c24 : PySem.W.codeIn K cd24 "count_rows" = true)
    (k24 : PySem.W.keepIn K (.ref f24) = true)
    (a25 : PySem.W.nsIn K mainGlobals "added_rows" = some (some (.ref f25)))
    (l25 : K.lookup f25 = some ⟨oc25, od25, .func (PySem.W.fnOf "added_rows" "added_rows" (defArgs t_added_rows) (defBody t_added_rows) (defScope t_added_rows) .none kV25 dc25 pm25 an25 cd25 ct25), sl25⟩)
    (c25 : PySem.W.codeIn K cd25 "added_rows" = true)
    (k25 : PySem.W.keepIn K (.ref f25) = true)
    (a27 : PySem.W.nsIn K mainGlobals "is_growing" = some (some (.ref f27)))
    (l27 : K.lookup f27 = some ⟨oc27, od27, .func (PySem.W.fnOf "is_growing" "is_growing" (defArgs t_is_growing) (defBody t_is_growing) (defScope t_is_growing) .none kV27 dc27 pm27 an27 cd27 ct27), sl27⟩)
    (c27 : PySem.W.codeIn K cd27 "is_growing" = true)
    (k27 : PySem.W.keepIn K (.ref f27) = true)
    (a28 : PySem.W.nsIn K mainGlobals "growth_in" = some (some (.ref f28)))
    (l28 : K.lookup f28 = some ⟨oc28, od28, .func (PySem.W.fnOf "growth_in" "growth_in" (defArgs t_growth_in) (defBody t_growth_in) (defScope t_growth_in) .none kV28 dc28 pm28 an28 cd28 ct28), sl28⟩)
    (c28 : PySem.W.codeIn K cd28 "growth_in" = true)
    (k28 : PySem.W.keepIn K (.ref f28) = true)
    (a29 : PySem.W.nsIn K mainGlobals "lots_behind" = some (some (.ref f29)))
    (l29 : K.lookup f29 = some ⟨oc29, od29, .func (PySem.W.fnOf "lots_behind" "lots_behind" (defArgs t_lots_behind) (defBody t_lots_behind) (defScope t_lots_behind) .none kV29 dc29 pm29 an29 cd29 ct29), sl29⟩)
    (c29 : PySem.W.codeIn K cd29 "lots_behind" = true)
    (k29 : PySem.W.keepIn K (.ref f29) = true)
    (a30 : PySem.W.nsIn K mainGlobals "lot_behind" = some (some (.ref f30)))
    (l30 : K.lookup f30 = some ⟨oc30, od30, .func (PySem.W.fnOf "lot_behind" "lot_behind" (defArgs t_lot_behind) (defBody t_lot_behind) (defScope t_lot_behind) .none kV30 dc30 pm30 an30 cd30 ct30), sl30⟩)
    (c30 : PySem.W.codeIn K cd30 "lot_behind" = true)
    (k30 : PySem.W.keepIn K (.ref f30) = true)
    (a31 : PySem.W.nsIn K mainGlobals "all_full" = some (some (.ref f31)))
    (l31 : K.lookup f31 = some ⟨oc31, od31, .func (PySem.W.fnOf "all_full" "all_full" (defArgs t_all_full) (defBody t_all_full) (defScope t_all_full) .none kV31 dc31 pm31 an31 cd31 ct31), sl31⟩)
    (c31 : PySem.W.codeIn K cd31 "all_full" = true)
    (k31 : PySem.W.keepIn K (.ref f31) = true)
    (a33 : PySem.W.nsIn K mainGlobals "letter_at" = some (some (.ref f33)))
    (l33 : K.lookup f33 = some ⟨oc33, od33, .func (PySem.W.fnOf "letter_at" "letter_at" (defArgs t_letter_at) (defBody t_letter_at) (defScope t_letter_at) .none kV33 dc33 pm33 an33 cd33 ct33), sl33⟩)
    (c33 : PySem.W.codeIn K cd33 "letter_at" = true)
    (k33 : PySem.W.keepIn K (.ref f33) = true)
    (a34 : PySem.W.nsIn K mainGlobals "word_at" = some (some (.ref f34)))
    (l34 : K.lookup f34 = some ⟨oc34, od34, .func (PySem.W.fnOf "word_at" "word_at" (defArgs t_word_at) (defBody t_word_at) (defScope t_word_at) .none kV34 dc34 pm34 an34 cd34 ct34), sl34⟩)
    (c34 : PySem.W.codeIn K cd34 "word_at" = true)
    (k34 : PySem.W.keepIn K (.ref f34) = true)
    (a35 : PySem.W.nsIn K mainGlobals "word_in" = some (some (.ref f35)))
    (l35 : K.lookup f35 = some ⟨oc35, od35, .func (PySem.W.fnOf "word_in" "word_in" (defArgs t_word_in) (defBody t_word_in) (defScope t_word_in) .none kV35 dc35 pm35 an35 cd35 ct35), sl35⟩)
    (c35 : PySem.W.codeIn K cd35 "word_in" = true)
    (k35 : PySem.W.keepIn K (.ref f35) = true)
    (a36 : PySem.W.nsIn K mainGlobals "cut_word" = some (some (.ref f36)))
    (l36 : K.lookup f36 = some ⟨oc36, od36, .func (PySem.W.fnOf "cut_word" "cut_word" (defArgs t_cut_word) (defBody t_cut_word) (defScope t_cut_word) .none kV36 dc36 pm36 an36 cd36 ct36), sl36⟩)
    (c36 : PySem.W.codeIn K cd36 "cut_word" = true)
    (k36 : PySem.W.keepIn K (.ref f36) = true)
    (a37 : PySem.W.nsIn K mainGlobals "path_to" = some (some (.ref f37)))
    (l37 : K.lookup f37 = some ⟨oc37, od37, .func (PySem.W.fnOf "path_to" "path_to" (defArgs t_path_to) (defBody t_path_to) (defScope t_path_to) .none kV37 dc37 pm37 an37 cd37 ct37), sl37⟩)
    (c37 : PySem.W.codeIn K cd37 "path_to" = true)
    (k37 : PySem.W.keepIn K (.ref f37) = true)
    (a38 : PySem.W.nsIn K mainGlobals "path_in" = some (some (.ref f38)))
    (l38 : K.lookup f38 = some ⟨oc38, od38, .func (PySem.W.fnOf "path_in" "path_in" (defArgs t_path_in) (defBody t_path_in) (defScope t_path_in) .none kV38 dc38 pm38 an38 cd38 ct38), sl38⟩)
    (c38 : PySem.W.codeIn K cd38 "path_in" = true)
    (k38 : PySem.W.keepIn K (.ref f38) = true)
    (a39 : PySem.W.nsIn K mainGlobals "place_by" = some (some (.ref f39)))
    (l39 : K.lookup f39 = some ⟨oc39, od39, .func (PySem.W.fnOf "place_by" "place_by" (defArgs t_place_by) (defBody t_place_by) (defScope t_place_by) .none kV39 dc39 pm39 an39 cd39 ct39), sl39⟩)
    (c39 : PySem.W.codeIn K cd39 "place_by" = true)
    (k39 : PySem.W.keepIn K (.ref f39) = true)
    (a40 : PySem.W.nsIn K mainGlobals "is_path" = some (some (.ref f40)))
    (l40 : K.lookup f40 = some ⟨oc40, od40, .func (PySem.W.fnOf "is_path" "is_path" (defArgs t_is_path) (defBody t_is_path) (defScope t_is_path) .none kV40 dc40 pm40 an40 cd40 ct40), sl40⟩)
    (c40 : PySem.W.codeIn K cd40 "is_path" = true)
    (k40 : PySem.W.keepIn K (.ref f40) = true)
    (a41 : PySem.W.nsIn K mainGlobals "passed_by" = some (some (.ref f41)))
    (l41 : K.lookup f41 = some ⟨oc41, od41, .func (PySem.W.fnOf "passed_by" "passed_by" (defArgs t_passed_by) (defBody t_passed_by) (defScope t_passed_by) .none kV41 dc41 pm41 an41 cd41 ct41), sl41⟩)
    (c41 : PySem.W.codeIn K cd41 "passed_by" = true)
    (k41 : PySem.W.keepIn K (.ref f41) = true)
    (a42 : PySem.W.nsIn K mainGlobals "count_before" = some (some (.ref f42)))
    (l42 : K.lookup f42 = some ⟨oc42, od42, .func (PySem.W.fnOf "count_before" "count_before" (defArgs t_count_before) (defBody t_count_before) (defScope t_count_before) .none kV42 dc42 pm42 an42 cd42 ct42), sl42⟩)
    (c42 : PySem.W.codeIn K cd42 "count_before" = true)
    (k42 : PySem.W.keepIn K (.ref f42) = true)
    (a43 : PySem.W.nsIn K mainGlobals "place_of" = some (some (.ref f43)))
    (l43 : K.lookup f43 = some ⟨oc43, od43, .func (PySem.W.fnOf "place_of" "place_of" (defArgs t_place_of) (defBody t_place_of) (defScope t_place_of) .none kV43 dc43 pm43 an43 cd43 ct43), sl43⟩)
    (c43 : PySem.W.codeIn K cd43 "place_of" = true)
    (k43 : PySem.W.keepIn K (.ref f43) = true)
    (a44 : PySem.W.nsIn K mainGlobals "seeds" = some (some (.ref f44)))
    (l44 : K.lookup f44 = some ⟨oc44, od44, .func (PySem.W.fnOf "seeds" "seeds" (defArgs t_seeds) (defBody t_seeds) (defScope t_seeds) .none kV44 dc44 pm44 an44 cd44 ct44), sl44⟩)
    (c44 : PySem.W.codeIn K cd44 "seeds" = true)
    (k44 : PySem.W.keepIn K (.ref f44) = true)
    (a45 : PySem.W.nsIn K mainGlobals "seed_level" = some (some (.ref f45)))
    (l45 : K.lookup f45 = some ⟨oc45, od45, .func (PySem.W.fnOf "seed_level" "seed_level" (defArgs t_seed_level) (defBody t_seed_level) (defScope t_seed_level) .none kV45 dc45 pm45 an45 cd45 ct45), sl45⟩)
    (c45 : PySem.W.codeIn K cd45 "seed_level" = true)
    (k45 : PySem.W.keepIn K (.ref f45) = true)
    (a46 : PySem.W.nsIn K mainGlobals "level_holding" = some (some (.ref f46)))
    (l46 : K.lookup f46 = some ⟨oc46, od46, .func (PySem.W.fnOf "level_holding" "level_holding" (defArgs t_level_holding) (defBody t_level_holding) (defScope t_level_holding) .none kV46 dc46 pm46 an46 cd46 ct46), sl46⟩)
    (c46 : PySem.W.codeIn K cd46 "level_holding" = true)
    (k46 : PySem.W.keepIn K (.ref f46) = true)
    (a48 : PySem.W.nsIn K mainGlobals "_law_feed" = some (some (.ref f48)))
    (l48 : K.lookup f48 = some ⟨oc48, od48, .func (PySem.W.fnOf "_law_feed" "_law_feed" (defArgs t__law_feed) (defBody t__law_feed) (defScope t__law_feed) .none kV48 dc48 pm48 an48 cd48 ct48), sl48⟩)
    (c48 : PySem.W.codeIn K cd48 "_law_feed" = true)
    (k48 : PySem.W.keepIn K (.ref f48) = true)
    (a49 : PySem.W.nsIn K mainGlobals "_law_same" = some (some (.ref f49)))
    (l49 : K.lookup f49 = some ⟨oc49, od49, .func (PySem.W.fnOf "_law_same" "_law_same" (defArgs t__law_same) (defBody t__law_same) (defScope t__law_same) .none kV49 dc49 pm49 an49 cd49 ct49), sl49⟩)
    (c49 : PySem.W.codeIn K cd49 "_law_same" = true)
    (k49 : PySem.W.keepIn K (.ref f49) = true)
    (a50 : PySem.W.nsIn K mainGlobals "_law_draw" = some (some (.ref f50)))
    (l50 : K.lookup f50 = some ⟨oc50, od50, .func (PySem.W.fnOf "_law_draw" "_law_draw" (defArgs t__law_draw) (defBody t__law_draw) (defScope t__law_draw) .none kV50 dc50 pm50 an50 cd50 ct50), sl50⟩)
    (c50 : PySem.W.codeIn K cd50 "_law_draw" = true)
    (k50 : PySem.W.keepIn K (.ref f50) = true)
    (a51 : PySem.W.nsIn K mainGlobals "_law_heard" = some (some (.ref f51)))
    (l51 : K.lookup f51 = some ⟨oc51, od51, .func (PySem.W.fnOf "_law_heard" "_law_heard" (defArgs t__law_heard) (defBody t__law_heard) (defScope t__law_heard) .none kV51 dc51 pm51 an51 cd51 ct51), sl51⟩)
    (c51 : PySem.W.codeIn K cd51 "_law_heard" = true)
    (k51 : PySem.W.keepIn K (.ref f51) = true)
    (a52 : PySem.W.nsIn K mainGlobals "_law_rules" = some (some (.ref f52)))
    (l52 : K.lookup f52 = some ⟨oc52, od52, .func (PySem.W.fnOf "_law_rules" "_law_rules" (defArgs t__law_rules) (defBody t__law_rules) (defScope t__law_rules) .none kV52 dc52 pm52 an52 cd52 ct52), sl52⟩)
    (c52 : PySem.W.codeIn K cd52 "_law_rules" = true)
    (k52 : PySem.W.keepIn K (.ref f52) = true)
    (a53 : PySem.W.nsIn K mainGlobals "_law_are_blocks_told" = some (some (.ref f53)))
    (l53 : K.lookup f53 = some ⟨oc53, od53, .func (PySem.W.fnOf "_law_are_blocks_told" "_law_are_blocks_told" (defArgs t__law_are_blocks_told) (defBody t__law_are_blocks_told) (defScope t__law_are_blocks_told) .none kV53 dc53 pm53 an53 cd53 ct53), sl53⟩)
    (c53 : PySem.W.codeIn K cd53 "_law_are_blocks_told" = true)
    (k53 : PySem.W.keepIn K (.ref f53) = true)
    (a54 : PySem.W.nsIn K mainGlobals "_law_are_places_told" = some (some (.ref f54)))
    (l54 : K.lookup f54 = some ⟨oc54, od54, .func (PySem.W.fnOf "_law_are_places_told" "_law_are_places_told" (defArgs t__law_are_places_told) (defBody t__law_are_places_told) (defScope t__law_are_places_told) .none kV54 dc54 pm54 an54 cd54 ct54), sl54⟩)
    (c54 : PySem.W.codeIn K cd54 "_law_are_places_told" = true)
    (k54 : PySem.W.keepIn K (.ref f54) = true)
    (a55 : PySem.W.nsIn K mainGlobals "_law_are_counts_told" = some (some (.ref f55)))
    (l55 : K.lookup f55 = some ⟨oc55, od55, .func (PySem.W.fnOf "_law_are_counts_told" "_law_are_counts_told" (defArgs t__law_are_counts_told) (defBody t__law_are_counts_told) (defScope t__law_are_counts_told) .none kV55 dc55 pm55 an55 cd55 ct55), sl55⟩)
    (c55 : PySem.W.codeIn K cd55 "_law_are_counts_told" = true)
    (k55 : PySem.W.keepIn K (.ref f55) = true)
    (a56 : PySem.W.nsIn K mainGlobals "_law_level_told" = some (some (.ref f56)))
    (l56 : K.lookup f56 = some ⟨oc56, od56, .func (PySem.W.fnOf "_law_level_told" "_law_level_told" (defArgs t__law_level_told) (defBody t__law_level_told) (defScope t__law_level_told) .none kV56 dc56 pm56 an56 (.ref co56) ct56), sl56⟩)
    (c56 : PySem.W.codeIn K (.ref co56) "_law_level_told" = true)
    (k56 : PySem.W.keepIn K (.ref f56) = true)
    (t56 : K.lookup co56 = some ⟨ot56, dt56, .fields vt56, st56⟩)
    (u56 : (vt56[11]? : Option Value) = some (.ref tb56))
    (n56 : K.lookup tb56 = none)
    (h56 : PySem.W.codeHdIn K co56 tb56 = true)
    (a57 : PySem.W.nsIn K mainGlobals "_law_place_told" = some (some (.ref f57)))
    (l57 : K.lookup f57 = some ⟨oc57, od57, .func (PySem.W.fnOf "_law_place_told" "_law_place_told" (defArgs t__law_place_told) (defBody t__law_place_told) (defScope t__law_place_told) .none kV57 dc57 pm57 an57 (.ref co57) ct57), sl57⟩)
    (c57 : PySem.W.codeIn K (.ref co57) "_law_place_told" = true)
    (k57 : PySem.W.keepIn K (.ref f57) = true)
    (t57 : K.lookup co57 = some ⟨ot57, dt57, .fields vt57, st57⟩)
    (u57 : (vt57[11]? : Option Value) = some (.ref tb57))
    (n57 : K.lookup tb57 = none)
    (h57 : PySem.W.codeHdIn K co57 tb57 = true)
    (a58 : PySem.W.nsIn K mainGlobals "_law_more_told" = some (some (.ref f58)))
    (l58 : K.lookup f58 = some ⟨oc58, od58, .func (PySem.W.fnOf "_law_more_told" "_law_more_told" (defArgs t__law_more_told) (defBody t__law_more_told) (defScope t__law_more_told) .none kV58 dc58 pm58 an58 (.ref co58) ct58), sl58⟩)
    (c58 : PySem.W.codeIn K (.ref co58) "_law_more_told" = true)
    (k58 : PySem.W.keepIn K (.ref f58) = true)
    (t58 : K.lookup co58 = some ⟨ot58, dt58, .fields vt58, st58⟩)
    (u58 : (vt58[11]? : Option Value) = some (.ref tb58))
    (n58 : K.lookup tb58 = none)
    (h58 : PySem.W.codeHdIn K co58 tb58 = true)
    (a59 : PySem.W.nsIn K mainGlobals "_law_are_refused" = some (some (.ref f59)))
    (l59 : K.lookup f59 = some ⟨oc59, od59, .func (PySem.W.fnOf "_law_are_refused" "_law_are_refused" (defArgs t__law_are_refused) (defBody t__law_are_refused) (defScope t__law_are_refused) .none kV59 dc59 pm59 an59 cd59 ct59), sl59⟩)
    (c59 : PySem.W.codeIn K cd59 "_law_are_refused" = true)
    (k59 : PySem.W.keepIn K (.ref f59) = true)
    (a60 : PySem.W.nsIn K mainGlobals "_law_are_first_refused" = some (some (.ref f60)))
    (l60 : K.lookup f60 = some ⟨oc60, od60, .func (PySem.W.fnOf "_law_are_first_refused" "_law_are_first_refused" (defArgs t__law_are_first_refused) (defBody t__law_are_first_refused) (defScope t__law_are_first_refused) .none kV60 dc60 pm60 an60 (.ref co60) ct60), sl60⟩)
    (c60 : PySem.W.codeIn K (.ref co60) "_law_are_first_refused" = true)
    (k60 : PySem.W.keepIn K (.ref f60) = true)
    (t60 : K.lookup co60 = some ⟨ot60, dt60, .fields vt60, st60⟩)
    (u60 : (vt60[11]? : Option Value) = some (.ref tb60))
    (n60 : K.lookup tb60 = none)
    (h60 : PySem.W.codeHdIn K co60 tb60 = true)
    (a61 : PySem.W.nsIn K mainGlobals "_law_are_places_refused" = some (some (.ref f61)))
    (l61 : K.lookup f61 = some ⟨oc61, od61, .func (PySem.W.fnOf "_law_are_places_refused" "_law_are_places_refused" (defArgs t__law_are_places_refused) (defBody t__law_are_places_refused) (defScope t__law_are_places_refused) .none kV61 dc61 pm61 an61 (.ref co61) ct61), sl61⟩)
    (c61 : PySem.W.codeIn K (.ref co61) "_law_are_places_refused" = true)
    (k61 : PySem.W.keepIn K (.ref f61) = true)
    (t61 : K.lookup co61 = some ⟨ot61, dt61, .fields vt61, st61⟩)
    (u61 : (vt61[11]? : Option Value) = some (.ref tb61))
    (n61 : K.lookup tb61 = none)
    (h61 : PySem.W.codeHdIn K co61 tb61 = true)
    (a62 : PySem.W.nsIn K mainGlobals "_law_are_later_refused" = some (some (.ref f62)))
    (l62 : K.lookup f62 = some ⟨oc62, od62, .func (PySem.W.fnOf "_law_are_later_refused" "_law_are_later_refused" (defArgs t__law_are_later_refused) (defBody t__law_are_later_refused) (defScope t__law_are_later_refused) .none kV62 dc62 pm62 an62 (.ref co62) ct62), sl62⟩)
    (c62 : PySem.W.codeIn K (.ref co62) "_law_are_later_refused" = true)
    (k62 : PySem.W.keepIn K (.ref f62) = true)
    (t62 : K.lookup co62 = some ⟨ot62, dt62, .fields vt62, st62⟩)
    (u62 : (vt62[11]? : Option Value) = some (.ref tb62))
    (n62 : K.lookup tb62 = none)
    (h62 : PySem.W.codeHdIn K co62 tb62 = true)
    (a63 : PySem.W.nsIn K mainGlobals "law" = some (some (.ref f63)))
    (l63 : K.lookup f63 = some ⟨oc63, od63, .func (PySem.W.fnOf "law" "law" (defArgs t_law) (defBody t_law) (defScope t_law) .none kV63 dc63 pm63 an63 cd63 ct63), sl63⟩)
    (c63 : PySem.W.codeIn K cd63 "law" = true)
    (k63 : PySem.W.keepIn K (.ref f63) = true)
    (z_all : PySem.W.nsIn K mainGlobals "all" = some none)
    (z_bool : PySem.W.nsIn K mainGlobals "bool" = some none)
    (z_enumerate : PySem.W.nsIn K mainGlobals "enumerate" = some none)
    (z_int : PySem.W.nsIn K mainGlobals "int" = some none)
    (z_isinstance : PySem.W.nsIn K mainGlobals "isinstance" = some none)
    (z_len : PySem.W.nsIn K mainGlobals "len" = some none)
    (z_list : PySem.W.nsIn K mainGlobals "list" = some none)
    (z_max : PySem.W.nsIn K mainGlobals "max" = some none)
    (z_range : PySem.W.nsIn K mainGlobals "range" = some none)
    (z_repr : PySem.W.nsIn K mainGlobals "repr" = some none)
    (z_sum : PySem.W.nsIn K mainGlobals "sum" = some none)
    (z_tuple : PySem.W.nsIn K mainGlobals "tuple" = some none)
    (x0 : PySem.W.nsIn K mainGlobals "LedError" = some (some (.ref C0)))
    (x1 : PySem.W.nsIn K mainGlobals "PaperError" = some (some (.ref C1)))
    (x2 : PySem.W.nsIn K mainGlobals "WorldError" = some (some (.ref C2)))
    (x6 : PySem.W.nsIn K mainGlobals "NotUsable" = some (some (.ref C6)))
    (lk6 : K.lookup C6 = some ob6)
    (ex6 : ∃ nm q N bs bm sn sub ab col dd k0 k1 k2 k3 k5, ob6 = excClassObj nm q C6 N bs bm true sn sub ab col dd k0 k1 k2 k3 k5 "ValueError.__new__" ∧ PySem.HandSPX.refsVE bm = true)
    (sa6 : PySem.W.findIn K (.ref C6) "__setattr__" = some (some (.builtin "object.__setattr__")))
    (eb6 : PySem.W.subIn K (.ref C6) (.type "BaseException") = some true)
    (ty6 : PySem.W.typeIn K (.ref C6) = some (.type "type"))
    (kc6 : PySem.W.keepIn K (.ref C6) = true)
    (in6 : PySem.W.findIn K (.ref C6) "__init__" = some (some (.ref fi6)))
    (it6 : PySem.W.typeIn K (.ref fi6) = some (.type "function"))
    (no6 : PySem.W.findIn K (.ref C6) "word" = some none)
    (np6 : PySem.W.findIn K (.ref C6) "at" = some none)
    (xb6 : xfB K C6 = true)
    (li6 : K.lookup fi6 = some ⟨oci6, odi6, .func (PySem.W.fnOf "__init__" "NotUsable.__init__" (defArgs ti_6) (defBody ti_6) (defScope ti_6) .none kVi6 dci6 pmi6 ani6 cdi6 cti6), sli6⟩)
    (ci6 : PySem.W.codeIn K cdi6 "NotUsable.__init__" = true)
    (ki6 : PySem.W.keepIn K (.ref fi6) = true)
    (e16 : (PySem.W.clsIn K C6).isSome = true)
    (e26 : PySem.W.findIn K (.ref C6) "__class__" = some (some (.builtin "object.__class__")))
    (e66 : PySem.W.mroIn K C6 (.type "object") = some true)
    (v6_LedError : PySem.W.exmOne K (.ref C6) (.ref C0) = some true)
    (y6_NotUsable : PySem.W.kitOne K (.ref C6) (.ref C6) = some true)
    (y6_PaperError : PySem.W.kitOne K (.ref C6) (.ref C1) = some false)
    (y6_WorldError : PySem.W.kitOne K (.ref C6) (.ref C2) = some true)
    (dg : PySem.W.specialIn K (.builtin "object.__class__") "__get__" = some (some (.builtin "getset_descriptor.__get__")))
    (tk : PySem.W.takesIn K (.builtin "object.__class__") = some true)
    (tn : ([tb56, tb57, tb58, tb60, tb61, tb62] : List Addr).Nodup)
    (YT : ∀ P ∈ ([tb56, tb57, tb58, tb60, tb61, tb62] : List Addr), h.get? P = some (PySem.W.tabObj #[]))
    (math : MATH) :
    LawG P w K mg 12 fa "_law_script" h 63 := by
  have e := hfa.symm.trans (PySem.W.mg_of X G a63)
  cases e
  letI : LamT := ⟨[(tb56, ("_law_level_told" : Str) ++ ".<locals>." ++ "<lambda>"), (tb57, ("_law_place_told" : Str) ++ ".<locals>." ++ "<lambda>"), (tb58, ("_law_more_told" : Str) ++ ".<locals>." ++ "<lambda>"), (tb60, ("_law_are_first_refused" : Str) ++ ".<locals>." ++ "<lambda>"), (tb61, ("_law_are_places_refused" : Str) ++ ".<locals>." ++ "<lambda>"), (tb62, ("_law_are_later_refused" : Str) ++ ".<locals>." ++ "<lambda>")]⟩
  have F6 := fun_mk (st := t_need) l6 c6 k6
  have F7 := fun_mk (st := t_spread) l7 c7 k7
  have F8 := fun_mk (st := t_added_up) l8 c8 k8
  have F10 := fun_mk (st := t_is_integer) l10 c10 k10
  have F11 := fun_mk (st := t_is_number) l11 c11 k11
  have F12 := fun_mk (st := t_is_rule) l12 c12 k12
  have F13 := fun_mk (st := t_is_below) l13 c13 k13
  have F14 := fun_mk (st := t_is_full) l14 c14 k14
  have F15 := fun_mk (st := t_rule_fault) l15 c15 k15
  have F17 := fun_mk (st := t_block_of) l17 c17 k17
  have F18 := fun_mk (st := t_length_of) l18 c18 k18
  have F19 := fun_mk (st := t_lengths_of) l19 c19 k19
  have F20 := fun_mk (st := t_counts_in) l20 c20 k20
  have F21 := fun_mk (st := t_need_block) l21 c21 k21
  have F22 := fun_mk (st := t_block_in) l22 c22 k22
  have F23 := fun_mk (st := t_length_rows) l23 c23 k23
  have F24 := fun_mk (st := t_count_rows) l24 c24 k24
  have F25 := fun_mk (st := t_added_rows) l25 c25 k25
  have F27 := fun_mk (st := t_is_growing) l27 c27 k27
  have F28 := fun_mk (st := t_growth_in) l28 c28 k28
  have F29 := fun_mk (st := t_lots_behind) l29 c29 k29
  have F30 := fun_mk (st := t_lot_behind) l30 c30 k30
  have F31 := fun_mk (st := t_all_full) l31 c31 k31
  have F33 := fun_mk (st := t_letter_at) l33 c33 k33
  have F34 := fun_mk (st := t_word_at) l34 c34 k34
  have F35 := fun_mk (st := t_word_in) l35 c35 k35
  have F36 := fun_mk (st := t_cut_word) l36 c36 k36
  have F37 := fun_mk (st := t_path_to) l37 c37 k37
  have F38 := fun_mk (st := t_path_in) l38 c38 k38
  have F39 := fun_mk (st := t_place_by) l39 c39 k39
  have F40 := fun_mk (st := t_is_path) l40 c40 k40
  have F41 := fun_mk (st := t_passed_by) l41 c41 k41
  have F42 := fun_mk (st := t_count_before) l42 c42 k42
  have F43 := fun_mk (st := t_place_of) l43 c43 k43
  have F44 := fun_mk (st := t_seeds) l44 c44 k44
  have F45 := fun_mk (st := t_seed_level) l45 c45 k45
  have F46 := fun_mk (st := t_level_holding) l46 c46 k46
  have F48 := fun_mk (st := t__law_feed) l48 c48 k48
  have F49 := fun_mk (st := t__law_same) l49 c49 k49
  have F50 := fun_mk (st := t__law_draw) l50 c50 k50
  have F51 := fun_mk (st := t__law_heard) l51 c51 k51
  have F52 := fun_mk (st := t__law_rules) l52 c52 k52
  have F53 := fun_mk (st := t__law_are_blocks_told) l53 c53 k53
  have F54 := fun_mk (st := t__law_are_places_told) l54 c54 k54
  have F55 := fun_mk (st := t__law_are_counts_told) l55 c55 k55
  have F56 := fun_mk (st := t__law_level_told) l56 c56 k56
  have F57 := fun_mk (st := t__law_place_told) l57 c57 k57
  have F58 := fun_mk (st := t__law_more_told) l58 c58 k58
  have F59 := fun_mk (st := t__law_are_refused) l59 c59 k59
  have F60 := fun_mk (st := t__law_are_first_refused) l60 c60 k60
  have F61 := fun_mk (st := t__law_are_places_refused) l61 c61 k61
  have F62 := fun_mk (st := t__law_are_later_refused) l62 c62 k62
  have F63 := fun_mk (st := t_law) l63 c63 k63
  have ox6 : OexC K C6 := ⟨let ⟨nm, q, N, bs, bm, sn, sub, ab, col, dd, k0, k1, k2, k3, k5, e, r⟩ := ex6; ⟨nm, q, N, bs, bm, sn, sub, ab, col, dd, k0, k1, k2, k3, k5, by rw [lk6, e], r⟩, sa6, eb6, ty6, kc6⟩
  have Fi6 := fun_mk (st := ti_6) li6 ci6 ki6
  have T56 := PySem.W.codeHd_of_K X h56
  have T57 := PySem.W.codeHd_of_K X h57
  have T58 := PySem.W.codeHd_of_K X h58
  have T60 := PySem.W.codeHd_of_K X h60
  have T61 := PySem.W.codeHd_of_K X h61
  have T62 := PySem.W.codeHd_of_K X h62
  let f : Nat → Addr := fun i => match i with
    | 6 => f6
    | 7 => f7
    | 8 => f8
    | 10 => f10
    | 11 => f11
    | 12 => f12
    | 13 => f13
    | 14 => f14
    | 15 => f15
    | 17 => f17
    | 18 => f18
    | 19 => f19
    | 20 => f20
    | 21 => f21
    | 22 => f22
    | 23 => f23
    | 24 => f24
    | 25 => f25
    | 27 => f27
    | 28 => f28
    | 29 => f29
    | 30 => f30
    | 31 => f31
    | 33 => f33
    | 34 => f34
    | 35 => f35
    | 36 => f36
    | 37 => f37
    | 38 => f38
    | 39 => f39
    | 40 => f40
    | 41 => f41
    | 42 => f42
    | 43 => f43
    | 44 => f44
    | 45 => f45
    | 46 => f46
    | 48 => f48
    | 49 => f49
    | 50 => f50
    | 51 => f51
    | 52 => f52
    | 53 => f53
    | 54 => f54
    | 55 => f55
    | 56 => f56
    | 57 => f57
    | 58 => f58
    | 59 => f59
    | 60 => f60
    | 61 => f61
    | 62 => f62
    | 63 => fa
    | _ => 0
  let cc : Nat → Addr := fun i => match i with
    | 56 => co56
    | 57 => co57
    | 58 => co58
    | 60 => co60
    | 61 => co61
    | 62 => co62
    | _ => 0
  let pp : Nat → Addr := fun i => match i with
    | 56 => tb56
    | 57 => tb57
    | 58 => tb58
    | 60 => tb60
    | 61 => tb61
    | 62 => tb62
    | _ => 0
  let fd : Nat → FuncData := fun i => match i with
    | 6 => PySem.W.fnOf "need" "need" (defArgs t_need) (defBody t_need) (defScope t_need) .none kV6 dc6 pm6 an6 cd6 ct6
    | 7 => PySem.W.fnOf "spread" "spread" (defArgs t_spread) (defBody t_spread) (defScope t_spread) .none kV7 dc7 pm7 an7 cd7 ct7
    | 8 => PySem.W.fnOf "added_up" "added_up" (defArgs t_added_up) (defBody t_added_up) (defScope t_added_up) .none kV8 dc8 pm8 an8 cd8 ct8
    | 10 => PySem.W.fnOf "is_integer" "is_integer" (defArgs t_is_integer) (defBody t_is_integer) (defScope t_is_integer) .none kV10 dc10 pm10 an10 cd10 ct10
    | 11 => PySem.W.fnOf "is_number" "is_number" (defArgs t_is_number) (defBody t_is_number) (defScope t_is_number) .none kV11 dc11 pm11 an11 cd11 ct11
    | 12 => PySem.W.fnOf "is_rule" "is_rule" (defArgs t_is_rule) (defBody t_is_rule) (defScope t_is_rule) .none kV12 dc12 pm12 an12 cd12 ct12
    | 13 => PySem.W.fnOf "is_below" "is_below" (defArgs t_is_below) (defBody t_is_below) (defScope t_is_below) .none kV13 dc13 pm13 an13 cd13 ct13
    | 14 => PySem.W.fnOf "is_full" "is_full" (defArgs t_is_full) (defBody t_is_full) (defScope t_is_full) .none kV14 dc14 pm14 an14 cd14 ct14
    | 15 => PySem.W.fnOf "rule_fault" "rule_fault" (defArgs t_rule_fault) (defBody t_rule_fault) (defScope t_rule_fault) .none kV15 dc15 pm15 an15 cd15 ct15
    | 17 => PySem.W.fnOf "block_of" "block_of" (defArgs t_block_of) (defBody t_block_of) (defScope t_block_of) .none kV17 dc17 pm17 an17 cd17 ct17
    | 18 => PySem.W.fnOf "length_of" "length_of" (defArgs t_length_of) (defBody t_length_of) (defScope t_length_of) .none kV18 dc18 pm18 an18 cd18 ct18
    | 19 => PySem.W.fnOf "lengths_of" "lengths_of" (defArgs t_lengths_of) (defBody t_lengths_of) (defScope t_lengths_of) .none kV19 dc19 pm19 an19 cd19 ct19
    | 20 => PySem.W.fnOf "counts_in" "counts_in" (defArgs t_counts_in) (defBody t_counts_in) (defScope t_counts_in) .none kV20 dc20 pm20 an20 cd20 ct20
    | 21 => PySem.W.fnOf "need_block" "need_block" (defArgs t_need_block) (defBody t_need_block) (defScope t_need_block) .none kV21 dc21 pm21 an21 cd21 ct21
    | 22 => PySem.W.fnOf "block_in" "block_in" (defArgs t_block_in) (defBody t_block_in) (defScope t_block_in) .none kV22 dc22 pm22 an22 cd22 ct22
    | 23 => PySem.W.fnOf "length_rows" "length_rows" (defArgs t_length_rows) (defBody t_length_rows) (defScope t_length_rows) .none kV23 dc23 pm23 an23 cd23 ct23
    | 24 => PySem.W.fnOf "count_rows" "count_rows" (defArgs t_count_rows) (defBody t_count_rows) (defScope t_count_rows) .none kV24 dc24 pm24 an24 cd24 ct24
    | 25 => PySem.W.fnOf "added_rows" "added_rows" (defArgs t_added_rows) (defBody t_added_rows) (defScope t_added_rows) .none kV25 dc25 pm25 an25 cd25 ct25
    | 27 => PySem.W.fnOf "is_growing" "is_growing" (defArgs t_is_growing) (defBody t_is_growing) (defScope t_is_growing) .none kV27 dc27 pm27 an27 cd27 ct27
    | 28 => PySem.W.fnOf "growth_in" "growth_in" (defArgs t_growth_in) (defBody t_growth_in) (defScope t_growth_in) .none kV28 dc28 pm28 an28 cd28 ct28
    | 29 => PySem.W.fnOf "lots_behind" "lots_behind" (defArgs t_lots_behind) (defBody t_lots_behind) (defScope t_lots_behind) .none kV29 dc29 pm29 an29 cd29 ct29
    | 30 => PySem.W.fnOf "lot_behind" "lot_behind" (defArgs t_lot_behind) (defBody t_lot_behind) (defScope t_lot_behind) .none kV30 dc30 pm30 an30 cd30 ct30
    | 31 => PySem.W.fnOf "all_full" "all_full" (defArgs t_all_full) (defBody t_all_full) (defScope t_all_full) .none kV31 dc31 pm31 an31 cd31 ct31
    | 33 => PySem.W.fnOf "letter_at" "letter_at" (defArgs t_letter_at) (defBody t_letter_at) (defScope t_letter_at) .none kV33 dc33 pm33 an33 cd33 ct33
    | 34 => PySem.W.fnOf "word_at" "word_at" (defArgs t_word_at) (defBody t_word_at) (defScope t_word_at) .none kV34 dc34 pm34 an34 cd34 ct34
    | 35 => PySem.W.fnOf "word_in" "word_in" (defArgs t_word_in) (defBody t_word_in) (defScope t_word_in) .none kV35 dc35 pm35 an35 cd35 ct35
    | 36 => PySem.W.fnOf "cut_word" "cut_word" (defArgs t_cut_word) (defBody t_cut_word) (defScope t_cut_word) .none kV36 dc36 pm36 an36 cd36 ct36
    | 37 => PySem.W.fnOf "path_to" "path_to" (defArgs t_path_to) (defBody t_path_to) (defScope t_path_to) .none kV37 dc37 pm37 an37 cd37 ct37
    | 38 => PySem.W.fnOf "path_in" "path_in" (defArgs t_path_in) (defBody t_path_in) (defScope t_path_in) .none kV38 dc38 pm38 an38 cd38 ct38
    | 39 => PySem.W.fnOf "place_by" "place_by" (defArgs t_place_by) (defBody t_place_by) (defScope t_place_by) .none kV39 dc39 pm39 an39 cd39 ct39
    | 40 => PySem.W.fnOf "is_path" "is_path" (defArgs t_is_path) (defBody t_is_path) (defScope t_is_path) .none kV40 dc40 pm40 an40 cd40 ct40
    | 41 => PySem.W.fnOf "passed_by" "passed_by" (defArgs t_passed_by) (defBody t_passed_by) (defScope t_passed_by) .none kV41 dc41 pm41 an41 cd41 ct41
    | 42 => PySem.W.fnOf "count_before" "count_before" (defArgs t_count_before) (defBody t_count_before) (defScope t_count_before) .none kV42 dc42 pm42 an42 cd42 ct42
    | 43 => PySem.W.fnOf "place_of" "place_of" (defArgs t_place_of) (defBody t_place_of) (defScope t_place_of) .none kV43 dc43 pm43 an43 cd43 ct43
    | 44 => PySem.W.fnOf "seeds" "seeds" (defArgs t_seeds) (defBody t_seeds) (defScope t_seeds) .none kV44 dc44 pm44 an44 cd44 ct44
    | 45 => PySem.W.fnOf "seed_level" "seed_level" (defArgs t_seed_level) (defBody t_seed_level) (defScope t_seed_level) .none kV45 dc45 pm45 an45 cd45 ct45
    | 46 => PySem.W.fnOf "level_holding" "level_holding" (defArgs t_level_holding) (defBody t_level_holding) (defScope t_level_holding) .none kV46 dc46 pm46 an46 cd46 ct46
    | 48 => PySem.W.fnOf "_law_feed" "_law_feed" (defArgs t__law_feed) (defBody t__law_feed) (defScope t__law_feed) .none kV48 dc48 pm48 an48 cd48 ct48
    | 49 => PySem.W.fnOf "_law_same" "_law_same" (defArgs t__law_same) (defBody t__law_same) (defScope t__law_same) .none kV49 dc49 pm49 an49 cd49 ct49
    | 50 => PySem.W.fnOf "_law_draw" "_law_draw" (defArgs t__law_draw) (defBody t__law_draw) (defScope t__law_draw) .none kV50 dc50 pm50 an50 cd50 ct50
    | 51 => PySem.W.fnOf "_law_heard" "_law_heard" (defArgs t__law_heard) (defBody t__law_heard) (defScope t__law_heard) .none kV51 dc51 pm51 an51 cd51 ct51
    | 52 => PySem.W.fnOf "_law_rules" "_law_rules" (defArgs t__law_rules) (defBody t__law_rules) (defScope t__law_rules) .none kV52 dc52 pm52 an52 cd52 ct52
    | 53 => PySem.W.fnOf "_law_are_blocks_told" "_law_are_blocks_told" (defArgs t__law_are_blocks_told) (defBody t__law_are_blocks_told) (defScope t__law_are_blocks_told) .none kV53 dc53 pm53 an53 cd53 ct53
    | 54 => PySem.W.fnOf "_law_are_places_told" "_law_are_places_told" (defArgs t__law_are_places_told) (defBody t__law_are_places_told) (defScope t__law_are_places_told) .none kV54 dc54 pm54 an54 cd54 ct54
    | 55 => PySem.W.fnOf "_law_are_counts_told" "_law_are_counts_told" (defArgs t__law_are_counts_told) (defBody t__law_are_counts_told) (defScope t__law_are_counts_told) .none kV55 dc55 pm55 an55 cd55 ct55
    | 56 => PySem.W.fnOf "_law_level_told" "_law_level_told" (defArgs t__law_level_told) (defBody t__law_level_told) (defScope t__law_level_told) .none kV56 dc56 pm56 an56 (.ref co56) ct56
    | 57 => PySem.W.fnOf "_law_place_told" "_law_place_told" (defArgs t__law_place_told) (defBody t__law_place_told) (defScope t__law_place_told) .none kV57 dc57 pm57 an57 (.ref co57) ct57
    | 58 => PySem.W.fnOf "_law_more_told" "_law_more_told" (defArgs t__law_more_told) (defBody t__law_more_told) (defScope t__law_more_told) .none kV58 dc58 pm58 an58 (.ref co58) ct58
    | 59 => PySem.W.fnOf "_law_are_refused" "_law_are_refused" (defArgs t__law_are_refused) (defBody t__law_are_refused) (defScope t__law_are_refused) .none kV59 dc59 pm59 an59 cd59 ct59
    | 60 => PySem.W.fnOf "_law_are_first_refused" "_law_are_first_refused" (defArgs t__law_are_first_refused) (defBody t__law_are_first_refused) (defScope t__law_are_first_refused) .none kV60 dc60 pm60 an60 (.ref co60) ct60
    | 61 => PySem.W.fnOf "_law_are_places_refused" "_law_are_places_refused" (defArgs t__law_are_places_refused) (defBody t__law_are_places_refused) (defScope t__law_are_places_refused) .none kV61 dc61 pm61 an61 (.ref co61) ct61
    | 62 => PySem.W.fnOf "_law_are_later_refused" "_law_are_later_refused" (defArgs t__law_are_later_refused) (defBody t__law_are_later_refused) (defScope t__law_are_later_refused) .none kV62 dc62 pm62 an62 (.ref co62) ct62
    | 63 => PySem.W.fnOf "law" "law" (defArgs t_law) (defBody t_law) (defScope t_law) .none kV63 dc63 pm63 an63 cd63 ct63
    | _ => PySem.W.fnOf "law" "law" (defArgs t_law) (defBody t_law) (defScope t_law) .none kV63 dc63 pm63 an63 cd63 ct63
  let cl : Nat → Addr := fun i => match i with
    | 0 => C0
    | 1 => C1
    | 2 => C2
    | 6 => C6
    | _ => 0
  let fi : Nat → Addr := fun i => match i with
    | 6 => fi6
    | _ => 0
  let fdi : Nat → FuncData := fun i => match i with
    | 6 => PySem.W.fnOf "__init__" "NotUsable.__init__" (defArgs ti_6) (defBody ti_6) (defScope ti_6) .none kVi6 dci6 pmi6 ani6 cdi6 cti6
    | _ => PySem.W.fnOf "law" "law" (defArgs t_law) (defBody t_law) (defScope t_law) .none kV63 dc63 pm63 an63 cd63 ct63
  have T : ∀ base : Heap, (∀ r ∈ ([(co56, tb56), (co57, tb57), (co58, tb58), (co60, tb60), (co61, tb61), (co62, tb62)] : List (Addr × Addr)), LamX.TabB base mg r.1 r.2) → TX K mg base f cc pp fd cl fi fdi := fun base TB => {
    d6 := F6, g6 := PySem.W.mg_of X G a6, b6 := F6.binds (ps := ["fine", "name"]) fun _ _ _ _ _ _ us hl => match us, hl with | [_, _], _ => rfl,
    d7 := F7, g7 := PySem.W.mg_of X G a7, b7 := F7.binds (ps := ["blocks", "word"]) fun _ _ _ _ _ _ us hl => match us, hl with | [_, _], _ => rfl,
    d8 := F8, g8 := PySem.W.mg_of X G a8, b8 := F8.binds (ps := ["rule", "amounts"]) fun _ _ _ _ _ _ us hl => match us, hl with | [_, _], _ => rfl,
    d10 := F10, g10 := PySem.W.mg_of X G a10, b10 := F10.binds (ps := ["thing"]) fun _ _ _ _ _ _ us hl => match us, hl with | [_], _ => rfl,
    d11 := F11, g11 := PySem.W.mg_of X G a11, b11 := F11.binds (ps := ["thing"]) fun _ _ _ _ _ _ us hl => match us, hl with | [_], _ => rfl,
    d12 := F12, g12 := PySem.W.mg_of X G a12, b12 := F12.binds (ps := ["thing"]) fun _ _ _ _ _ _ us hl => match us, hl with | [_], _ => rfl,
    d13 := F13, g13 := PySem.W.mg_of X G a13, b13 := F13.binds (ps := ["thing", "many"]) fun _ _ _ _ _ _ us hl => match us, hl with | [_, _], _ => rfl,
    d14 := F14, g14 := PySem.W.mg_of X G a14, b14 := F14.binds (ps := ["thing"]) fun _ _ _ _ _ _ us hl => match us, hl with | [_], _ => rfl,
    d15 := F15, g15 := PySem.W.mg_of X G a15, b15 := F15.binds (ps := ["thing"]) fun _ _ _ _ _ _ us hl => match us, hl with | [_], _ => rfl,
    d17 := F17, g17 := PySem.W.mg_of X G a17, b17 := F17.binds (ps := ["rule", "letter", "level"]) fun _ _ _ _ _ _ us hl => match us, hl with | [_, _, _], _ => rfl,
    d18 := F18, g18 := PySem.W.mg_of X G a18, b18 := F18.binds (ps := ["rule", "letter", "level"]) fun _ _ _ _ _ _ us hl => match us, hl with | [_, _, _], _ => rfl,
    d19 := F19, g19 := PySem.W.mg_of X G a19, b19 := F19.binds (ps := ["rule", "letter", "level"]) fun _ _ _ _ _ _ us hl => match us, hl with | [_, _, _], _ => rfl,
    d20 := F20, g20 := PySem.W.mg_of X G a20, b20 := F20.binds (ps := ["rule", "letter", "level"]) fun _ _ _ _ _ _ us hl => match us, hl with | [_, _, _], _ => rfl,
    d21 := F21, g21 := PySem.W.mg_of X G a21, b21 := F21.binds (ps := ["rule", "letter", "level"]) fun _ _ _ _ _ _ us hl => match us, hl with | [_, _, _], _ => rfl,
    d22 := F22, g22 := PySem.W.mg_of X G a22, b22 := F22.binds (ps := ["rule", "letter", "level"]) fun _ _ _ _ _ _ us hl => match us, hl with | [_, _, _], _ => rfl,
    d23 := F23, g23 := PySem.W.mg_of X G a23, b23 := F23.binds (ps := ["rule", "level"]) fun _ _ _ _ _ _ us hl => match us, hl with | [_, _], _ => rfl,
    d24 := F24, g24 := PySem.W.mg_of X G a24, b24 := F24.binds (ps := ["rule", "other", "level"]) fun _ _ _ _ _ _ us hl => match us, hl with | [_, _, _], _ => rfl,
    d25 := F25, g25 := PySem.W.mg_of X G a25, b25 := F25.binds (ps := ["rule", "first", "level"]) fun _ _ _ _ _ _ us hl => match us, hl with | [_, _, _], _ => rfl,
    d27 := F27, g27 := PySem.W.mg_of X G a27, b27 := F27.binds (ps := ["thing"]) fun _ _ _ _ _ _ us hl => match us, hl with | [_], _ => rfl,
    d28 := F28, g28 := PySem.W.mg_of X G a28, b28 := F28.binds (ps := ["rule"]) fun _ _ _ _ _ _ us hl => match us, hl with | [_], _ => rfl,
    d29 := F29, g29 := PySem.W.mg_of X G a29, b29 := F29.binds (ps := ["lots", "leap"]) fun _ _ _ _ _ _ us hl => match us, hl with | [_, _], _ => rfl,
    d30 := F30, g30 := PySem.W.mg_of X G a30, b30 := F30.binds (ps := ["lot", "leap"]) fun _ _ _ _ _ _ us hl => match us, hl with | [_, _], _ => rfl,
    d31 := F31, g31 := PySem.W.mg_of X G a31, b31 := F31.binds (ps := ["lots"]) fun _ _ _ _ _ _ us hl => match us, hl with | [_], _ => rfl,
    d33 := F33, g33 := PySem.W.mg_of X G a33, b33 := F33.binds (ps := ["rule", "letter", "level", "place"]) fun _ _ _ _ _ _ us hl => match us, hl with | [_, _, _, _], _ => rfl,
    d34 := F34, g34 := PySem.W.mg_of X G a34, b34 := F34.binds (ps := ["rule", "letter", "level", "place", "length"]) fun _ _ _ _ _ _ us hl => match us, hl with | [_, _, _, _, _], _ => rfl,
    d35 := F35, g35 := PySem.W.mg_of X G a35, b35 := F35.binds (ps := ["rule", "rows", "letter", "place", "length"]) fun _ _ _ _ _ _ us hl => match us, hl with | [_, _, _, _, _], _ => rfl,
    d36 := F36, g36 := PySem.W.mg_of X G a36, b36 := F36.binds (ps := ["lengths", "word", "place", "length"]) fun _ _ _ _ _ _ us hl => match us, hl with | [_, _, _, _], _ => rfl,
    d37 := F37, g37 := PySem.W.mg_of X G a37, b37 := F37.binds (ps := ["rule", "letter", "level", "place"]) fun _ _ _ _ _ _ us hl => match us, hl with | [_, _, _, _], _ => rfl,
    d38 := F38, g38 := PySem.W.mg_of X G a38, b38 := F38.binds (ps := ["rule", "rows", "letter", "place"]) fun _ _ _ _ _ _ us hl => match us, hl with | [_, _, _, _], _ => rfl,
    d39 := F39, g39 := PySem.W.mg_of X G a39, b39 := F39.binds (ps := ["rule", "letter", "path"]) fun _ _ _ _ _ _ us hl => match us, hl with | [_, _, _], _ => rfl,
    d40 := F40, g40 := PySem.W.mg_of X G a40, b40 := F40.binds (ps := ["rule", "letter", "thing"]) fun _ _ _ _ _ _ us hl => match us, hl with | [_, _, _], _ => rfl,
    d41 := F41, g41 := PySem.W.mg_of X G a41, b41 := F41.binds (ps := ["rule", "rows", "letter", "path"]) fun _ _ _ _ _ _ us hl => match us, hl with | [_, _, _, _], _ => rfl,
    d42 := F42, g42 := PySem.W.mg_of X G a42, b42 := F42.binds (ps := ["rule", "letter", "level", "place", "other"]) fun _ _ _ _ _ _ us hl => match us, hl with | [_, _, _, _, _], _ => rfl,
    d43 := F43, g43 := PySem.W.mg_of X G a43, b43 := F43.binds (ps := ["rule", "letter", "level", "other", "index"]) fun _ _ _ _ _ _ us hl => match us, hl with | [_, _, _, _, _], _ => rfl,
    d44 := F44, g44 := PySem.W.mg_of X G a44, b44 := F44.binds (ps := ["rule"]) fun _ _ _ _ _ _ us hl => match us, hl with | [_], _ => rfl,
    d45 := F45, g45 := PySem.W.mg_of X G a45, b45 := F45.binds (ps := ["rule", "letter"]) fun _ _ _ _ _ _ us hl => match us, hl with | [_, _], _ => rfl,
    d46 := F46, g46 := PySem.W.mg_of X G a46, b46 := F46.binds (ps := ["rule", "letter", "place"]) fun _ _ _ _ _ _ us hl => match us, hl with | [_, _, _], _ => rfl,
    d48 := F48, g48 := PySem.W.mg_of X G a48, b48 := F48.binds (ps := ["_law_script"]) fun _ _ _ _ _ _ us hl => match us, hl with | [_], _ => rfl,
    d49 := F49, g49 := PySem.W.mg_of X G a49, b49 := F49.binds (ps := ["_law_heard_here", "_law_due"]) fun _ _ _ _ _ _ us hl => match us, hl with | [_, _], _ => rfl,
    d50 := F50, g50 := PySem.W.mg_of X G a50, b50 := F50.binds (ps := ["_law_feed_here", "_law_many"]) fun _ _ _ _ _ _ us hl => match us, hl with | [_, _], _ => rfl,
    d51 := F51, g51 := PySem.W.mg_of X G a51, b51 := F51.binds (ps := ["_law_call"]) fun _ _ _ _ _ _ us hl => match us, hl with | [_], _ => rfl,
    d52 := F52, g52 := PySem.W.mg_of X G a52, b52 := F52.binds (ps := []) fun _ _ _ _ _ _ us hl => match us, hl with | [], _ => rfl,
    d53 := F53, g53 := PySem.W.mg_of X G a53, b53 := F53.binds (ps := []) fun _ _ _ _ _ _ us hl => match us, hl with | [], _ => rfl,
    d54 := F54, g54 := PySem.W.mg_of X G a54, b54 := F54.binds (ps := []) fun _ _ _ _ _ _ us hl => match us, hl with | [], _ => rfl,
    d55 := F55, g55 := PySem.W.mg_of X G a55, b55 := F55.binds (ps := []) fun _ _ _ _ _ _ us hl => match us, hl with | [], _ => rfl,
    d56 := F56, g56 := PySem.W.mg_of X G a56, b56 := F56.binds (ps := ["_law_rule_now", "_law_a", "_law_rise"]) fun _ _ _ _ _ _ us hl => match us, hl with | [_, _, _], _ => rfl,
    c56 := ⟨⟨oc56, od56, kV56, dc56, pm56, an56, ct56, sl56, rfl, l56, c56⟩⟩, tb56 := TB _ (List.mem_cons_self), tu56 := ⟨List.mem_cons_self, uq_of [(tb56, ("_law_level_told" : Str) ++ ".<locals>." ++ "<lambda>"), (tb57, ("_law_place_told" : Str) ++ ".<locals>." ++ "<lambda>"), (tb58, ("_law_more_told" : Str) ++ ".<locals>." ++ "<lambda>"), (tb60, ("_law_are_first_refused" : Str) ++ ".<locals>." ++ "<lambda>"), (tb61, ("_law_are_places_refused" : Str) ++ ".<locals>." ++ "<lambda>"), (tb62, ("_law_are_later_refused" : Str) ++ ".<locals>." ++ "<lambda>")] 0 tn rfl⟩,
    d57 := F57, g57 := PySem.W.mg_of X G a57, b57 := F57.binds (ps := ["_law_rule_now", "_law_a", "_law_rise", "_law_spot"]) fun _ _ _ _ _ _ us hl => match us, hl with | [_, _, _, _], _ => rfl,
    c57 := ⟨⟨oc57, od57, kV57, dc57, pm57, an57, ct57, sl57, rfl, l57, c57⟩⟩, tb57 := TB _ (List.mem_cons_of_mem _ (List.mem_cons_self)), tu57 := ⟨List.mem_cons_of_mem _ (List.mem_cons_self), uq_of [(tb56, ("_law_level_told" : Str) ++ ".<locals>." ++ "<lambda>"), (tb57, ("_law_place_told" : Str) ++ ".<locals>." ++ "<lambda>"), (tb58, ("_law_more_told" : Str) ++ ".<locals>." ++ "<lambda>"), (tb60, ("_law_are_first_refused" : Str) ++ ".<locals>." ++ "<lambda>"), (tb61, ("_law_are_places_refused" : Str) ++ ".<locals>." ++ "<lambda>"), (tb62, ("_law_are_later_refused" : Str) ++ ".<locals>." ++ "<lambda>")] 1 tn rfl⟩,
    d58 := F58, g58 := PySem.W.mg_of X G a58, b58 := F58.binds (ps := ["_law_rule_now", "_law_a"]) fun _ _ _ _ _ _ us hl => match us, hl with | [_, _], _ => rfl,
    c58 := ⟨⟨oc58, od58, kV58, dc58, pm58, an58, ct58, sl58, rfl, l58, c58⟩⟩, tb58 := TB _ (List.mem_cons_of_mem _ (List.mem_cons_of_mem _ (List.mem_cons_self))), tu58 := ⟨List.mem_cons_of_mem _ (List.mem_cons_of_mem _ (List.mem_cons_self)), uq_of [(tb56, ("_law_level_told" : Str) ++ ".<locals>." ++ "<lambda>"), (tb57, ("_law_place_told" : Str) ++ ".<locals>." ++ "<lambda>"), (tb58, ("_law_more_told" : Str) ++ ".<locals>." ++ "<lambda>"), (tb60, ("_law_are_first_refused" : Str) ++ ".<locals>." ++ "<lambda>"), (tb61, ("_law_are_places_refused" : Str) ++ ".<locals>." ++ "<lambda>"), (tb62, ("_law_are_later_refused" : Str) ++ ".<locals>." ++ "<lambda>")] 2 tn rfl⟩,
    d59 := F59, g59 := PySem.W.mg_of X G a59, b59 := F59.binds (ps := ["_law_told", "_law_sign"]) fun _ _ _ _ _ _ us hl => match us, hl with | [_, _], _ => rfl,
    d60 := F60, g60 := PySem.W.mg_of X G a60, b60 := F60.binds (ps := []) fun _ _ _ _ _ _ us hl => match us, hl with | [], _ => rfl,
    c60 := ⟨⟨oc60, od60, kV60, dc60, pm60, an60, ct60, sl60, rfl, l60, c60⟩⟩, tb60 := TB _ (List.mem_cons_of_mem _ (List.mem_cons_of_mem _ (List.mem_cons_of_mem _ (List.mem_cons_self)))), tu60 := ⟨List.mem_cons_of_mem _ (List.mem_cons_of_mem _ (List.mem_cons_of_mem _ (List.mem_cons_self))), uq_of [(tb56, ("_law_level_told" : Str) ++ ".<locals>." ++ "<lambda>"), (tb57, ("_law_place_told" : Str) ++ ".<locals>." ++ "<lambda>"), (tb58, ("_law_more_told" : Str) ++ ".<locals>." ++ "<lambda>"), (tb60, ("_law_are_first_refused" : Str) ++ ".<locals>." ++ "<lambda>"), (tb61, ("_law_are_places_refused" : Str) ++ ".<locals>." ++ "<lambda>"), (tb62, ("_law_are_later_refused" : Str) ++ ".<locals>." ++ "<lambda>")] 3 tn rfl⟩,
    d61 := F61, g61 := PySem.W.mg_of X G a61, b61 := F61.binds (ps := []) fun _ _ _ _ _ _ us hl => match us, hl with | [], _ => rfl,
    c61 := ⟨⟨oc61, od61, kV61, dc61, pm61, an61, ct61, sl61, rfl, l61, c61⟩⟩, tb61 := TB _ (List.mem_cons_of_mem _ (List.mem_cons_of_mem _ (List.mem_cons_of_mem _ (List.mem_cons_of_mem _ (List.mem_cons_self))))), tu61 := ⟨List.mem_cons_of_mem _ (List.mem_cons_of_mem _ (List.mem_cons_of_mem _ (List.mem_cons_of_mem _ (List.mem_cons_self)))), uq_of [(tb56, ("_law_level_told" : Str) ++ ".<locals>." ++ "<lambda>"), (tb57, ("_law_place_told" : Str) ++ ".<locals>." ++ "<lambda>"), (tb58, ("_law_more_told" : Str) ++ ".<locals>." ++ "<lambda>"), (tb60, ("_law_are_first_refused" : Str) ++ ".<locals>." ++ "<lambda>"), (tb61, ("_law_are_places_refused" : Str) ++ ".<locals>." ++ "<lambda>"), (tb62, ("_law_are_later_refused" : Str) ++ ".<locals>." ++ "<lambda>")] 4 tn rfl⟩,
    d62 := F62, g62 := PySem.W.mg_of X G a62, b62 := F62.binds (ps := []) fun _ _ _ _ _ _ us hl => match us, hl with | [], _ => rfl,
    c62 := ⟨⟨oc62, od62, kV62, dc62, pm62, an62, ct62, sl62, rfl, l62, c62⟩⟩, tb62 := TB _ (List.mem_cons_of_mem _ (List.mem_cons_of_mem _ (List.mem_cons_of_mem _ (List.mem_cons_of_mem _ (List.mem_cons_of_mem _ (List.mem_cons_self)))))), tu62 := ⟨List.mem_cons_of_mem _ (List.mem_cons_of_mem _ (List.mem_cons_of_mem _ (List.mem_cons_of_mem _ (List.mem_cons_of_mem _ (List.mem_cons_self))))), uq_of [(tb56, ("_law_level_told" : Str) ++ ".<locals>." ++ "<lambda>"), (tb57, ("_law_place_told" : Str) ++ ".<locals>." ++ "<lambda>"), (tb58, ("_law_more_told" : Str) ++ ".<locals>." ++ "<lambda>"), (tb60, ("_law_are_first_refused" : Str) ++ ".<locals>." ++ "<lambda>"), (tb61, ("_law_are_places_refused" : Str) ++ ".<locals>." ++ "<lambda>"), (tb62, ("_law_are_later_refused" : Str) ++ ".<locals>." ++ "<lambda>")] 5 tn rfl⟩,
    d63 := F63, g63 := PySem.W.mg_of X G a63, b63 := F63.binds (ps := ["_law_script"]) fun _ _ _ _ _ _ us hl => match us, hl with | [_], _ => rfl,
    k17_level_letter_rule := kwb_of F17 fun _ _ _ _ _ _ ws hl => match ws, hl with | [_, _, _], _ => rfl,
    k42_other_place_level_letter_rule := kwb_of F42 fun _ _ _ _ _ _ ws hl => match ws, hl with | [_, _, _, _, _], _ => rfl,
    k20_level_letter_rule := kwb_of F20 fun _ _ _ _ _ _ ws hl => match ws, hl with | [_, _, _], _ => rfl,
    k18_level_letter_rule := kwb_of F18 fun _ _ _ _ _ _ ws hl => match ws, hl with | [_, _, _], _ => rfl,
    k19_level_letter_rule := kwb_of F19 fun _ _ _ _ _ _ ws hl => match ws, hl with | [_, _, _], _ => rfl,
    k33_place_level_letter_rule := kwb_of F33 fun _ _ _ _ _ _ ws hl => match ws, hl with | [_, _, _, _], _ => rfl,
    k46_place_letter_rule := kwb_of F46 fun _ _ _ _ _ _ ws hl => match ws, hl with | [_, _, _], _ => rfl,
    k37_place_level_letter_rule := kwb_of F37 fun _ _ _ _ _ _ ws hl => match ws, hl with | [_, _, _, _], _ => rfl,
    k39_path_letter_rule := kwb_of F39 fun _ _ _ _ _ _ ws hl => match ws, hl with | [_, _, _], _ => rfl,
    k43_index_other_level_letter_rule := kwb_of F43 fun _ _ _ _ _ _ ws hl => match ws, hl with | [_, _, _, _, _], _ => rfl,
    k44_rule := kwb_of F44 fun _ _ _ _ _ _ ws hl => match ws, hl with | [_], _ => rfl,
    k34_length_place_level_letter_rule := kwb_of F34 fun _ _ _ _ _ _ ws hl => match ws, hl with | [_, _, _, _, _], _ => rfl,
    m_all := PySem.W.mg_none_of X G z_all,
    m_bool := PySem.W.mg_none_of X G z_bool,
    m_enumerate := PySem.W.mg_none_of X G z_enumerate,
    m_int := PySem.W.mg_none_of X G z_int,
    m_isinstance := PySem.W.mg_none_of X G z_isinstance,
    m_len := PySem.W.mg_none_of X G z_len,
    m_list := PySem.W.mg_none_of X G z_list,
    m_max := PySem.W.mg_none_of X G z_max,
    m_range := PySem.W.mg_none_of X G z_range,
    m_repr := PySem.W.mg_none_of X G z_repr,
    m_sum := PySem.W.mg_none_of X G z_sum,
    m_tuple := PySem.W.mg_none_of X G z_tuple,
    e6 := ⟨x6, PySem.W.mg_of X G x6, ox6, in6, it6, no6, np6, xfB_ok xb6, rfl⟩, fn6 := Fi6, bi6 := Fi6.binds (ps := ["self", "word", "at"]) fun _ _ _ _ _ _ us hl => match us, hl with | [_, _, _], _ => rfl,
    ei6 := ⟨e16, (xfB_ok xb6).ga, (xfB_ok xb6).gg, (xfB_ok xb6).exC, e26, dg, tk, e66⟩,
    gx_LedError := PySem.W.mg_of X G x0,
    xm6_LedError := v6_LedError,
    gx_NotUsable := PySem.W.mg_of X G x6,
    xk6_NotUsable := y6_NotUsable,
    gx_PaperError := PySem.W.mg_of X G x1,
    xk6_PaperError := y6_PaperError,
    gx_WorldError := PySem.W.mg_of X G x2,
    xk6_WorldError := y6_WorldError,
  }
  exact ⟨_, [(co56, tb56), (co57, tb57), (co58, tb58), (co60, tb60), (co61, tb61), (co62, tb62)], spLaw K, all_cons (YT _ (List.mem_cons_self)) (all_cons (YT _ (List.mem_cons_of_mem _ (List.mem_cons_self))) (all_cons (YT _ (List.mem_cons_of_mem _ (List.mem_cons_of_mem _ (List.mem_cons_self)))) (all_cons (YT _ (List.mem_cons_of_mem _ (List.mem_cons_of_mem _ (List.mem_cons_of_mem _ (List.mem_cons_self))))) (all_cons (YT _ (List.mem_cons_of_mem _ (List.mem_cons_of_mem _ (List.mem_cons_of_mem _ (List.mem_cons_of_mem _ (List.mem_cons_self)))))) (all_cons (YT _ (List.mem_cons_of_mem _ (List.mem_cons_of_mem _ (List.mem_cons_of_mem _ (List.mem_cons_of_mem _ (List.mem_cons_of_mem _ (List.mem_cons_self))))))) (fun r hr => absurd hr (by simp))))))), all_cons n56 (all_cons n57 (all_cons n58 (all_cons n60 (all_cons n61 (all_cons n62 (fun r hr => absurd hr (by simp))))))), all_cons T56 (all_cons T57 (all_cons T58 (all_cons T60 (all_cons T61 (all_cons T62 (fun r hr => absurd hr (by simp))))))), fun s v => .of_eq rfl,
    fun H a ns hl hT hS => ⟨rfl, tabs0 [(co56, tb56), (co57, tb57), (co58, tb58), (co60, tb60), (co61, tb61), (co62, tb62)] _ rfl hT, a, ns, rfl, hS, fun _ => rfl⟩, fun base _ _ TB => ok_law (T base TB) math⟩

end K15
end

section
set_option Elab.async false
set_option linter.all false
open PySem PySem.W PyProof.Rows
set_option maxRecDepth 100000 in
set_option maxHeartbeats 0 in
theorem PySem.Challenge.cw_ledalong_k15_blocks_and_places_told_holds : PySem.Challenge.rw_ledalong_k15_blocks_and_places_told.Holds := by
  w_on; o_law; k_head; (case hw => w_witness2)
  k_fill
  letI : G.LamT := ⟨[]⟩
  refine G.walkG (l := PySem.Challenge.rw_ledalong_k15_blocks_and_places_told) (n := 63) (k := 12) (x := "_law_script") rfl (by decide) rfl ⟨⟨rfl, by decide, by decide⟩, rfl⟩ (fun w h Y => PySem.W.km_in_of Y) ?F
  case F =>
    intro w mg fa h Y KX G hmg
    refine' K15.all_mk KX G hmg ?a6 ?l6 ?c6 ?k6 ?a7 ?l7 ?c7 ?k7 ?a8 ?l8 ?c8 ?k8 ?a10 ?l10 ?c10 ?k10 ?a11 ?l11 ?c11 ?k11 ?a12 ?l12 ?c12 ?k12 ?a13 ?l13 ?c13 ?k13 ?a14 ?l14 ?c14 ?k14 ?a15 ?l15 ?c15 ?k15 ?a17 ?l17 ?c17 ?k17 ?a18 ?l18 ?c18 ?k18 ?a19 ?l19 ?c19 ?k19 ?a20 ?l20 ?c20 ?k20 ?a21 ?l21 ?c21 ?k21 ?a22 ?l22 ?c22 ?k22 ?a23 ?l23 ?c23 ?k23 ?a24 ?l24 ?c24 ?k24 ?a25 ?l25 ?c25 ?k25 ?a27 ?l27 ?c27 ?k27 ?a28 ?l28 ?c28 ?k28 ?a29 ?l29 ?c29 ?k29 ?a30 ?l30 ?c30 ?k30 ?a31 ?l31 ?c31 ?k31 ?a33 ?l33 ?c33 ?k33 ?a34 ?l34 ?c34 ?k34 ?a35 ?l35 ?c35 ?k35 ?a36 ?l36 ?c36 ?k36 ?a37 ?l37 ?c37 ?k37 ?a38 ?l38 ?c38 ?k38 ?a39 ?l39 ?c39 ?k39 ?a40 ?l40 ?c40 ?k40 ?a41 ?l41 ?c41 ?k41 ?a42 ?l42 ?c42 ?k42 ?a43 ?l43 ?c43 ?k43 ?a44 ?l44 ?c44 ?k44 ?a45 ?l45 ?c45 ?k45 ?a46 ?l46 ?c46 ?k46 ?a48 ?l48 ?c48 ?k48 ?a49 ?l49 ?c49 ?k49 ?a50 ?l50 ?c50 ?k50 ?a51 ?l51 ?c51 ?k51 ?a52 ?l52 ?c52 ?k52 ?a53 ?l53 ?c53 ?k53 ?a54 ?l54 ?c54 ?k54 ?a55 ?l55 ?c55 ?k55 ?a56 ?l56 ?c56 ?k56 ?t56 ?u56 ?n56 ?h56 ?a57 ?l57 ?c57 ?k57 ?t57 ?u57 ?n57 ?h57 ?a58 ?l58 ?c58 ?k58 ?t58 ?u58 ?n58 ?h58 ?a59 ?l59 ?c59 ?k59 ?a60 ?l60 ?c60 ?k60 ?t60 ?u60 ?n60 ?h60 ?a61 ?l61 ?c61 ?k61 ?t61 ?u61 ?n61 ?h61 ?a62 ?l62 ?c62 ?k62 ?t62 ?u62 ?n62 ?h62 ?a63 ?l63 ?c63 ?k63 ?z_all ?z_bool ?z_enumerate ?z_int ?z_isinstance ?z_len ?z_list ?z_max ?z_range ?z_repr ?z_sum ?z_tuple ?x0 ?x1 ?x2 ?x6 ?lk6 ?ex6 ?sa6 ?eb6 ?ty6 ?kc6 ?in6 ?it6 ?no6 ?np6 ?xb6 ?li6 ?ci6 ?ki6 ?e16 ?e26 ?e66 ?v6_LedError ?y6_NotUsable ?y6_PaperError ?y6_WorldError ?dg ?tk ?tn ?YT K15.math
    (case a6 => k_is)
    (case l6 => k_is)
    (case c6 => k_is)
    (case k6 => k_is)
    (case a7 => k_is)
    (case l7 => k_is)
    (case c7 => k_is)
    (case k7 => k_is)
    (case a8 => k_is)
    (case l8 => k_is)
    (case c8 => k_is)
    (case k8 => k_is)
    (case a10 => k_is)
    (case l10 => k_is)
    (case c10 => k_is)
    (case k10 => k_is)
    (case a11 => k_is)
    (case l11 => k_is)
    (case c11 => k_is)
    (case k11 => k_is)
    (case a12 => k_is)
    (case l12 => k_is)
    (case c12 => k_is)
    (case k12 => k_is)
    (case a13 => k_is)
    (case l13 => k_is)
    (case c13 => k_is)
    (case k13 => k_is)
    (case a14 => k_is)
    (case l14 => k_is)
    (case c14 => k_is)
    (case k14 => k_is)
    (case a15 => k_is)
    (case l15 => k_is)
    (case c15 => k_is)
    (case k15 => k_is)
    (case a17 => k_is)
    (case l17 => k_is)
    (case c17 => k_is)
    (case k17 => k_is)
    (case a18 => k_is)
    (case l18 => k_is)
    (case c18 => k_is)
    (case k18 => k_is)
    (case a19 => k_is)
    (case l19 => k_is)
    (case c19 => k_is)
    (case k19 => k_is)
    (case a20 => k_is)
    (case l20 => k_is)
    (case c20 => k_is)
    (case k20 => k_is)
    (case a21 => k_is)
    (case l21 => k_is)
    (case c21 => k_is)
    (case k21 => k_is)
    (case a22 => k_is)
    (case l22 => k_is)
    (case c22 => k_is)
    (case k22 => k_is)
    (case a23 => k_is)
    (case l23 => k_is)
    (case c23 => k_is)
    (case k23 => k_is)
    (case a24 => k_is)
    (case l24 => k_is)
    (case c24 => k_is)
    (case k24 => k_is)
    (case a25 => k_is)
    (case l25 => k_is)
    (case c25 => k_is)
    (case k25 => k_is)
    (case a27 => k_is)
    (case l27 => k_is)
    (case c27 => k_is)
    (case k27 => k_is)
    (case a28 => k_is)
    (case l28 => k_is)
    (case c28 => k_is)
    (case k28 => k_is)
    (case a29 => k_is)
    (case l29 => k_is)
    (case c29 => k_is)
    (case k29 => k_is)
    (case a30 => k_is)
    (case l30 => k_is)
    (case c30 => k_is)
    (case k30 => k_is)
    (case a31 => k_is)
    (case l31 => k_is)
    (case c31 => k_is)
    (case k31 => k_is)
    (case a33 => k_is)
    (case l33 => k_is)
    (case c33 => k_is)
    (case k33 => k_is)
    (case a34 => k_is)
    (case l34 => k_is)
    (case c34 => k_is)
    (case k34 => k_is)
    (case a35 => k_is)
    (case l35 => k_is)
    (case c35 => k_is)
    (case k35 => k_is)
    (case a36 => k_is)
    (case l36 => k_is)
    (case c36 => k_is)
    (case k36 => k_is)
    (case a37 => k_is)
    (case l37 => k_is)
    (case c37 => k_is)
    (case k37 => k_is)
    (case a38 => k_is)
    (case l38 => k_is)
    (case c38 => k_is)
    (case k38 => k_is)
    (case a39 => k_is)
    (case l39 => k_is)
    (case c39 => k_is)
    (case k39 => k_is)
    (case a40 => k_is)
    (case l40 => k_is)
    (case c40 => k_is)
    (case k40 => k_is)
    (case a41 => k_is)
    (case l41 => k_is)
    (case c41 => k_is)
    (case k41 => k_is)
    (case a42 => k_is)
    (case l42 => k_is)
    (case c42 => k_is)
    (case k42 => k_is)
    (case a43 => k_is)
    (case l43 => k_is)
    (case c43 => k_is)
    (case k43 => k_is)
    (case a44 => k_is)
    (case l44 => k_is)
    (case c44 => k_is)
    (case k44 => k_is)
    (case a45 => k_is)
    (case l45 => k_is)
    (case c45 => k_is)
    (case k45 => k_is)
    (case a46 => k_is)
    (case l46 => k_is)
    (case c46 => k_is)
    (case k46 => k_is)
    (case a48 => k_is)
    (case l48 => k_is)
    (case c48 => k_is)
    (case k48 => k_is)
    (case a49 => k_is)
    (case l49 => k_is)
    (case c49 => k_is)
    (case k49 => k_is)
    (case a50 => k_is)
    (case l50 => k_is)
    (case c50 => k_is)
    (case k50 => k_is)
    (case a51 => k_is)
    (case l51 => k_is)
    (case c51 => k_is)
    (case k51 => k_is)
    (case a52 => k_is)
    (case l52 => k_is)
    (case c52 => k_is)
    (case k52 => k_is)
    (case a53 => k_is)
    (case l53 => k_is)
    (case c53 => k_is)
    (case k53 => k_is)
    (case a54 => k_is)
    (case l54 => k_is)
    (case c54 => k_is)
    (case k54 => k_is)
    (case a55 => k_is)
    (case l55 => k_is)
    (case c55 => k_is)
    (case k55 => k_is)
    (case a56 => k_is)
    (case l56 => k_is)
    (case c56 => k_is)
    (case k56 => k_is)
    (case t56 => k_is)
    (case u56 => rfl)
    (case n56 => first | k_is | kernel_rfl)
    (case h56 => kernel_rfl)
    (case a57 => k_is)
    (case l57 => k_is)
    (case c57 => k_is)
    (case k57 => k_is)
    (case t57 => k_is)
    (case u57 => rfl)
    (case n57 => first | k_is | kernel_rfl)
    (case h57 => kernel_rfl)
    (case a58 => k_is)
    (case l58 => k_is)
    (case c58 => k_is)
    (case k58 => k_is)
    (case t58 => k_is)
    (case u58 => rfl)
    (case n58 => first | k_is | kernel_rfl)
    (case h58 => kernel_rfl)
    (case a59 => k_is)
    (case l59 => k_is)
    (case c59 => k_is)
    (case k59 => k_is)
    (case a60 => k_is)
    (case l60 => k_is)
    (case c60 => k_is)
    (case k60 => k_is)
    (case t60 => k_is)
    (case u60 => rfl)
    (case n60 => first | k_is | kernel_rfl)
    (case h60 => kernel_rfl)
    (case a61 => k_is)
    (case l61 => k_is)
    (case c61 => k_is)
    (case k61 => k_is)
    (case t61 => k_is)
    (case u61 => rfl)
    (case n61 => first | k_is | kernel_rfl)
    (case h61 => kernel_rfl)
    (case a62 => k_is)
    (case l62 => k_is)
    (case c62 => k_is)
    (case k62 => k_is)
    (case t62 => k_is)
    (case u62 => rfl)
    (case n62 => first | k_is | kernel_rfl)
    (case h62 => kernel_rfl)
    (case a63 => k_is)
    (case l63 => k_is)
    (case c63 => k_is)
    (case k63 => k_is)
    (case z_all => k_is)
    (case z_bool => k_is)
    (case z_enumerate => k_is)
    (case z_int => k_is)
    (case z_isinstance => k_is)
    (case z_len => k_is)
    (case z_list => k_is)
    (case z_max => k_is)
    (case z_range => k_is)
    (case z_repr => k_is)
    (case z_sum => k_is)
    (case z_tuple => k_is)
    (case x0 => k_is)
    (case x1 => k_is)
    (case x2 => k_is)
    (case x6 => k_is)
    (case lk6 => k_is)
    (case ex6 => exact ⟨_, _, _, _, _, _, _, _, _, _, _, _, _, _, _, rfl, rfl⟩)
    (case sa6 => k_is)
    (case eb6 => k_is)
    (case ty6 => k_is)
    (case kc6 => k_is)
    (case in6 => k_is)
    (case it6 => k_is)
    (case no6 => k_is)
    (case np6 => k_is)
    (case xb6 => kernel_rfl)
    (case li6 => k_is)
    (case ci6 => k_is)
    (case ki6 => k_is)
    (case e16 => kernel_rfl)
    (case e26 => k_is)
    (case e66 => k_is)
    (case v6_LedError => kernel_rfl)
    (case y6_NotUsable => kernel_rfl)
    (case y6_PaperError => kernel_rfl)
    (case y6_WorldError => kernel_rfl)
    (case dg => k_is)
    (case tk => k_is)
    (case tn => decide +kernel)
    (case YT => intro P hP; refine PySem.W.km_tabs_of Y P ?_; revert P; decide +kernel)
end
