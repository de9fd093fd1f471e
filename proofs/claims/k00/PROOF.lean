import PyProof.Rows.All
import Wide.All
import OpenK.AllK
import Wide.FinOn
import HandS.ForMost
import HandS.Flow
import HandS.Evl
import HandS.ExcInit
import HandS.ExcIs
import HandS.ExcField
import HandS.TupAny
import HandS.IsInst
import HandS.NoneIn
import HandS.FStr
import HandS.Style
import KE.SortData
import HandS.Zip
import HandS.CallLocal
import HandS.TupLe
import PyProof.TupleOfStr
import HandS.More
import HandS.ExcOwn
import HandS.WordsExc
import KE.KExcIs
import PySem.Challenge.RW_seatsahead_k00_errors
set_option Elab.async false
set_option linter.all false
set_option maxRecDepth 100000
set_option maxHeartbeats 4000000
namespace Mir
open PySem L2

abbrev Ex := Evl.Ex
/-- data at any depth -/
inductive D where
  | non | bl (b : Bool) | int (i : Int) | str (s : Str) | lst (xs : List D) | tup (xs : List D)
  | dct (kvs : List (Key × D)) | ins (c : Addr) (fs : List (Str × D)) | fn (f : Addr)
  /-- a list that is only read -/
  | fz (xs : List D)
  /-- a kept exception -/
  | xc (c : Addr) (fs : List (Str × D))
  deriving Inhabited
/-- a kept exception of the class at C, its dict at dx -/
def exv (C dx a : Addr) : HO := .ext fun h => ∃ (oe : Obj) (vs : Array Value), h.get? a = some oe ∧ Zc (.ref C) (some dx) oe ∧ oe.data = .fields vs
/-- a kept exception that keeps nothing -/
def exv0 (C a : Addr) : HO := .ext fun h => ∃ (oe : Obj) (vs : Array Value), h.get? a = some oe ∧ Zc (.ref C) none oe ∧ oe.data = .fields vs
mutual
inductive DD (K : PySem.W.Frag) (H : Hp) : V → D → Prop
  | non : DD K H .non .non
  | bl (b : Bool) : DD K H (.bl b) (.bl b)
  | int (i : Int) : DD K H (.int i) (.int i)
  | str (x : Str) : DD K H (.str x) (.str x)
  | lst {a : Addr} {vs : List V} {ds : List D} : H a = some (.lst vs) → DDs K H vs ds → DD K H (.ref a) (.lst ds)
  | tup {a : Addr} {vs : List V} {ds : List D} : SqT K H a vs → DDs K H vs ds → DD K H (.ref a) (.tup ds)
  | dct {a : Addr} {kvs : List (Key × V)} {es : List (Key × D)} : Rd H a (.dK kvs) → DDk K H kvs es → DD K H (.ref a) (.dct es)
  | ins {a C dx : Addr} {fs : List (Str × V)} {es : List (Str × D)} : H a = some (.ins C dx fs) → DDf K H fs es → DD K H (.ref a) (.ins C es)
  | exc {a C dx : Addr} {fs : List (Str × V)} {es : List (Str × D)} : H a = some (exv C dx a) → H dx = some (.xd fs) → DDf K H fs es → DD K H (.ref a) (.xc C es)
  | exc0 {a C : Addr} : H a = some (exv0 C a) → DD K H (.ref a) (.xc C [])
  | fn (f : Addr) : DD K H (.ref f) (.fn f)
  | fz {a : Addr} {vs : List V} {ds : List D} : SqL K H a vs → DDs K H vs ds → DD K H (.ref a) (.fz ds)
inductive DDs (K : PySem.W.Frag) (H : Hp) : List V → List D → Prop
  | nil : DDs K H [] []
  | cons {v : V} {vs : List V} {d : D} {ds : List D} : DD K H v d → DDs K H vs ds → DDs K H (v :: vs) (d :: ds)
inductive DDk (K : PySem.W.Frag) (H : Hp) : List (Key × V) → List (Key × D) → Prop
  | nil : DDk K H [] []
  | cons {k : Key} {v : V} {vs : List (Key × V)} {d : D} {ds : List (Key × D)} : DD K H v d → DDk K H vs ds → DDk K H ((k, v) :: vs) ((k, d) :: ds)
inductive DDf (K : PySem.W.Frag) (H : Hp) : List (Str × V) → List (Str × D) → Prop
  | nil : DDf K H [] []
  | cons {k : Str} {v : V} {vs : List (Str × V)} {d : D} {ds : List (Str × D)} : DD K H v d → DDf K H vs ds → DDf K H ((k, v) :: vs) ((k, d) :: ds)
end
section
variable {K : PySem.W.Frag} {H H' : Hp}
mutual
theorem DD.mono (e : Ex H H') : ∀ {d : D} {v : V}, DD K H v d → DD K H' v d
  | .non, _, h => by cases h; exact .non
  | .bl _, _, h => by cases h; exact .bl _
  | .int _, _, h => by cases h; exact .int _
  | .str _, _, h => by cases h; exact .str _
  | .lst _, _, h => by cases h with | lst a b => exact .lst (e _ _ a) (DDs.mono e b)
  | .tup _, _, h => by cases h with | tup a b => exact .tup (Evl.ex_t e a) (DDs.mono e b)
  | .dct _, _, h => by cases h with | dct a b => exact .dct (Evl.ex_rd e a) (DDk.mono e b)
  | .ins _ _, _, h => by cases h with | ins a b => exact .ins (e _ _ a) (DDf.mono e b)
  | .xc _ _, _, h => by cases h with
    | exc a b c => exact .exc (e _ _ a) (e _ _ b) (DDf.mono e c)
    | exc0 a => exact .exc0 (e _ _ a)
  | .fn _, _, h => by cases h; exact .fn _
  | .fz _, _, h => by cases h with | fz a b => exact .fz (Evl.ex_l e a) (DDs.mono e b)
theorem DDs.mono (e : Ex H H') : ∀ {ds : List D} {vs : List V}, DDs K H vs ds → DDs K H' vs ds
  | [], _, h => by cases h; exact .nil
  | _ :: _, _, h => by cases h with | cons a b => exact .cons (DD.mono e a) (DDs.mono e b)
theorem DDk.mono (e : Ex H H') : ∀ {ds : List (Key × D)} {vs : List (Key × V)}, DDk K H vs ds → DDk K H' vs ds
  | [], _, h => by cases h; exact .nil
  | (_, _) :: _, _, h => by cases h with | cons a b => exact .cons (DD.mono e a) (DDk.mono e b)
theorem DDf.mono (e : Ex H H') : ∀ {ds : List (Str × D)} {vs : List (Str × V)}, DDf K H vs ds → DDf K H' vs ds
  | [], _, h => by cases h; exact .nil
  | (_, _) :: _, _, h => by cases h with | cons a b => exact .cons (DD.mono e a) (DDf.mono e b)
end
theorem DDs.length : ∀ {vs : List V} {ds : List D}, DDs K H vs ds → vs.length = ds.length
  | _, _, .nil => rfl
  | _, _, .cons _ h => congrArg (· + 1) h.length
theorem DDs.get : ∀ {vs : List V} {ds : List D} {i : Nat} {d : D}, DDs K H vs ds → ds[i]? = some d → ∃ v, vs[i]? = some v ∧ DD K H v d
  | _, _, _, _, .nil, e => by simp at e
  | _, _, 0, _, .cons a _, e => by simp at e; subst e; exact ⟨_, rfl, a⟩
  | _, _, i + 1, d, .cons _ h, e => by
    obtain ⟨v, h1, h2⟩ := DDs.get (i := i) (d := d) h (by simpa using e)
    exact ⟨v, by simpa using h1, h2⟩
theorem DDs.getV : ∀ {vs : List V} {ds : List D} {i : Nat} {v : V}, DDs K H vs ds → vs[i]? = some v → ∃ d, ds[i]? = some d ∧ DD K H v d
  | _, _, _, _, .nil, e => by simp at e
  | _, _, 0, _, .cons a _, e => by simp at e; subst e; exact ⟨_, rfl, a⟩
  | _, _, i + 1, v, .cons _ h, e => by
    obtain ⟨d, h1, h2⟩ := DDs.getV (i := i) (v := v) h (by simpa using e)
    exact ⟨d, by simpa using h1, h2⟩
theorem DDs.append : ∀ {vs ws : List V} {ds es : List D}, DDs K H vs ds → DDs K H ws es → DDs K H (vs ++ ws) (ds ++ es)
  | _, _, _, _, .nil, h => h
  | _, _, _, _, .cons a b, h => .cons a (DDs.append b h)
theorem DDs.take : ∀ {vs : List V} {ds : List D} (n : Nat), DDs K H vs ds → DDs K H (vs.take n) (ds.take n)
  | _, _, 0, _ => .nil
  | _, _, _ + 1, .nil => .nil
  | _, _, n + 1, .cons a h => .cons a (DDs.take n h)
theorem DDs.drop : ∀ {vs : List V} {ds : List D} (n : Nat), DDs K H vs ds → DDs K H (vs.drop n) (ds.drop n)
  | _, _, 0, h => h
  | _, _, _ + 1, .nil => .nil
  | _, _, n + 1, .cons _ h => DDs.drop n h
theorem DDs.set {v : V} {d : D} (a : DD K H v d) : ∀ {vs : List V} {ds : List D} (i : Nat), DDs K H vs ds → DDs K H (vs.set i v) (ds.set i d)
  | _, _, _, .nil => .nil
  | _, _, 0, .cons _ t => .cons a t
  | _, _, i + 1, .cons q t => .cons q (DDs.set a i t)
theorem DDs.eraseIdx : ∀ {vs : List V} {ds : List D} (i : Nat), DDs K H vs ds → DDs K H (vs.eraseIdx i) (ds.eraseIdx i)
  | _, _, _, .nil => .nil
  | _, _, 0, .cons _ t => t
  | _, _, i + 1, .cons q t => .cons q (DDs.eraseIdx i t)
theorem DDs.dropLast : ∀ {vs : List V} {ds : List D}, DDs K H vs ds → DDs K H vs.dropLast ds.dropLast
  | _, _, .nil => .nil
  | _, _, .cons _ .nil => .nil
  | _, _, .cons q (.cons r t) => .cons q (DDs.dropLast (.cons r t))
theorem DDs.rev : ∀ {vs : List V} {ds : List D}, DDs K H vs ds → DDs K H vs.reverse ds.reverse
  | _, _, .nil => .nil
  | _, _, .cons q t => by
    rw [List.reverse_cons, List.reverse_cons]
    exact (DDs.rev t).append (.cons q .nil)
theorem DDs.ints : ∀ (ns : List Int), DDs K H (ns.map V.int) (ns.map D.int)
  | [] => .nil
  | n :: ns => .cons (.int n) (DDs.ints ns)
end

def msk (O : List Addr) (H : Hp) : Hp := fun a => if a ∈ O then none else H a
theorem msk_in {O : List Addr} {H : Hp} {a : Addr} (h : a ∈ O) : msk O H a = none := if_pos h
theorem msk_out {O : List Addr} {H : Hp} {a : Addr} (h : a ∉ O) : msk O H a = H a := if_neg h
theorem msk_ex {O : List Addr} {H : Hp} : Ex (msk O H) H := fun a o e => by
  by_cases h : a ∈ O
  · rw [msk_in h] at e; cases e
  · rwa [msk_out h] at e
theorem msk_mono {O : List Addr} {H H' : Hp} (e : Ex H H') : Ex (msk O H) (msk O H') := fun a o h => by
  by_cases q : a ∈ O
  · rw [msk_in q] at h; cases h
  · rw [msk_out q] at h ⊢; exact e a o h
theorem msk_upd {O : List Addr} {H : Hp} {p : Addr} {o : HO} (h : p ∈ O) : msk O (upd H p o) = msk O H := by
  funext a
  by_cases q : a ∈ O
  · rw [msk_in q, msk_in q]
  · rw [msk_out q, msk_out q, upd_ne (fun z => q (by rw [z]; exact h))]
theorem msk_sub {O O' : List Addr} {H : Hp} (h : ∀ q ∈ O, q ∈ O') : Ex (msk O' H) (msk O H) := fun a o e => by
  by_cases q : a ∈ O'
  · rw [msk_in q] at e; cases e
  · rw [msk_out q] at e; rw [msk_out fun z => q (h _ z)]; exact e
/-- hiding a fresh address more loses nothing of what stood before -/
theorem msk_cons_ex {O : List Addr} {H H' : Hp} {p : Addr} (hn : msk O H p = none) (e : Ex (msk O H) (msk O H')) : Ex (msk O H) (msk (p :: O) H') := fun a o h => by
  have hp : a ≠ p := fun z => by rw [z, hn] at h; cases h
  have hO : a ∉ O := fun z => by rw [msk_in z] at h; cases h
  have q := e a o h
  rw [msk_out hO] at q
  rw [msk_out (by simp only [List.mem_cons, not_or]; exact ⟨hp, hO⟩)]
  exact q

inductive Sl where
  | d (x : D) | ol (xs : List D) | io (xs : List D)
  /-- a value that is known as it stands (a def) -/
  | st (v : V)
  deriving Inhabited
abbrev Env := List (Option Sl)
inductive R (α : Type) where
  | ok (a : α) (e : Env) | ex (x : D) (e : Env) | bad
  deriving Inhabited
def M (α : Type) := Env → R α
@[reducible] def M.ret {α : Type} (a : α) : M α := fun e => .ok a e
def M.andThen {α β : Type} (m : M α) (f : α → M β) : M β := fun e => match m e with
  | .ok a e' => f a e'
  | .ex x e' => .ex x e'
  | .bad => .bad
instance : Monad M where
  pure := M.ret
  bind := M.andThen
def M.lift {α : Type} (o : Option α) : M α := fun e => match o with
  | some a => .ok a e
  | none => .bad

/-- ghosts of a frame: what outer frames own and no one here changes; all that outer frames own; where the given mutable lists stand -/
structure Gh where
  hp : Hp
  B : List Addr
  A : Nat → Addr

def SlR (K : PySem.W.Frag) (γ : Gh) (O : List Addr) (H : Hp) (i : Nat) (v : V) : Sl → Prop
  | .d x => DD K (msk O H) v x
  | .ol xs => ∃ p vs, v = .ref p ∧ p ∈ O ∧ p ∉ γ.B ∧ H p = some (.lst vs) ∧ DDs K (msk O H) vs xs
  | .io xs => ∃ vs, v = .ref (γ.A i) ∧ γ.A i ∈ γ.B ∧ γ.hp (γ.A i) = none ∧ H (γ.A i) = some (.lst vs) ∧ DDs K (msk O H) vs xs
  | .st u => v = u
structure Rel (K : PySem.W.Frag) (γ : Gh) (O : List Addr) (H : Hp) (σ : L2.St) (e : Env) : Prop where
  bo : ∀ q ∈ γ.B, q ∈ O
  live : ∀ q ∈ O, H q ≠ none
  gs : ∀ q o, γ.hp q = some o → q ∈ γ.B ∧ H q = some o
  len : σ.length = e.length
  sl : ∀ (i : Nat) (s : Sl), e[i]? = some (some s) → ∃ v, σ[i]? = some (some v) ∧ SlR K γ O H i v s
  dj : ∀ (i j : Nat) (xs ys : List D) (v : V), e[i]? = some (some (Sl.ol xs)) → e[j]? = some (some (Sl.ol ys)) → σ[i]? = some (some v) → σ[j]? = some (some v) → i = j
  ij : ∀ (i j : Nat) (xs ys : List D), e[i]? = some (some (Sl.io xs)) → e[j]? = some (some (Sl.io ys)) → γ.A i = γ.A j → i = j
section
variable {K : PySem.W.Frag} {γ : Gh} {O : List Addr} {H H' : Hp} {σ : L2.St} {e : Env}
theorem SlR.ext {i : Nat} {v : V} (x : Ex H H') : ∀ {s : Sl}, SlR K γ O H i v s → SlR K γ O H' i v s
  | .d _, h => DD.mono (msk_mono x) h
  | .ol _, ⟨p, vs, h1, h2, h3, h4, h5⟩ => ⟨p, vs, h1, h2, h3, x _ _ h4, h5.mono (msk_mono x)⟩
  | .io _, ⟨vs, h1, h2, h3, h4, h5⟩ => ⟨vs, h1, h2, h3, x _ _ h4, h5.mono (msk_mono x)⟩
  | .st _, h => h
theorem Rel.ext (r : Rel K γ O H σ e) (x : Ex H H') : Rel K γ O H' σ e where
  bo := r.bo
  live := fun q hq z => by
    cases h : H q with
    | none => exact r.live q hq h
    | some o => rw [x _ _ h] at z; cases z
  gs := fun q o h => ⟨(r.gs q o h).1, x _ _ (r.gs q o h).2⟩
  len := r.len
  sl := fun i s h => by
    obtain ⟨v, h1, h2⟩ := r.sl i s h
    exact ⟨v, h1, h2.ext x⟩
  dj := r.dj
  ij := r.ij
theorem Rel.out (r : Rel K γ O H σ e) {p : Addr} (h : H p = none) : p ∉ O := fun z => r.live p z h
end
/-- what a step of the frame may do to the rest -/
def Fr (O : List Addr) (H H' : Hp) : Prop := Ex (msk O H) (msk O H')
theorem Fr.refl (O : List Addr) (H : Hp) : Fr O H H := fun _ _ h => h
theorem Fr.trans {O : List Addr} {H H1 H2 : Hp} (a : Fr O H H1) (b : Fr O H1 H2) : Fr O H H2 := fun x o h => b x o (a x o h)
theorem Fr.ext {O : List Addr} {H H' : Hp} (x : Ex H H') : Fr O H H' := msk_mono x

/-- values that may be borrowed: data, or a slot's own list (looked up when it is used) -/
inductive Dv where
  | val (d : D) | slot (i : Nat)
  deriving Inhabited
def DvR (K : PySem.W.Frag) (O : List Addr) (H : Hp) (σ : L2.St) (v : V) : Dv → Prop
  | .val d => DD K (msk O H) v d
  | .slot i => σ[i]? = some (some v)
theorem DvR.fr {K : PySem.W.Frag} {O : List Addr} {H H' : Hp} {σ : L2.St} {v : V} (x : Fr O H H') : ∀ {d : Dv}, DvR K O H σ v d → DvR K O H' σ v d
  | .val _, h => DD.mono x h
  | .slot _, h => h
def rd : Dv → M D
  | .val d => M.ret d
  | .slot i => fun e => match e[i]? with
    | some (some (.d x)) => .ok x e
    | some (some (Sl.ol xs)) => .ok (.lst xs) e
    | some (some (Sl.io xs)) => .ok (.lst xs) e
    | _ => .bad
/-- readable data: data, or an owned list -/
inductive DB (K : PySem.W.Frag) (O : List Addr) (H : Hp) (v : V) : D → Prop
  | dd {d : D} : DD K (msk O H) v d → DB K O H v d
  | ow {p : Addr} {vs : List V} {ds : List D} : v = .ref p → H p = some (.lst vs) → DDs K (msk O H) vs ds → DB K O H v (.lst ds)
theorem DB.lst {K : PySem.W.Frag} {O : List Addr} {H : Hp} {v : V} {ds : List D} (h : DB K O H v (.lst ds)) : ∃ a vs, v = .ref a ∧ H a = some (.lst vs) ∧ DDs K (msk O H) vs ds := by
  cases h with
  | dd h => cases h with | lst a b => exact ⟨_, _, rfl, msk_ex _ _ a, b⟩
  | ow a b c => exact ⟨_, _, a, b, c⟩
theorem DB.any {K : PySem.W.Frag} {O : List Addr} {H : Hp} {v : V} {d : D} (h : DB K O H v d) (n : ∀ ds, d ≠ .lst ds) : DD K (msk O H) v d := by
  cases h with
  | dd h => exact h
  | ow a b c => exact absurd rfl (n _)
theorem DB.tup {K : PySem.W.Frag} {O : List Addr} {H : Hp} {v : V} {ds : List D} (h : DB K O H v (.tup ds)) : ∃ a vs, v = .ref a ∧ SqT K H a vs ∧ DDs K (msk O H) vs ds := by
  cases h.any (by intro _ z; cases z) with | tup a b => exact ⟨_, _, rfl, Evl.ex_t msk_ex a, b⟩
theorem DB.int {K : PySem.W.Frag} {O : List Addr} {H : Hp} {v : V} {i : Int} (h : DB K O H v (.int i)) : v = .int i := by
  cases h.any (by intro _ z; cases z); rfl
theorem DB.str {K : PySem.W.Frag} {O : List Addr} {H : Hp} {v : V} {i : Str} (h : DB K O H v (.str i)) : v = .str i := by
  cases h.any (by intro _ z; cases z); rfl
theorem DB.bl {K : PySem.W.Frag} {O : List Addr} {H : Hp} {v : V} {i : Bool} (h : DB K O H v (.bl i)) : v = .bl i := by
  cases h.any (by intro _ z; cases z); rfl
theorem DB.non {K : PySem.W.Frag} {O : List Addr} {H : Hp} {v : V} (h : DB K O H v .non) : v = .non := by
  cases h.any (by intro _ z; cases z); rfl
theorem rd_ok {K : PySem.W.Frag} {γ : Gh} {O : List Addr} {H : Hp} {σ : L2.St} {e e' : Env} {v : V} {dv : Dv} {d : D} (r : Rel K γ O H σ e) (h : DvR K O H σ v dv) (q : rd dv e = .ok d e') : e' = e ∧ DB K O H v d := by
  cases dv with
  | val x => cases q; exact ⟨rfl, .dd h⟩
  | slot i =>
    unfold rd at q
    dsimp only at q
    split at q
    · rename_i x hx; cases q
      obtain ⟨w, h1, h2⟩ := r.sl _ _ hx
      have hw : σ[i]? = some (some v) := h
      rw [h1] at hw; cases hw
      exact ⟨rfl, .dd h2⟩
    · rename_i x hx; cases q
      obtain ⟨w, h1, p, vs, h2, _, _, h3, h4⟩ := r.sl _ _ hx
      have hw : σ[i]? = some (some v) := h
      rw [h1] at hw; cases hw
      exact ⟨rfl, .ow h2 h3 h4⟩
    · rename_i x hx; cases q
      obtain ⟨w, h1, vs, h2, _, _, h3, h4⟩ := r.sl _ _ hx
      have hw : σ[i]? = some (some v) := h
      rw [h1] at hw; cases hw
      exact ⟨rfl, .ow h2 h3 h4⟩
    · cases q

abbrev XS := L2.St → XK
/-- what an exception's way wants -/
def GoodX (K : PySem.W.Frag) (γ : Gh) (O : List Addr) (H : Hp) (σ : L2.St) (E : XS) (x : D) (e' : Env) : Prop := match x with
  | .ins C fs => ∀ dx fv H', Rel K γ O H' σ e' → Fr O H H' → msk O H' dx = some (.xd fv) → DDf K (msk O H') fv fs → E σ (.ref C) (some dx) H'
  | _ => False
/-- a result r: what is wanted behind it, T telling how the value stands for it -/
def Good {α β : Type} (K : PySem.W.Frag) (γ : Gh) (O : List Addr) (H : Hp) (σ : L2.St) (E : XS) (T : Hp → β → α → Prop) (Q : β → Hp → Prop) : R α → Prop
  | .ok d e' => ∀ v H', Rel K γ O H' σ e' → Fr O H H' → T H' v d → Q v H'
  | .ex x e' => GoodX K γ O H σ E x e'
  | .bad => False
/-- general judgement -/
def J {α β : Type} (K : PySem.W.Frag) (E : XS) (T : List Addr → Hp → L2.St → β → α → Prop) (te : L2.St → Hp → (β → Hp → Prop) → Prop) (m : M α) : Prop :=
  ∀ γ O H σ e Q, Rel K γ O H σ e → Good K γ O H σ E (fun H' => T O H' σ) Q (m e) → te σ H Q
abbrev TDv (K : PySem.W.Frag) : List Addr → Hp → L2.St → V → Dv → Prop := fun O H σ v d => DvR K O H σ v d
abbrev TD (K : PySem.W.Frag) : List Addr → Hp → L2.St → V → D → Prop := fun O H _ v d => DD K (msk O H) v d
abbrev TDs (K : PySem.W.Frag) : List Addr → Hp → L2.St → List V → List D → Prop := fun O H _ v d => DDs K (msk O H) v d
inductive DvRs (K : PySem.W.Frag) (O : List Addr) (H : Hp) (σ : L2.St) : List V → List Dv → Prop
  | nil : DvRs K O H σ [] []
  | cons {v : V} {vs : List V} {d : Dv} {ds : List Dv} : DvR K O H σ v d → DvRs K O H σ vs ds → DvRs K O H σ (v :: vs) (d :: ds)
abbrev TB : List Addr → Hp → L2.St → Bool → Bool → Prop := fun _ _ _ v d => v = d
/-- expressions whose value may be kept; may be borrowed; tests; arguments -/
abbrev EX (K : PySem.W.Frag) (E : XS) (te : TE) (m : M D) : Prop := J K E (TD K) te m
abbrev EV (K : PySem.W.Frag) (E : XS) (te : TE) (m : M Dv) : Prop := J K E (TDv K) te m
abbrev ET (K : PySem.W.Frag) (E : XS) (te : TT) (m : M Bool) : Prop := J K E TB te m
abbrev EA (K : PySem.W.Frag) (E : XS) (te : TA) (m : M (List D)) : Prop := J K E (TDs K) te m
abbrev EW (K : PySem.W.Frag) (E : XS) (te : TA) (m : M (List Dv)) : Prop := J K E (fun O H σ v d => DvRs K O H σ v d) te m

section
variable {α β α' β' : Type} {K : PySem.W.Frag} {E : XS}
theorem GoodX.fr {γ : Gh} {O : List Addr} {H H1 : Hp} {σ : L2.St} {x : D} {e' : Env} (f : Fr O H H1) (g : GoodX K γ O H σ E x e') : GoodX K γ O H1 σ E x e' := by
  unfold GoodX at g ⊢
  split at g
  · intro dx fv H' r q
    exact g dx fv H' r (f.trans q)
  · exact g
theorem Good.fr {T : Hp → β → α → Prop} {γ : Gh} {O : List Addr} {H H1 : Hp} {σ : L2.St} {Q : β → Hp → Prop} {r : R α} (f : Fr O H H1) (g : Good K γ O H σ E T Q r) : Good K γ O H1 σ E T Q r := by
  cases r with
  | ok d e' => exact fun v H' r q t => g v H' r (f.trans q) t
  | ex x e1 => exact GoodX.fr (γ := γ) (e' := e1) f g
  | bad => exact g
/-- one behind another -/
theorem J.bind {T : List Addr → Hp → L2.St → β → α → Prop} {T' : List Addr → Hp → L2.St → β' → α' → Prop} {te : L2.St → Hp → (β → Hp → Prop) → Prop} {m : M α} {f : α → M α'}
    (h : J K E T te m) {γ : Gh} {O : List Addr} {H : Hp} {σ : L2.St} {e : Env} {Q : β → Hp → Prop} {Q' : β' → Hp → Prop} (r : Rel K γ O H σ e) (g : Good K γ O H σ E (fun H' => T' O H' σ) Q' ((m >>= f) e))
    (k : ∀ a e' v H', Rel K γ O H' σ e' → Fr O H H' → T O H' σ v a → Good K γ O H' σ E (fun H' => T' O H' σ) Q' (f a e') → Q v H') : te σ H Q := by
  refine h γ O H σ e Q r ?_
  have g' : Good K γ O H σ E (fun H' => T' O H' σ) Q' (M.andThen m f e) := g
  unfold M.andThen at g'
  cases q : m e with
  | ok a e' =>
    rw [q] at g'
    exact fun v H' r1 f1 t => k a e' v H' r1 f1 t (Good.fr f1 g')
  | ex x e' =>
    rw [q] at g'
    exact g'
  | bad =>
    rw [q] at g'
    exact g'
end
end Mir

set_option Elab.async false
set_option linter.all false
set_option maxRecDepth 100000
set_option maxHeartbeats 4000000
namespace Mir
open PySem L2

/-- at a heap whose owned things are hidden; the answer extends the heap -/
def OP2 (K : PySem.W.Frag) (r : R2) (f : D → D → Option D) : Prop :=
  ∀ (O : List Addr) (H : Hp) (x y : V) (dx dy d : D) (Q : VK), (∀ q ∈ O, H q ≠ none) → DB K O H x dx → DB K O H y dy → f dx dy = some d → (∀ v H', Ex H H' → DD K (msk O H') v d → Q v H') → r x y H Q
def OP1 (K : PySem.W.Frag) (r : V → Hp → VK → Prop) (f : D → Option D) : Prop :=
  ∀ (O : List Addr) (H : Hp) (x : V) (dx d : D) (Q : VK), (∀ q ∈ O, H q ≠ none) → DB K O H x dx → f dx = some d → (∀ v H', Ex H H' → DD K (msk O H') v d → Q v H') → r x H Q
inductive DBs (K : PySem.W.Frag) (O : List Addr) (H : Hp) : List V → List D → Prop
  | nil : DBs K O H [] []
  | cons {v : V} {vs : List V} {d : D} {ds : List D} : DB K O H v d → DBs K O H vs ds → DBs K O H (v :: vs) (d :: ds)
def OPn (K : PySem.W.Frag) (r : List V → Hp → VK → Prop) (f : List D → Option D) : Prop :=
  ∀ (O : List Addr) (H : Hp) (xs : List V) (ds : List D) (d : D) (Q : VK), (∀ q ∈ O, H q ≠ none) → DBs K O H xs ds → f ds = some d → (∀ v H', Ex H H' → DD K (msk O H') v d → Q v H') → r xs H Q
/-- answers that are new lists of one's own: xs stands at a fresh address -/
def OFn (K : PySem.W.Frag) (r : List V → Hp → VK → Prop) (f : List D → Option (List D)) : Prop :=
  ∀ (O : List Addr) (H : Hp) (xs : List V) (ds : List D) (d : List D) (Q : VK), (∀ q ∈ O, H q ≠ none) → DBs K O H xs ds → f ds = some d →
    (∀ p vs H', H p = none → Ex H H' → H' p = some (.lst vs) → DDs K (msk (p :: O) H') vs d → Q (.ref p) H') → r xs H Q

theorem DB.ext {K : PySem.W.Frag} {O : List Addr} {H H' : Hp} {v : V} {d : D} (x : Ex H H') (h : DB K O H v d) : DB K O H' v d := by
  cases h with
  | dd h => exact .dd (h.mono (msk_mono x))
  | ow a b c => exact .ow a (x _ _ b) (c.mono (msk_mono x))

section
variable {K : PySem.W.Frag} {E : XS} {γ : Gh} {O : List Addr} {H H' : Hp} {σ : L2.St} {e e' : Env}
theorem Good.ok {α β : Type} {T : Hp → β → α → Prop} {Q : β → Hp → Prop} {a : α} {b : β} (g : Good K γ O H σ E T Q (.ok a e)) (r : Rel K γ O H' σ e) (f : Fr O H H') (t : T H' b a) : Q b H' := g b H' r f t

/-- kept data may be borrowed -/
theorem EX.v {te : TE} {m : M D} (h : EX K E te m) : EV K E te (m >>= fun d => M.ret (.val d)) := fun γ O H σ e Q r g =>
  J.bind (T' := TDv K) h r g fun a e' v H' r1 f1 t g1 => g1 v H' r1 (Fr.refl _ _) t
theorem DvRs.fr {K : PySem.W.Frag} {O : List Addr} {H H' : Hp} {σ : L2.St} (x : Fr O H H') : ∀ {vs : List V} {ds : List Dv}, DvRs K O H σ vs ds → DvRs K O H' σ vs ds
  | _, _, .nil => .nil
  | _, _, .cons a b => .cons (a.fr x) (DvRs.fr x b)

def mVar (i : Nat) : M D := fun e => match e[i]? with
  | some (some (.d x)) => .ok x e
  | _ => .bad
def mOwn (i : Nat) : M Dv := fun e => match e[i]? with
  | some (some _) => .ok (.slot i) e
  | _ => .bad
theorem ex_var {i : Nat} : EX K E (tVar i) (mVar i) := fun γ O H σ e Q r g => by
  unfold mVar at g
  try dsimp only at g
  split at g
  · rename_i x hx
    obtain ⟨v, h1, h2⟩ := r.sl _ _ hx
    exact ⟨v, h1, g v H r (Fr.refl _ _) h2⟩
  · exact g.elim
theorem ev_own {i : Nat} : EV K E (tVar i) (mOwn i) := fun γ O H σ e Q r g => by
  unfold mOwn at g
  try dsimp only at g
  split at g
  · rename_i x hx
    obtain ⟨v, h1, h2⟩ := r.sl _ _ hx
    exact ⟨v, h1, g v H r (Fr.refl _ _) h1⟩
  · exact g.elim
theorem ex_c {v : V} {d : D} (h : ∀ H, DD K H v d) : EX K E (tC v) (M.ret d) := fun γ O H σ e Q r g => g v H r (Fr.refl _ _) (h _)
theorem ex_int {i : Int} : EX K E (tC (.int i)) (M.ret (.int i)) := ex_c fun _ => .int i
theorem ex_str {i : Str} : EX K E (tC (.str i)) (M.ret (.str i)) := ex_c fun _ => .str i
theorem ex_bl {i : Bool} : EX K E (tC (.bl i)) (M.ret (.bl i)) := ex_c fun _ => .bl i
theorem ex_non : EX K E (tC .non) (M.ret .non) := ex_c fun _ => .non

def mRd1 (m : M Dv) (f : D → Option D) : M D := m >>= fun a => rd a >>= fun x => M.lift (f x)
def mBin (f : D → D → Option D) (a b : M D) : M D := a >>= fun x => b >>= fun y => M.lift (f x y)
def mBinV (f : D → D → Option D) (a b : M Dv) : M D := a >>= fun x => b >>= fun y => rd x >>= fun dx => rd y >>= fun dy => M.lift (f dx dy)
theorem bind_eq {α β : Type} (m : M α) (f : α → M β) (e : Env) : (m >>= f) e = match m e with
  | .ok a e' => f a e'
  | .ex x e' => .ex x e'
  | .bad => .bad := rfl
theorem lift_some {α : Type} {o : Option α} {e : Env} {α' : Type} (h : M.lift o e ≠ .bad) : ∃ a, o = some a := by
  cases o with
  | none => exact absurd rfl h
  | some a => exact ⟨a, rfl⟩
theorem ex_op {r : R2} {f : D → D → Option D} {ta tb : TE} {a b : M D} (ho : OP2 K r f) (ha : EX K E ta a) (hb : EX K E tb b) : EX K E (tOp r ta tb) (mBin f a b) := fun γ O H σ e Q r0 g =>
  J.bind (T' := TD K) ha r0 g fun dx e1 x H1 r1 f1 t1 g1 => J.bind (T' := TD K) hb r1 g1 fun dy e2 y H2 r2 f2 t2 g2 => by
    unfold M.lift at g2
    try dsimp only at g2
    split at g2
    · rename_i d hd
      exact ho O H2 x y dx dy d Q r2.live (.dd (t1.mono f2)) (.dd t2) hd fun v H' xx dd => g2 v H' (r2.ext xx) (Fr.ext xx) dd
    · exact g2.elim
theorem ex_opV {r : R2} {f : D → D → Option D} {ta tb : TE} {a b : M Dv} (ho : OP2 K r f) (ha : EV K E ta a) (hb : EV K E tb b) : EX K E (tOp r ta tb) (mBinV f a b) := fun γ O H σ e Q r0 g =>
  J.bind (T' := TD K) ha r0 g fun dx e1 x H1 r1 f1 t1 g1 => J.bind (T' := TD K) hb r1 g1 fun dy e2 y H2 r2 f2 t2 g2 => by
    rw [bind_eq] at g2
    cases q1 : rd dx e2 with
    | bad => rw [q1] at g2; exact g2.elim
    | ex xx ee => 
      exfalso
      cases dx with
      | val d => cases q1
      | slot i => unfold rd at q1; dsimp only at q1; split at q1 <;> cases q1
    | ok d1 e3 =>
      rw [q1] at g2
      obtain ⟨rfl, b1⟩ := rd_ok r2 (t1.fr f2) q1
      try dsimp only at g2
      rw [bind_eq] at g2
      cases q2 : rd dy e3 with
      | bad => rw [q2] at g2; exact g2.elim
      | ex xx ee => 
        exfalso
        cases dy with
        | val d => cases q2
        | slot i => unfold rd at q2; dsimp only at q2; split at q2 <;> cases q2
      | ok d2 e4 =>
        rw [q2] at g2
        obtain ⟨rfl, b2⟩ := rd_ok r2 t2 q2
        try dsimp only at g2
        unfold M.lift at g2
        try dsimp only at g2
        split at g2
        · rename_i d hd
          exact ho O H2 x y d1 d2 d Q r2.live b1 b2 hd fun v H' xx dd => g2 v H' (r2.ext xx) (Fr.ext xx) dd
        · exact g2.elim
theorem ex_un {r : V → Hp → VK → Prop} {f : D → Option D} {ta : TE} {a : M D} (ho : OP1 K r f) (ha : EX K E ta a) : EX K E (tUn r ta) (a >>= fun x => M.lift (f x)) := fun γ O H σ e Q r0 g =>
  J.bind (T' := TD K) ha r0 g fun dx e1 x H1 r1 f1 t1 g1 => by
    unfold M.lift at g1
    try dsimp only at g1
    split at g1
    · rename_i d hd
      exact ho O H1 x dx d Q r1.live (.dd t1) hd fun v H' xx dd => g1 v H' (r1.ext xx) (Fr.ext xx) dd
    · exact g1.elim
def mNil : M (List D) := M.ret []
def mCons (a : M D) (b : M (List D)) : M (List D) := a >>= fun x => b >>= fun xs => M.ret (x :: xs)
theorem ea_nil : EA K E tNil mNil := fun γ O H σ e Q r g => g [] H r (Fr.refl _ _) .nil
theorem ea_cons {ta : TE} {tr : TA} {a : M D} {b : M (List D)} (ha : EX K E ta a) (hb : EA K E tr b) : EA K E (tCons ta tr) (mCons a b) := fun γ O H σ e Q r0 g =>
  J.bind (T' := TDs K) ha r0 g fun dx e1 x H1 r1 f1 t1 g1 => J.bind (T' := TDs K) hb r1 g1 fun dy e2 y H2 r2 f2 t2 g2 =>
    g2 (x :: y) H2 r2 (Fr.refl _ _) (.cons (t1.mono f2) t2)
def wNil : M (List Dv) := M.ret []
def wCons (a : M Dv) (b : M (List Dv)) : M (List Dv) := a >>= fun x => b >>= fun xs => M.ret (x :: xs)
theorem ew_nil : EW K E tNil wNil := fun γ O H σ e Q r g => g [] H r (Fr.refl _ _) .nil
theorem ew_cons {ta : TE} {tr : TA} {a : M Dv} {b : M (List Dv)} (ha : EV K E ta a) (hb : EW K E tr b) : EW K E (tCons ta tr) (wCons a b) := fun γ O H σ e Q r0 g =>
  J.bind (T' := fun O H σ v d => DvRs K O H σ v d) ha r0 g fun dx e1 x H1 r1 f1 t1 g1 => J.bind (T' := fun O H σ v d => DvRs K O H σ v d) hb r1 g1 fun dy e2 y H2 r2 f2 t2 g2 =>
    g2 (x :: y) H2 r2 (Fr.refl _ _) (.cons (t1.fr f2) t2)
def rds : List Dv → M (List D)
  | [] => M.ret []
  | a :: r => rd a >>= fun x => rds r >>= fun xs => M.ret (x :: xs)
theorem rd_noex {dv : Dv} {e e' : Env} {x : D} : rd dv e ≠ .ex x e' := fun q => by
  cases dv with
  | val d => cases q
  | slot i => unfold rd at q; try dsimp only at q; split at q <;> cases q
theorem rds_noex : ∀ {dvs : List Dv} {e e' : Env} {x : D}, rds dvs e ≠ .ex x e'
  | [], _, _, _, q => by cases q
  | a :: r, e, e', x, q => by
    unfold rds at q
    rw [bind_eq] at q
    cases q1 : rd a e with
    | bad => rw [q1] at q; cases q
    | ex _ _ => exact rd_noex q1
    | ok d e1 =>
      rw [q1] at q
      try dsimp only at q
      rw [bind_eq] at q
      cases q2 : rds r e1 with
      | bad => rw [q2] at q; cases q
      | ex _ _ => exact rds_noex q2
      | ok d e1 => rw [q2] at q; cases q
theorem rds_ok (r : Rel K γ O H σ e) : ∀ {vs : List V} {dvs : List Dv} {ds : List D} {e1 : Env}, DvRs K O H σ vs dvs → rds dvs e = .ok ds e1 → e1 = e ∧ DBs K O H vs ds := by
  intro vs dvs ds e1 h q
  induction h generalizing ds e1 with
  | nil => cases q; exact ⟨rfl, .nil⟩
  | @cons v vs dv dvs a b ih =>
    unfold rds at q
    rw [bind_eq] at q
    cases q1 : rd dv e with
    | bad => rw [q1] at q; cases q
    | ex _ _ => exact absurd q1 rd_noex
    | ok d e2 =>
      rw [q1] at q
      obtain ⟨z, h1⟩ := rd_ok r a q1
      rw [z] at q
      try dsimp only at q
      rw [bind_eq] at q
      cases q2 : rds dvs e with
      | bad => rw [q2] at q; cases q
      | ex _ _ => exact absurd q2 rds_noex
      | ok ds e3 =>
        rw [q2] at q
        obtain ⟨z2, h2⟩ := ih q2
        cases q
        exact ⟨z2, .cons h1 h2⟩
theorem DBs.of : ∀ {vs : List V} {ds : List D}, DDs K (msk O H) vs ds → DBs K O H vs ds
  | _, _, .nil => .nil
  | _, _, .cons a b => .cons (.dd a) (DBs.of b)
def mCB (f : List D → Option D) (a : M (List D)) : M D := a >>= fun xs => M.lift (f xs)
def mCW (f : List D → Option D) (a : M (List Dv)) : M D := a >>= fun vs => rds vs >>= fun xs => M.lift (f xs)
theorem ex_cb {r : List V → Hp → VK → Prop} {f : List D → Option D} {ta : TA} {a : M (List D)} (ho : OPn K r f) (ha : EA K E ta a) : EX K E (tCB r ta) (mCB f a) := fun γ O H σ e Q r0 g =>
  J.bind (T' := TD K) ha r0 g fun ds e1 xs H1 r1 f1 t1 g1 => by
    unfold M.lift at g1
    try dsimp only at g1
    split at g1
    · rename_i d hd
      exact ho O H1 xs ds d Q r1.live (.of t1) hd fun v H' xx dd => g1 v H' (r1.ext xx) (Fr.ext xx) dd
    · exact g1.elim
theorem ex_cw {r : List V → Hp → VK → Prop} {f : List D → Option D} {ta : TA} {a : M (List Dv)} (ho : OPn K r f) (ha : EW K E ta a) : EX K E (tCB r ta) (mCW f a) := fun γ O H σ e Q r0 g =>
  J.bind (T' := TD K) ha r0 g fun ds e1 xs H1 r1 f1 t1 g1 => by
    rw [bind_eq] at g1
    cases q1 : rds ds e1 with
    | bad => rw [q1] at g1; exact g1.elim
    | ex _ _ => exact absurd q1 rds_noex
    | ok d1 e3 =>
      rw [q1] at g1
      obtain ⟨rfl, b1⟩ := rds_ok r1 t1 q1
      unfold M.lift at g1
      try dsimp only at g1
      split at g1
      · rename_i d hd
        exact ho O H1 xs d1 d Q r1.live b1 hd fun v H' xx dd => g1 v H' (r1.ext xx) (Fr.ext xx) dd
      · exact g1.elim
def mLine (n : Nat) : Bool := decide (n ≤ 100000)
theorem mLine_ok {n : Nat} (h : mLine n = true) : n ≤ sizeLine := Evl.sz_of (of_decide_eq_true h)
theorem DD.new_tup {vs : List V} {ds : List D} {p : Addr} (h : H p = none) (hO : p ∉ O) (t : DDs K (msk O H) vs ds) : DD K (msk O (upd H p (.tup vs))) (.ref p) (.tup ds) :=
  .tup (.inl (.inl (by rw [msk_out hO]; exact upd_same))) (t.mono (msk_mono (Evl.Ex.new h)))
theorem DD.new_lst {vs : List V} {ds : List D} {p : Addr} (h : H p = none) (hO : p ∉ O) (t : DDs K (msk O H) vs ds) : DD K (msk O (upd H p (.lst vs))) (.ref p) (.lst ds) :=
  .lst (by rw [msk_out hO]; exact upd_same) (t.mono (msk_mono (Evl.Ex.new h)))
def mTup (a : M (List D)) : M D := a >>= fun xs => M.lift (if mLine xs.length = true then some (.tup xs) else none)
def mLst (a : M (List D)) : M D := a >>= fun xs => M.lift (if mLine xs.length = true then some (.lst xs) else none)
theorem ex_tup {ta : TA} {a : M (List D)} (ha : EA K E ta a) : EX K E (tTup ta) (mTup a) := fun γ O H σ e Q r0 g =>
  J.bind (T' := TD K) ha r0 g fun ds e1 xs H1 r1 f1 t1 g1 => by
    by_cases hl : mLine ds.length = true
    · rw [if_pos hl] at g1
      refine ⟨by rw [t1.length]; exact mLine_ok hl, fun p hp => ?_⟩
      exact g1 (.ref p) _ (r1.ext (Evl.Ex.new hp)) (Fr.ext (Evl.Ex.new hp)) (DD.new_tup hp (r1.out hp) t1)
    · rw [if_neg hl] at g1
      exact g1.elim
theorem ex_lst {ta : TA} {a : M (List D)} (ha : EA K E ta a) : EX K E (tLst ta) (mLst a) := fun γ O H σ e Q r0 g =>
  J.bind (T' := TD K) ha r0 g fun ds e1 xs H1 r1 f1 t1 g1 => by
    by_cases hl : mLine ds.length = true
    · rw [if_pos hl] at g1
      refine ⟨by rw [t1.length]; exact mLine_ok hl, fun p hp => ?_⟩
      exact g1 (.ref p) _ (r1.ext (Evl.Ex.new hp)) (Fr.ext (Evl.Ex.new hp)) (DD.new_lst hp (r1.out hp) t1)
    · rw [if_neg hl] at g1
      exact g1.elim
def mB (m : M D) : M Bool := m >>= fun d => match d with
  | .bl b => M.ret b
  | _ => fun _ => .bad
theorem et_B {te : TE} {m : M D} (h : EX K E te m) : ET K E (tB te) (mB m) := fun γ O H σ e Q r0 g =>
  J.bind (T' := TB) h r0 g fun d e1 v H1 r1 f1 t1 g1 => by
    cases d with
    | bl b => cases t1; exact ⟨b, rfl, g1 b H1 r1 (Fr.refl _ _) rfl⟩
    | _ => exact g1.elim
theorem et_test {te : TE} {m : M D} (h : EX K E te m) : ET K E (tTest te) (mB m) := et_B h
def mNot (m : M Bool) : M Bool := m >>= fun b => M.ret (!b)
def mAnd (m n : M Bool) : M Bool := m >>= fun b => if b = true then n else M.ret false
def mOr (m n : M Bool) : M Bool := m >>= fun b => if b = true then M.ret true else n
def mIf {α : Type} (c : M Bool) (m n : M α) : M α := c >>= fun b => if b = true then m else n
theorem et_not {t : TT} {m : M Bool} (h : ET K E t m) : ET K E (tNot t) (mNot m) := fun γ O H σ e Q r0 g =>
  J.bind (T' := TB) h r0 g fun d e1 v H1 r1 f1 t1 g1 => by
    cases t1
    exact g1 _ H1 r1 (Fr.refl _ _) rfl
theorem et_and {t u : TT} {m n : M Bool} (h : ET K E t m) (h2 : ET K E u n) : ET K E (tAnd t u) (mAnd m n) := fun γ O H σ e Q r0 g =>
  J.bind (T' := TB) h r0 g fun d e1 v H1 r1 f1 t1 g1 => by
    cases t1
    try dsimp only at g1 ⊢
    cases d with
    | true => exact h2 γ O H1 σ e1 Q r1 g1
    | false => exact g1 _ H1 r1 (Fr.refl _ _) rfl
theorem et_or {t u : TT} {m n : M Bool} (h : ET K E t m) (h2 : ET K E u n) : ET K E (tOr t u) (mOr m n) := fun γ O H σ e Q r0 g =>
  J.bind (T' := TB) h r0 g fun d e1 v H1 r1 f1 t1 g1 => by
    cases t1
    try dsimp only at g1 ⊢
    cases d with
    | false => exact h2 γ O H1 σ e1 Q r1 g1
    | true => exact g1 _ H1 r1 (Fr.refl _ _) rfl
theorem j_if {α β : Type} {T : List Addr → Hp → L2.St → β → α → Prop} {t : TT} {ta tb : L2.St → Hp → (β → Hp → Prop) → Prop} {c : M Bool} {m n : M α} (h : ET K E t c) (h1 : J K E T ta m) (h2 : J K E T tb n) :
    J K E T (fun σ H Q => t σ H fun c H1 => if c = true then ta σ H1 Q else tb σ H1 Q) (mIf c m n) := fun γ O H σ e Q r0 g =>
  J.bind (T' := T) h r0 g fun d e1 v H1 r1 f1 t1 g1 => by
    cases t1
    try dsimp only at g1 ⊢
    cases d with
    | true => exact h1 γ O H1 σ e1 Q r1 g1
    | false => exact h2 γ O H1 σ e1 Q r1 g1
theorem ex_if {t : TT} {ta tb : TE} {c : M Bool} {m n : M D} (h : ET K E t c) (h1 : EX K E ta m) (h2 : EX K E tb n) : EX K E (tIf t ta tb) (mIf c m n) := j_if h h1 h2
def mBl (m : M Bool) : M D := m >>= fun b => M.ret (.bl b)
/-- a and b, a or b, not a as values, all True or False -/
def mAndV (m n : M D) : M D := mB m >>= fun b => if b = true then n else M.ret (.bl false)
def mOrV (m n : M D) : M D := mB m >>= fun b => if b = true then M.ret (.bl true) else n
def mNotV (m : M D) : M D := mB m >>= fun b => M.ret (.bl (!b))
theorem ex_andV {ta tb : TE} {m n : M D} (h : EX K E ta m) (h2 : EX K E tb n) : EX K E (tAndV ta tb) (mAndV m n) := fun γ O H σ e Q r0 g =>
  J.bind (T' := TD K) (et_B h) r0 g fun d e1 v H1 r1 f1 t1 g1 => by
    cases t1
    try dsimp only at g1 ⊢
    cases d with
    | true => exact h2 γ O H1 σ e1 Q r1 g1
    | false => exact g1 _ H1 r1 (Fr.refl _ _) (.bl _)
theorem ex_orV {ta tb : TE} {m n : M D} (h : EX K E ta m) (h2 : EX K E tb n) : EX K E (tOrV ta tb) (mOrV m n) := fun γ O H σ e Q r0 g =>
  J.bind (T' := TD K) (et_B h) r0 g fun d e1 v H1 r1 f1 t1 g1 => by
    cases t1
    try dsimp only at g1 ⊢
    cases d with
    | false => exact h2 γ O H1 σ e1 Q r1 g1
    | true => exact g1 _ H1 r1 (Fr.refl _ _) (.bl _)
theorem ex_notV {ta : TE} {m : M D} (h : EX K E ta m) : EX K E (tNotV ta) (mNotV m) := fun γ O H σ e Q r0 g =>
  J.bind (T' := TD K) (et_B h) r0 g fun d e1 v H1 r1 f1 t1 g1 => by
    cases t1
    exact g1 _ H1 r1 (Fr.refl _ _) (.bl _)
end
end Mir

set_option Elab.async false
set_option linter.all false
set_option maxRecDepth 100000
set_option maxHeartbeats 4000000
namespace Mir
open PySem L2

def rOr (r r' : R2) : R2 := fun x y H Q => r x y H Q ∨ r' x y H Q
def rOrC (r r' : List V → Hp → VK → Prop) : List V → Hp → VK → Prop := fun x H Q => r x H Q ∨ r' x H Q
section
variable {X : Cx}
theorem OpR.or {f : Value → Value → Sem Value} {r r' : R2} (h : OpR X f r) (h' : OpR X f r') : OpR X f (rOr r r') := by
  intro pins s σ H x y v u Q I rx ry q
  rcases q with q | q
  · exact h pins s σ H x y v u Q I rx ry q
  · exact h' pins s σ H x y v u Q I rx ry q
theorem CallR.or {f : Value} {r r' : List V → Hp → VK → Prop} (h : CallR X f r) (h' : CallR X f r') : CallR X f (rOrC r r') := by
  intro pins s σ H xs us Q I rx q
  rcases q with q | q
  · exact h pins s σ H xs us Q I rx q
  · exact h' pins s σ H xs us Q I rx q
end
abbrev rStrAdd : R2 := fun x y H Q => ∃ i j, x = .str i ∧ y = .str j ∧ i.length + j.length ≤ sizeLine ∧ Q (.str (i ++ j)) H
abbrev rIntAdd : R2 := rI0 fun i j => .int (i + j)
abbrev rAddA (K : PySem.W.Frag) : R2 := rOr rIntAdd (rOr rStrAdd (rOr rCat (rCatA K)))
theorem opAddA {X : Cx} : OpR X (binaryOp .Add) (rAddA X.K) := op_add.or (op_add_str.or (op_cat.or op_catA))
abbrev rSubA : R2 := rI0 fun i j => .int (i - j)
theorem opSubA {X : Cx} : OpR X (binaryOp .Sub) rSubA := op_sub
abbrev rMulA : R2 := rOr (rI CMul fun i j => .int (i * j)) rRep
theorem opMulA {X : Cx} : OpR X (binaryOp .Mult) rMulA := op_mul.or op_rep
abbrev rModA : R2 := rI (fun _ j => j ≠ 0) fun i j => .int (i.fmod j)
abbrev rDivA : R2 := rI CDivN fun i j => .int (i.fdiv j)
abbrev rPowA : R2 := rI CPow fun i j => .int (i ^ j.toNat)
abbrev rLtI : R2 := rI0 fun i j => .bl (decide (i < j))

def dAdd : D → D → Option D
  | .int i, .int j => some (.int (i + j))
  | .str s, .str t => if mLine (s.length + t.length) = true then some (.str (s ++ t)) else none
  | .lst xs, .lst ys => if mLine (xs.length + ys.length) = true then some (.lst (xs ++ ys)) else none
  | .tup xs, .tup ys => if mLine (xs.length + ys.length) = true then some (.tup (xs ++ ys)) else none
  | _, _ => none
def dSub : D → D → Option D
  | .int i, .int j => some (.int (i - j))
  | _, _ => none
def small64 (i : Int) : Bool := decide (-(2 ^ 64) < i) && decide (i < 2 ^ 64)
def repD (n : Nat) (xs : List D) : List D := (List.replicate n xs).flatten
def dMul : D → D → Option D
  | .int i, .int j => if (small64 i || small64 j) = true then some (.int (i * j)) else none
  | .lst xs, .int k => if (decide (-1000000 ≤ k) && decide (k ≤ 1000000) && mLine (xs.length * k.toNat)) = true then some (.lst (repD k.toNat xs)) else none
  | _, _ => none
def dMod : D → D → Option D
  | .int i, .int j => if j = 0 then none else some (.int (i.fmod j))
  | _, _ => none
def dDiv : D → D → Option D
  | .int i, .int j => if j = 0 ∨ ¬ j.natAbs < 1073741824 then none else some (.int (i.fdiv j))
  | _, _ => none
def dPow : D → D → Option D
  | .int i, .int j => if (decide (0 ≤ j) && decide (j ≤ 1000000) && decide (i.natAbs < 2 ^ 64)) = true then some (.int (i ^ j.toNat)) else none
  | _, _ => none

section
variable {K : PySem.W.Frag}
theorem live_out {O : List Addr} {H : Hp} (l : ∀ q ∈ O, H q ≠ none) {p : Addr} (h : H p = none) : p ∉ O := fun z => l p z h
theorem op_addD : OP2 K (rAddA K) dAdd := fun O H x y dx dy d Q l hx hy h k => by
  unfold dAdd at h
  split at h
  · cases h; cases hx.int; cases hy.int
    exact .inl ⟨_, _, rfl, rfl, k _ H (Evl.Ex.refl H) (.int _)⟩
  · split at h
    · rename_i s t hl; cases h; cases hx.str; cases hy.str
      exact .inr (.inl ⟨_, _, rfl, rfl, mLine_ok hl, k _ H (Evl.Ex.refl H) (.str _)⟩)
    · cases h
  · split at h
    · rename_i s t hl; cases h
      obtain ⟨a, vs, rfl, ha, ra⟩ := hx.lst
      obtain ⟨b, ws, rfl, hb, rb⟩ := hy.lst
      refine .inr (.inr (.inl ⟨a, b, vs, ws, rfl, rfl, ha, hb, by rw [ra.length, rb.length]; exact mLine_ok hl, fun p hp => ?_⟩))
      exact k _ _ (Evl.Ex.new hp) (DD.new_lst hp (live_out l hp) (ra.append rb))
    · cases h
  · split at h
    · rename_i s t hl; cases h
      obtain ⟨a, vs, rfl, ha, ra⟩ := hx.tup
      obtain ⟨b, ws, rfl, hb, rb⟩ := hy.tup
      have ra0 := ra
      refine .inr (.inr (.inr ⟨a, b, vs, ws, rfl, rfl, ha, hb, by rw [ra.length, rb.length]; exact mLine_ok hl, fun e => ?_, fun _ e => ?_, fun _ _ p hp => ?_⟩))
      · subst e; cases ra
        exact k _ H (Evl.Ex.refl H) (hy.any (by intro _ z; cases z))
      · subst e; cases rb
        rw [List.append_nil] at k
        exact k _ H (Evl.Ex.refl H) (hx.any (by intro _ z; cases z))
      · exact k _ _ (Evl.Ex.new hp) (DD.new_tup hp (live_out l hp) (ra.append rb))
    · cases h
  · cases h
theorem op_subD : OP2 K rSubA dSub := fun O H x y dx dy d Q l hx hy h k => by
  unfold dSub at h
  split at h
  · cases h; cases hx.int; cases hy.int
    exact ⟨_, _, rfl, rfl, k _ H (Evl.Ex.refl H) (.int _)⟩
  · cases h
theorem DDs.rep {H : Hp} {vs : List V} {ds : List D} (h : DDs K H vs ds) : ∀ n : Nat, DDs K H (List.replicate n vs).flatten (repD n ds)
  | 0 => .nil
  | n + 1 => by
    have := h.append (DDs.rep h n)
    unfold repD at this ⊢
    rw [List.replicate_succ, List.replicate_succ, List.flatten_cons, List.flatten_cons]
    exact this
theorem op_mulD : OP2 K rMulA dMul := fun O H x y dx dy d Q l hx hy h k => by
  unfold dMul at h
  split at h
  · split at h
    · rename_i i j hs; cases h; cases hx.int; cases hy.int
      refine .inl ⟨_, _, rfl, rfl, ?_, k _ H (Evl.Ex.refl H) (.int _)⟩
      unfold small64 at hs
      simp only [Bool.or_eq_true, Bool.and_eq_true, decide_eq_true_eq] at hs
      exact hs
    · cases h
  · split at h
    · rename_i i j hs; cases h; cases hy.int
      obtain ⟨a, vs, rfl, ha, ra⟩ := hx.lst
      simp only [Bool.and_eq_true, decide_eq_true_eq] at hs
      refine .inr ⟨a, _, vs, rfl, rfl, ha, by omega, by omega, by rw [ra.length]; exact mLine_ok hs.2, fun p hp => ?_⟩
      exact k _ _ (Evl.Ex.new hp) (DD.new_lst hp (live_out l hp) (ra.rep _))
    · cases h
  · cases h
theorem op_modD : OP2 K rModA dMod := fun O H x y dx dy d Q l hx hy h k => by
  unfold dMod at h
  split at h
  · split at h
    · cases h
    · rename_i i j hs; cases h; cases hx.int; cases hy.int
      exact ⟨_, _, rfl, rfl, hs, k _ H (Evl.Ex.refl H) (.int _)⟩
  · cases h
theorem op_divD : OP2 K rDivA dDiv := fun O H x y dx dy d Q l hx hy h k => by
  unfold dDiv at h
  split at h
  · split at h
    · cases h
    · rename_i i j hs; cases h; cases hx.int; cases hy.int
      exact ⟨_, _, rfl, rfl, ⟨fun z => hs (.inl z), Decidable.byContradiction fun z => hs (.inr z)⟩, k _ H (Evl.Ex.refl H) (.int _)⟩
  · cases h
theorem op_powD : OP2 K rPowA dPow := fun O H x y dx dy d Q l hx hy h k => by
  unfold dPow at h
  split at h
  · split at h
    · rename_i i j hs; cases h; cases hx.int; cases hy.int
      simp only [Bool.and_eq_true, decide_eq_true_eq] at hs
      exact ⟨_, _, rfl, rfl, ⟨hs.1.1, hs.1.2, hs.2⟩, k _ H (Evl.Ex.refl H) (.int _)⟩
    · cases h
  · cases h
end

mutual
def toPy : D → Option PyData
  | .non => some .none
  | .bl b => some (.bool b)
  | .int i => some (.int i)
  | .str s => some (.str s)
  | .lst xs => (toPys xs).map .list
  | .tup xs => (toPys xs).map .tuple
  | .dct _ => none
  | .ins _ _ => none
  | .fn _ => none
  | .fz _ => none
  | .xc _ _ => none
def toPys : List D → Option (List PyData)
  | [] => some []
  | x :: xs => match toPy x, toPys xs with
    | some a, some b => some (a :: b)
    | _, _ => none
end
section
variable {K : PySem.W.Frag} {H : Hp}
mutual
theorem DD.dp : ∀ {d : D} {v : V} {p : PyData}, DD K H v d → toPy d = some p → Dp K H v p
  | .non, _, _, h, e => by cases h; cases e; exact .non
  | .bl _, _, _, h, e => by cases h; cases e; exact .bl _
  | .int _, _, _, h, e => by cases h; cases e; exact .int _
  | .str _, _, _, h, e => by cases h; cases e; exact .str _
  | .lst xs, _, _, h, e => by
    cases h with
    | lst a b =>
      unfold toPy at e
      cases q : toPys xs with
      | none => rw [q] at e; cases e
      | some ps => rw [q] at e; cases e; exact .lst (SqL.of a) (DDs.dp b q)
  | .tup xs, _, _, h, e => by
    cases h with
    | tup a b =>
      unfold toPy at e
      cases q : toPys xs with
      | none => rw [q] at e; cases e
      | some ps => rw [q] at e; cases e; exact .tup a (DDs.dp b q)
  | .dct _, _, _, _, e => by cases e
  | .ins _ _, _, _, _, e => by cases e
  | .fn _, _, _, _, e => by cases e
  | .fz _, _, _, _, e => by cases e
  | .xc _ _, _, _, _, e => by cases e
theorem DDs.dp : ∀ {ds : List D} {vs : List V} {ps : List PyData}, DDs K H vs ds → toPys ds = some ps → DpAll K H vs ps
  | [], _, _, h, e => by cases h; cases e; exact .nil
  | x :: xs, _, _, h, e => by
    cases h with
    | cons a b =>
      unfold toPys at e
      cases q : toPy x with
      | none => rw [q] at e; cases e
      | some p =>
        cases q2 : toPys xs with
        | none => rw [q, q2] at e; cases e
        | some ps => rw [q, q2] at e; cases e; exact .cons (DD.dp a q) (DDs.dp b q2)
end
end
theorem DB.dp {K : PySem.W.Frag} {O : List Addr} {H : Hp} {v : V} {d : D} {p : PyData} (h : DB K O H v d) (e : toPy d = some p) : Dp K H v p := by
  cases h with
  | dd h => exact (DD.mono msk_ex h).dp e
  | ow a b c => subst a; exact (DD.lst b (DDs.mono msk_ex c)).dp e
def eqD (a b : D) : Option Bool := match toPy a, toPy b with
  | some x, some y => if (SeqAt.shaped x && SeqAt.shaped y) = true then some (PyData.eqv x y) else none
  | _, _ => none
def dEq (a b : D) : Option D := (eqD a b).map .bl
def dNe (a b : D) : Option D := (eqD a b).map fun r => .bl (!r)
def ltStr (s t : Str) : Bool := decide (s.cps.toList < t.cps.toList)
abbrev rLtA : R2 := rOr (rI0 fun i j => .bl (decide (i < j))) (fun x y H Q => ∃ i j, x = .str i ∧ y = .str j ∧ Q (.bl (decide (i.cps.toList < j.cps.toList))) H)
abbrev rLeA : R2 := rOr (rI0 fun i j => .bl (decide (i ≤ j))) (fun x y H Q => ∃ i j, x = .str i ∧ y = .str j ∧ Q (.bl (!decide (j.cps.toList < i.cps.toList))) H)
abbrev rGtA : R2 := rOr (rI0 fun i j => .bl (decide (j < i))) (fun x y H Q => ∃ i j, x = .str i ∧ y = .str j ∧ Q (.bl (decide (j.cps.toList < i.cps.toList))) H)
abbrev rGeA : R2 := rOr (rI0 fun i j => .bl (decide (j ≤ i))) (fun x y H Q => ∃ i j, x = .str i ∧ y = .str j ∧ Q (.bl (!decide (i.cps.toList < j.cps.toList))) H)
def dLt : D → D → Option D
  | .int i, .int j => some (.bl (decide (i < j)))
  | .str s, .str t => some (.bl (ltStr s t))
  | _, _ => none
def dLe : D → D → Option D
  | .int i, .int j => some (.bl (decide (i ≤ j)))
  | .str s, .str t => some (.bl (!ltStr t s))
  | _, _ => none
def dGt : D → D → Option D
  | .int i, .int j => some (.bl (decide (j < i)))
  | .str s, .str t => some (.bl (ltStr t s))
  | _, _ => none
def dGe : D → D → Option D
  | .int i, .int j => some (.bl (decide (j ≤ i)))
  | .str s, .str t => some (.bl (!ltStr s t))
  | _, _ => none
section
variable {K : PySem.W.Frag}
theorem op_eqD' : OP2 K (rEqD K) dEq := fun O H x y dx dy d Q l hx hy h k => by
  unfold dEq eqD at h
  cases q1 : toPy dx with
  | none => rw [q1] at h; cases h
  | some a =>
    cases q2 : toPy dy with
    | none => rw [q1, q2] at h; cases h
    | some b =>
      rw [q1, q2] at h
      dsimp only at h
      split at h
      · rename_i hs
        cases h
        rw [Bool.and_eq_true] at hs
        exact ⟨a, b, hx.dp q1, hy.dp q2, hs.1, hs.2, k _ H (Evl.Ex.refl H) (.bl _)⟩
      · cases h
theorem op_neD' : OP2 K (rNeD K) dNe := fun O H x y dx dy d Q l hx hy h k => by
  unfold dNe eqD at h
  cases q1 : toPy dx with
  | none => rw [q1] at h; cases h
  | some a =>
    cases q2 : toPy dy with
    | none => rw [q1, q2] at h; cases h
    | some b =>
      rw [q1, q2] at h
      dsimp only at h
      split at h
      · rename_i hs
        cases h
        rw [Bool.and_eq_true] at hs
        exact ⟨a, b, hx.dp q1, hy.dp q2, hs.1, hs.2, k _ H (Evl.Ex.refl H) (.bl _)⟩
      · cases h
theorem op_ltD : OP2 K rLtA dLt := fun O H x y dx dy d Q l hx hy h k => by
  unfold dLt at h
  split at h
  · cases h; cases hx.int; cases hy.int
    exact .inl ⟨_, _, rfl, rfl, k _ H (Evl.Ex.refl H) (.bl _)⟩
  · cases h; cases hx.str; cases hy.str
    exact .inr ⟨_, _, rfl, rfl, k _ H (Evl.Ex.refl H) (.bl _)⟩
  · cases h
theorem op_leD : OP2 K rLeA dLe := fun O H x y dx dy d Q l hx hy h k => by
  unfold dLe at h
  split at h
  · cases h; cases hx.int; cases hy.int
    exact .inl ⟨_, _, rfl, rfl, k _ H (Evl.Ex.refl H) (.bl _)⟩
  · cases h; cases hx.str; cases hy.str
    exact .inr ⟨_, _, rfl, rfl, k _ H (Evl.Ex.refl H) (.bl _)⟩
  · cases h
theorem op_gtD : OP2 K rGtA dGt := fun O H x y dx dy d Q l hx hy h k => by
  unfold dGt at h
  split at h
  · cases h; cases hx.int; cases hy.int
    exact .inl ⟨_, _, rfl, rfl, k _ H (Evl.Ex.refl H) (.bl _)⟩
  · cases h; cases hx.str; cases hy.str
    exact .inr ⟨_, _, rfl, rfl, k _ H (Evl.Ex.refl H) (.bl _)⟩
  · cases h
theorem op_geD : OP2 K rGeA dGe := fun O H x y dx dy d Q l hx hy h k => by
  unfold dGe at h
  split at h
  · cases h; cases hx.int; cases hy.int
    exact .inl ⟨_, _, rfl, rfl, k _ H (Evl.Ex.refl H) (.bl _)⟩
  · cases h; cases hx.str; cases hy.str
    exact .inr ⟨_, _, rfl, rfl, k _ H (Evl.Ex.refl H) (.bl _)⟩
  · cases h
end
section
variable {X : Cx}
theorem opLtA : OpR X (compareOp .Lt) rLtA := op_lt.or op_lt_str
theorem opLeA : OpR X (compareOp .LtE) rLeA := op_le.or op_le_str
theorem opGtA : OpR X (compareOp .Gt) rGtA := op_gt.or op_gt_str
theorem opGeA : OpR X (compareOp .GtE) rGeA := op_ge.or op_ge_str
end
section
variable {K : PySem.W.Frag} {E : XS}
def isNon : D → Bool
  | .non => true
  | _ => false
end

section
variable {K : PySem.W.Frag}
abbrev rLenA (K : PySem.W.Frag) : List V → Hp → VK → Prop := fun xs H Q => ∃ x n, xs = [x] ∧ LenV K x H n ∧ Q (.int n) H
def dLen : List D → Option D
  | [.str s] => if mLine s.length = true then some (.int s.length) else none
  | [.lst xs] => some (.int xs.length)
  | [.tup xs] => some (.int xs.length)
  | _ => none
theorem DBs.one {O : List Addr} {H : Hp} {xs : List V} {d : D} (h : DBs K O H xs [d]) : ∃ x, xs = [x] ∧ DB K O H x d := by
  cases h with
  | cons a b => cases b; exact ⟨_, rfl, a⟩
theorem DBs.two {O : List Addr} {H : Hp} {xs : List V} {d e : D} (h : DBs K O H xs [d, e]) : ∃ x y, xs = [x, y] ∧ DB K O H x d ∧ DB K O H y e := by
  cases h with
  | cons a b => obtain ⟨y, rfl, hy⟩ := b.one; exact ⟨_, _, rfl, a, hy⟩
theorem len_D : OPn K (rLenA K) dLen := fun O H xs ds d Q l hz h k => by
  unfold dLen at h
  split at h
  · split at h
    · rename_i s hl; cases h
      obtain ⟨x, rfl, hx⟩ := hz.one
      cases hx.str
      exact ⟨_, _, rfl, ⟨mLine_ok hl, rfl⟩, k _ H (Evl.Ex.refl H) (.int _)⟩
    · cases h
  · cases h
    obtain ⟨x, rfl, hx⟩ := hz.one
    obtain ⟨a, vs, rfl, ha, ra⟩ := hx.lst
    exact ⟨_, _, rfl, .inl ⟨vs, SqL.of ha, rfl⟩, by rw [ra.length]; exact k _ H (Evl.Ex.refl H) (.int _)⟩
  · cases h
    obtain ⟨x, rfl, hx⟩ := hz.one
    obtain ⟨a, vs, rfl, ha, ra⟩ := hx.tup
    exact ⟨_, _, rfl, .inr ⟨vs, ha, rfl⟩, by rw [ra.length]; exact k _ H (Evl.Ex.refl H) (.int _)⟩
  · cases h
abbrev rIntA : List V → Hp → VK → Prop := rOrC (fun xs H Q => (∃ i, xs = [.int i] ∧ Q (.int i) H) ∨ ∃ k, xs = [.bl k] ∧ Q (.int (if k then 1 else 0)) H)
  (fun xs H Q => ∃ a n, xs = [.str a] ∧ PySem.intText? a = some n ∧ a.length ≤ 640 ∧ Q (.int n) H)
def dInt : List D → Option D
  | [.int i] => some (.int i)
  | [.bl b] => some (.int (if b = true then 1 else 0))
  | [.str s] => if s.length ≤ 640 then (PySem.intText? s).map .int else none
  | _ => none
theorem int_D : OPn K rIntA dInt := fun O H xs ds d Q l hz h k => by
  unfold dInt at h
  split at h
  · cases h
    obtain ⟨x, rfl, hx⟩ := hz.one
    cases hx.int
    exact .inl (.inl ⟨_, rfl, k _ H (Evl.Ex.refl H) (.int _)⟩)
  · cases h
    obtain ⟨x, rfl, hx⟩ := hz.one
    cases hx.bl
    exact .inl (.inr ⟨_, rfl, k _ H (Evl.Ex.refl H) (.int _)⟩)
  · split at h
    · rename_i s hl
      obtain ⟨x, rfl, hx⟩ := hz.one
      cases hx.str
      cases q : PySem.intText? s with
      | none => rw [q] at h; cases h
      | some n => rw [q] at h; cases h; exact .inr ⟨_, _, rfl, q, hl, k _ H (Evl.Ex.refl H) (.int _)⟩
    · cases h
  · cases h
theorem callIntA {X : Cx} : CallR X (.type "int") rIntA := call_int1.or call_int_str
abbrev rAbsA : List V → Hp → VK → Prop := fun xs H Q => ∃ i, xs = [.int i] ∧ Q (.int (if i < 0 then -i else i)) H
def dAbs : List D → Option D
  | [.int i] => some (.int (if i < 0 then -i else i))
  | _ => none
theorem abs_D : OPn K rAbsA dAbs := fun O H xs ds d Q l hz h k => by
  unfold dAbs at h
  split at h
  · cases h
    obtain ⟨x, rfl, hx⟩ := hz.one
    cases hx.int
    exact ⟨_, rfl, k _ H (Evl.Ex.refl H) (.int _)⟩
  · cases h
abbrev rMin2A : List V → Hp → VK → Prop := fun xs H Q => ∃ i j, xs = [.int i, .int j] ∧ Q (.int (if j < i then j else i)) H
def dMin2 : List D → Option D
  | [.int i, .int j] => some (.int (if j < i then j else i))
  | _ => none
theorem min2_D : OPn K rMin2A dMin2 := fun O H xs ds d Q l hz h k => by
  unfold dMin2 at h
  split at h
  · cases h
    obtain ⟨x, y, rfl, hx, hy⟩ := hz.two
    cases hx.int; cases hy.int
    exact ⟨_, _, rfl, k _ H (Evl.Ex.refl H) (.int _)⟩
  · cases h
abbrev rListA (K : PySem.W.Frag) : List V → Hp → VK → Prop := fun xs H Q => ∃ p ys, xs = [.ref p] ∧ (SqL K H p ys ∨ SqT K H p ys) ∧ ∀ l, H l = none → Q (.ref l) (upd H l (.lst ys))
def dList : List D → Option (List D)
  | [.lst xs] => some xs
  | [.tup xs] => some xs
  | _ => none
theorem list_F : OFn K (rListA K) dList := fun O H xs ds d Q l hz h k => by
  have fin : ∀ (p : Addr) (vs : List V), DDs K (msk O H) vs d → ∀ q, H q = none → Q (.ref q) (upd H q (.lst vs)) := fun p vs r q hq => by
    refine k q vs _ hq (Evl.Ex.new hq) upd_same ?_
    rw [msk_upd List.mem_cons_self]
    refine r.mono fun a o e => ?_
    have ha : a ≠ q := fun z => by
      have := msk_ex a o e
      rw [z, hq] at this
      cases this
    have hO : a ∉ O := fun z => by rw [msk_in z] at e; cases e
    rw [msk_out (by simp only [List.mem_cons, not_or]; exact ⟨ha, hO⟩)]
    rwa [msk_out hO] at e
  unfold dList at h
  split at h
  · cases h
    obtain ⟨x, rfl, hx⟩ := hz.one
    obtain ⟨a, vs, rfl, ha, ra⟩ := hx.lst
    exact ⟨a, vs, rfl, .inl (SqL.of ha), fin a vs ra⟩
  · cases h
    obtain ⟨x, rfl, hx⟩ := hz.one
    obtain ⟨a, vs, rfl, ha, ra⟩ := hx.tup
    exact ⟨a, vs, rfl, .inr ha, fin a vs ra⟩
  · cases h
/-- an answer of one's own may be kept as data -/
theorem OFn.dd {r : List V → Hp → VK → Prop} {f : List D → Option (List D)} (h : OFn K r f) : OPn K r (fun ds => (f ds).map .lst) := fun O H xs ds d Q l hx hf k => by
  replace hf : (f ds).map D.lst = some d := hf
  cases q : f ds with
  | none => rw [q] at hf; cases hf
  | some es =>
    rw [q] at hf
    cases hf
    refine h O H xs ds es Q l hx q fun p vs H' hp e h1 h2 => k _ H' e (.lst ?_ (h2.mono (msk_sub fun q hq => List.mem_cons_of_mem _ hq)))
    rw [msk_out (live_out l hp)]
    exact h1
abbrev rTupleA (K : PySem.W.Frag) : List V → Hp → VK → Prop := fun xs H Q => ∃ p ys, xs = [.ref p] ∧ ((SqL K H p ys ∧ ∀ l, H l = none → Q (.ref l) (upd H l (.tup ys))) ∨ (SqT K H p ys ∧ Q (.ref p) H))
def dTuple : List D → Option D
  | [.lst xs] => some (.tup xs)
  | [.tup xs] => some (.tup xs)
  | _ => none
theorem tuple_D : OPn K (rTupleA K) dTuple := fun O H xs ds d Q l hz h k => by
  unfold dTuple at h
  split at h
  · cases h
    obtain ⟨x, rfl, hx⟩ := hz.one
    obtain ⟨a, vs, rfl, ha, ra⟩ := hx.lst
    exact ⟨a, vs, rfl, .inl ⟨SqL.of ha, fun p hp => k _ _ (Evl.Ex.new hp) (DD.new_tup hp (live_out l hp) ra)⟩⟩
  · cases h
    obtain ⟨x, rfl, hx⟩ := hz.one
    have h2 := hx.any (by intro _ z; cases z)
    obtain ⟨a, vs, rfl, ha, ra⟩ := hx.tup
    exact ⟨a, vs, rfl, .inr ⟨ha, k _ H (Evl.Ex.refl H) h2⟩⟩
  · cases h
end
end Mir

set_option Elab.async false
set_option linter.all false
set_option maxRecDepth 100000
set_option maxHeartbeats 4000000
namespace Mir
open PySem L2

section
variable {K : PySem.W.Frag} {γ : Gh} {O : List Addr} {H H' : Hp} {σ : L2.St} {e : Env} {i : Nat} {v : V} {d : D}
def noIo (e : Env) (i : Nat) : Bool := match e[i]? with
  | some (some (.io _)) => false
  | some _ => true
  | none => false
theorem noIo_lt (h : noIo e i = true) : i < e.length := by
  unfold noIo at h
  split at h
  · cases h
  · rename_i hx; exact (List.getElem?_eq_some_iff.mp hx).1
  · cases h
theorem Rel.setD (r : Rel K γ O H σ e) (hi : i < e.length) (t : DD K (msk O H) v d) : Rel K γ O H (σ.set i (some v)) (e.set i (some (.d d))) where
  bo := r.bo
  live := r.live
  gs := r.gs
  len := by rw [List.length_set, List.length_set]; exact r.len
  sl := fun j s h => by
    by_cases hj : i = j
    · subst hj
      rw [List.getElem?_set_self hi] at h
      cases h
      exact ⟨v, List.getElem?_set_self (by rw [r.len]; exact hi), t⟩
    · rw [List.getElem?_set_ne hj] at h
      obtain ⟨w, h1, h2⟩ := r.sl j s h
      exact ⟨w, by rw [List.getElem?_set_ne hj]; exact h1, h2⟩
  dj := fun a b xs ys w ha hb va vb => by
    by_cases h1 : i = a
    · subst h1; rw [List.getElem?_set_self hi] at ha; cases ha
    · by_cases h2 : i = b
      · subst h2; rw [List.getElem?_set_self hi] at hb; cases hb
      · rw [List.getElem?_set_ne h1] at ha va
        rw [List.getElem?_set_ne h2] at hb vb
        exact r.dj a b xs ys w ha hb va vb
  ij := fun a b xs ys ha hb => by
    by_cases h1 : i = a
    · subst h1; rw [List.getElem?_set_self hi] at ha; cases ha
    · by_cases h2 : i = b
      · subst h2; rw [List.getElem?_set_self hi] at hb; cases hb
      · rw [List.getElem?_set_ne h1] at ha
        rw [List.getElem?_set_ne h2] at hb
        exact r.ij a b xs ys ha hb
/-- a slot forgotten -/
theorem Rel.drop (r : Rel K γ O H σ e) (x : Option V) : Rel K γ O H (σ.set i x) (e.set i none) where
  bo := r.bo
  live := r.live
  gs := r.gs
  len := by rw [List.length_set, List.length_set]; exact r.len
  sl := fun j s h => by
    by_cases hj : i = j
    · subst hj
      by_cases hi : i < e.length
      · rw [List.getElem?_set_self hi] at h; cases h
      · rw [List.getElem?_eq_none (by rw [List.length_set]; omega)] at h; cases h
    · rw [List.getElem?_set_ne hj] at h
      obtain ⟨w, h1, h2⟩ := r.sl j s h
      exact ⟨w, by rw [List.getElem?_set_ne hj]; exact h1, h2⟩
  dj := fun a b xs ys w ha hb va vb => by
    have no : ∀ (zs : List D), (e.set i none)[i]? ≠ some (some (Sl.ol zs)) := fun zs z => by
      by_cases hi : i < e.length
      · rw [List.getElem?_set_self hi] at z; cases z
      · rw [List.getElem?_eq_none (by rw [List.length_set]; omega)] at z; cases z
    by_cases h1 : i = a
    · subst h1; exact absurd ha (no _)
    · by_cases h2 : i = b
      · subst h2; exact absurd hb (no _)
      · rw [List.getElem?_set_ne h1] at ha va
        rw [List.getElem?_set_ne h2] at hb vb
        exact r.dj a b xs ys w ha hb va vb
  ij := fun a b xs ys ha hb => by
    have no : ∀ (zs : List D), (e.set i none)[i]? ≠ some (some (Sl.io zs)) := fun zs z => by
      by_cases hi : i < e.length
      · rw [List.getElem?_set_self hi] at z; cases z
      · rw [List.getElem?_eq_none (by rw [List.length_set]; omega)] at z; cases z
    by_cases h1 : i = a
    · subst h1; exact absurd ha (no _)
    · by_cases h2 : i = b
      · subst h2; exact absurd hb (no _)
      · rw [List.getElem?_set_ne h1] at ha
        rw [List.getElem?_set_ne h2] at hb
        exact r.ij a b xs ys ha hb
/-- a new list of one's own comes into a slot -/
theorem Rel.setO {p : Addr} {vs : List V} {xs : List D} (r0 : Rel K γ O H σ e) (hO : p ∉ O) (r : Rel K γ (p :: O) H σ e) (hi : i < e.length) (hp : H p = some (.lst vs)) (t : DDs K (msk (p :: O) H) vs xs) :
    Rel K γ (p :: O) H (σ.set i (some (.ref p))) (e.set i (some (.ol xs))) where
  bo := r.bo
  live := r.live
  gs := r.gs
  len := by rw [List.length_set, List.length_set]; exact r.len
  sl := fun j s h => by
    by_cases hj : i = j
    · subst hj
      rw [List.getElem?_set_self hi] at h
      cases h
      exact ⟨_, List.getElem?_set_self (by rw [r.len]; exact hi), p, vs, rfl, List.mem_cons_self, fun z => hO (r0.bo _ z), hp, t⟩
    · rw [List.getElem?_set_ne hj] at h
      obtain ⟨w, h1, h2⟩ := r.sl j s h
      exact ⟨w, by rw [List.getElem?_set_ne hj]; exact h1, h2⟩
  dj := fun a b xs ys w ha hb va vb => by
    have far : ∀ (c : Nat) (zs : List D), i ≠ c → e[c]? = some (some (Sl.ol zs)) → σ[c]? ≠ some (some (.ref p)) := fun c zs hc hz z => by
      obtain ⟨w, h1, q, us, h2, h3, _⟩ := r0.sl _ _ hz
      rw [z] at h1; cases h1
      cases h2
      exact hO h3
    by_cases h1 : i = a
    · subst h1
      rw [List.getElem?_set_self (by rw [r.len]; exact hi)] at va
      cases va
      by_cases h2 : i = b
      · exact h2
      · rw [List.getElem?_set_ne h2] at hb vb
        exact absurd vb (far b _ h2 hb)
    · by_cases h2 : i = b
      · subst h2
        rw [List.getElem?_set_self (by rw [r.len]; exact hi)] at vb
        cases vb
        rw [List.getElem?_set_ne h1] at ha va
        exact absurd va (far a _ h1 ha)
      · rw [List.getElem?_set_ne h1] at ha va
        rw [List.getElem?_set_ne h2] at hb vb
        exact r.dj a b _ _ w ha hb va vb
  ij := fun a b xs ys ha hb => by
    by_cases h1 : i = a
    · subst h1; rw [List.getElem?_set_self hi] at ha; cases ha
    · by_cases h2 : i = b
      · subst h2; rw [List.getElem?_set_self hi] at hb; cases hb
      · rw [List.getElem?_set_ne h1] at ha
        rw [List.getElem?_set_ne h2] at hb
        exact r.ij a b _ _ ha hb
/-- one's own list changes -/
theorem Rel.updO {p : Addr} {vs : List V} {xs ys : List D} (r : Rel K γ O H σ e) (hx : e[i]? = some (some (Sl.ol xs))) (hv : σ[i]? = some (some (.ref p))) (t : DDs K (msk O H) vs ys) :
    Rel K γ O (upd H p (.lst vs)) σ (e.set i (some (.ol ys))) ∧ Fr O H (upd H p (.lst vs)) := by
  have hi : i < e.length := (List.getElem?_eq_some_iff.mp hx).1
  obtain ⟨w, w1, p', us, e1, pO, pB, hp, _⟩ := r.sl _ _ hx
  rw [hv] at w1; cases w1; cases e1
  have mk : msk O (upd H p (.lst vs)) = msk O H := msk_upd pO
  refine ⟨⟨r.bo, fun q hq => ?_, fun q o h => ?_, by rw [List.length_set]; exact r.len, fun j s h => ?_, fun a b zs ws w ha hb va vb => ?_, fun a b zs ws ha hb => ?_⟩, fun a o h => by rw [mk]; exact h⟩
  · by_cases z : q = p
    · rw [z, upd_same]; intro x; cases x
    · rw [upd_ne z]; exact r.live q hq
  · obtain ⟨h1, h2⟩ := r.gs q o h
    refine ⟨h1, ?_⟩
    rw [upd_ne (fun z => pB (by rw [← z]; exact h1))]
    exact h2
  · by_cases hj : i = j
    · subst hj
      rw [List.getElem?_set_self hi] at h
      cases h
      exact ⟨_, hv, p, vs, rfl, pO, pB, upd_same, by rw [mk]; exact t⟩
    · rw [List.getElem?_set_ne hj] at h
      obtain ⟨w, h1, h2⟩ := r.sl j s h
      refine ⟨w, h1, ?_⟩
      cases s with
      | st u => exact h2
      | d x => show DD K (msk O _) w x; rw [mk]; exact h2
      | ol zs =>
        obtain ⟨q, qs, g1, g2, g3, g4, g5⟩ := h2
        refine ⟨q, qs, g1, g2, g3, ?_, by rw [mk]; exact g5⟩
        rw [upd_ne]
        · exact g4
        · intro z
          subst z; subst g1
          exact hj (r.dj i j _ _ _ hx h hv h1)
      | io zs =>
        obtain ⟨qs, g1, g2, g3, g4, g5⟩ := h2
        refine ⟨qs, g1, g2, g3, ?_, by rw [mk]; exact g5⟩
        rw [upd_ne]
        · exact g4
        · intro z
          exact pB (by rw [← z]; exact g2)
  · have cv : ∀ (c : Nat) (zs : List D), (e.set i (some (.ol ys)))[c]? = some (some (Sl.ol zs)) → ∃ us, e[c]? = some (some (Sl.ol us)) := fun c zs h => by
      by_cases hj : i = c
      · subst hj; exact ⟨_, hx⟩
      · rw [List.getElem?_set_ne hj] at h; exact ⟨_, h⟩
    obtain ⟨_, ha'⟩ := cv a _ ha
    obtain ⟨_, hb'⟩ := cv b _ hb
    exact r.dj a b _ _ w ha' hb' va vb
  · have cv : ∀ (c : Nat) (zs : List D), (e.set i (some (.ol ys)))[c]? = some (some (Sl.io zs)) → e[c]? = some (some (Sl.io zs)) := fun c zs h => by
      by_cases hj : i = c
      · subst hj; rw [List.getElem?_set_self hi] at h; cases h
      · rw [List.getElem?_set_ne hj] at h; exact h
    exact r.ij a b _ _ (cv a _ ha) (cv b _ hb)
/-- a given list changes -/
theorem Rel.updI {p : Addr} {vs : List V} {xs ys : List D} (r : Rel K γ O H σ e) (hx : e[i]? = some (some (Sl.io xs))) (hv : σ[i]? = some (some (.ref p))) (t : DDs K (msk O H) vs ys) :
    Rel K γ O (upd H p (.lst vs)) σ (e.set i (some (.io ys))) ∧ Fr O H (upd H p (.lst vs)) := by
  have hi : i < e.length := (List.getElem?_eq_some_iff.mp hx).1
  obtain ⟨w, w1, us, e1, pB, pn, hp, _⟩ := r.sl _ _ hx
  rw [hv] at w1; cases w1; cases e1
  have pO := r.bo _ pB
  have mk : msk O (upd H (γ.A i) (.lst vs)) = msk O H := msk_upd pO
  refine ⟨⟨r.bo, fun q hq => ?_, fun q o h => ?_, by rw [List.length_set]; exact r.len, fun j s h => ?_, fun a b zs ws w ha hb va vb => ?_, fun a b zs ws ha hb => ?_⟩, fun a o h => by rw [mk]; exact h⟩
  · by_cases z : q = γ.A i
    · rw [z, upd_same]; intro x; cases x
    · rw [upd_ne z]; exact r.live q hq
  · obtain ⟨h1, h2⟩ := r.gs q o h
    refine ⟨h1, ?_⟩
    rw [upd_ne (fun z => by rw [z, pn] at h; cases h)]
    exact h2
  · by_cases hj : i = j
    · subst hj
      rw [List.getElem?_set_self hi] at h
      cases h
      exact ⟨_, hv, vs, rfl, pB, pn, upd_same, by rw [mk]; exact t⟩
    · rw [List.getElem?_set_ne hj] at h
      obtain ⟨w, h1, h2⟩ := r.sl j s h
      refine ⟨w, h1, ?_⟩
      cases s with
      | st u => exact h2
      | d x => show DD K (msk O _) w x; rw [mk]; exact h2
      | ol zs =>
        obtain ⟨q, qs, g1, g2, g3, g4, g5⟩ := h2
        refine ⟨q, qs, g1, g2, g3, ?_, by rw [mk]; exact g5⟩
        rw [upd_ne (fun z => g3 (by rw [z]; exact pB))]
        exact g4
      | io zs =>
        obtain ⟨qs, g1, g2, g3, g4, g5⟩ := h2
        refine ⟨qs, g1, g2, g3, ?_, by rw [mk]; exact g5⟩
        rw [upd_ne]
        · exact g4
        · intro z
          exact hj (r.ij i j _ _ hx h z.symm)
  · have cv : ∀ (c : Nat) (zs : List D), (e.set i (some (.io ys)))[c]? = some (some (Sl.ol zs)) → e[c]? = some (some (Sl.ol zs)) := fun c zs h => by
      by_cases hj : i = c
      · subst hj; rw [List.getElem?_set_self hi] at h; cases h
      · rw [List.getElem?_set_ne hj] at h; exact h
    exact r.dj a b _ _ w (cv a _ ha) (cv b _ hb) va vb
  · have cv : ∀ (c : Nat) (zs : List D), (e.set i (some (.io ys)))[c]? = some (some (Sl.io zs)) → ∃ us, e[c]? = some (some (Sl.io us)) := fun c zs h => by
      by_cases hj : i = c
      · subst hj; exact ⟨_, hx⟩
      · rw [List.getElem?_set_ne hj] at h; exact ⟨_, h⟩
    obtain ⟨_, ha'⟩ := cv a _ ha
    obtain ⟨_, hb'⟩ := cv b _ hb
    exact r.ij a b _ _ ha' hb'
/-- a new owned address that no slot has -/
theorem Rel.more {p : Addr} {H' : Hp} {e' : Env} (r : Rel K γ O H σ e) (hp : H p = none) (x : Ex H H') (live : H' p ≠ none) : Rel K γ (p :: O) H' σ e where
  bo := fun q hq => List.mem_cons_of_mem _ (r.bo q hq)
  live := fun q hq => by
    rcases List.mem_cons.mp hq with z | z
    · rw [z]; exact live
    · exact (r.ext x).live q z
  gs := (r.ext x).gs
  len := r.len
  sl := fun i s h => by
    obtain ⟨w, h1, h2⟩ := r.sl i s h
    have mm : Ex (msk O H) (msk (p :: O) H') := msk_cons_ex (by by_cases z : p ∈ O; exact msk_in z; rw [msk_out z]; exact hp) (msk_mono x)
    refine ⟨w, h1, ?_⟩
    cases s with
    | st u => exact h2
    | d x => exact DD.mono mm h2
    | ol zs =>
      obtain ⟨q, qs, g1, g2, g3, g4, g5⟩ := h2
      exact ⟨q, qs, g1, List.mem_cons_of_mem _ g2, g3, x _ _ g4, g5.mono mm⟩
    | io zs =>
      obtain ⟨qs, g1, g2, g3, g4, g5⟩ := h2
      exact ⟨qs, g1, g2, g3, x _ _ g4, g5.mono mm⟩
  dj := r.dj
  ij := r.ij
end

inductive Out where
  | nx | rt (d : D) | rf (xs : List D) | bk | ct
  deriving Inhabited
def FrS (O : List Addr) (H : Hp) (O' : List Addr) (H' : Hp) : Prop := Ex (msk O H) (msk O' H')
theorem FrS.refl {O : List Addr} {H : Hp} : FrS O H O H := fun _ _ h => h
theorem FrS.trans {O O1 O2 : List Addr} {H H1 H2 : Hp} (a : FrS O H O1 H1) (b : FrS O1 H1 O2 H2) : FrS O H O2 H2 := fun x o h => b x o (a x o h)
def GoodS (K : PySem.W.Frag) (γ : Gh) (O : List Addr) (H : Hp) (E : XS) (D : Ends) : R Out → Prop
  | .ok .nx e' => ∀ O' σ' H', Rel K γ O' H' σ' e' → FrS O H O' H' → D.nx σ' H'
  | .ok .bk e' => ∀ O' σ' H', Rel K γ O' H' σ' e' → FrS O H O' H' → D.bk σ' H'
  | .ok .ct e' => ∀ O' σ' H', Rel K γ O' H' σ' e' → FrS O H O' H' → D.ct σ' H'
  | .ok (.rt d) e' => ∀ O' σ' v H', Rel K γ O' H' σ' e' → FrS O H O' H' → DD K (msk O' H') v d → D.rt v H'
  | .ok (.rf xs) e' => ∀ O' σ' p vs H', Rel K γ O' H' σ' e' → FrS O H O' H' → p ∈ O' → p ∉ γ.B → H' p = some (.lst vs) → DDs K (msk O' H') vs xs → D.rt (.ref p) H'
  | .ex (.ins C fs) e' => ∀ O' σ' dx fv H', Rel K γ O' H' σ' e' → FrS O H O' H' → msk O' H' dx = some (.xd fv) → DDf K (msk O' H') fv fs → E σ' (.ref C) (some dx) H'
  | .ex _ _ => False
  | .bad => False
def SX (K : PySem.W.Frag) (E : XS) (ts : TS) (m : M Out) : Prop := ∀ γ O H σ e D, Rel K γ O H σ e → GoodS K γ O H E D (m e) → ts D σ H
theorem GoodS.fr {K : PySem.W.Frag} {γ : Gh} {O O1 : List Addr} {H H1 : Hp} {E : XS} {D : Ends} {r : R Out} (f : FrS O H O1 H1) (g : GoodS K γ O H E D r) : GoodS K γ O1 H1 E D r := by
  cases r with
  | ok o e =>
    cases o with
    | nx => exact fun O' σ' H' r q => g O' σ' H' r (f.trans q)
    | bk => exact fun O' σ' H' r q => g O' σ' H' r (f.trans q)
    | ct => exact fun O' σ' H' r q => g O' σ' H' r (f.trans q)
    | rt d => exact fun O' σ' v H' r q => g O' σ' v H' r (f.trans q)
    | rf xs => exact fun O' σ' p vs H' r q => g O' σ' p vs H' r (f.trans q)
  | ex x e =>
    cases x with
    | ins C fs => exact fun O' σ' dx fv H' r q => g O' σ' dx fv H' r (f.trans q)
    | _ => exact g
  | bad => exact g
theorem Fr.s {O : List Addr} {H H' : Hp} (f : Fr O H H') : FrS O H O H' := f
section
variable {α β : Type} {K : PySem.W.Frag} {E : XS} {γ : Gh} {O : List Addr} {H : Hp} {σ : L2.St} {e : Env} {Dn : Ends}
/-- an expression, then the rest of the statement -/
theorem J.stmt {T : List Addr → Hp → L2.St → β → α → Prop} {te : L2.St → Hp → (β → Hp → Prop) → Prop} {m : M α} {f : α → M Out} {Q : β → Hp → Prop} (h : J K E T te m) (r : Rel K γ O H σ e)
    (g : GoodS K γ O H E Dn ((m >>= f) e)) (k : ∀ a e' v H', Rel K γ O H' σ e' → Fr O H H' → T O H' σ v a → GoodS K γ O H' E Dn (f a e') → Q v H') : te σ H Q := by
  refine h γ O H σ e Q r ?_
  rw [bind_eq] at g
  cases q : m e with
  | ok a e' =>
    rw [q] at g
    exact fun v H' r1 f1 t => k a e' v H' r1 f1 t (GoodS.fr f1.s g)
  | ex x e' =>
    rw [q] at g
    cases x with
    | ins C fs => exact fun dx fv H' r1 f1 q1 q2 => g O σ dx fv H' r1 f1.s q1 q2
    | _ => exact g
  | bad =>
    rw [q] at g
    exact g
def sNx : M Out := M.ret .nx
def sSeq (a b : M Out) : M Out := a >>= fun o => match o with
  | .nx => b
  | o => M.ret o
theorem sx_next : SX K E tNext sNx := fun γ O H σ e D r g => g O σ H r FrS.refl
theorem sx_seq {t u : TS} {a b : M Out} (h1 : SX K E t a) (h2 : SX K E u b) : SX K E (tSeq t u) (sSeq a b) := fun γ O H σ e D r g => by
  refine h1 γ O H σ e { D with nx := u D } r ?_
  unfold sSeq at g
  rw [bind_eq] at g
  cases q : a e with
  | ok o e' =>
    rw [q] at g
    cases o with
    | nx => exact fun O' σ' H' r1 f1 => h2 γ O' H' σ' e' D r1 (GoodS.fr f1 g)
    | bk => exact fun O' σ' H' r1 f1 => g O' σ' H' r1 f1
    | ct => exact fun O' σ' H' r1 f1 => g O' σ' H' r1 f1
    | rt d => exact fun O' σ' v H' r1 f1 => g O' σ' v H' r1 f1
    | rf xs => exact fun O' σ' p vs H' r1 f1 => g O' σ' p vs H' r1 f1
  | ex x e' =>
    rw [q] at g
    cases x with
    | ins C fs => exact g
    | _ => exact g
  | bad => rw [q] at g; exact g
def sRet (m : M D) : M Out := m >>= fun d => M.ret (.rt d)
theorem sx_ret {te : TE} {m : M D} (h : EX K E te m) : SX K E (tRet te) (sRet m) := fun γ O H σ e D r g =>
  J.stmt h r g fun d e' v H' r1 f1 t g1 => g1 O σ v H' r1 FrS.refl t
def sRetN : M Out := M.ret (.rt .non)
theorem sx_retN : SX K E tRetN sRetN := fun γ O H σ e D r g => g O σ .non H r FrS.refl .non
/-- return x, x a slot's own list -/
def sRetO (i : Nat) : M Out := fun e => match e[i]? with
  | some (some (.ol xs)) => .ok (.rf xs) e
  | _ => .bad
theorem sx_retO {i : Nat} : SX K E (tRet (tVar i)) (sRetO i) := fun γ O H σ e D r g => by
  unfold sRetO at g
  try dsimp only at g
  split at g
  · rename_i xs hx
    obtain ⟨w, h1, p, vs, e1, pO, pB, hp, t⟩ := r.sl _ _ hx
    subst e1
    exact ⟨_, h1, g O σ p vs H r FrS.refl pO pB hp t⟩
  · exact g.elim
def sExpr (m : M D) : M Out := m >>= fun _ => M.ret .nx
theorem sx_expr {te : TE} {m : M D} (h : EX K E te m) : SX K E (tDrop te) (sExpr m) := fun γ O H σ e D r g =>
  J.stmt h r g fun d e' v H' r1 f1 t g1 => g1 O σ H' r1 FrS.refl
def sBk : M Out := M.ret .bk
def sCt : M Out := M.ret .ct
theorem sx_bk : SX K E tBreak sBk := fun γ O H σ e D r g => g O σ H r FrS.refl
theorem sx_ct : SX K E tCont sCt := fun γ O H σ e D r g => g O σ H r FrS.refl
def sIf (c : M Bool) (a b : M Out) : M Out := c >>= fun r => if r = true then a else b
theorem sx_if {c : TT} {t u : TS} {m : M Bool} {a b : M Out} (h : ET K E c m) (h1 : SX K E t a) (h2 : SX K E u b) : SX K E (tIfS c t u) (sIf m a b) := fun γ O H σ e D r g =>
  J.stmt h r g fun d e' v H' r1 f1 t g1 => by
    cases t
    cases d with
    | true => exact h1 γ O H' σ e' D r1 g1
    | false => exact h2 γ O H' σ e' D r1 g1
def GX (K : PySem.W.Frag) (g : TG) (L : List Nat) (s : D → Env → Option Env) : Prop := ∀ γ O H σ e v d e' (k : L2.St → Hp → Prop), Rel K γ O H σ e → DD K (msk O H) v d → s d e = some e' →
  (∀ σ', Rel K γ O H σ' e' → (∀ vs : List Nat, (∀ i ∈ L, i ∈ vs) → wipe σ' vs = wipe σ vs) → k σ' H) → g v σ H k
def gSet (i : Nat) (d : D) : Env → Option Env := fun e => if noIo e i = true then some (e.set i (some (.d d))) else none
theorem wipe_out_set {σ : L2.St} {i : Nat} {x : Option V} : ∀ us : List Nat, i ∉ us → wipe (σ.set i x) us = (wipe σ us).set i x := by
  intro us
  induction us with
  | nil => intro _; rfl
  | cons u us ih =>
    intro hu
    simp only [List.mem_cons, not_or] at hu
    unfold wipe
    rw [ih hu.2, List.set_comm _ _ hu.1]
theorem wipe_in {σ : L2.St} {i : Nat} {x : Option V} : ∀ {vs : List Nat}, i ∈ vs → wipe (σ.set i x) vs = wipe σ vs
  | [], h => by simp at h
  | v :: vs, h => by
    unfold wipe
    by_cases hv : i ∈ vs
    · rw [wipe_in hv]
    · have e : i = v := by
        rcases List.mem_cons.mp h with z | z
        · exact z
        · exact absurd z hv
      subst e
      rw [wipe_out_set vs hv, List.set_set]
theorem gx_name {i : Nat} : GX K (gName i) [i] (gSet i) := fun γ O H σ e v d e' k r t h kk => by
  unfold gSet at h
  by_cases q : noIo e i = true
  · rw [if_pos q] at h
    cases h
    exact kk _ (r.setD (noIo_lt q) t) fun vs hv => wipe_in (hv i List.mem_cons_self)
  · rw [if_neg q] at h
    cases h
def GXs (K : PySem.W.Frag) (g : TGs) (n : Nat) (L : List Nat) (s : List D → Env → Option Env) : Prop := ∀ γ O H σ e vs ds e' (k : L2.St → Hp → Prop), ds.length = n → Rel K γ O H σ e → DDs K (msk O H) vs ds → s ds e = some e' →
  (∀ σ', Rel K γ O H σ' e' → (∀ vs : List Nat, (∀ i ∈ L, i ∈ vs) → wipe σ' vs = wipe σ vs) → k σ' H) → g vs σ H k
def gsNil (_ : List D) : Env → Option Env := some
def gsCons (a : D → Env → Option Env) (b : List D → Env → Option Env) : List D → Env → Option Env
  | d :: ds => fun e => (a d e).bind (b ds)
  | [] => fun _ => none
theorem gxs_nil : GXs K gNil 0 [] gsNil := fun γ O H σ e vs ds e' k hn r t h kk => by
  cases t with
  | nil => cases h; exact ⟨rfl, kk σ r fun _ _ => rfl⟩
  | cons _ _ => cases hn
theorem gxs_cons {g : TG} {gs : TGs} {n : Nat} {L L' : List Nat} {a : D → Env → Option Env} {b : List D → Env → Option Env} (h1 : GX K g L a) (h2 : GXs K gs n L' b) : GXs K (gCons g gs) (n + 1) (L ++ L') (gsCons a b) := fun γ O H σ e vs ds e' k hn r t h kk => by
  cases t with
  | nil => cases hn
  | @cons v vs d ds t1 t2 =>
    have h' : (a d e).bind (b ds) = some e' := h
    cases q : a d e with
    | none => rw [q] at h'; cases h'
    | some e1 =>
      rw [q] at h'
      exact ⟨v, vs, rfl, h1 γ O H σ e v d e1 _ r t1 q fun σ1 r1 w1 => h2 γ O H σ1 e1 vs ds e' k (Nat.succ.inj hn) r1 t2 h' fun σ2 r2 w2 =>
        kk σ2 r2 fun us hu => (w2 us fun i hi => hu i (List.mem_append_right _ hi)).trans (w1 us fun i hi => hu i (List.mem_append_left _ hi))⟩
def gTupD (n : Nat) (s : List D → Env → Option Env) : D → Env → Option Env
  | .tup ds => fun e => if ds.length = n then s ds e else none
  | .lst ds => fun e => if ds.length = n then s ds e else none
  | _ => fun _ => none
def gTupU (K : PySem.W.Frag) (n : Nat) (gs : TGs) : TG := fun v σ H Q => gTup K n gs v σ H Q ∨ gUnl K n gs v σ H Q
theorem pg_tupU {X : Cx} {pos : Pos} {es : List Expr} {k : Nat} {t : TGs} {n : Nat} (hc : X.calm = true) (h : PGs X es t)
    (hn : (assignEach es X.env).length = n := by rfl) (hst : (assignEach es X.env).findIdx? (·.1) = none := by rfl) : PG X (.Tuple es k pos) (gTupU X.K n t) :=
  ⟨fun pins s σ H v u Q I r hw => hw.elim ((pg_tup hc h hn hst).run pins s σ H v u Q I r) ((pg_unl hc h hn hst).run pins s σ H v u Q I r)⟩
theorem gx_tup {gs : TGs} {n : Nat} {L : List Nat} {s : List D → Env → Option Env} (h1 : GXs K gs n L s) : GX K (gTupU K n gs) L (gTupD n s) := fun γ O H σ e v d e' k r t h kk => by
  cases d with
  | tup ds =>
    have h' : (if ds.length = n then s ds e else none) = some e' := h
    by_cases hn : ds.length = n
    · rw [if_pos hn] at h'
      cases t with
      | tup a b => exact .inl ⟨_, _, rfl, Evl.ex_t msk_ex a, by rw [b.length]; exact hn, h1 γ O H σ e _ ds e' k hn r b h' kk⟩
    · rw [if_neg hn] at h'
      cases h'
  | lst ds =>
    have h' : (if ds.length = n then s ds e else none) = some e' := h
    by_cases hn : ds.length = n
    · rw [if_pos hn] at h'
      cases t with
      | lst a b => exact .inr ⟨_, _, rfl, SqL.of (msk_ex _ _ a), by rw [b.length]; exact hn, h1 γ O H σ e _ ds e' k hn r b h' kk⟩
    · rw [if_neg hn] at h'
      cases h'
  | _ => cases h
def sDo (o : Option Env) (e0 : Env) : R Out := match o with
  | some e => .ok .nx e
  | none => .bad
def sAsg (m : M D) (s : D → Env → Option Env) : M Out := m >>= fun d => fun e => sDo (s d e) e
theorem sx_asg {te : TE} {g : TG} {L : List Nat} {m : M D} {s : D → Env → Option Env} (h : EX K E te m) (hg : GX K g L s) : SX K E (tAsg te g) (sAsg m s) := fun γ O H σ e Dn r gd =>
  J.stmt h r gd fun d e' v H' r1 f1 t g1 => by
    cases q : s d e' with
    | none => rw [q] at g1; exact g1.elim
    | some e2 =>
      rw [q] at g1
      exact hg γ O H' σ e' v d e2 Dn.nx r1 t q fun σ' r2 _ => g1 O σ' H' r2 FrS.refl
def GoodF (K : PySem.W.Frag) (γ : Gh) (O : List Addr) (H : Hp) (σ : L2.St) (E : XS) (Q : VK) : R (List D) → Prop
  | .ok ds e' => ∀ p vs H', p ∉ O → Rel K γ O H' σ e' → Rel K γ (p :: O) H' σ e' → FrS O H (p :: O) H' → Fr O H H' → H' p = some (.lst vs) → DDs K (msk (p :: O) H') vs ds → Q (.ref p) H'
  | .ex x e' => GoodX K γ O H σ E x e'
  | .bad => False
def EF (K : PySem.W.Frag) (E : XS) (te : TE) (m : M (List D)) : Prop := ∀ γ O H σ e Q, Rel K γ O H σ e → GoodF K γ O H σ E Q (m e) → te σ H Q
def mF (m : M (List D)) : M D := m >>= fun ds => M.ret (.lst ds)
theorem EF.x {te : TE} {m : M (List D)} (h : EF K E te m) : EX K E te (mF m) := fun γ O H σ e Q r g => by
  refine h γ O H σ e Q r ?_
  unfold mF at g
  rw [bind_eq] at g
  cases q : m e with
  | ok ds e' =>
    rw [q] at g
    exact fun p vs H' hp r1 r2 f1 f2 h1 t => g (.ref p) H' r1 f2 (.lst (by rw [msk_out hp]; exact h1) (t.mono (msk_sub fun q hq => List.mem_cons_of_mem _ hq)))
  | ex x e' => rw [q] at g; exact g
  | bad => rw [q] at g; exact g
def putO (i : Nat) (ds : List D) : M Out := fun e => if noIo e i = true then .ok .nx (e.set i (some (.ol ds))) else .bad
def sOwn (i : Nat) (m : M (List D)) : M Out := m >>= putO i
theorem sx_own {te : TE} {i : Nat} {m : M (List D)} (h : EF K E te m) : SX K E (tAsg te (gName i)) (sOwn i m) := fun γ O H σ e Dn r g => by
  refine h γ O H σ e _ r ?_
  unfold sOwn at g
  rw [bind_eq] at g
  cases q : m e with
  | ok ds e' =>
    rw [q] at g
    intro p vs H' hp r1 r2 f1 f2 h1 t
    unfold putO at g
    try dsimp only at g
    by_cases z : noIo e' i = true
    · rw [if_pos z] at g
      exact g (p :: O) _ H' (Rel.setO r1 hp r2 (noIo_lt z) h1 t) f1
    · rw [if_neg z] at g
      exact g.elim
  | ex x e' =>
    rw [q] at g
    cases x with
    | ins C fs => exact fun dx fv H' r1 f1 q1 q2 => g O σ dx fv H' r1 f1.s q1 q2
    | _ => exact g
  | bad => rw [q] at g; exact g
/-- a new list laid at p -/
theorem ef_new {vs : List V} {ds : List D} {p : Addr} {Q : VK} {e' : Env} (r : Rel K γ O H σ e') (t : DDs K (msk O H) vs ds) (hp : H p = none)
    (g : GoodF K γ O H σ E Q (.ok ds e')) : Q (.ref p) (upd H p (.lst vs)) := by
  have hO := r.out hp
  have hm : msk O H p = none := by rw [msk_out hO]; exact hp
  have f : FrS O H (p :: O) (upd H p (.lst vs)) := msk_cons_ex hm (msk_mono (Evl.Ex.new hp))
  exact g p vs _ hO (r.ext (Evl.Ex.new hp)) (r.more (e' := e') hp (Evl.Ex.new hp) (by rw [upd_same]; intro z; cases z)) f (Fr.ext (Evl.Ex.new hp)) upd_same (t.mono f)
theorem GoodF.fr {H1 : Hp} {Q : VK} {r : R (List D)} (f : Fr O H H1) (g : GoodF K γ O H σ E Q r) : GoodF K γ O H1 σ E Q r := by
  cases r with
  | ok ds e' => exact fun p vs H' h1 h2 h3 h4 h5 => g p vs H' h1 h2 h3 (FrS.trans f.s h4) (f.trans h5)
  | ex x e' => exact GoodX.fr f g
  | bad => exact g
/-- an expression, then a new list -/
theorem J.own {T : List Addr → Hp → L2.St → β → α → Prop} {te : L2.St → Hp → (β → Hp → Prop) → Prop} {m : M α} {f : α → M (List D)} {Q' : VK} {Q : β → Hp → Prop} (h : J K E T te m) (r : Rel K γ O H σ e)
    (g : GoodF K γ O H σ E Q' ((m >>= f) e))
    (k : ∀ a e' v H', Rel K γ O H' σ e' → Fr O H H' → T O H' σ v a → GoodF K γ O H' σ E Q' (f a e') → Q v H') : te σ H Q := by
  refine h γ O H σ e Q r ?_
  rw [bind_eq] at g
  cases q : m e with
  | ok a e' =>
    rw [q] at g
    exact fun v H' r1 f1 t => k a e' v H' r1 f1 t (GoodF.fr (E := E) f1 g)
  | ex x e' => rw [q] at g; exact g
  | bad => rw [q] at g; exact g
def oLst (m : M (List D)) : M (List D) := m >>= fun ds => M.lift (if mLine ds.length = true then some ds else none)
theorem ef_lst {ta : TA} {m : M (List D)} (h : EA K E ta m) : EF K E (tLst ta) (oLst m) := fun γ O H σ e Q r g =>
  J.own (te := ta) (T := TDs K) (Q' := Q) h r g fun ds e' vs H' r1 f1 t g1 => by
    by_cases hl : mLine ds.length = true
    · rw [if_pos hl] at g1
      exact ⟨by rw [t.length]; exact mLine_ok hl, fun p hp => ef_new r1 t hp g1⟩
    · rw [if_neg hl] at g1
      exact g1.elim
end
end Mir

set_option Elab.async false
set_option linter.all false
set_option maxRecDepth 100000
set_option maxHeartbeats 4000000
namespace Mir
open PySem L2

/-- J yields the data ds, one behind another, whatever the frame does meanwhile -/
def ItD (K : PySem.W.Frag) (J : It) (O : List Addr) (H : Hp) (ds : List D) : Prop := ∃ S : List Addr → Hp → Prop, S O H ∧
  (∀ O H O' H', FrS O H O' H' → S O H → S O' H') ∧
  (∀ (O : List Addr) (H : Hp) (i : Nat) (d : D), (∀ q ∈ O, H q ≠ none) → S O H → ds[i]? = some d → J.go i H ∧ ∀ x H', J.yld i H x H' → Ex H H' ∧ DD K (msk O H') x d) ∧
  (∀ O H, S O H → J.stop ds.length H)
def GoodW (K : PySem.W.Frag) (γ : Gh) (O : List Addr) (H : Hp) (σ : L2.St) (E : XS) (Rr : It → Hp → Prop) : R (List D) → Prop
  | .ok ds e' => ∀ J H', Rel K γ O H' σ e' → Fr O H H' → ItD K J O H' ds → Rr J H'
  | .ex x e' => GoodX K γ O H σ E x e'
  | .bad => False
def JW (K : PySem.W.Frag) (E : XS) (wi : TI) (m : M (List D)) : Prop := ∀ γ O H σ e Rr, Rel K γ O H σ e → GoodW K γ O H σ E Rr (m e) → wi σ H Rr
theorem GoodW.fr {K : PySem.W.Frag} {γ : Gh} {O : List Addr} {H H1 : Hp} {σ : L2.St} {E : XS} {Rr : It → Hp → Prop} {r : R (List D)} (f : Fr O H H1) (g : GoodW K γ O H σ E Rr r) : GoodW K γ O H1 σ E Rr r := by
  cases r with
  | ok ds e' => exact fun J H' h1 h2 => g J H' h1 (f.trans h2)
  | ex x e' => exact GoodX.fr f g
  | bad => exact g
section
variable {α β : Type} {K : PySem.W.Frag} {E : XS} {γ : Gh} {O : List Addr} {H : Hp} {σ : L2.St} {e : Env} {Dn : Ends}
theorem J.walk {T : List Addr → Hp → L2.St → β → α → Prop} {te : L2.St → Hp → (β → Hp → Prop) → Prop} {m : M α} {f : α → M (List D)} {Rr : It → Hp → Prop} {Q : β → Hp → Prop} (h : J K E T te m) (r : Rel K γ O H σ e)
    (g : GoodW K γ O H σ E Rr ((m >>= f) e))
    (k : ∀ a e' v H', Rel K γ O H' σ e' → Fr O H H' → T O H' σ v a → GoodW K γ O H' σ E Rr (f a e') → Q v H') : te σ H Q := by
  refine h γ O H σ e Q r ?_
  rw [bind_eq] at g
  cases q : m e with
  | ok a e' =>
    rw [q] at g
    exact fun v H' r1 f1 t => k a e' v H' r1 f1 t (GoodW.fr (E := E) f1 g)
  | ex x e' => rw [q] at g; exact g
  | bad => rw [q] at g; exact g
def iAny (K : PySem.W.Frag) (tl : TE) : TI := fun σ H R => iList K tl σ H R ∨ iTup K tl σ H R ∨ iStr tl σ H R
theorem pi_any {X : Cx} {tg l : Expr} {tl : TE} (hl : PE X l tl) : PI X tg l (iAny X.K tl) := ⟨fun pins s σ H R I h => by
  rcases h with h | h | h
  · exact (pi_list hl).run pins s σ H R I h
  · exact (pi_tup hl).run pins s σ H R I h
  · exact (pi_str hl).run pins s σ H R I h⟩
def signs (z : Str) : List D := z.cps.toList.map fun c => .str ⟨#[c]⟩
def dSeq : D → Option (List D)
  | .lst xs => some xs
  | .tup xs => some xs
  | .str z => some (signs z)
  | _ => none
theorem itD_list {a : Addr} {vs : List V} {ds : List D} (ha : msk O H a = some (.lst vs)) (t : DDs K (msk O H) vs ds) : ItD K (Itl K a) O H ds := by
  refine ⟨fun O H => msk O H a = some (.lst vs) ∧ DDs K (msk O H) vs ds, ⟨ha, t⟩, fun O H O' H' f h => ⟨f _ _ h.1, h.2.mono f⟩, fun O H i d l h hd => ?_, fun O H h => ?_⟩
  · obtain ⟨v, hv, td⟩ := h.2.get hd
    have sq : SqL K H a vs := SqL.of (msk_ex _ _ h.1)
    refine ⟨⟨vs, v, sq, hv⟩, fun x H' y => ?_⟩
    obtain ⟨rfl, y⟩ := y
    have := y vs sq
    rw [hv] at this; cases this
    exact ⟨Evl.Ex.refl _, td⟩
  · exact ⟨vs, SqL.of (msk_ex _ _ h.1), by rw [h.2.length]; exact Nat.le_refl _⟩
theorem itD_tup {a : Addr} {vs : List V} {ds : List D} (ha : SqT K (msk O H) a vs) (t : DDs K (msk O H) vs ds) : ItD K (Itt K a) O H ds := by
  refine ⟨fun O H => SqT K (msk O H) a vs ∧ DDs K (msk O H) vs ds, ⟨ha, t⟩, fun O H O' H' f h => ⟨Evl.ex_t f h.1, h.2.mono f⟩, fun O H i d l h hd => ?_, fun O H h => ?_⟩
  · obtain ⟨v, hv, td⟩ := h.2.get hd
    have sq : SqT K H a vs := Evl.ex_t msk_ex h.1
    refine ⟨⟨vs, v, sq, hv⟩, fun x H' y => ?_⟩
    obtain ⟨rfl, y⟩ := y
    have := y vs sq
    rw [hv] at this; cases this
    exact ⟨Evl.Ex.refl _, td⟩
  · exact ⟨vs, Evl.ex_t msk_ex h.1, by rw [h.2.length]; exact Nat.le_refl _⟩
theorem itD_str {z : Str} : ItD K (Its z) O H (signs z) := by
  refine ⟨fun _ _ => True, trivial, fun _ _ _ _ _ _ => trivial, fun O H i d l h hd => ?_, fun O H h => ?_⟩
  · unfold signs at hd
    rw [List.getElem?_map] at hd
    cases q : z.cps.toList[i]? with
    | none => rw [q] at hd; cases hd
    | some c =>
      rw [q] at hd; cases hd
      have q' : z.cps[i]? = some c := by simpa using q
      refine ⟨(Array.getElem?_eq_some_iff.mp q').1, fun x H' y => ?_⟩
      obtain ⟨rfl, c', y1, y2⟩ := y
      rw [q'] at y1; cases y1; subst y2
      exact ⟨Evl.Ex.refl _, .str _⟩
  · show z.cps.size ≤ (signs z).length
    unfold signs
    simp
def wAny (m : M D) : M (List D) := m >>= fun d => M.lift (dSeq d)
theorem jw_any {tl : TE} {m : M D} (h : EX K E tl m) : JW K E (iAny K tl) (wAny m) := fun γ O H σ e Rr r g => by
  unfold wAny at g
  rw [bind_eq] at g
  cases q : m e with
  | bad => rw [q] at g; exact g.elim
  | ex x e' => rw [q] at g; exact .inl (h γ O H σ e _ r (by rw [q]; exact g))
  | ok d e' =>
    rw [q] at g
    cases d with
    | lst ds => exact .inl (h γ O H σ e _ r (by
        rw [q]
        intro v H' r1 f1 t
        cases t with
        | lst a b => exact ⟨_, rfl, ⟨_, SqL.of (msk_ex _ _ a)⟩, g _ H' r1 f1 (itD_list a b)⟩))
    | tup ds => exact .inr (.inl (h γ O H σ e _ r (by
        rw [q]
        intro v H' r1 f1 t
        cases t with
        | tup a b => exact ⟨_, rfl, ⟨_, Evl.ex_t msk_ex a⟩, g _ H' r1 f1 (itD_tup a b)⟩)))
    | str z => exact .inr (.inr (h γ O H σ e _ r (by
        rw [q]
        intro v H' r1 f1 t
        cases t
        exact ⟨z, rfl, g _ H' r1 f1 itD_str⟩)))
    | _ => exact g.elim
def intsD (lo : Int) (n : Nat) : List D := (List.range n).map fun (i : Nat) => D.int (lo + (i : Int))
theorem itD_range {lo : Int} {n : Nat} : ItD K (Itr lo n) O H (intsD lo n) := by
  refine ⟨fun _ _ => True, trivial, fun _ _ _ _ _ _ => trivial, fun O H i d l h hd => ?_, fun O H h => ?_⟩
  · unfold intsD at hd
    rw [List.getElem?_map] at hd
    by_cases hi : i < n
    · rw [List.getElem?_range hi] at hd; cases hd
      refine ⟨hi, fun x H' y => ?_⟩
      obtain ⟨rfl, rfl⟩ := y
      exact ⟨Evl.Ex.refl _, .int _⟩
    · rw [List.getElem?_eq_none (by simp; omega)] at hd; cases hd
  · show n ≤ (intsD lo n).length
    unfold intsD; simp
def small62 (i : Int) : Bool := decide (-(2 ^ 62) ≤ i) && decide (i < 2 ^ 62)
theorem small62_ok {i : Int} (h : small62 i = true) : -(2 ^ 62) ≤ i ∧ i < 2 ^ 62 := by
  unfold small62 at h
  simpa using h
def dRng1 : List D → Option (List D)
  | [.int j] => if small62 j = true then some (intsD 0 j.toNat) else none
  | _ => none
def dRng2 : List D → Option (List D)
  | [.int i, .int j] => if (small62 i && small62 j) = true then some (intsD i (j - i).toNat) else none
  | _ => none
def wRng1 (m : M (List D)) : M (List D) := m >>= fun ds => M.lift (dRng1 ds)
def wRng2 (m : M (List D)) : M (List D) := m >>= fun ds => M.lift (dRng2 ds)
theorem jw_rng1 {ta : TA} {m : M (List D)} (h : EA K E ta m) : JW K E (iRng1 ta) (wRng1 m) := fun γ O H σ e Rr r g =>
  J.walk (te := ta) (T := TDs K) h r g fun ds e' vs H' r1 f1 t g1 => by
    unfold dRng1 at g1
    split at g1
    · rename_i j
      cases t with
      | cons a b =>
        cases b; cases a
        by_cases q : small62 j = true
        · rw [if_pos q] at g1
          obtain ⟨q1, q2⟩ := small62_ok q
          exact ⟨j, rfl, q1, q2, g1 _ H' r1 (Fr.refl _ _) itD_range⟩
        · rw [if_neg q] at g1; exact g1.elim
    all_goals exact g1.elim
theorem jw_rng2 {ta : TA} {m : M (List D)} (h : EA K E ta m) : JW K E (iRng2 ta) (wRng2 m) := fun γ O H σ e Rr r g =>
  J.walk (te := ta) (T := TDs K) h r g fun ds e' vs H' r1 f1 t g1 => by
    unfold dRng2 at g1
    split at g1
    · rename_i i j
      cases t with
      | cons a b =>
        cases b with
        | cons c d =>
          cases d; cases a; cases c
          by_cases q : (small62 i && small62 j) = true
          · rw [if_pos q] at g1
            rw [Bool.and_eq_true] at q
            obtain ⟨q1, q2⟩ := small62_ok q.1
            obtain ⟨q3, q4⟩ := small62_ok q.2
            exact ⟨i, j, rfl, ⟨q1, q2, q3, q4⟩, g1 _ H' r1 (Fr.refl _ _) itD_range⟩
          · rw [if_neg q] at g1; exact g1.elim
    all_goals exact g1.elim
def pairs : Nat → List D → List D
  | _, [] => []
  | n, d :: ds => .tup [.int n, d] :: pairs (n + 1) ds
theorem pairs_get : ∀ {ds : List D} {n i : Nat} {d : D}, (pairs n ds)[i]? = some d → ∃ x, ds[i]? = some x ∧ d = .tup [.int ((n + i : Nat) : Int), x]
  | [], n, i, d, h => by simp [pairs] at h
  | x :: xs, n, 0, d, h => by simp [pairs] at h; exact ⟨x, rfl, by rw [← h]; rfl⟩
  | x :: xs, n, i + 1, d, h => by
    have h' : (pairs (n + 1) xs)[i]? = some d := by simpa [pairs] using h
    obtain ⟨y, h1, h2⟩ := pairs_get h'
    exact ⟨y, by simpa using h1, by rw [h2, show n + 1 + i = n + (i + 1) by omega]⟩
theorem pairs_len : ∀ {ds : List D} {n : Nat}, (pairs n ds).length = ds.length
  | [], _ => rfl
  | _ :: xs, n => by show (pairs (n + 1) xs).length + 1 = xs.length + 1; rw [pairs_len]
theorem itD_enum {a : Addr} {vs : List V} {ds : List D} (ha : msk O H a = some (.lst vs)) (t : DDs K (msk O H) vs ds) : ItD K (Ite K a) O H (pairs 0 ds) := by
  refine ⟨fun O H => msk O H a = some (.lst vs) ∧ DDs K (msk O H) vs ds, ⟨ha, t⟩, fun O H O' H' f h => ⟨f _ _ h.1, h.2.mono f⟩, fun O H i d l h hd => ?_, fun O H h => ?_⟩
  · obtain ⟨x, hx, rfl⟩ := pairs_get hd
    obtain ⟨v, hv, td⟩ := h.2.get hx
    have sq : SqL K H a vs := SqL.of (msk_ex _ _ h.1)
    refine ⟨⟨vs, v, sq, hv⟩, fun y H' q => ?_⟩
    obtain ⟨T, w, rfl, hT, rfl, hw⟩ := q
    have := hw vs sq
    rw [hv] at this; cases this
    rw [Nat.zero_add]
    exact ⟨Evl.Ex.new hT, DD.new_tup hT (live_out l hT) (.cons (.int _) (.cons td .nil))⟩
  · exact ⟨vs, SqL.of (msk_ex _ _ h.1), by rw [pairs_len, h.2.length]; exact Nat.le_refl _⟩
def dEnum : List D → Option (List D)
  | [.lst ds] => some (pairs 0 ds)
  | _ => none
def wEnum (m : M (List D)) : M (List D) := m >>= fun ds => M.lift (dEnum ds)
theorem jw_enum {ta : TA} {m : M (List D)} (h : EA K E ta m) : JW K E (iEnum K ta) (wEnum m) := fun γ O H σ e Rr r g =>
  J.walk (te := ta) (T := TDs K) h r g fun ds e' vs H' r1 f1 t g1 => by
    unfold dEnum at g1
    split at g1
    · cases t with
      | cons a b =>
        cases b
        cases a with
        | lst a b => exact ⟨_, _, rfl, SqL.of (msk_ex _ _ a), g1 _ H' r1 (Fr.refl _ _) (itD_enum a b)⟩
    all_goals exact g1.elim
def mLoop (g : D → Env → Option Env) (b : M Out) : List D → M Out
  | [] => sNx
  | d :: ds => fun e => match g d e with
    | none => .bad
    | some e1 => match b e1 with
      | .ok .nx e2 => mLoop g b ds e2
      | .ok .ct e2 => mLoop g b ds e2
      | .ok .bk e2 => .ok .nx e2
      | r => r
def sFor (w : M (List D)) (g : D → Env → Option Env) (b : M Out) : M Out := w >>= mLoop g b
theorem sx_for {wi : TI} {g : TG} {tb : TS} {w : M (List D)} {L : List Nat} {s : D → Env → Option Env} {b : M Out} (hw : JW K E wi w) (hg : GX K g L s) (hb : SX K E tb b) : SX K E (tFor wi g tb) (sFor w s b) := fun γ O H σ e Dn r gd => by
  refine hw γ O H σ e _ r ?_
  unfold sFor at gd
  rw [bind_eq] at gd
  cases q : w e with
  | bad => rw [q] at gd; exact gd
  | ex x e' =>
    rw [q] at gd
    cases x with
    | ins C fs => exact fun dx fv H' r1 f1 q1 q2 => gd O σ dx fv H' r1 f1.s q1 q2
    | _ => exact gd
  | ok ds e1 =>
    rw [q] at gd
    intro Jt H1 r1 f1 it
    obtain ⟨S, S0, Sf, Sgo, Sst⟩ := it
    refine ⟨fun i m σ H => m = ds.length - i ∧ i ≤ ds.length ∧ ∃ O' e', Rel K γ O' H σ e' ∧ S O' H ∧ GoodS K γ O' H E Dn (mLoop s b (ds.drop i) e'), ⟨ds.length, by simp, Nat.zero_le _, O, e1, r1, S0, GoodS.fr f1.s (by rw [List.drop_zero]; exact gd)⟩, ?_⟩
    rintro i m σ2 H2 ⟨rfl, hi, O', e', r2, S2, g2⟩
    by_cases hlt : i < ds.length
    · have hd : ds[i]? = some ds[i] := List.getElem?_eq_getElem hlt
      obtain ⟨go, yl⟩ := Sgo O' H2 i _ r2.live S2 hd
      refine .inr ⟨go, fun σ' H' => ∃ O'' e'', Rel K γ O'' H' σ' e'' ∧ S O'' H' ∧ GoodS K γ O'' H' E Dn (mLoop s b (ds.drop (i + 1)) e''), fun σ' H' ⟨O'', e'', a1, a2, a3⟩ => ⟨ds.length - (i + 1), by omega, rfl, hlt, O'', e'', a1, a2, a3⟩, fun x H' y => ?_⟩
      obtain ⟨ex, td⟩ := yl x H' y
      rw [List.drop_eq_getElem_cons hlt] at g2
      unfold mLoop at g2
      try dsimp only at g2
      cases qs : s ds[i] e' with
      | none => rw [qs] at g2; exact g2.elim
      | some e2 =>
        rw [qs] at g2
        refine hg γ O' H' σ2 e' x _ e2 _ (r2.ext ex) td qs fun σ3 r3 _ => ?_
        refine hb γ O' H' σ3 e2 _ r3 ?_
        have fx : FrS O' H2 O' H' := msk_mono ex
        try dsimp only at g2
        cases qb : b e2 with
        | bad => rw [qb] at g2; exact g2
        | ex x3 e3 =>
          rw [qb] at g2
          cases x3 with
          | ins C fs => exact fun O3 σ4 dx fv H3 r4 f4 => g2 O3 σ4 dx fv H3 r4 (fx.trans f4)
          | _ => exact g2
        | ok o e3 =>
          rw [qb] at g2
          cases o with
          | nx => exact fun O3 σ4 H3 r4 f4 => ⟨O3, e3, r4, Sf _ _ _ _ (fx.trans f4) S2, GoodS.fr (fx.trans f4) g2⟩
          | ct => exact fun O3 σ4 H3 r4 f4 => ⟨O3, e3, r4, Sf _ _ _ _ (fx.trans f4) S2, GoodS.fr (fx.trans f4) g2⟩
          | bk => exact fun O3 σ4 H3 r4 f4 => g2 O3 σ4 H3 r4 (fx.trans f4)
          | rt d => exact fun O3 σ4 v H3 r4 f4 => g2 O3 σ4 v H3 r4 (fx.trans f4)
          | rf xs => exact fun O3 σ4 p vs H3 r4 f4 => g2 O3 σ4 p vs H3 r4 (fx.trans f4)
    · have ei : i = ds.length := by omega
      subst ei
      rw [List.drop_length] at g2
      exact .inl ⟨Sst O' H2 S2, g2 O' σ2 H2 r2 FrS.refl⟩
def mWhile (c : M Bool) (b : M Out) : Nat → M Out
  | 0 => fun _ => .bad
  | n + 1 => fun e => match c e with
    | .ok false e1 => .ok .nx e1
    | .ok true e1 => match b e1 with
      | .ok .nx e2 => mWhile c b n e2
      | .ok .ct e2 => mWhile c b n e2
      | .ok .bk e2 => .ok .nx e2
      | r => r
    | .ex x e1 => .ex x e1
    | .bad => .bad
theorem sx_while {tc : TT} {tb : TS} {c : M Bool} {b : M Out} (n : Nat) (hc : ET K E tc c) (hb : SX K E tb b) : SX K E (tWhile tc tb) (mWhile c b n) := fun γ O H σ e Dn r gd => by
  refine ⟨fun m σ H => ∃ O' e', Rel K γ O' H σ e' ∧ GoodS K γ O' H E Dn (mWhile c b m e'), ⟨n, O, e, r, gd⟩, ?_⟩
  rintro m σ2 H2 ⟨O', e', r2, g2⟩
  cases m with
  | zero => exact g2.elim
  | succ m =>
    unfold mWhile at g2
    try dsimp only at g2
    refine hc γ O' H2 σ2 e' _ r2 ?_
    cases qc : c e' with
    | bad => rw [qc] at g2; exact g2
    | ex x e1 =>
      rw [qc] at g2
      cases x with
      | ins C fs => exact fun dx fv H' r1 f1 q1 q2 => g2 O' σ2 dx fv H' r1 f1.s q1 q2
      | _ => exact g2
    | ok k e1 =>
      rw [qc] at g2
      intro k' H3 r3 f3 ek
      have ek : k' = k := ek
      subst ek
      cases k' with
      | false => exact g2 O' σ2 H3 r3 f3.s
      | true =>
        refine ⟨fun σ' H' => ∃ O'' e'', Rel K γ O'' H' σ' e'' ∧ GoodS K γ O'' H' E Dn (mWhile c b m e''), fun σ' H' ⟨O'', e'', a1, a2⟩ => ⟨m, Nat.lt_succ_self _, O'', e'', a1, a2⟩, ?_⟩
        refine hb γ O' H3 σ2 e1 _ r3 ?_
        try dsimp only at g2
        cases qb : b e1 with
        | bad => rw [qb] at g2; exact g2
        | ex x3 e3 =>
          rw [qb] at g2
          cases x3 with
          | ins C fs => exact fun O3 σ4 dx fv H3 r4 f4 => g2 O3 σ4 dx fv H3 r4 (f3.s.trans f4)
          | _ => exact g2
        | ok o e3 =>
          rw [qb] at g2
          cases o with
          | nx => exact fun O3 σ4 H3 r4 f4 => ⟨O3, e3, r4, GoodS.fr (f3.s.trans f4) g2⟩
          | ct => exact fun O3 σ4 H3 r4 f4 => ⟨O3, e3, r4, GoodS.fr (f3.s.trans f4) g2⟩
          | bk => exact fun O3 σ4 H3 r4 f4 => g2 O3 σ4 H3 r4 (f3.s.trans f4)
          | rt d => exact fun O3 σ4 v H3 r4 f4 => g2 O3 σ4 v H3 r4 (f3.s.trans f4)
          | rf xs => exact fun O3 σ4 p vs H3 r4 f4 => g2 O3 σ4 p vs H3 r4 (f3.s.trans f4)
end
end Mir

set_option Elab.async false
set_option linter.all false
set_option maxRecDepth 100000
set_option maxHeartbeats 4000000
namespace Mir
open PySem L2

def ewipe (e : Env) : List Nat → Env
  | [] => e
  | v :: vs => (ewipe e vs).set v none
/-- the ghosts while a list is being made at Dd -/
def Gh.at (γ : Gh) (Dd : Addr) (vs : List V) : Gh := ⟨fun q => if q = Dd then some (.lst vs) else γ.hp q, Dd :: γ.B, γ.A⟩
section
variable {K : PySem.W.Frag} {E : XS} {γ : Gh} {O : List Addr} {H : Hp} {σ : L2.St} {e : Env} {Dd : Addr} {accV : List V}
theorem Rel.wipe (r : Rel K γ O H σ e) : ∀ vs : List Nat, Rel K γ O H (L2.wipe σ vs) (ewipe e vs)
  | [] => r
  | v :: vs => (Rel.wipe r vs).drop none
theorem ewipe_out {e : Env} : ∀ {vs : List Nat} {i : Nat} {s : Sl}, (ewipe e vs)[i]? = some (some s) → e[i]? = some (some s) ∧ i ∉ vs
  | [], i, s, h => ⟨h, by simp⟩
  | v :: vs, i, s, h => by
    unfold ewipe at h
    by_cases hv : v = i
    · subst hv
      by_cases hl : v < (ewipe e vs).length
      · rw [List.getElem?_set_self hl] at h; cases h
      · rw [List.getElem?_eq_none (by rw [List.length_set]; omega)] at h; cases h
    · rw [List.getElem?_set_ne hv] at h
      obtain ⟨h1, h2⟩ := ewipe_out h
      exact ⟨h1, by simp only [List.mem_cons, not_or]; exact ⟨fun z => hv z.symm, h2⟩⟩
theorem Rel.unwipe {vs : List Nat} (r : Rel K γ O H (L2.wipe σ vs) e) : Rel K γ O H σ e where
  bo := r.bo
  live := r.live
  gs := r.gs
  len := by rw [← r.len, wipe_length]
  sl := fun i s h => by
    obtain ⟨v, h1, h2⟩ := r.sl i s h
    exact ⟨v, (wipe_some h1).1, h2⟩
  dj := fun a b xs ys v ha hb va vb => by
    obtain ⟨v1, h1, _⟩ := r.sl _ _ ha
    obtain ⟨v2, h2, _⟩ := r.sl _ _ hb
    have z1 := (wipe_some h1).1
    have z2 := (wipe_some h2).1
    rw [va] at z1; rw [vb] at z2
    cases z1; cases z2
    exact r.dj a b xs ys v ha hb h1 h2
  ij := r.ij
theorem wipe_wipe : ∀ vs : List Nat, L2.wipe (L2.wipe σ vs) vs = L2.wipe σ vs := by
  have key : ∀ us vs : List Nat, (∀ i ∈ us, i ∈ vs) → L2.wipe (L2.wipe σ us) vs = L2.wipe σ vs := by
    intro us
    induction us with
    | nil => intro vs _; rfl
    | cons u us ih =>
      intro vs h
      show L2.wipe ((L2.wipe σ us).set u none) vs = _
      rw [wipe_in (h u List.mem_cons_self), ih vs fun i hi => h i (List.mem_cons_of_mem _ hi)]
  exact fun vs => key vs vs fun i hi => hi
theorem Rel.watch (r0 : Rel K γ O H σ e) {H' : Hp} (hO : Dd ∉ O) (r : Rel K γ (Dd :: O) H' σ e) (hD : H' Dd = some (.lst accV)) : Rel K (γ.at Dd accV) (Dd :: O) H' σ e where
  bo := fun q hq => by
    rcases List.mem_cons.mp hq with z | z
    · rw [z]; exact List.mem_cons_self
    · exact List.mem_cons_of_mem _ (r0.bo q z)
  live := r.live
  gs := fun q o h => by
    have h : (if q = Dd then some (HO.lst accV) else γ.hp q) = some o := h
    by_cases z : q = Dd
    · rw [if_pos z] at h; cases h; rw [z]; exact ⟨List.mem_cons_self, hD⟩
    · rw [if_neg z] at h
      obtain ⟨h1, h2⟩ := r.gs q o h
      exact ⟨List.mem_cons_of_mem _ h1, h2⟩
  len := r.len
  sl := fun i s h => by
    obtain ⟨v, h1, h2⟩ := r.sl i s h
    refine ⟨v, h1, ?_⟩
    cases s with
    | st u => exact h2
    | d x => exact h2
    | ol xs =>
      obtain ⟨p, vs, g1, g2, g3, g4, g5⟩ := h2
      obtain ⟨v', h1', p', vs', k1, k2, k3, _⟩ := r0.sl i _ h
      rw [h1] at h1'; cases h1'; subst g1; cases k1
      exact ⟨p, vs, rfl, g2, by show p ∉ Dd :: γ.B; simp only [List.mem_cons, not_or]; exact ⟨fun z => hO (by rw [← z]; exact k2), g3⟩, g4, g5⟩
    | io xs =>
      obtain ⟨vs, g1, g2, g3, g4, g5⟩ := h2
      refine ⟨vs, g1, List.mem_cons_of_mem _ g2, ?_, g4, g5⟩
      show (if γ.A i = Dd then some (HO.lst accV) else γ.hp (γ.A i)) = none
      rw [if_neg (fun z => hO (by rw [← z]; exact r0.bo _ g2))]
      exact g3
  dj := r.dj
  ij := r.ij
theorem Rel.rewatch {vs : List V} (r : Rel K (γ.at Dd accV) (Dd :: O) H σ e) : Rel K (γ.at Dd vs) (Dd :: O) (upd H Dd (.lst vs)) σ e where
  bo := r.bo
  live := fun q hq => by
    by_cases z : q = Dd
    · rw [z, upd_same]; intro x; cases x
    · rw [upd_ne z]; exact r.live q hq
  gs := fun q o h => by
    have h : (if q = Dd then some (HO.lst vs) else γ.hp q) = some o := h
    by_cases z : q = Dd
    · rw [if_pos z] at h; cases h; rw [z]; exact ⟨List.mem_cons_self, upd_same⟩
    · rw [if_neg z] at h
      obtain ⟨h1, h2⟩ := r.gs q o (show (if q = Dd then some (HO.lst accV) else γ.hp q) = some o by rw [if_neg z]; exact h)
      exact ⟨h1, by rw [upd_ne z]; exact h2⟩
  len := r.len
  sl := fun i s h => by
    obtain ⟨v, h1, h2⟩ := r.sl i s h
    have mk : msk (Dd :: O) (upd H Dd (.lst vs)) = msk (Dd :: O) H := msk_upd List.mem_cons_self
    refine ⟨v, h1, ?_⟩
    cases s with
    | st u => exact h2
    | d x => show DD K (msk _ _) v x; rw [mk]; exact h2
    | ol xs =>
      obtain ⟨p, us, g1, g2, g3, g4, g5⟩ := h2
      have g3' : p ∉ Dd :: γ.B := g3
      simp only [List.mem_cons, not_or] at g3'
      exact ⟨p, us, g1, g2, g3, by rw [upd_ne g3'.1]; exact g4, by rw [mk]; exact g5⟩
    | io xs =>
      obtain ⟨us, g1, g2, g3, g4, g5⟩ := h2
      have g3' : (if γ.A i = Dd then some (HO.lst accV) else γ.hp (γ.A i)) = none := g3
      have ne : γ.A i ≠ Dd := fun z => by rw [if_pos z] at g3'; cases g3'
      rw [if_neg ne] at g3'
      refine ⟨us, g1, g2, ?_, by show upd H Dd _ (γ.A i) = _; rw [upd_ne ne]; exact g4, by rw [mk]; exact g5⟩
      show (if γ.A i = Dd then some (HO.lst vs) else γ.hp (γ.A i)) = none
      rw [if_neg ne]; exact g3'
  dj := r.dj
  ij := r.ij
theorem Rel.unwatch (hO : Dd ∉ O) (b0 : ∀ q ∈ γ.B, q ∈ O) (g0 : ∀ q o, γ.hp q = some o → q ∈ γ.B) (r : Rel K (γ.at Dd accV) (Dd :: O) H σ e) : Rel K γ (Dd :: O) H σ e ∧ Rel K γ O H σ e := by
  have hpD : ∀ q o, γ.hp q = some o → q ≠ Dd := fun q o h z => hO (by rw [← z]; exact b0 q (g0 q o h))
  have gs : ∀ q o, γ.hp q = some o → q ∈ γ.B ∧ H q = some o := fun q o h =>
    ⟨g0 q o h, (r.gs q o (show (if q = Dd then some (HO.lst accV) else γ.hp q) = some o by rw [if_neg (hpD q o h)]; exact h)).2⟩
  have io : ∀ i, (if γ.A i = Dd then some (HO.lst accV) else γ.hp (γ.A i)) = none → γ.A i ≠ Dd ∧ γ.hp (γ.A i) = none := fun i h => by
    by_cases z : γ.A i = Dd
    · rw [if_pos z] at h; cases h
    · rw [if_neg z] at h; exact ⟨z, h⟩
  have sub : Ex (msk (Dd :: O) H) (msk O H) := msk_sub fun q hq => List.mem_cons_of_mem _ hq
  refine ⟨⟨fun q hq => List.mem_cons_of_mem _ (b0 q hq), r.live, gs, r.len, fun i s h => ?_, r.dj, r.ij⟩, ⟨b0, fun q hq => r.live q (List.mem_cons_of_mem _ hq), gs, r.len, fun i s h => ?_, r.dj, r.ij⟩⟩
  all_goals
    obtain ⟨v, h1, h2⟩ := r.sl i s h
    refine ⟨v, h1, ?_⟩
  · cases s with
    | st u => exact h2
    | d x => exact h2
    | ol xs =>
      obtain ⟨p, us, g1, g2, g3, g4, g5⟩ := h2
      exact ⟨p, us, g1, g2, fun z => g3 (List.mem_cons_of_mem _ z), g4, g5⟩
    | io xs =>
      obtain ⟨us, g1, g2, g3, g4, g5⟩ := h2
      obtain ⟨n1, n2⟩ := io i g3
      exact ⟨us, g1, (List.mem_cons.mp g2).resolve_left n1, n2, g4, g5⟩
  · cases s with
    | st u => exact h2
    | d x => exact DD.mono sub h2
    | ol xs =>
      obtain ⟨p, us, g1, g2, g3, g4, g5⟩ := h2
      have ne : p ≠ Dd := fun z => g3 (by rw [z]; exact List.mem_cons_self)
      exact ⟨p, us, g1, (List.mem_cons.mp g2).resolve_left ne, fun z => g3 (List.mem_cons_of_mem _ z), g4, g5.mono sub⟩
    | io xs =>
      obtain ⟨us, g1, g2, g3, g4, g5⟩ := h2
      obtain ⟨n1, n2⟩ := io i g3
      exact ⟨us, g1, (List.mem_cons.mp g2).resolve_left n1, n2, g4, g5.mono sub⟩

abbrev E0S : XS := fun _ => E0
def tYesM : M Bool := M.ret true
theorem et_yes {E : XS} : ET K E tYes tYesM := fun γ O H σ e Q r g => g true H r (Fr.refl _ _) rfl
def mComp (s : D → Env → Option Env) (t : M Bool) (x : M D) (vs : List Nat) : List D → List D → M (List D)
  | acc, [] => M.ret acc
  | acc, d :: ds => fun e => match s d e with
    | none => .bad
    | some e1 => match t e1 with
      | .ok false e2 => mComp s t x vs acc ds (ewipe e2 vs)
      | .ok true e2 => match x e2 with
        | .ok y e3 => if mLine (acc.length + 1) = true then mComp s t x vs (acc ++ [y]) ds (ewipe e3 vs) else .bad
        | _ => .bad
      | _ => .bad
def mLc (w : M (List D)) (s : D → Env → Option Env) (t : M Bool) (x : M D) (vs : List Nat) : M (List D) := w >>= fun ds => fun e => mComp s t x vs [] ds (ewipe e vs)
theorem ef_lc {wi : TI} {g : TG} {tt : TT} {te : TE} {vs L : List Nat} {w : M (List D)} {s : D → Env → Option Env} {t : M Bool} {x : M D} (hw : JW K E wi w) (hg : GX K g L s) (hL : ∀ i ∈ L, i ∈ vs) (ht : ET K E0S tt t) (hx : EX K E0S te x) :
    EF K E (tLc wi g tt te vs) (mLc w s t x vs) := fun γ O H σ e Q r gd => by
  refine hw γ O H σ e _ r ?_
  unfold mLc at gd
  change GoodF K γ O H σ E Q (M.andThen w (fun ds => fun e => mComp s t x vs [] ds (ewipe e vs)) e) at gd
  unfold M.andThen at gd
  cases q : w e with
  | bad => rw [q] at gd; exact gd
  | ex x e' => rw [q] at gd; exact gd
  | ok ds e1 =>
    rw [q] at gd
    intro Jt H1 r1 f1 it Dd hDd
    obtain ⟨S, S0, Sf, Sgo, Sst⟩ := it
    have hO : Dd ∉ O := r1.out hDd
    have hm : msk O H1 Dd = none := by rw [msk_out hO]; exact hDd
    have nex : Ex H1 (upd H1 Dd (.lst [])) := Evl.Ex.new hDd
    have fs0 : FrS O H1 (Dd :: O) (upd H1 Dd (.lst [])) := msk_cons_ex hm (msk_mono nex)
    have rm : Rel K γ (Dd :: O) (upd H1 Dd (.lst [])) σ e1 := r1.more (e' := e1) hDd nex (by rw [upd_same]; intro z; cases z)
    have rw0 : Rel K (γ.at Dd []) (Dd :: O) (upd H1 Dd (.lst [])) (L2.wipe σ vs) (ewipe e1 vs) := (r1.watch hO rm upd_same).wipe vs
    refine ⟨fun i m H => m = ds.length - i ∧ i ≤ ds.length ∧ ∃ e' accV acc, Rel K (γ.at Dd accV) (Dd :: O) H (L2.wipe σ vs) e' ∧ DDs K (msk (Dd :: O) H) accV acc ∧ S (Dd :: O) H ∧ FrS O H1 (Dd :: O) H ∧ GoodF K γ O H1 σ E Q (mComp s t x vs acc (ds.drop i) e'),
      ⟨ds.length, by simp, Nat.zero_le _, ewipe e1 vs, [], [], rw0, .nil, Sf _ _ _ _ fs0 S0, fs0, GoodF.fr f1 (by rw [List.drop_zero]; exact gd)⟩, ?_⟩
    rintro i m H2 ⟨rfl, hi, e2, accV, acc, r2, ra, S2, fs, g2⟩
    by_cases hlt : i < ds.length
    · have hd : ds[i]? = some ds[i] := List.getElem?_eq_getElem hlt
      obtain ⟨go, yl⟩ := Sgo (Dd :: O) H2 i _ r2.live S2 hd
      refine .inr ⟨go, fun H' => ∃ e' accV acc, Rel K (γ.at Dd accV) (Dd :: O) H' (L2.wipe σ vs) e' ∧ DDs K (msk (Dd :: O) H') accV acc ∧ S (Dd :: O) H' ∧ FrS O H1 (Dd :: O) H' ∧ GoodF K γ O H1 σ E Q (mComp s t x vs acc (ds.drop (i + 1)) e'),
        fun H' ⟨e', accV, acc, a⟩ => ⟨ds.length - (i + 1), by omega, rfl, hlt, e', accV, acc, a⟩, fun v H' y => ?_⟩
      obtain ⟨ex, td⟩ := yl v H' y
      rw [List.drop_eq_getElem_cons hlt] at g2
      unfold mComp at g2
      try dsimp only at g2
      have fx : FrS (Dd :: O) H2 (Dd :: O) H' := msk_mono ex
      cases qs : s ds[i] e2 with
      | none => rw [qs] at g2; exact g2.elim
      | some e3 =>
        rw [qs] at g2
        try dsimp only at g2
        refine hg (γ.at Dd accV) (Dd :: O) H' (L2.wipe σ vs) e2 v _ e3 _ (r2.ext ex) td qs fun σ3 r3 w3 => ?_
        have hw3 : L2.wipe σ3 vs = L2.wipe σ vs := (w3 vs hL).trans (wipe_wipe vs)
        refine ⟨hw3, ht (γ.at Dd accV) (Dd :: O) H' σ3 e3 _ r3 ?_⟩
        cases qt : t e3 with
        | bad => rw [qt] at g2; exact g2.elim
        | ex _ _ => rw [qt] at g2; exact g2.elim
        | ok b e4 =>
          rw [qt] at g2
          try dsimp only at g2
          intro b' H3 r4 f4 eb
          have eb : b' = b := eb
          subst eb
          cases b' with
          | false =>
            refine ⟨ewipe e4 vs, accV, acc, ?_, ra.mono (fx.trans f4.s), Sf _ _ _ _ (fx.trans f4.s) S2, fs.trans (fx.trans f4.s), g2⟩
            rw [← hw3]; exact r4.wipe vs
          | true =>
            refine hx (γ.at Dd accV) (Dd :: O) H3 σ3 e4 _ r4 ?_
            try dsimp only at g2
            cases qx : x e4 with
            | bad => rw [qx] at g2; exact g2.elim
            | ex _ _ => rw [qx] at g2; exact g2.elim
            | ok yd e5 =>
              rw [qx] at g2
              try dsimp only at g2
              by_cases hl : mLine (acc.length + 1) = true
              · rw [if_pos hl] at g2
                intro y H4 r5 f5 ty
                have hD4 : H4 Dd = some (.lst accV) := (r5.gs Dd _ (show (if Dd = Dd then some (HO.lst accV) else γ.hp Dd) = _ from if_pos rfl)).2
                have al : FrS (Dd :: O) H2 (Dd :: O) H4 := (fx.trans f4.s).trans f5.s
                have mk : msk (Dd :: O) (upd H4 Dd (.lst (accV ++ [y]))) = msk (Dd :: O) H4 := msk_upd List.mem_cons_self
                have fz : FrS (Dd :: O) H4 (Dd :: O) (upd H4 Dd (.lst (accV ++ [y]))) := fun a o h => by rw [mk]; exact h
                have ra4 : DDs K (msk (Dd :: O) H4) (accV ++ [y]) (acc ++ [yd]) := (ra.mono al).append (.cons ty .nil)
                refine ⟨accV, hD4, ?_, ewipe e5 vs, accV ++ [y], acc ++ [yd], ?_, by rw [mk]; exact ra4, Sf _ _ _ _ (al.trans fz) S2, fs.trans (al.trans fz), g2⟩
                · have := mLine_ok hl
                  rw [← ra.length] at this
                  omega
                · have r6 := r5.wipe vs
                  rw [hw3] at r6
                  exact r6.rewatch
              · rw [if_neg hl] at g2; exact g2.elim
    · have ei : i = ds.length := by omega
      subst ei
      rw [List.drop_length] at g2
      have hD2 : H2 Dd = some (.lst accV) := (r2.gs Dd _ (show (if Dd = Dd then some (HO.lst accV) else γ.hp Dd) = _ from if_pos rfl)).2
      obtain ⟨u1, u2⟩ := Rel.unwatch hO r1.bo (fun q o h => (r1.gs q o h).1) r2
      exact .inl ⟨Sst _ H2 S2, g2 Dd accV H2 hO u2.unwipe u1.unwipe fs (fs.trans (msk_sub fun q hq => List.mem_cons_of_mem _ hq)) hD2 ra⟩
end

def startE (n : Nat) (as : List Sl) : Env := as.map some ++ List.replicate (n - as.length) none
/-- a def's promise, by its body b as a function of environments; n names in all -/
def spM (K : PySem.W.Frag) (N : List Str) (np : Nat) (b : M Out) : Sp := fun vs H Q E => ∃ γ O as, vs.length = np ∧ vs.length = as.length ∧ γ.B = O ∧ Rel K γ O H (start N vs) (startE N.length as) ∧
  GoodS K γ O H (fun _ => E) { nx := fun _ H' => Q .non H', rt := Q } (b (startE N.length as))
theorem spM_len {K : PySem.W.Frag} {N ps : List Str} {b : M Out} (vs : List V) (H : Hp) (Q : VK) (E : XK) (h : spM K N ps.length b vs H Q E) : vs.length = ps.length := by
  obtain ⟨γ, O, as, h1, _⟩ := h
  exact h1
section
variable {K : PySem.W.Frag} {E : XS} {γ : Gh} {O : List Addr} {H : Hp} {σ : L2.St} {e : Env}
/-- what a caller gets of a callee's end -/
def runD (b : M Out) (n : Nat) (as : List Sl) : R D := match b (startE n as) with
  | .ok .nx e => .ok .non e
  | .ok (.rt d) e => .ok d e
  | .ok (.rf xs) e => .ok (.lst xs) e
  | .ex x e => .ex x e
  | _ => .bad
def back (e : Env) : R D → R D
  | .ok d _ => .ok d e
  | .ex x _ => .ex x e
  | .bad => .bad
def mCall (b : M Out) (n np : Nat) (a : M (List D)) : M D := a >>= fun ds => fun e => if ds.length = np then back e (runD b n (ds.map .d)) else .bad
theorem start_get {N : List Str} {vs : List V} {i : Nat} {v : V} (h : vs[i]? = some v) : (start N vs)[i]? = some (some v) := by
  unfold L2.start
  have hi : i < vs.length := (List.getElem?_eq_some_iff.mp h).1
  rw [List.getElem?_append_left (by rw [List.length_map]; exact hi), List.getElem?_map, h]
  rfl
theorem startE_get {n : Nat} {as : List Sl} {i : Nat} {s : Sl} (h : (startE n as)[i]? = some (some s)) : as[i]? = some s := by
  unfold startE at h
  by_cases hi : i < as.length
  · rw [List.getElem?_append_left (by rw [List.length_map]; exact hi), List.getElem?_map] at h
    cases q : as[i]? with
    | none => rw [q] at h; cases h
    | some x => rw [q] at h; cases h; rfl
  · rw [List.getElem?_append_right (by rw [List.length_map]; omega), List.getElem?_replicate] at h
    split at h <;> cases h
theorem start_len {N : List Str} {vs : List V} {as : List Sl} (h : vs.length = as.length) : (start N vs).length = (startE N.length as).length := by
  unfold L2.start startE
  rw [List.length_append, List.length_append, List.length_map, List.length_map, List.length_replicate, List.length_replicate, h]
/-- the callee's start, all its arguments data -/
theorem Rel.callee {N : List Str} {vs : List V} {ds : List D} (r : Rel K γ O H σ e) (t : DDs K (msk O H) vs ds) :
    Rel K ⟨fun q => if q ∈ O then H q else none, O, fun _ => 0⟩ O H (start N vs) (startE N.length (ds.map .d)) where
  bo := fun q h => h
  live := r.live
  gs := fun q o h => by
    have h : (if q ∈ O then H q else none) = some o := h
    by_cases z : q ∈ O
    · rw [if_pos z] at h; exact ⟨z, h⟩
    · rw [if_neg z] at h; cases h
  len := start_len (by rw [List.length_map]; exact t.length)
  sl := fun i s h => by
    have h := startE_get h
    rw [List.getElem?_map] at h
    cases q : ds[i]? with
    | none => rw [q] at h; cases h
    | some d =>
      rw [q] at h; cases h
      obtain ⟨v, hv, td⟩ := t.get q
      exact ⟨v, start_get hv, td⟩
  dj := fun a b xs ys v ha hb _ _ => by
    have h := startE_get ha
    rw [List.getElem?_map] at h
    cases q : ds[a]? with
    | none => rw [q] at h; cases h
    | some d => rw [q] at h; cases h
  ij := fun a b xs ys ha hb _ => by
    have h := startE_get ha
    rw [List.getElem?_map] at h
    cases q : ds[a]? with
    | none => rw [q] at h; cases h
    | some d => rw [q] at h; cases h
/-- behind a call that touches nothing of the caller's own -/
theorem Rel.after {H2 : Hp} (r : Rel K γ O H σ e) (k : ∀ q ∈ O, H2 q = H q) (f : Fr O H H2) : Rel K γ O H2 σ e where
  bo := r.bo
  live := fun q hq => by rw [k q hq]; exact r.live q hq
  gs := fun q o h => ⟨(r.gs q o h).1, by rw [k q (r.bo q (r.gs q o h).1)]; exact (r.gs q o h).2⟩
  len := r.len
  sl := fun i s h => by
    obtain ⟨v, h1, h2⟩ := r.sl i s h
    refine ⟨v, h1, ?_⟩
    cases s with
    | st u => exact h2
    | d x => exact DD.mono f h2
    | ol xs =>
      obtain ⟨p, us, g1, g2, g3, g4, g5⟩ := h2
      exact ⟨p, us, g1, g2, g3, by rw [k p g2]; exact g4, g5.mono f⟩
    | io xs =>
      obtain ⟨us, g1, g2, g3, g4, g5⟩ := h2
      exact ⟨us, g1, g2, g3, by rw [k _ (r.bo _ g2)]; exact g4, g5.mono f⟩
  dj := r.dj
  ij := r.ij
/-- the callee's end as the caller sees it -/
theorem callee_end {γ' : Gh} {O' : List Addr} {H' : Hp} {σ' : L2.St} {e' : Env} (hB : γ'.B = O) (hg : ∀ q ∈ O, γ'.hp q = H q) (l : ∀ q ∈ O, H q ≠ none) (r : Rel K γ' O' H' σ' e') (f : FrS O H O' H') : (∀ q ∈ O, H' q = H q) ∧ Fr O H H' ∧ Ex (msk O' H') (msk O H') := by
  have sub : ∀ q ∈ O, q ∈ O' := fun q hq => r.bo q (by rw [hB]; exact hq)
  have sx : Ex (msk O' H') (msk O H') := msk_sub sub
  refine ⟨fun q hq => ?_, fun a o h => sx a o (f a o h), sx⟩
  cases z : H q with
  | none => exact absurd z (l q hq)
  | some o => exact (r.gs q o (by rw [hg q hq]; exact z)).2
theorem ex_call {N : List Str} {np : Nat} {b : M Out} {Ek : XK} {ta : TA} {a : M (List D)} (hE : ∀ σ, E σ = Ek) (h : EA K E ta a) : EX K E (tCall (spM K N np b) [] Ek ta) (mCall b N.length np a) := fun γ O H σ e Q r g => by
  refine h γ O H σ e _ r ?_
  unfold mCall at g
  change Good K γ O H σ E _ Q (M.andThen a _ e) at g
  unfold M.andThen at g
  cases q : a e with
  | bad => rw [q] at g; exact g
  | ex x e' => rw [q] at g; exact g
  | ok ds e1 =>
    rw [q] at g
    intro vs H1 r1 f1 t
    rw [List.append_nil]
    try dsimp only at g
    by_cases nl : ds.length = np
    · rw [if_pos nl] at g
      refine ⟨_, O, ds.map .d, by rw [t.length]; exact nl, by rw [List.length_map]; exact t.length, rfl, r1.callee t, ?_⟩
      unfold runD at g
      have fin := fun {O' : List Addr} {H' : Hp} {σ' : L2.St} {e' : Env} (rr : Rel K ⟨fun q => if q ∈ O then H1 q else none, O, fun _ => 0⟩ O' H' σ' e') (ff : FrS O H1 O' H') => callee_end (O := O) (H := H1) rfl (fun q hq => if_pos hq) r1.live rr ff
      cases qb : b (startE N.length (ds.map .d)) with
      | bad => rw [qb] at g; exact g.elim
      | ex x e2 =>
        rw [qb] at g
        cases x with
        | ins C fs =>
          intro O' σ' dx fv H' rr ff hx tf
          obtain ⟨k1, k2, k3⟩ := fin rr ff
          have := g dx fv H' (r1.after k1 k2) (f1.trans k2) (k3 _ _ hx) (tf.mono k3)
          rw [hE] at this
          exact this
        | _ => exact g.elim
      | ok o e2 =>
        rw [qb] at g
        cases o with
        | nx =>
          intro O' σ' H' rr ff
          obtain ⟨k1, k2, k3⟩ := fin rr ff
          exact g .non H' (r1.after k1 k2) (f1.trans k2) .non
        | rt d =>
          intro O' σ' v H' rr ff td
          obtain ⟨k1, k2, k3⟩ := fin rr ff
          exact g v H' (r1.after k1 k2) (f1.trans k2) (td.mono k3)
        | rf xs =>
          intro O' σ' p vs' H' rr ff pO pB hp td
          obtain ⟨k1, k2, k3⟩ := fin rr ff
          have pO' : p ∉ O := pB
          exact g (.ref p) H' (r1.after k1 k2) (f1.trans k2) (.lst (by rw [msk_out pO']; exact hp) (td.mono k3))
        | bk => exact g.elim
        | ct => exact g.elim
    · rw [if_neg nl] at g; exact g.elim
/-- a slot's own list, behind a call that was given it -/
theorem Rel.after_io {H2 : Hp} {i : Nat} {p : Addr} {vs' : List V} {xs ys : List D} (r : Rel K γ O H σ e) (hv : σ[i]? = some (some (.ref p))) (k : ∀ q ∈ O, q ≠ p → H2 q = H q) (f : Fr O H H2) (hp : H2 p = some (.lst vs')) (t : DDs K (msk O H2) vs' ys) :
    (e[i]? = some (some (Sl.ol xs)) → Rel K γ O H2 σ (e.set i (some (.ol ys)))) ∧ (e[i]? = some (some (Sl.io xs)) → Rel K γ O H2 σ (e.set i (some (.io ys)))) := by
  have main : ∀ us, p ∈ O → H p = some (.lst us) → Rel K γ O (upd H2 p (.lst us)) σ e := fun us pO h0 => by
    refine r.after (fun q hq => ?_) fun a o h => ?_
    · by_cases z : q = p
      · rw [z, upd_same, h0]
      · rw [upd_ne z]; exact k q hq z
    · rw [msk_upd pO]; exact f a o h
  have mk2 : ∀ us : List V, upd (upd H2 p (.lst us)) p (.lst vs') = H2 := fun us => by
    funext a
    by_cases z : a = p
    · rw [z, upd_same, hp]
    · rw [upd_ne z, upd_ne z]
  refine ⟨fun hx => ?_, fun hx => ?_⟩
  · obtain ⟨w, w1, p', us, e1, pO, pB, h0, _⟩ := r.sl _ _ hx
    rw [hv] at w1; cases w1; cases e1
    have := (Rel.updO (vs := vs') (ys := ys) (main us pO h0) hx hv (by rw [msk_upd pO]; exact t)).1
    rwa [mk2] at this
  · obtain ⟨w, w1, us, e1, pB, pn, h0, _⟩ := r.sl _ _ hx
    rw [hv] at w1; cases w1
    cases e1
    have pO := r.bo _ pB
    have := (Rel.updI (vs := vs') (ys := ys) (main us pO h0) hx hv (by rw [msk_upd pO]; exact t)).1
    rwa [mk2] at this
/-- the callee's start, its first argument a given list -/
theorem Rel.callee_io {N : List Str} {vs us : List V} {ds xs : List D} {p : Addr} {G : Hp} (bl : ∀ q ∈ O, H q ≠ none) (pO : p ∈ O) (hp : H p = some (.lst us)) (tx : DDs K (msk O H) us xs) (t : DDs K (msk O H) vs ds)
    (hG : ∀ q o, G q = some o → q ∈ O ∧ H q = some o) (hGp : G p = none) : Rel K ⟨G, O, fun _ => p⟩ O H (start N (.ref p :: vs)) (startE N.length (.io xs :: ds.map .d)) where
  bo := fun q h => h
  live := bl
  gs := hG
  len := start_len (by rw [List.length_cons, List.length_cons, List.length_map]; exact congrArg (· + 1) t.length)
  sl := fun i s h => by
    have h := startE_get h
    cases i with
    | zero =>
      simp at h; subst h
      exact ⟨.ref p, start_get rfl, us, rfl, pO, hGp, hp, tx⟩
    | succ i =>
      have h : (ds.map Sl.d)[i]? = some s := by simpa using h
      rw [List.getElem?_map] at h
      cases q : ds[i]? with
      | none => rw [q] at h; cases h
      | some d =>
        rw [q] at h; cases h
        obtain ⟨v, hv, td⟩ := t.get q
        exact ⟨v, start_get (by simpa using hv), td⟩
  dj := fun a b ys zs v ha hb _ _ => by
    have h := startE_get ha
    cases a with
    | zero => simp at h
    | succ i =>
      have h : (ds.map Sl.d)[i]? = some (.ol ys) := by simpa using h
      rw [List.getElem?_map] at h
      cases q : ds[i]? with
      | none => rw [q] at h; cases h
      | some d => rw [q] at h; cases h
  ij := fun a b ys zs ha hb _ => by
    have key : ∀ (c : Nat) (us : List D), (startE N.length (.io xs :: ds.map .d))[c]? = some (some (Sl.io us)) → c = 0 := fun c us hc => by
      have h := startE_get hc
      cases c with
      | zero => rfl
      | succ i =>
        have h : (ds.map Sl.d)[i]? = some (.io us) := by simpa using h
        rw [List.getElem?_map] at h
        cases q : ds[i]? with
        | none => rw [q] at h; cases h
        | some d => rw [q] at h; cases h
    rw [key a _ ha, key b _ hb]
def setSame (e : Env) (j : Nat) (ys : List D) : Env := match e[j]? with
  | some (some (.ol _)) => e.set j (some (.ol ys))
  | some (some (.io _)) => e.set j (some (.io ys))
  | _ => e
def ownAt (e : Env) (j : Nat) : Option (List D) := match e[j]? with
  | some (some (.ol xs)) => some xs
  | some (some (.io xs)) => some xs
  | _ => none
def ioAt (e : Env) : Option (List D) := match e[0]? with
  | some (some (Sl.io xs)) => some xs
  | _ => none
/-- what comes back, the given list changed -/
def backI (e : Env) (j : Nat) : R D → R D
  | .ok d e2 => match ioAt e2 with
    | some ys => .ok d (setSame e j ys)
    | none => .bad
  | .ex x e2 => match ioAt e2 with
    | some ys => .ex x (setSame e j ys)
    | none => .bad
  | .bad => .bad
def callI (b : M Out) (n np j : Nat) (ds : List D) : M D := fun e => match ownAt e j with
  | some xs => if ds.length + 1 = np then backI e j (runD b n (.io xs :: ds.map .d)) else .bad
  | none => .bad
def mCallI (b : M Out) (n np j : Nat) (a : M (List D)) : M D := fun e => match ownAt e j with
  | some _ => (a >>= callI b n np j) e
  | none => .bad
theorem ownAt_ok {j : Nat} {xs : List D} (r : Rel K γ O H σ e) (h : ownAt e j = some xs) : ∃ p us, σ[j]? = some (some (.ref p)) ∧ p ∈ O ∧ γ.hp p = none ∧ H p = some (.lst us) ∧ DDs K (msk O H) us xs ∧
    (e[j]? = some (some (Sl.ol xs)) ∨ e[j]? = some (some (Sl.io xs))) := by
  unfold ownAt at h
  split at h
  · rename_i hx; cases h
    obtain ⟨w, w1, p', us, e1, pO, pB, h0, t⟩ := r.sl _ _ hx
    subst e1
    refine ⟨p', us, w1, pO, ?_, h0, t, .inl hx⟩
    cases z : γ.hp p' with
    | none => rfl
    | some o => exact absurd (r.gs _ _ z).1 pB
  · rename_i hx; cases h
    obtain ⟨w, w1, us, e1, pB, pn, h0, t⟩ := r.sl _ _ hx
    subst e1
    exact ⟨_, us, w1, r.bo _ pB, pn, h0, t, .inr hx⟩
  · cases h
theorem setSame_ol {j : Nat} {xs ys : List D} (h : e[j]? = some (some (Sl.ol xs))) : setSame e j ys = e.set j (some (.ol ys)) := by
  unfold setSame; rw [h]
theorem setSame_io {j : Nat} {xs ys : List D} (h : e[j]? = some (some (Sl.io xs))) : setSame e j ys = e.set j (some (.io ys)) := by
  unfold setSame; rw [h]
theorem ioAt_ok {γ' : Gh} {p : Addr} {O' : List Addr} {H' : Hp} {σ' : L2.St} {e' : Env} {ys : List D} (hA : γ'.A = fun _ => p) (r : Rel K γ' O' H' σ' e') (h : ioAt e' = some ys) : ∃ us, H' p = some (.lst us) ∧ DDs K (msk O' H') us ys := by
  unfold ioAt at h
  split at h
  · rename_i hx; cases h
    obtain ⟨w, w1, us, e1, pB, pn, h0, t⟩ := r.sl _ _ hx
    rw [hA] at h0
    exact ⟨us, h0, t⟩
  · cases h
theorem ex_callI {N : List Str} {np j : Nat} {b : M Out} {Ek : XK} {ta : TA} {a : M (List D)} (hE : ∀ σ, E σ = Ek) (h : EA K E ta a) : EX K E (tCall (spM K N np b) [] Ek (tCons (tVar j) ta)) (mCallI b N.length np j a) := fun γ O H σ e Q r g => by
  unfold mCallI at g
  try dsimp only at g
  cases q0 : ownAt e j with
  | none => rw [q0] at g; exact g.elim
  | some xs0 =>
    rw [q0] at g
    obtain ⟨p, us0, hv, pO, pn, hp0, tx0, _⟩ := ownAt_ok r q0
    refine ⟨.ref p, hv, ?_⟩
    refine J.bind (te := ta) (T := TDs K) (T' := TD K) h r g fun ds e1 vs H1 r1 f1 t g1 => ?_
    show spM K N np b (.ref p :: vs ++ []) H1 Q Ek
    rw [List.append_nil]
    unfold callI at g1
    cases q1 : ownAt e1 j with
    | none => rw [q1] at g1; exact g1.elim
    | some xs =>
      rw [q1] at g1
      obtain ⟨p1, us, hv1, pO1, pn1, hp, tx, hk⟩ := ownAt_ok r1 q1
      rw [hv] at hv1
      obtain rfl : p = p1 := by cases hv1; rfl
      try dsimp only at g1
      by_cases nl : ds.length + 1 = np
      · rw [if_pos nl] at g1
        refine ⟨⟨fun q => if q ∈ O ∧ q ≠ p then H1 q else none, O, fun _ => p⟩, O, .io xs :: ds.map .d, by rw [List.length_cons, t.length]; exact nl, by rw [List.length_cons, List.length_cons, List.length_map, t.length], rfl,
          Rel.callee_io r1.live pO hp tx t (fun q o hq => ?_) (if_neg fun z => z.2 rfl), ?_⟩
        · by_cases z : q ∈ O ∧ q ≠ p
          · rw [if_pos z] at hq; exact ⟨z.1, hq⟩
          · rw [if_neg z] at hq; cases hq
        · unfold runD at g1
          have fin : ∀ {O' : List Addr} {H' : Hp} {σ' : L2.St} {e' : Env} {ys : List D}, Rel K ⟨fun q => if q ∈ O ∧ q ≠ p then H1 q else none, O, fun _ => p⟩ O' H' σ' e' → FrS O H1 O' H' → ioAt e' = some ys →
              Rel K γ O H' σ (setSame e1 j ys) ∧ Fr O H1 H' ∧ Ex (msk O' H') (msk O H') := fun {O' H' σ' e' ys} rr ff hy => by
            obtain ⟨vs', hpe, te⟩ := ioAt_ok rfl rr hy
            have sx : Ex (msk O' H') (msk O H') := msk_sub fun q hq => rr.bo q hq
            have fr : Fr O H1 H' := fun a o h => sx a o (ff a o h)
            have kk : ∀ q ∈ O, q ≠ p → H' q = H1 q := fun q hq hne => by
              cases z : H1 q with
              | none => exact absurd z (r1.live q hq)
              | some o => exact (rr.gs q o (by show (if q ∈ O ∧ q ≠ p then H1 q else none) = some o; rw [if_pos ⟨hq, hne⟩]; exact z)).2
            obtain ⟨w1, w2⟩ := Rel.after_io (xs := xs) (ys := ys) r1 hv kk fr hpe (te.mono sx)
            refine ⟨?_, fr, sx⟩
            rcases hk with hk | hk
            · rw [setSame_ol hk]; exact w1 hk
            · rw [setSame_io hk]; exact w2 hk
          cases qb : b (startE N.length (.io xs :: ds.map .d)) with
          | bad => rw [qb] at g1; exact g1.elim
          | ex x e2 =>
            rw [qb] at g1
            unfold backI at g1
            try dsimp only at g1
            cases qi : ioAt e2 with
            | none => rw [qi] at g1; exact g1.elim
            | some ys =>
              rw [qi] at g1
              cases x with
              | ins C fs =>
                intro O' σ' dx fv H' rr ff hx tf
                obtain ⟨k1, k2, k3⟩ := fin rr ff qi
                have := g1 dx fv H' k1 k2 (k3 _ _ hx) (tf.mono k3)
                rw [hE] at this
                exact this
              | _ => exact g1.elim
          | ok o e2 =>
            rw [qb] at g1
            cases o with
            | nx =>
              unfold backI at g1
              try dsimp only at g1
              cases qi : ioAt e2 with
              | none => rw [qi] at g1; exact g1.elim
              | some ys =>
                rw [qi] at g1
                intro O' σ' H' rr ff
                obtain ⟨k1, k2, k3⟩ := fin rr ff qi
                exact g1 .non H' k1 k2 .non
            | rt d =>
              unfold backI at g1
              try dsimp only at g1
              cases qi : ioAt e2 with
              | none => rw [qi] at g1; exact g1.elim
              | some ys =>
                rw [qi] at g1
                intro O' σ' v H' rr ff td
                obtain ⟨k1, k2, k3⟩ := fin rr ff qi
                exact g1 v H' k1 k2 (td.mono k3)
            | rf zs =>
              unfold backI at g1
              try dsimp only at g1
              cases qi : ioAt e2 with
              | none => rw [qi] at g1; exact g1.elim
              | some ys =>
                rw [qi] at g1
                intro O' σ' p' vs' H' rr ff pO' pB' hp' td
                obtain ⟨k1, k2, k3⟩ := fin rr ff qi
                have pOn : p' ∉ O := pB'
                exact g1 (.ref p') H' k1 k2 (.lst (by rw [msk_out pOn]; exact hp') (td.mono k3))
            | bk => exact g1.elim
            | ct => exact g1.elim
      · rw [if_neg nl] at g1; exact g1.elim
theorem Rel.after2 {p : Addr} {H2 : Hp} (hO : p ∉ O) (r0 : Rel K γ O H σ e) (r : Rel K γ (p :: O) H σ e) (k : ∀ q ∈ O, H2 q = H q) (f : Ex (msk (p :: O) H) (msk O H2)) : Rel K γ O H2 σ e where
  bo := r0.bo
  live := fun q hq => by rw [k q hq]; exact r0.live q hq
  gs := fun q o h => ⟨(r0.gs q o h).1, by rw [k q (r0.bo q (r0.gs q o h).1)]; exact (r0.gs q o h).2⟩
  len := r0.len
  sl := fun i s h => by
    obtain ⟨v, h1, h2⟩ := r.sl i s h
    obtain ⟨v', h1', h2'⟩ := r0.sl i s h
    rw [h1] at h1'; cases h1'
    refine ⟨v, h1, ?_⟩
    cases s with
    | st u => exact h2
    | d x => exact DD.mono f h2
    | ol xs =>
      obtain ⟨q, us, g1, g2, g3, g4, g5⟩ := h2
      obtain ⟨q', us', g1', g2', _⟩ := h2'
      subst g1; cases g1'
      exact ⟨q, us, rfl, g2', g3, by rw [k q g2']; exact g4, g5.mono f⟩
    | io xs =>
      obtain ⟨us, g1, g2, g3, g4, g5⟩ := h2
      exact ⟨us, g1, g2, g3, by rw [k _ (r0.bo _ g2)]; exact g4, g5.mono f⟩
  dj := r0.dj
  ij := r0.ij
def callF (b : M Out) (n np : Nat) (xs : List D) : M D := fun e => if 1 = np then back e (runD b n [.io xs]) else .bad
def mCallF (b : M Out) (n np : Nat) (m : M (List D)) : M D := m >>= callF b n np
theorem ex_callF {N : List Str} {np : Nat} {b : M Out} {Ek : XK} {te : TE} {m : M (List D)} (hE : ∀ σ, E σ = Ek) (h : EF K E te m) : EX K E (tCall (spM K N np b) [] Ek (tCons te tNil)) (mCallF b N.length np m) := fun γ O H σ e Q r g => by
  refine h γ O H σ e _ r ?_
  unfold mCallF at g
  rw [bind_eq] at g
  cases q : m e with
  | bad => rw [q] at g; exact g
  | ex x e' => rw [q] at g; exact g
  | ok xs e1 =>
    rw [q] at g
    intro p us H1 hO r0 r1 fs fr hp tx
    show spM K N np b ([.ref p] ++ []) H1 Q Ek
    rw [List.append_nil]
    unfold callF at g
    try dsimp only at g
    by_cases nl : 1 = np
    · rw [if_pos nl] at g
      refine ⟨⟨fun q => if q ∈ p :: O ∧ q ≠ p then H1 q else none, p :: O, fun _ => p⟩, p :: O, [.io xs], nl, rfl, rfl, Rel.callee_io (ds := []) (vs := []) r1.live List.mem_cons_self hp tx .nil (fun q o hq => ?_) (if_neg fun z => z.2 rfl), ?_⟩
      · by_cases z : q ∈ p :: O ∧ q ≠ p
        · rw [if_pos z] at hq; exact ⟨z.1, hq⟩
        · rw [if_neg z] at hq; cases hq
      · unfold runD at g
        have fin : ∀ {O' : List Addr} {H' : Hp} {σ' : L2.St} {e' : Env}, Rel K ⟨fun q => if q ∈ p :: O ∧ q ≠ p then H1 q else none, p :: O, fun _ => p⟩ O' H' σ' e' → FrS (p :: O) H1 O' H' →
            Rel K γ O H' σ e1 ∧ Fr O H H' ∧ Ex (msk O' H') (msk O H') := fun {O' H' σ' e'} rr ff => by
          have sx : Ex (msk O' H') (msk O H') := msk_sub fun q hq => rr.bo q (List.mem_cons_of_mem _ hq)
          have kk : ∀ q ∈ O, H' q = H1 q := fun q hq => by
            have hne : q ≠ p := fun z => hO (by rw [← z]; exact hq)
            cases z : H1 q with
            | none => exact absurd z (r0.live q hq)
            | some o => exact (rr.gs q o (by show (if q ∈ p :: O ∧ q ≠ p then H1 q else none) = some o; rw [if_pos ⟨List.mem_cons_of_mem _ hq, hne⟩]; exact z)).2
          have fx : Ex (msk (p :: O) H1) (msk O H') := fun a o h => sx a o (ff a o h)
          exact ⟨Rel.after2 hO r0 r1 kk fx, fun a o h => fx a o (fs a o h), sx⟩
        cases qb : b (startE N.length [.io xs]) with
        | bad => rw [qb] at g; exact g.elim
        | ex x e2 =>
          rw [qb] at g
          cases x with
          | ins C fs' =>
            intro O' σ' dx fv H' rr ff hx tf
            obtain ⟨k1, k2, k3⟩ := fin rr ff
            have := g dx fv H' k1 k2 (k3 _ _ hx) (tf.mono k3)
            rw [hE] at this
            exact this
          | _ => exact g.elim
        | ok o e2 =>
          rw [qb] at g
          cases o with
          | nx =>
            intro O' σ' H' rr ff
            obtain ⟨k1, k2, k3⟩ := fin rr ff
            exact g .non H' k1 k2 .non
          | rt d =>
            intro O' σ' v H' rr ff td
            obtain ⟨k1, k2, k3⟩ := fin rr ff
            exact g v H' k1 k2 (td.mono k3)
          | rf zs =>
            intro O' σ' p' vs' H' rr ff pO' pB' hp' td
            obtain ⟨k1, k2, k3⟩ := fin rr ff
            have pOn : p' ∉ O := fun z => pB' (List.mem_cons_of_mem _ z)
            exact g (.ref p') H' k1 k2 (.lst (by rw [msk_out pOn]; exact hp') (td.mono k3))
          | bk => exact g.elim
          | ct => exact g.elim
    · rw [if_neg nl] at g; exact g.elim
end
end Mir

set_option Elab.async false
set_option linter.all false
set_option maxRecDepth 100000
set_option maxHeartbeats 4000000
namespace Mir
open PySem L2

section
variable {K : PySem.W.Frag} {E : XS} {γ : Gh} {O : List Addr} {H : Hp} {σ : L2.St} {e : Env}
def dIx : D → D → Option D
  | .lst xs, .int i => atI xs i
  | .tup xs, .int i => atI xs i
  | .str z, .int i => if mLine z.length = true then (atI z.cps.toList i).map fun c => .str ⟨#[c]⟩ else none
  | _, _ => none
theorem atI_rel {H : Hp} {vs : List V} {ds : List D} {i : Int} {d : D} (t : DDs K H vs ds) (h : atI ds i = some d) : ∃ v, atI vs i = some v ∧ DD K H v d := by
  unfold atI at h ⊢
  rw [t.length]
  cases q : ixN ds.length i with
  | none => rw [q] at h; cases h
  | some j =>
    rw [q] at h
    exact t.get h
theorem op_ixD : OP2 K (rIx K) dIx := fun O H x y dx dy d Q l hx hy h k => by
  unfold dIx at h
  split at h
  · cases hy.int
    obtain ⟨a, vs, rfl, ha, t⟩ := hx.lst
    obtain ⟨v, hv, td⟩ := atI_rel t h
    exact .inl ⟨a, vs, _, v, rfl, rfl, SqL.of ha, hv, k v H (Evl.Ex.refl H) td⟩
  · cases hy.int
    obtain ⟨a, vs, rfl, ha, t⟩ := hx.tup
    obtain ⟨v, hv, td⟩ := atI_rel t h
    exact .inr (.inl ⟨a, vs, _, v, rfl, rfl, ha, hv, k v H (Evl.Ex.refl H) td⟩)
  · split at h
    · rename_i z i hl
      cases hx.str; cases hy.int
      cases q : atI z.cps.toList i with
      | none => rw [q] at h; cases h
      | some c =>
        rw [q] at h; cases h
        exact .inr (.inr ⟨z, i, c, rfl, rfl, mLine_ok hl, q, k _ H (Evl.Ex.refl H) (.str _)⟩)
    · cases h
  · cases h
def EO (K : PySem.W.Frag) (E : XS) (t : TO) (m : M (Option Int)) : Prop := J K E (fun _ _ _ v d => v = d) t m
def oNone : M (Option Int) := M.ret none
def oSome (m : M D) : M (Option Int) := m >>= fun d => match d with
  | .int i => M.ret (some i)
  | _ => fun _ => .bad
theorem eo_none : EO K E tNoPart oNone := fun γ O H σ e Q r g => g none H r (Fr.refl _ _) rfl
theorem eo_some {te : TE} {m : M D} (h : EX K E te m) : EO K E (tPart te) (oSome m) := fun γ O H σ e Q r0 g =>
  J.bind (te := te) (T := TD K) (T' := fun _ _ _ v d => v = d) h r0 g fun d e1 v H1 r1 f1 t1 g1 => by
    cases d with
    | int i => cases t1; exact ⟨i, rfl, g1 _ H1 r1 (Fr.refl _ _) rfl⟩
    | _ => exact g1.elim
def cutD {α : Type} (xs : List α) (lo hi : Option Int) : List α := (xs.drop (HT.sIx xs.length 0 lo)).take (HT.sIx xs.length xs.length hi - HT.sIx xs.length 0 lo)
theorem cut_rel {H : Hp} {vs : List V} {ds : List D} (t : DDs K H vs ds) (lo hi : Option Int) : DDs K H (cutV vs lo hi) (cutD ds lo hi) := by
  unfold cutV cutD
  rw [t.length]
  exact (t.drop _).take _
abbrev rSlAll (K : PySem.W.Frag) : V → Option Int → Option Int → Hp → VK → Prop := fun x lo hi H Q => rSlL K x lo hi H Q ∨ rSlA K x lo hi H Q ∨ rSlS x lo hi H Q
theorem slAll {X : Cx} : L2.SlR X (rSlAll X.K) := by
  intro pins s σ H x v vl vu lo hi sl Q I rx hs pl pu h
  rcases h with h | h | h
  · exact sl_list pins s σ H x v vl vu lo hi sl Q I rx hs pl pu h
  · exact sl_tupA pins s σ H x v vl vu lo hi sl Q I rx hs pl pu h
  · exact sl_str pins s σ H x v vl vu lo hi sl Q I rx hs pl pu h
def dSl : D → Option Int → Option Int → Option D
  | .lst xs, lo, hi => some (.lst (cutD xs lo hi))
  | .fz xs, lo, hi => some (.lst (cutD xs lo hi))
  | .tup xs, lo, hi => some (.tup (cutD xs lo hi))
  | .str z, lo, hi => if mLine z.length = true then some (.str (cutS z lo hi)) else none
  | _, _, _ => none
def mSl (a : M Dv) (lo hi : M (Option Int)) : M D := a >>= fun v => lo >>= fun l => hi >>= fun h => rd v >>= fun d => M.lift (dSl d l h)
theorem ex_sl {te : TE} {tl th : TO} {a : M Dv} {lo hi : M (Option Int)} (h : EV K E te a) (hl : EO K E tl lo) (hh : EO K E th hi) : EX K E (tSl (rSlAll K) te tl th) (mSl a lo hi) := fun γ O H σ e Q r0 g =>
  J.bind (te := te) (T := TDv K) (T' := TD K) h r0 g fun dv e1 x H1 r1 f1 t1 g1 => J.bind (te := tl) (T := fun _ _ _ v d => v = d) (T' := TD K) hl r1 g1 fun l e2 l' H2 r2 f2 t2 g2 =>
    J.bind (te := th) (T := fun _ _ _ v d => v = d) (T' := TD K) hh r2 g2 fun u e3 u' H3 r3 f3 t3 g3 => by
      have t2 : l' = l := t2
      have t3 : u' = u := t3
      subst t2; subst t3
      rw [bind_eq] at g3
      cases q1 : rd dv e3 with
      | bad => rw [q1] at g3; exact g3.elim
      | ex _ _ => exact absurd q1 rd_noex
      | ok d e4 =>
        rw [q1] at g3
        obtain ⟨rfl, b⟩ := rd_ok r3 ((t1.fr f2).fr f3) q1
        cases d with
        | lst xs =>
          obtain ⟨a, vs, rfl, ha, t⟩ := b.lst
          exact .inl ⟨a, vs, rfl, SqL.of ha, fun p hp => g3 (.ref p) _ (r3.ext (Evl.Ex.new hp)) (Fr.ext (Evl.Ex.new hp)) (DD.new_lst hp (r3.out hp) (cut_rel t _ _))⟩
        | fz xs =>
          have bd := b.any (by intro _ z; cases z)
          cases bd with
          | fz a t => exact .inl ⟨_, _, rfl, Evl.ex_l msk_ex a, fun p hp => g3 (.ref p) _ (r3.ext (Evl.Ex.new hp)) (Fr.ext (Evl.Ex.new hp)) (DD.new_lst hp (r3.out hp) (cut_rel t _ _))⟩
        | tup xs =>
          have bd := b.any (by intro _ z; cases z)
          obtain ⟨a, vs, rfl, ha, t⟩ := b.tup
          refine .inr (.inl ⟨a, vs, rfl, ha, fun w => ?_, fun _ p hp => g3 (.ref p) _ (r3.ext (Evl.Ex.new hp)) (Fr.ext (Evl.Ex.new hp)) (DD.new_tup hp (r3.out hp) (cut_rel t _ _))⟩)
          have ec : cutD xs l' u' = xs := by
            unfold cutD
            rw [← t.length, w.1, w.2, List.drop_zero, Nat.sub_zero, t.length, List.take_length]
          have g3' : Good K _ O H3 σ E (fun H' => TD K O H' σ) Q (.ok (.tup (cutD xs l' u')) e4) := g3
          rw [ec] at g3'
          exact g3' _ H3 r3 (Fr.refl _ _) bd
        | str z =>
          cases b.str
          by_cases hz : mLine z.length = true
          · have g3' : Good K _ O H3 σ E (fun H' => TD K O H' σ) Q (M.lift (if mLine z.length = true then some (.str (cutS z l' u')) else none) e4) := g3
            rw [if_pos hz] at g3'
            exact .inr (.inr ⟨z, rfl, mLine_ok hz, g3' _ H3 r3 (Fr.refl _ _) (.str _)⟩)
          · have g3' : Good K _ O H3 σ E (fun H' => TD K O H' σ) Q (M.lift (if mLine z.length = true then some (D.str (cutS z l' u')) else none) e4) := g3
            rw [if_neg hz] at g3'
            exact g3'.elim
        | _ => exact g3.elim
def truD : D → Option Bool
  | .non => some false
  | .bl b => some b
  | .int i => some (i != 0)
  | .str y => if mLine y.length = true then some ((y.length : Int) != 0) else none
  | .lst xs => some (!xs.isEmpty)
  | .tup xs => some (!xs.isEmpty)
  | _ => none
theorem emp_rel {H : Hp} {vs : List V} {ds : List D} (t : DDs K H vs ds) : vs.isEmpty = ds.isEmpty := by
  cases t <;> rfl
theorem tru_of {v : V} {d : D} {b : Bool} (h : DB K O H v d) (q : truD d = some b) : TruV K v H b := by
  cases d with
  | non => cases h.non; cases q; rfl
  | bl _ => cases h.bl; cases q; rfl
  | int _ => cases h.int; cases q; rfl
  | str y =>
    cases h.str
    have q' : (if mLine y.length = true then some ((y.length : Int) != 0) else none) = some b := q
    by_cases hl : mLine y.length = true
    · rw [if_pos hl] at q'; cases q'; exact ⟨mLine_ok hl, rfl⟩
    · rw [if_neg hl] at q'; cases q'
  | lst xs =>
    obtain ⟨a, vs, rfl, ha, t⟩ := h.lst
    cases q
    exact .inl ⟨vs, SqL.of ha, by rw [emp_rel t]⟩
  | tup xs =>
    obtain ⟨a, vs, rfl, ha, t⟩ := h.tup
    cases q
    exact .inr (.inl ⟨vs, ha, by rw [emp_rel t]⟩)
  | _ => cases q
abbrev tTru (K : PySem.W.Frag) (ta : TE) : TT := fun σ H Q => ta σ H fun x H' => ∃ k, TruV K x H' k ∧ Q k H'
def mTru (a : M Dv) : M Bool := a >>= fun v => rd v >>= fun d => M.lift (truD d)
theorem et_tru {te : TE} {a : M Dv} (h : EV K E te a) : ET K E (tTru K te) (mTru a) := fun γ O H σ e Q r0 g =>
  J.bind (te := te) (T := TDv K) (T' := TB) h r0 g fun dv e1 x H1 r1 f1 t1 g1 => by
    rw [bind_eq] at g1
    cases q1 : rd dv e1 with
    | bad => rw [q1] at g1; exact g1.elim
    | ex _ _ => exact absurd q1 rd_noex
    | ok d e4 =>
      rw [q1] at g1
      obtain ⟨rfl, b⟩ := rd_ok r1 t1 q1
      cases q2 : truD d with
      | none => 
        have g1' : Good K _ O H1 σ E (fun H' => TB O H' σ) Q (M.lift (truD d) e4) := g1
        rw [q2] at g1'
        exact g1'.elim
      | some k =>
        have g1' : Good K _ O H1 σ E (fun H' => TB O H' σ) Q (M.lift (truD d) e4) := g1
        rw [q2] at g1'
        exact ⟨k, tru_of b q2, g1' k H1 r1 (Fr.refl _ _) rfl⟩
def mOrT (a b : M D) : M D := a >>= fun d => fun e => match truD d with
  | some true => .ok d e
  | some false => b e
  | none => .bad
def mAndT (a b : M D) : M D := a >>= fun d => fun e => match truD d with
  | some false => .ok d e
  | some true => b e
  | none => .bad
theorem ex_orT {ta tb : TE} {a b : M D} (h1 : EX K E ta a) (h2 : EX K E tb b) : EX K E (tOrT K ta tb) (mOrT a b) := fun γ O H σ e Q r0 g => by
  unfold mOrT at g
  change Good K γ O H σ E _ Q (M.andThen a (fun d => fun e => match truD d with | some true => .ok d e | some false => b e | none => .bad) e) at g
  refine J.bind (te := ta) (T := TD K) (T' := TD K) h1 r0 g fun d e1 x H1 r1 f1 t1 g1 => ?_
  cases q : truD d with
  | none => rw [q] at g1; exact g1.elim
  | some k =>
    rw [q] at g1
    refine ⟨k, tru_of (.dd t1) q, ?_⟩
    cases k with
    | true => exact g1 x H1 r1 (Fr.refl _ _) t1
    | false => exact h2 γ O H1 σ e1 Q r1 g1
theorem ex_andT {ta tb : TE} {a b : M D} (h1 : EX K E ta a) (h2 : EX K E tb b) : EX K E (tAndT K ta tb) (mAndT a b) := fun γ O H σ e Q r0 g => by
  unfold mAndT at g
  change Good K γ O H σ E _ Q (M.andThen a (fun d => fun e => match truD d with | some false => .ok d e | some true => b e | none => .bad) e) at g
  refine J.bind (te := ta) (T := TD K) (T' := TD K) h1 r0 g fun d e1 x H1 r1 f1 t1 g1 => ?_
  cases q : truD d with
  | none => rw [q] at g1; exact g1.elim
  | some k =>
    rw [q] at g1
    refine ⟨k, tru_of (.dd t1) q, ?_⟩
    cases k with
    | true => exact h2 γ O H1 σ e1 Q r1 g1
    | false => exact g1 x H1 r1 (Fr.refl _ _) t1
/-- an or of two new lists: the first one if it has items -/
def oOr (a b : M (List D)) : M (List D) := a >>= fun d => fun e => if d.isEmpty = true then b e else .ok d e
theorem ef_or {ta tb : TE} {a b : M (List D)} (h1 : EF K E ta a) (h2 : EF K E tb b) : EF K E (tOrT K ta tb) (oOr a b) := fun γ O H σ e Q r0 g => by
  refine h1 γ O H σ e _ r0 ?_
  unfold oOr at g
  change GoodF K γ O H σ E Q (M.andThen a (fun d => fun e => if d.isEmpty = true then b e else .ok d e) e) at g
  unfold M.andThen at g
  cases q : a e with
  | bad => rw [q] at g; exact g
  | ex x e' => rw [q] at g; exact g
  | ok ds e1 =>
    rw [q] at g
    intro p vs H1 hO r1 r2 f1 f2 hp t
    refine ⟨!vs.isEmpty, .inl ⟨vs, SqL.of hp, rfl⟩, ?_⟩
    rw [emp_rel t]
    try dsimp only at g
    by_cases z : ds.isEmpty = true
    · rw [if_pos z] at g
      rw [z]
      show tb σ H1 Q
      exact h2 γ O H1 σ e1 Q r1 (GoodF.fr (E := E) f2 g)
    · rw [if_neg z] at g
      have z' : ds.isEmpty = false := by simpa using z
      rw [z']
      show Q (.ref p) H1
      exact g p vs H1 hO r1 r2 f1 f2 hp t
abbrev rIsN' : R2 := fun x y H Q => y = .non ∧ Q (.bl (decide (x = .non))) H
abbrev rNotN' : R2 := fun x y H Q => y = .non ∧ Q (.bl (!decide (x = .non))) H
def dIsN : D → D → Option D
  | d, .non => some (.bl (isNon d))
  | _, _ => none
def dNotN : D → D → Option D
  | d, .non => some (.bl (!isNon d))
  | _, _ => none
theorem non_rel {v : V} {d : D} (h : DB K O H v d) : decide (v = .non) = isNon d := by
  cases h with
  | dd h => cases h <;> rfl
  | ow a b c => subst a; rfl
theorem op_isND : OP2 K rIsN' dIsN := fun O H x y dx dy d Q l hx hy h k => by
  unfold dIsN at h
  split at h
  · cases h
    refine ⟨hy.non, ?_⟩
    rw [non_rel hx]
    exact k _ H (Evl.Ex.refl H) (.bl _)
  · cases h
theorem op_notND : OP2 K rNotN' dNotN := fun O H x y dx dy d Q l hx hy h k => by
  unfold dNotN at h
  split at h
  · cases h
    refine ⟨hy.non, ?_⟩
    rw [non_rel hx]
    exact k _ H (Evl.Ex.refl H) (.bl _)
  · cases h
def strsD : List D → Option (List Str)
  | [] => some []
  | .str s :: r => (strsD r).map (s :: ·)
  | _ :: _ => none
theorem strs_rel : ∀ {vs : List V} {ds : List D} {ss : List Str}, DDs K H vs ds → strsD ds = some ss → vs = ss.map V.str ∧ ds = ss.map D.str
  | _, _, _, .nil, h => by cases h; exact ⟨rfl, rfl⟩
  | _, _, _, .cons (d := d) (ds := ds) a b, h => by
    cases d with
    | str s =>
      cases a
      unfold strsD at h
      cases q : strsD ds with
      | none => rw [q] at h; cases h
      | some ss =>
        rw [q] at h; cases h
        obtain ⟨h1, h2⟩ := strs_rel b q
        rw [h1, h2]
        exact ⟨rfl, rfl⟩
    | _ => cases h
def joinFits (a : Str) (ys : List Str) : Bool := decide ((ys.map (·.length)).sum + ys.length * a.length ≤ 16777216)
def dJoin : D → D → Option D
  | .str a, .lst xs => (strsD xs).bind fun ys => if joinFits a ys = true then some (.str (Txt.join a ys)) else none
  | .str a, .tup xs => (strsD xs).bind fun ys => if joinFits a ys = true then some (.str (Txt.join a ys)) else none
  | _, _ => none
abbrev rJoinA (K : PySem.W.Frag) : V → List V → Hp → VK → Prop := fun x xs H Q => ∃ a p, ∃ ys : List Str, x = .str a ∧ xs = [.ref p] ∧ (SqL K H p (ys.map V.str) ∨ SqT K H p (ys.map V.str)) ∧
  (ys.map (·.length)).sum + ys.length * a.length ≤ 16777216 ∧ Q (.str (Txt.join a ys)) H
def isStr : D → Bool
  | .str _ => true
  | _ => false
def m1k (f : D → D → Option D) (b : M Dv) (x : D) : M D := fun e => if isStr x = true then (b >>= fun y => rd y >>= fun dy => M.lift (f x dy)) e else .bad
def mM1 (f : D → D → Option D) (a : M D) (b : M Dv) : M D := a >>= m1k f b
/-- a text's method with one argument -/
def OM1 (K : PySem.W.Frag) (r : V → List V → Hp → VK → Prop) (f : D → D → Option D) : Prop :=
  ∀ (O : List Addr) (H : Hp) (x y : V) (dx dy d : D) (Q : VK), (∀ q ∈ O, H q ≠ none) → DB K O H x dx → DB K O H y dy → f dx dy = some d → (∀ v H', Ex H H' → DD K (msk O H') v d → Q v H') → r x [y] H Q
theorem ex_m1 {r : V → List V → Hp → VK → Prop} {f : D → D → Option D} {to te : TE} {a : M D} {b : M Dv} (ho : OM1 K r f) (ha : EX K E to a) (hb : EV K E te b) : EX K E (tM1 r to te) (mM1 f a b) := fun γ O H σ e Q r0 g =>
  J.bind (te := to) (T := TD K) (T' := TD K) ha r0 g fun dx e1 x H1 r1 f1 t1 g1 => by
    unfold m1k at g1
    by_cases hs : isStr dx = true
    · rw [if_pos hs] at g1
      refine ⟨?_, J.bind (te := te) (T := TDv K) (T' := TD K) hb r1 g1 fun dv e2 y H2 r2 f2 t2 g2 => ?_⟩
      · cases t1 with
        | str s => exact ⟨s, rfl⟩
        | _ => cases hs
      · rw [bind_eq] at g2
        cases q1 : rd dv e2 with
        | bad => rw [q1] at g2; exact g2.elim
        | ex _ _ => exact absurd q1 rd_noex
        | ok d e4 =>
          rw [q1] at g2
          obtain ⟨rfl, bb⟩ := rd_ok r2 t2 q1
          have g3 : Good K _ O H2 σ E (fun H' => TD K O H' σ) Q (M.lift (f dx d) e4) := g2
          cases q2 : f dx d with
          | none => rw [q2] at g3; exact g3.elim
          | some z =>
            rw [q2] at g3
            exact ho O H2 x y dx d z Q r2.live (.dd (t1.mono f2)) bb q2 fun v H' xx dd => g3 v H' (r2.ext xx) (Fr.ext xx) dd
    · rw [if_neg hs] at g1; exact g1.elim
theorem join_M : OM1 K (rJoinA K) dJoin := fun O H x y dx dy d Q l hx hy h k => by
  unfold dJoin at h
  split at h
  · rename_i a xs
    cases hx.str
    obtain ⟨p, vs, rfl, hp, t⟩ := hy.lst
    cases q : strsD xs with
    | none => rw [q] at h; cases h
    | some ys =>
      rw [q] at h
      obtain ⟨h1, h2⟩ := strs_rel t q
      subst h1
      have h' : (if joinFits a ys = true then some (D.str (Txt.join a ys)) else none) = some d := h
      by_cases z : joinFits a ys = true
      · rw [if_pos z] at h'; cases h'
        exact ⟨a, p, ys, rfl, rfl, .inl (SqL.of hp), of_decide_eq_true z, k _ H (Evl.Ex.refl H) (.str _)⟩
      · rw [if_neg z] at h'; cases h'
  · rename_i a xs
    cases hx.str
    obtain ⟨p, vs, rfl, hp, t⟩ := hy.tup
    cases q : strsD xs with
    | none => rw [q] at h; cases h
    | some ys =>
      rw [q] at h
      obtain ⟨h1, h2⟩ := strs_rel t q
      subst h1
      have h' : (if joinFits a ys = true then some (D.str (Txt.join a ys)) else none) = some d := h
      by_cases z : joinFits a ys = true
      · rw [if_pos z] at h'; cases h'
        exact ⟨a, p, ys, rfl, rfl, .inr hp, of_decide_eq_true z, k _ H (Evl.Ex.refl H) (.str _)⟩
      · rw [if_neg z] at h'; cases h'
  · cases h
abbrev rSplitA : V → List V → Hp → VK → Prop := fun x xs H Q => ∃ a b, x = .str a ∧ xs = [.str b] ∧ (b.length == 0) = false ∧ a.length + 2 ≤ sizeLine ∧ rNewStrs (Txt.split a b) H Q
def dSplit : D → D → Option D
  | .str a, .str b => if ((b.length == 0) == false && mLine (a.length + 2)) = true then some (.lst ((Txt.split a b).map .str)) else none
  | _, _ => none
theorem DDs.strs : ∀ (ss : List Str), DDs K H (ss.map V.str) (ss.map D.str)
  | [] => .nil
  | s :: ss => .cons (.str s) (DDs.strs ss)
theorem split_M : OM1 K rSplitA dSplit := fun O H x y dx dy d Q l hx hy h k => by
  unfold dSplit at h
  split at h
  · rename_i a b
    cases hx.str; cases hy.str
    split at h
    · rename_i z; cases h
      simp only [Bool.and_eq_true, beq_iff_eq] at z
      exact ⟨a, b, rfl, rfl, by simpa using z.1, mLine_ok z.2, fun p hp => k (.ref p) _ (Evl.Ex.new hp) (DD.new_lst hp (live_out l hp) (DDs.strs _))⟩
    · cases h
  · cases h
abbrev rStrI : List V → Hp → VK → Prop := fun xs H Q => ∃ i, xs = [.int i] ∧ i.natAbs.log2 < 1920 ∧ Q (.str (toString i)) H
def dStr : List D → Option D
  | [.int i] => if i.natAbs.log2 < 1920 then some (.str (toString i)) else none
  | _ => none
theorem str_D : OPn K rStrI dStr := fun O H xs ds d Q l hz h k => by
  unfold dStr at h
  split at h
  · split at h
    · rename_i i hl; cases h
      obtain ⟨x, rfl, hx⟩ := hz.one
      cases hx.int
      exact ⟨_, rfl, hl, k _ H (Evl.Ex.refl H) (.str _)⟩
    · cases h
  · cases h
def blsD : List D → Option (List Bool)
  | [] => some []
  | .bl b :: r => (blsD r).map (b :: ·)
  | _ :: _ => none
theorem bls_rel : ∀ {vs : List V} {ds : List D} {ss : List Bool}, DDs K H vs ds → blsD ds = some ss → vs = ss.map V.bl
  | _, _, _, .nil, h => by cases h; rfl
  | _, _, _, .cons (d := d) (ds := ds) a b, h => by
    cases d with
    | bl s =>
      cases a
      unfold blsD at h
      cases q : blsD ds with
      | none => rw [q] at h; cases h
      | some ss => rw [q] at h; cases h; rw [bls_rel b q]; rfl
    | _ => cases h
def dAll : List D → Option D
  | [.lst xs] => (blsD xs).map fun bs => .bl (bs.all id)
  | _ => none
def dAny : List D → Option D
  | [.lst xs] => (blsD xs).map fun bs => .bl (bs.any id)
  | _ => none
theorem all_D : OPn K (rAll K) dAll := fun O H xs ds d Q l hz h k => by
  unfold dAll at h
  split at h
  · rename_i xs
    obtain ⟨x, rfl, hx⟩ := hz.one
    obtain ⟨p, vs, rfl, hp, t⟩ := hx.lst
    cases q : blsD xs with
    | none => rw [q] at h; cases h
    | some bs =>
      rw [q] at h; cases h
      have := bls_rel t q
      subst this
      exact ⟨p, bs, rfl, SqL.of hp, k _ H (Evl.Ex.refl H) (.bl _)⟩
  · cases h
theorem any_D : OPn K (rAny K) dAny := fun O H xs ds d Q l hz h k => by
  unfold dAny at h
  split at h
  · rename_i xs
    obtain ⟨x, rfl, hx⟩ := hz.one
    obtain ⟨p, vs, rfl, hp, t⟩ := hx.lst
    cases q : blsD xs with
    | none => rw [q] at h; cases h
    | some bs =>
      rw [q] at h; cases h
      have := bls_rel t q
      subst this
      exact ⟨p, bs, rfl, SqL.of hp, k _ H (Evl.Ex.refl H) (.bl _)⟩
  · cases h
def fmtD : D → Option Str
  | .str y => if mLine y.length = true then some y else none
  | .int i => if i.natAbs.log2 < 1920 then some (toString i) else none
  | _ => none
/-- x.append(e) -/
def appO (i : Nat) (d : D) : M Out := fun e => match ownAt e i with
  | some xs => if mLine (xs.length + 1) = true then .ok .nx (setSame e i (xs ++ [d])) else .bad
  | none => .bad
def sApp (i : Nat) (m : M D) : M Out := fun e => match ownAt e i with
  | some _ => (m >>= appO i) e
  | none => .bad
theorem own_upd {i : Nat} {p : Addr} {vs : List V} {xs ys : List D} (r : Rel K γ O H σ e) (hv : σ[i]? = some (some (.ref p))) (hk : e[i]? = some (some (Sl.ol xs)) ∨ e[i]? = some (some (Sl.io xs))) (t : DDs K (msk O H) vs ys) :
    Rel K γ O (upd H p (.lst vs)) σ (setSame e i ys) ∧ Fr O H (upd H p (.lst vs)) := by
  rcases hk with hk | hk
  · rw [setSame_ol hk]; exact r.updO hk hv t
  · rw [setSame_io hk]; exact r.updI hk hv t
theorem sx_app {i : Nat} {te : TE} {m : M D} (h : EX K E te m) : SX K E (tDrop (tBM K "list" rAppend (tVar i) (tCons te tNil))) (sApp i m) := fun γ O H σ e Dn r g => by
  unfold sApp at g
  try dsimp only at g
  cases q0 : ownAt e i with
  | none => rw [q0] at g; exact g.elim
  | some xs0 =>
    rw [q0] at g
    obtain ⟨p, us0, hv, pO, pn, hp0, tx0, _⟩ := ownAt_ok r q0
    refine ⟨.ref p, hv, Or.inl ⟨rfl, us0, SqL.of hp0⟩, ?_⟩
    refine J.stmt (te := te) (T := TD K) h r g fun d e1 v H1 r1 f1 t g1 => ?_
    unfold appO at g1
    cases q1 : ownAt e1 i with
    | none => rw [q1] at g1; exact g1.elim
    | some xs =>
      rw [q1] at g1
      obtain ⟨p1, us, hv1, pO1, pn1, hp, tx, hk⟩ := ownAt_ok r1 q1
      rw [hv] at hv1
      obtain rfl : p = p1 := by cases hv1; rfl
      try dsimp only at g1
      by_cases hl : mLine (xs.length + 1) = true
      · rw [if_pos hl] at g1
        have hz := mLine_ok hl
        rw [← tx.length] at hz
        obtain ⟨w1, w2⟩ := own_upd (vs := us ++ [v]) (ys := xs ++ [d]) r1 hv hk (tx.append (.cons t .nil))
        exact ⟨p, us, v, rfl, rfl, hp, by omega, g1 O σ _ w1 w2.s⟩
      · rw [if_neg hl] at g1; exact g1.elim
/-- x.pop(e) as a value -/
def popO (i : Nat) (d : D) : M D := fun e => match ownAt e i, d with
  | some xs, .int k => if small62 k = true then (match seqIndex? k xs.length with
    | some j => match xs[j]? with
      | some y => .ok y (setSame e i (xs.eraseIdx j))
      | none => .bad
    | none => .bad) else .bad
  | _, _ => .bad
def mPop (i : Nat) (m : M D) : M D := fun e => match ownAt e i with
  | some _ => (m >>= popO i) e
  | none => .bad
theorem ex_popAt {i : Nat} {te : TE} {m : M D} (h : EX K E te m) : EX K E (tBM K "list" rPopAt (tVar i) (tCons te tNil)) (mPop i m) := fun γ O H σ e Q r g => by
  unfold mPop at g
  try dsimp only at g
  cases q0 : ownAt e i with
  | none => rw [q0] at g; exact g.elim
  | some xs0 =>
    rw [q0] at g
    obtain ⟨p, us0, hv, pO, pn, hp0, tx0, _⟩ := ownAt_ok r q0
    refine ⟨.ref p, hv, Or.inl ⟨rfl, us0, SqL.of hp0⟩, ?_⟩
    refine J.bind (te := te) (T := TD K) (T' := TD K) h r g fun d e1 v H1 r1 f1 t g1 => ?_
    unfold popO at g1
    cases q1 : ownAt e1 i with
    | none => rw [q1] at g1; exact g1.elim
    | some xs =>
      rw [q1] at g1
      obtain ⟨p1, us, hv1, pO1, pn1, hp, tx, hk⟩ := ownAt_ok r1 q1
      rw [hv] at hv1
      obtain rfl : p = p1 := by cases hv1; rfl
      cases d with
      | int k =>
        try dsimp only at g1
        by_cases hl : small62 k = true
        · rw [if_pos hl] at g1
          cases qj : seqIndex? k xs.length with
          | none => rw [qj] at g1; exact g1.elim
          | some j =>
            rw [qj] at g1
            try dsimp only at g1
            cases qy : xs[j]? with
            | none => rw [qy] at g1; exact g1.elim
            | some y =>
              rw [qy] at g1
              cases t
              obtain ⟨w, hw, tw⟩ := tx.get qy
              obtain ⟨b1, b2⟩ := small62_ok hl
              obtain ⟨w1, w2⟩ := own_upd (vs := us.eraseIdx j) (ys := xs.eraseIdx j) r1 hv hk (tx.eraseIdx j)
              exact ⟨p, us, k, j, w, rfl, rfl, hp, by omega, by omega, by rw [tx.length]; exact qj, hw, g1 w _ w1 w2 (tw.mono w2)⟩
        · rw [if_neg hl] at g1; exact g1.elim
      | _ => exact g1.elim
/-- x[k] = e -/
def putAt (i : Nat) (d k : D) : M Out := fun e => match ownAt e i, k with
  | some xs, .int k => match ixN xs.length k with
    | some j => .ok .nx (setSame e i (xs.set j d))
    | none => .bad
  | _, _ => .bad
def sSet (i : Nat) (m k : M D) : M Out := m >>= fun d => fun e => match ownAt e i with
  | some _ => (k >>= putAt i d) e
  | none => .bad
theorem sx_set {i : Nat} {te ti : TE} {m k : M D} (h : EX K E te m) (h2 : EX K E ti k) : SX K E (tAsg te (gSub (tVar i) ti rSetL)) (sSet i m k) := fun γ O H σ e Dn r g => by
  unfold sSet at g
  change GoodS K γ O H E Dn (M.andThen m (fun d => fun e => match ownAt e i with | some _ => (k >>= putAt i d) e | none => .bad) e) at g
  refine J.stmt (te := te) (T := TD K) h r g fun d e1 v H1 r1 f1 t g1 => ?_
  cases q0 : ownAt e1 i with
  | none => rw [q0] at g1; exact g1.elim
  | some xs0 =>
    rw [q0] at g1
    obtain ⟨p, us0, hv, pO, pn, hp0, tx0, _⟩ := ownAt_ok r1 q0
    refine ⟨.ref p, hv, ?_⟩
    refine J.stmt (te := ti) (T := TD K) h2 r1 g1 fun kd e2 w H2 r2 f2 tw g2 => ?_
    unfold putAt at g2
    cases q1 : ownAt e2 i with
    | none => rw [q1] at g2; exact g2.elim
    | some xs =>
      rw [q1] at g2
      obtain ⟨p1, us, hv1, pO1, pn1, hp, tx, hk⟩ := ownAt_ok r2 q1
      rw [hv] at hv1
      obtain rfl : p = p1 := by cases hv1; rfl
      cases kd with
      | int k =>
        try dsimp only at g2
        cases qj : ixN xs.length k with
        | none => rw [qj] at g2; exact g2.elim
        | some j =>
          rw [qj] at g2
          cases tw
          obtain ⟨w1, w2⟩ := own_upd (vs := us.set j v) (ys := xs.set j d) r2 hv hk ((DDs.set (t.mono f2) j tx))
          exact ⟨p, us, k, j, rfl, rfl, hp, by rw [tx.length]; exact qj, g2 O σ _ w1 w2.s⟩
      | _ => exact g2.elim
end
end Mir

set_option Elab.async false
set_option linter.all false
set_option maxRecDepth 100000
set_option maxHeartbeats 4000000
namespace Mir
open PySem L2

section
variable {K : PySem.W.Frag} {E : XS} {γ : Gh} {O : List Addr} {H : Hp} {σ : L2.St} {e : Env}
def zipD : List D → List D → List D
  | x :: xs, y :: ys => .tup [x, y] :: zipD xs ys
  | _, _ => []
theorem zipD_get : ∀ {xs ys : List D} {i : Nat} {d : D}, (zipD xs ys)[i]? = some d → ∃ x y, xs[i]? = some x ∧ ys[i]? = some y ∧ d = .tup [x, y]
  | [], _, i, d, h => by simp [zipD] at h
  | _ :: _, [], i, d, h => by simp [zipD] at h
  | x :: xs, y :: ys, 0, d, h => by simp [zipD] at h; exact ⟨x, y, rfl, rfl, h.symm⟩
  | x :: xs, y :: ys, i + 1, d, h => by
    have h' : (zipD xs ys)[i]? = some d := by simpa [zipD] using h
    obtain ⟨a, b, h1, h2, h3⟩ := zipD_get h'
    exact ⟨a, b, by simpa using h1, by simpa using h2, h3⟩
theorem zipD_len : ∀ {xs ys : List D}, xs.length ≤ (zipD xs ys).length ∨ ys.length ≤ (zipD xs ys).length
  | [], _ => .inl (Nat.zero_le _)
  | _ :: _, [] => .inr (Nat.zero_le _)
  | x :: xs, y :: ys => by
    rcases zipD_len (xs := xs) (ys := ys) with h | h
    · exact .inl (Nat.succ_le_succ h)
    · exact .inr (Nat.succ_le_succ h)
theorem itD_zipL {a b : Addr} {vs us : List V} {ds es : List D} (ha : msk O H a = some (.lst vs)) (t : DDs K (msk O H) vs ds) (hb : msk O H b = some (.lst us)) (t2 : DDs K (msk O H) us es) : ItD K (Itz K a b) O H (zipD ds es) := by
  refine ⟨fun O H => msk O H a = some (.lst vs) ∧ DDs K (msk O H) vs ds ∧ msk O H b = some (.lst us) ∧ DDs K (msk O H) us es, ⟨ha, t, hb, t2⟩, fun O H O' H' f h => ⟨f _ _ h.1, h.2.1.mono f, f _ _ h.2.2.1, h.2.2.2.mono f⟩, fun O H i d l h hd => ?_, fun O H h => ?_⟩
  · obtain ⟨x, y, hx, hy, rfl⟩ := zipD_get hd
    obtain ⟨v, hv, tv⟩ := h.2.1.get hx
    obtain ⟨u, hu, tu⟩ := h.2.2.2.get hy
    have s1 : SqL K H a vs := SqL.of (msk_ex _ _ h.1)
    have s2 : SqL K H b us := SqL.of (msk_ex _ _ h.2.2.1)
    refine ⟨⟨vs, us, v, u, s1, s2, hv, hu⟩, fun w H' q => ?_⟩
    obtain ⟨T, v', u', rfl, hT, rfl, k1, k2⟩ := q
    have e1 := k1 vs s1
    have e2 := k2 us s2
    rw [hv] at e1; cases e1
    rw [hu] at e2; cases e2
    exact ⟨Evl.Ex.new hT, DD.new_tup hT (live_out l hT) (.cons tv (.cons tu .nil))⟩
  · refine ⟨vs, us, SqL.of (msk_ex _ _ h.1), SqL.of (msk_ex _ _ h.2.2.1), ?_⟩
    rw [h.2.1.length, h.2.2.2.length]
    exact zipD_len
theorem itD_zipT {a b : Addr} {vs us : List V} {ds es : List D} (ha : SqT K (msk O H) a vs) (t : DDs K (msk O H) vs ds) (hb : SqT K (msk O H) b us) (t2 : DDs K (msk O H) us es) : ItD K (RZ.ItzT K a b) O H (zipD ds es) := by
  refine ⟨fun O H => SqT K (msk O H) a vs ∧ DDs K (msk O H) vs ds ∧ SqT K (msk O H) b us ∧ DDs K (msk O H) us es, ⟨ha, t, hb, t2⟩, fun O H O' H' f h => ⟨Evl.ex_t f h.1, h.2.1.mono f, Evl.ex_t f h.2.2.1, h.2.2.2.mono f⟩, fun O H i d l h hd => ?_, fun O H h => ?_⟩
  · obtain ⟨x, y, hx, hy, rfl⟩ := zipD_get hd
    obtain ⟨v, hv, tv⟩ := h.2.1.get hx
    obtain ⟨u, hu, tu⟩ := h.2.2.2.get hy
    have s1 : SqT K H a vs := Evl.ex_t msk_ex h.1
    have s2 : SqT K H b us := Evl.ex_t msk_ex h.2.2.1
    refine ⟨⟨vs, us, v, u, s1, s2, hv, hu⟩, fun w H' q => ?_⟩
    obtain ⟨T, v', u', rfl, hT, rfl, k1, k2⟩ := q
    have e1 := k1 vs s1
    have e2 := k2 us s2
    rw [hv] at e1; cases e1
    rw [hu] at e2; cases e2
    exact ⟨Evl.Ex.new hT, DD.new_tup hT (live_out l hT) (.cons tv (.cons tu .nil))⟩
  · refine ⟨vs, us, Evl.ex_t msk_ex h.1, Evl.ex_t msk_ex h.2.2.1, ?_⟩
    rw [h.2.1.length, h.2.2.2.length]
    exact zipD_len
def dZip : List D → Option (List D)
  | [.lst xs, .lst ys] => some (zipD xs ys)
  | [.tup xs, .tup ys] => some (zipD xs ys)
  | _ => none
def wZip (m : M (List D)) : M (List D) := m >>= fun ds => M.lift (dZip ds)
theorem jw_zip {ta : TA} {m : M (List D)} (h : EA K E ta m) : JW K E (RZ.iZipA K ta) (wZip m) := fun γ O H σ e Rr r g =>
  J.walk (te := ta) (T := TDs K) h r g fun ds e' vs H' r1 f1 t g1 => by
    unfold dZip at g1
    split at g1
    · cases t with
      | cons a b =>
        cases b with
        | cons c d =>
          cases d
          cases a with
          | lst a1 a2 => cases c with | lst c1 c2 => exact ⟨_, _, _, _, rfl, .inl ⟨SqL.of (msk_ex _ _ a1), SqL.of (msk_ex _ _ c1), g1 _ H' r1 (Fr.refl _ _) (itD_zipL a1 a2 c1 c2)⟩⟩
    · cases t with
      | cons a b =>
        cases b with
        | cons c d =>
          cases d
          cases a with
          | tup a1 a2 => cases c with | tup c1 c2 => exact ⟨_, _, _, _, rfl, .inr ⟨Evl.ex_t msk_ex a1, Evl.ex_t msk_ex c1, g1 _ H' r1 (Fr.refl _ _) (itD_zipT a1 a2 c1 c2)⟩⟩
    all_goals exact g1.elim
def tyD : D → Option String
  | .non => some "NoneType"
  | .bl _ => some "bool"
  | .int _ => some "int"
  | .str _ => some "str"
  | .lst _ => some "list"
  | .tup _ => some "tuple"
  | _ => none
def isTy (n : String) (d : D) : Option Bool := (tyD d).bind fun t => kitB t n
theorem tyX_of {v : V} {d : D} {t : String} (h : DB K O H v d) (q : tyD d = some t) : TyX K H v (.type t) := by
  cases d with
  | non => cases h.non; cases q; exact .base .non
  | bl _ => cases h.bl; cases q; exact .base (.bl _)
  | int _ => cases h.int; cases q; exact .base (.int _)
  | str _ => cases h.str; cases q; exact .base (.str _)
  | lst xs =>
    obtain ⟨a, vs, rfl, ha, t⟩ := h.lst
    cases q; exact .base (.lst ha)
  | tup xs =>
    obtain ⟨a, vs, rfl, ha, t⟩ := h.tup
    cases q
    rcases ha with (ha | ⟨o, ha⟩) | ⟨o, its, n, hk, hc, _⟩
    · exact .base (.tup ha)
    · exact .fTuple ha
    · exact .kTuple hk hc
  | _ => cases q
def mIs1 (n : String) (a : M Dv) : M D := a >>= fun v => rd v >>= fun d => M.lift ((isTy n d).map .bl)
theorem ex_is1 {n : String} {ta : TE} {a : M Dv} (h : EV K E ta a) : EX K E (tCB (rIsi K) (tCons ta (tCons (tC (.ty n)) tNil))) (mIs1 n a) := fun γ O H σ e Q r0 g =>
  J.bind (te := ta) (T := TDv K) (T' := TD K) h r0 g fun dv e1 x H1 r1 f1 t1 g1 => by
    rw [bind_eq] at g1
    cases q1 : rd dv e1 with
    | bad => rw [q1] at g1; exact g1.elim
    | ex _ _ => exact absurd q1 rd_noex
    | ok d e4 =>
      rw [q1] at g1
      obtain ⟨rfl, bb⟩ := rd_ok r1 t1 q1
      have g3 : Good K _ O H1 σ E (fun H' => TD K O H' σ) Q (M.lift ((isTy n d).map .bl) e4) := g1
      unfold isTy at g3
      cases qt : tyD d with
      | none => rw [qt] at g3; exact g3.elim
      | some t =>
        rw [qt] at g3
        cases qk : kitB t n with
        | none =>
          have g4 : Good K _ O H1 σ E (fun H' => TD K O H' σ) Q (M.lift ((kitB t n).map .bl) e4) := g3
          rw [qk] at g4; exact g4.elim
        | some b =>
          have g4 : Good K _ O H1 σ E (fun H' => TD K O H' σ) Q (M.lift ((kitB t n).map .bl) e4) := g3
          rw [qk] at g4
          exact ⟨x, .ty n, .type t, .type n, b, rfl, ClsV.ty n, tyX_of bb qt, kit_ty qk, g4 _ H1 r1 (Fr.refl _ _) (.bl _)⟩
/-- isinstance(x, (A, B)) -/
def isTy2 (m n : String) (d : D) : Option Bool := (tyD d).bind fun t => (kitB t m).bind fun a => (kitB t n).map fun b => a || b
def mIs2 (m n : String) (a : M Dv) : M D := a >>= fun v => rd v >>= fun d => M.lift ((isTy2 m n d).map .bl)
theorem ex_is2 {m n : String} {ta : TE} {a : M Dv} (h : EV K E ta a) : EX K E (tCB (rIsiT K) (tCons ta (tCons (tTup (tCons (tC (.ty m)) (tCons (tC (.ty n)) tNil))) tNil))) (mIs2 m n a) := fun γ O H σ e Q r0 g =>
  J.bind (te := ta) (T := TDv K) (T' := TD K) h r0 g fun dv e1 x H1 r1 f1 t1 g1 => by
    rw [bind_eq] at g1
    cases q1 : rd dv e1 with
    | bad => rw [q1] at g1; exact g1.elim
    | ex _ _ => exact absurd q1 rd_noex
    | ok d e4 =>
      rw [q1] at g1
      obtain ⟨rfl, bb⟩ := rd_ok r1 t1 q1
      have g3 : Good K _ O H1 σ E (fun H' => TD K O H' σ) Q (M.lift ((isTy2 m n d).map .bl) e4) := g1
      unfold isTy2 at g3
      cases qt : tyD d with
      | none => rw [qt] at g3; exact g3.elim
      | some t =>
        rw [qt] at g3
        have g4 : Good K _ O H1 σ E (fun H' => TD K O H' σ) Q (M.lift (((kitB t m).bind fun a => (kitB t n).map fun b => a || b).map D.bl) e4) := g3
        cases qa : kitB t m with
        | none => rw [qa] at g4; exact g4.elim
        | some a' =>
          rw [qa] at g4
          have g5 : Good K _ O H1 σ E (fun H' => TD K O H' σ) Q (M.lift (((kitB t n).map fun b => a' || b).map D.bl) e4) := g4
          cases qb : kitB t n with
          | none => rw [qb] at g5; exact g5.elim
          | some b' =>
            rw [qb] at g5
            refine ⟨by show 2 ≤ sizeLine; decide, fun p hp => ⟨x, p, [.ty m, .ty n], .type t, [.type m, .type n], a' || b', rfl, upd_same, .cons (ClsV.ty m) (.cons (ClsV.ty n) .nil), tyX_of (bb.ext (Evl.Ex.new hp)) qt, ?_, ?_⟩⟩
            · refine kitAny_cons (b := a') (kit_ty qa) (fun ha => ?_) (fun ha => by rw [ha]; rfl)
              refine kitAny_cons (b := b') (kit_ty qb) (fun hb => ?_) (fun hb => by rw [hb, Bool.or_true])
              rw [ha, hb]
              exact kitAny_nil
            · exact g5 _ _ (r1.ext (Evl.Ex.new hp)) (Fr.ext (Evl.Ex.new hp)) (.bl _)
inductive EJ (K : PySem.W.Frag) (E : XS) : List TE → List (M D) → Prop
  | nil : EJ K E [] []
  | cons {t : TE} {ts : List TE} {m : M D} {ms : List (M D)} : EX K E t m → EJ K E ts ms → EJ K E (t :: ts) (m :: ms)
def mJs : List (M D) → Str → M D
  | [], acc => M.ret (.str acc)
  | m :: ms, acc => m >>= fun d => fun e => match d with
    | .str y => if mLine (acc ++ y).length = true then mJs ms (acc ++ y) e else .bad
    | _ => .bad
theorem ex_js : ∀ {ts : List TE} {ms : List (M D)}, EJ K E ts ms → ∀ acc : Str, EX K E (fun σ H Q => tJs ts acc σ H fun out H1 => Q (.str out) H1) (mJs ms acc)
  | _, _, .nil, acc => fun γ O H σ e Q r g => g (.str acc) H r (Fr.refl _ _) (.str _)
  | _, _, .cons (t := t) (ts := ts) (m := m) (ms := ms) h hr, acc => fun γ O H σ e Q r g => by
    unfold mJs at g
    change Good K γ O H σ E _ Q (M.andThen m (fun d => fun e => match d with | .str y => if mLine (acc ++ y).length = true then mJs ms (acc ++ y) e else .bad | _ => .bad) e) at g
    show t σ H _
    refine J.bind (te := t) (T := TD K) (T' := TD K) h r g fun d e1 v H1 r1 f1 t1 g1 => ?_
    cases d with
    | str y =>
      cases t1
      try dsimp only at g1
      by_cases hl : mLine (acc ++ y).length = true
      · rw [if_pos hl] at g1
        exact ⟨y, rfl, mLine_ok hl, ex_js hr (acc ++ y) γ O H1 σ e1 Q r1 g1⟩
      · rw [if_neg hl] at g1; exact g1.elim
    | _ => exact g1.elim
def mFmt (m : M D) : M D := m >>= fun d => M.lift ((fmtD d).map .str)
theorem ex_fmt {te : TE} {m : M D} (h : EX K E te m) : EX K E (tFmt te) (mFmt m) := fun γ O H σ e Q r g =>
  J.bind (te := te) (T := TD K) (T' := TD K) h r g fun d e1 v H1 r1 f1 t1 g1 => by
    cases d with
    | str y =>
      cases t1
      have g2 : Good K γ O H1 σ E (fun H' => TD K O H' σ) Q (M.lift ((if mLine y.length = true then some y else none).map D.str) e1) := g1
      by_cases hl : mLine y.length = true
      · rw [if_pos hl] at g2
        exact .inl ⟨y, rfl, mLine_ok hl, g2 _ H1 r1 (Fr.refl _ _) (.str _)⟩
      · rw [if_neg hl] at g2; exact g2.elim
    | int i =>
      cases t1
      have g2 : Good K γ O H1 σ E (fun H' => TD K O H' σ) Q (M.lift ((if i.natAbs.log2 < 1920 then some (toString i : Str) else none).map D.str) e1) := g1
      by_cases hl : i.natAbs.log2 < 1920
      · rw [if_pos hl] at g2
        exact .inr ⟨i, rfl, hl, g2 _ H1 r1 (Fr.refl _ _) (.str _)⟩
      · rw [if_neg hl] at g2; exact g2.elim
    | _ => exact g1.elim
def alikeB (ps : List PyData) : Bool := ps.all fun a => ps.all fun b => PySem.W.alike a b
def tupHead : PyData → Bool
  | .tuple (_ :: _) => true
  | _ => false
def noTup : PyData → Bool
  | .none => false
  | .tuple _ => false
  | _ => true
def shallow (d : PyData) : Bool := decide (d.depth ≤ 60)
def okSort (ps : List PyData) : Bool := alikeB ps && (ps.all tupHead || ps.all noTup) && ps.all shallow
theorem okSort_alike {ps : List PyData} (h : okSort ps = true) : PySem.W.AllAlike ps := by
  unfold okSort alikeB at h
  simp only [Bool.and_eq_true, List.all_eq_true] at h
  exact fun d hd d' hd' => h.1.1 d hd d' hd'
theorem okSort_sortable {ps : List PyData} (h : okSort ps = true) : PySem.W.Sortable ps := by
  unfold okSort at h
  simp only [Bool.and_eq_true, Bool.or_eq_true, List.all_eq_true] at h
  rcases h.1.2 with q | q
  · refine .inl fun d hd => ?_
    have := q d hd
    unfold tupHead at this
    split at this
    · exact ⟨_, _, rfl⟩
    · cases this
  · refine .inr fun d hd => ?_
    have := q d hd
    unfold noTup at this
    split at this
    · cases this
    · cases this
    · rename_i h1 h2
      exact ⟨fun z => h1 z, fun xs z => h2 xs z⟩
theorem okSort_shallow {ps : List PyData} (h : okSort ps = true) : ∀ d ∈ ps, d.depth ≤ 60 := fun d hd => by
  unfold okSort at h
  simp only [Bool.and_eq_true, List.all_eq_true] at h
  exact of_decide_eq_true (h.2 d hd)
abbrev leP : V × D × PyData → V × D × PyData → Bool := PySem.W.dataLe false fun t => t.2.2
def rSortD (K : PySem.W.Frag) : List V → Hp → VK → Prop := fun xs H Q => ∃ (a : Addr) (ts : List (V × D × PyData)), xs = [.ref a] ∧ SqL K H a (ts.map (·.1)) ∧ DpAll K H (ts.map (·.1)) (ts.map (·.2.2)) ∧ okSort (ts.map (·.2.2)) = true ∧
  ∀ p, H p = none → Q (.ref p) (upd H p (.lst ((ts.mergeSort leP).map (·.1))))
theorem each_vals {ts : List (V × D × PyData)} {us : List Value} (r : Vals (ts.map (·.1)) us) : PySem.W.EachIs (fun v (t : V × D × PyData) => RelV t.1 v) us ts := by
  induction ts generalizing us with
  | nil => cases r; exact .nil
  | cons t ts ih => cases r with | cons a b => exact .cons a (ih b)
theorem vals_each {ts : List (V × D × PyData)} {us : List Value} (r : PySem.W.EachIs (fun v (t : V × D × PyData) => RelV t.1 v) us ts) : Vals (ts.map (·.1)) us := by
  induction r with
  | nil => exact .nil
  | cons a _ ih => exact .cons a ih
theorem each_reads {X : Cx} {pins : List (Addr × Obj)} {σ : L2.St} {H : Hp} {s : Shared} (I : Inv X pins σ H s) {ts : List (V × D × PyData)} {us : List Value} (r : Vals (ts.map (·.1)) us) (t : DpAll X.K H (ts.map (·.1)) (ts.map (·.2.2))) :
    PySem.W.EachIs (fun v (t : V × D × PyData) => ∃ as, Reads s.heap v t.2.2 as) us ts := by
  induction ts generalizing us with
  | nil => cases r; exact .nil
  | cons x ts ih =>
    cases r with
    | cons a b =>
      cases t with
      | cons c d => exact .cons (Dp.reads I _ _ _ c a) (ih b d)
theorem cr_sortD {X : Cx} (hu : X.A.units + 64 < cLine) : CallR X (.builtin "sorted") (rSortD X.K) := by
  intro pins s σ H vs us Q I r h
  obtain ⟨a, ts, rfl, hs, td, ok, q⟩ := h
  obtain ⟨its, rv, hl, hz⟩ := I.list hs
  rw [Vals.ref1 r]
  refine PySem.W.sorted_data (bs := ts) (enc := fun t => t.2.2) (R := fun v (t : V × D × PyData) => RelV t.1 v) hl.isList (each_vals rv) (each_reads I rv td) (okSort_alike ok) (okSort_sortable ok) (by rw [List.length_map] at hz; exact hz)
    (fun b hb => ?_) fun out ho he => ?_
  · have := okSort_shallow ok b.2.2 (List.mem_map_of_mem hb)
    omega
  · obtain ⟨ep, he'⟩ := PyProof.Rows.sortedAll_at s.heap its out.toArray
    have hlen : ((ts.mergeSort leP).map (·.1)).length ≤ sizeLine := by
      rw [List.length_map, List.length_mergeSort]
      rw [List.length_map] at hz
      exact hz
    refine ⟨.ref _, upd H (s.heap.objs.size + 1) (.lst ((ts.mergeSort leP).map (·.1))), I.laid (t' := s.toks) (fun _ _ => PyProof.Rows.sortedAll_old) (Nat.le_succ _) ⟨hlen, out, ep, vals_each he, he'⟩, rfl, q _ (I.hok.fresh (Nat.le_succ _))⟩
def leD : D × PyData → D × PyData → Bool := PySem.W.dataLe false fun t => t.2
def sortD (xs : List D) (ps : List PyData) : List D := ((xs.zip ps).mergeSort leD).map (·.1)
def dSorted : List D → Option (List D)
  | [.lst xs] => (toPys xs).bind fun ps => if okSort ps = true then some (sortD xs ps) else none
  | _ => none
theorem toPys_len : ∀ {xs : List D} {ps : List PyData}, toPys xs = some ps → xs.length = ps.length
  | [], ps, h => by cases h; rfl
  | x :: xs, ps, h => by
    unfold toPys at h
    cases q : toPy x with
    | none => rw [q] at h; cases h
    | some p =>
      cases q2 : toPys xs with
      | none => rw [q, q2] at h; cases h
      | some r => rw [q, q2] at h; cases h; exact congrArg (· + 1) (toPys_len q2)
theorem DDs.of_mem {ts : List (V × D × PyData)} : (∀ t ∈ ts, DD K H t.1 t.2.1) → DDs K H (ts.map (·.1)) (ts.map (·.2.1)) := by
  induction ts with
  | nil => intro _; exact .nil
  | cons t ts ih => intro h; exact .cons (h t List.mem_cons_self) (ih fun x hx => h x (List.mem_cons_of_mem _ hx))
theorem zip3 : ∀ {vs : List V} {xs : List D} {ps : List PyData}, DDs K H vs xs → xs.length = ps.length → ∃ ts : List (V × D × PyData), ts.map (·.1) = vs ∧ ts.map (·.2.2) = ps ∧ ts.map (·.2) = xs.zip ps ∧ ∀ t ∈ ts, DD K H t.1 t.2.1
  | [], _, ps, .nil, h => by
    cases ps with
    | nil => exact ⟨[], rfl, rfl, rfl, fun t ht => by simp at ht⟩
    | cons _ _ => cases h
  | v :: vs, _, ps, .cons (d := d) a b, h => by
    cases ps with
    | nil => cases h
    | cons p ps =>
      obtain ⟨ts, h1, h2, h3, h4⟩ := zip3 b (Nat.succ.inj h)
      refine ⟨(v, d, p) :: ts, by rw [List.map_cons, h1], by rw [List.map_cons, h2], by rw [List.map_cons, h3]; rfl, fun t ht => ?_⟩
      rcases List.mem_cons.mp ht with z | z
      · rw [z]; exact a
      · exact h4 t z
theorem sorted_F : OFn K (rSortD K) dSorted := fun O H xs ds d Q l hz h k => by
  unfold dSorted at h
  split at h
  · rename_i ys
    obtain ⟨x, rfl, hx⟩ := hz.one
    obtain ⟨a, vs, rfl, ha, t⟩ := hx.lst
    cases q : toPys ys with
    | none => rw [q] at h; cases h
    | some ps =>
      rw [q] at h
      have h' : (if okSort ps = true then some (sortD ys ps) else none) = some d := h
      by_cases ok : okSort ps = true
      · rw [if_pos ok] at h'; cases h'
        obtain ⟨ts, h1, h2, h3, h4⟩ := zip3 t (toPys_len q)
        refine ⟨a, ts, rfl, by rw [h1]; exact SqL.of ha, by rw [h1, h2]; exact DDs.dp (t.mono msk_ex) q, by rw [h2]; exact ok, fun p hp => ?_⟩
        have hO := live_out l hp
        have mm : Ex (msk O H) (msk (p :: O) (upd H p (.lst ((ts.mergeSort leP).map (·.1))))) := msk_cons_ex (by rw [msk_out hO]; exact hp) (msk_mono (Evl.Ex.new hp))
        refine k p _ _ hp (Evl.Ex.new hp) upd_same ?_
        have e1 : (ts.mergeSort leP).map (·.2.1) = sortD ys ps := by
          unfold sortD
          rw [← h3, ← PySem.W.sort_maps (r := leP) (s := leD) (fun t : V × D × PyData => t.2) (fun _ _ _ _ => rfl), List.map_map]
          rfl
        rw [← e1]
        exact DDs.of_mem fun t ht => DD.mono mm (h4 t (List.mem_mergeSort.mp ht))
      · rw [if_neg ok] at h'; cases h'
  · cases h
/-- a built-in that makes a new list, its answer one's own -/
def oCB (f : List D → Option (List D)) (a : M (List D)) : M (List D) := a >>= fun xs => M.lift (f xs)
theorem ef_cb {r : List V → Hp → VK → Prop} {f : List D → Option (List D)} {ta : TA} {a : M (List D)} (ho : OFn K r f) (ha : EA K E ta a) : EF K E (tCB r ta) (oCB f a) := fun γ O H σ e Q r0 g =>
  J.own (te := ta) (T := TDs K) (Q' := Q) ha r0 g fun ds e1 xs H1 r1 f1 t1 g1 => by
    cases q : f ds with
    | none =>
      have g2 : GoodF K γ O H1 σ E Q (M.lift (f ds) e1) := g1
      rw [q] at g2; exact g2.elim
    | some es =>
      have g2 : GoodF K γ O H1 σ E Q (M.lift (f ds) e1) := g1
      rw [q] at g2
      refine ho O H1 xs ds es Q r1.live (.of t1) q fun p vs H' hp ex h1 h2 => ?_
      have hO := r1.out hp
      have hm : msk O H1 p = none := by rw [msk_out hO]; exact hp
      exact g2 p vs H' hO (r1.ext ex) (r1.more (e' := e1) hp ex (by rw [h1]; intro z; cases z)) (msk_cons_ex hm (msk_mono ex)) (Fr.ext ex) h1 h2
/-- the same, its arguments borrowed -/
def oCW (f : List D → Option (List D)) (a : M (List Dv)) : M (List D) := a >>= fun vs => rds vs >>= fun xs => M.lift (f xs)
theorem ef_cw {r : List V → Hp → VK → Prop} {f : List D → Option (List D)} {ta : TA} {a : M (List Dv)} (ho : OFn K r f) (ha : EW K E ta a) : EF K E (tCB r ta) (oCW f a) := fun γ O H σ e Q r0 g =>
  J.own (te := ta) (T := fun O H σ v d => DvRs K O H σ v d) (Q' := Q) ha r0 g fun ds e1 xs H1 r1 f1 t1 g1 => by
    rw [bind_eq] at g1
    cases q1 : rds ds e1 with
    | bad => rw [q1] at g1; exact g1.elim
    | ex _ _ => exact absurd q1 rds_noex
    | ok d1 e3 =>
      rw [q1] at g1
      obtain ⟨rfl, b1⟩ := rds_ok r1 t1 q1
      have g2 : GoodF K γ O H1 σ E Q (M.lift (f d1) e3) := g1
      cases q : f d1 with
      | none => rw [q] at g2; exact g2.elim
      | some es =>
        rw [q] at g2
        refine ho O H1 xs d1 es Q r1.live b1 q fun p vs H' hp ex h1 h2 => ?_
        have hO := r1.out hp
        have hm : msk O H1 p = none := by rw [msk_out hO]; exact hp
        exact g2 p vs H' hO (r1.ext ex) (r1.more (e' := e3) hp ex (by rw [h1]; intro z; cases z)) (msk_cons_ex hm (msk_mono ex)) (Fr.ext ex) h1 h2
end
end Mir

set_option Elab.async false
set_option linter.all false
set_option maxRecDepth 100000
set_option maxHeartbeats 4000000
namespace Mir
open PySem L2

def vD (m : M D) : M Dv := m >>= fun d => M.ret (.val d)
theorem J.v' {K : PySem.W.Frag} {E : XS} {te : TE} {m : M D} (h : EX K E te m) : EV K E te (vD m) := EX.v h
section
variable {K : PySem.W.Frag} {E : XS} {γ : Gh} {O : List Addr} {H : Hp} {σ : L2.St} {e : Env}
theorem _root_.Mir.J.v {te : TE} {m : M D} (h : J K E (TD K) te m) : EV K E te (vD m) := EX.v h
def mUn (f : D → Option D) (m : M D) : M D := m >>= fun x => M.lift (f x)
def dNeg : D → Option D
  | .int i => some (.int (-i))
  | _ => none
theorem un_negD : OP1 K (rU fun i => .int (-i)) dNeg := fun O H x dx d Q l hx h k => by
  unfold dNeg at h
  split at h
  · cases h; cases hx.int
    exact ⟨_, rfl, k _ H (Evl.Ex.refl H) (.int _)⟩
  · cases h
def mNotT (m : M Dv) : M D := mTru m >>= fun b => M.ret (.bl (!b))
theorem ex_notT {te : TE} {m : M Dv} (h : EV K E te m) : EX K E (tNotT K te) (mNotT m) := fun γ O H σ e Q r g => by
  have := J.bind (te := tTru K te) (T := TB) (T' := TD K) (Q := fun b H' => Q (.bl (!b)) H') (et_tru h) r g fun b e1 v H1 r1 f1 t1 g1 => by
    have t1 : v = b := t1
    subst t1
    exact g1 _ H1 r1 (Fr.refl _ _) (.bl _)
  exact this
def chk (f g : D → D → Option D) (c : M D) (x y : D) : M D := fun e => match f x y with
  | some (.bl true) => (c >>= fun z => M.lift (g y z)) e
  | some (.bl false) => .ok (.bl false) e
  | _ => .bad
def mChain (f g : D → D → Option D) (a b c : M D) : M D := a >>= fun x => b >>= fun y => chk f g c x y
theorem ex_chain {r r' : R2} {f g : D → D → Option D} {ta tb tc : TE} {a b c : M D} (ho : OP2 K r f) (ho' : OP2 K r' g) (ha : EX K E ta a) (hb : EX K E tb b) (hc : EX K E tc c) : EX K E (tChain r r' ta tb tc) (mChain f g a b c) := fun γ O H σ e Q r0 gd =>
  J.bind (te := ta) (T := TD K) (T' := TD K) ha r0 gd fun dx e1 x H1 r1 f1 t1 g1 => J.bind (te := tb) (T := TD K) (T' := TD K) hb r1 g1 fun dy e2 y H2 r2 f2 t2 g2 => by
    unfold chk at g2
    cases q : f dx dy with
    | none => rw [q] at g2; exact g2.elim
    | some d =>
      rw [q] at g2
      refine ho O H2 x y dx dy d _ r2.live (.dd (t1.mono f2)) (.dd t2) q fun v H3 x3 dd => ?_
      cases d with
      | bl k =>
        cases dd
        refine ⟨k, rfl, ?_⟩
        cases k with
        | true =>
          show tc σ H3 _
          refine J.bind (te := tc) (T := TD K) (T' := TD K) hc (r2.ext x3) (Good.fr (Fr.ext x3) g2) fun dz e4 z H4 r4 f4 t4 g4 => ?_
          cases q2 : g dy dz with
          | none =>
            have g5 : Good K γ O H4 σ E (fun H' => TD K O H' σ) Q (M.lift (g dy dz) e4) := g4
            rw [q2] at g5; exact g5.elim
          | some d2 =>
            have g5 : Good K γ O H4 σ E (fun H' => TD K O H' σ) Q (M.lift (g dy dz) e4) := g4
            rw [q2] at g5
            exact ho' O H4 y z dy dz d2 Q r4.live (.dd ((t2.mono (Fr.ext x3)).mono f4)) (.dd t4) q2 fun v H' xx dd => g5 v H' (r4.ext xx) (Fr.ext xx) dd
        | false =>
          show Q (.bl false) H3
          exact g2 _ H3 (r2.ext x3) (Fr.ext x3) (.bl _)
      | _ => exact g2.elim
def sNever : M Out := fun _ => .bad
theorem sx_never : SX K E tNever sNever := fun γ O H σ e D r g => g
def sRetF (m : M (List D)) : M Out := m >>= fun xs => M.ret (.rf xs)
theorem sx_retF {te : TE} {m : M (List D)} (h : EF K E te m) : SX K E (tRet te) (sRetF m) := fun γ O H σ e Dn r g => by
  refine h γ O H σ e _ r ?_
  unfold sRetF at g
  rw [bind_eq] at g
  cases q : m e with
  | ok ds e' =>
    rw [q] at g
    exact fun p vs H' hO r1 r2 f1 f2 hp t => g (p :: O) σ p vs H' r2 f1 List.mem_cons_self (fun z => hO (r1.bo _ z)) hp t
  | ex x e' =>
    rw [q] at g
    cases x with
    | ins C fs => exact fun dx fv H' r1 f1 q1 q2 => g O σ dx fv H' r1 f1.s q1 q2
    | _ => exact g
  | bad => rw [q] at g; exact g
def backF (e : Env) : R Out → R (List D)
  | .ok (.rf xs) _ => .ok xs e
  | .ex x _ => .ex x e
  | _ => .bad
def oCall (b : M Out) (n np : Nat) (a : M (List D)) : M (List D) := a >>= fun ds => fun e => if ds.length = np then backF e (b (startE n (ds.map .d))) else .bad
theorem ef_call {N : List Str} {np : Nat} {b : M Out} {Ek : XK} {ta : TA} {a : M (List D)} (hE : ∀ σ, E σ = Ek) (h : EA K E ta a) : EF K E (tCall (spM K N np b) [] Ek ta) (oCall b N.length np a) := fun γ O H σ e Q r g => by
  refine h γ O H σ e _ r ?_
  unfold oCall at g
  change GoodF K γ O H σ E Q (M.andThen a (fun ds => fun e => if ds.length = np then backF e (b (startE N.length (ds.map .d))) else .bad) e) at g
  unfold M.andThen at g
  cases q : a e with
  | bad => rw [q] at g; exact g
  | ex x e' => rw [q] at g; exact g
  | ok ds e1 =>
    rw [q] at g
    intro vs H1 r1 f1 t
    rw [List.append_nil]
    try dsimp only at g
    by_cases nl : ds.length = np
    · rw [if_pos nl] at g
      refine ⟨_, O, ds.map .d, by rw [t.length]; exact nl, by rw [List.length_map]; exact t.length, rfl, r1.callee t, ?_⟩
      have fin := fun {O' : List Addr} {H' : Hp} {σ' : L2.St} {e' : Env} (rr : Rel K ⟨fun q => if q ∈ O then H1 q else none, O, fun _ => 0⟩ O' H' σ' e') (ff : FrS O H1 O' H') => callee_end (O := O) (H := H1) rfl (fun q hq => if_pos hq) r1.live rr ff
      cases qb : b (startE N.length (ds.map .d)) with
      | bad => rw [qb] at g; exact g.elim
      | ex x e2 =>
        rw [qb] at g
        cases x with
        | ins C fs =>
          intro O' σ' dx fv H' rr ff hx tf
          obtain ⟨k1, k2, k3⟩ := fin rr ff
          have := g dx fv H' (r1.after k1 k2) (f1.trans k2) (k3 _ _ hx) (tf.mono k3)
          rw [hE] at this
          exact this
        | _ => exact g.elim
      | ok o e2 =>
        rw [qb] at g
        cases o with
        | rf xs =>
          intro O' σ' p vs' H' rr ff pO pB hp td
          obtain ⟨k1, k2, k3⟩ := fin rr ff
          have pO' : p ∉ O := pB
          have sub : ∀ q ∈ p :: O, q ∈ O' := fun q hq => by
            rcases List.mem_cons.mp hq with z | z
            · rw [z]; exact pO
            · exact rr.bo q z
          have sx : Ex (msk O' H') (msk (p :: O) H') := msk_sub sub
          have r2 : Rel K γ O H' σ e1 := r1.after k1 k2
          have fs : FrS O H1 (p :: O) H' := fun a o ha => sx a o (ff a o ha)
          have r3 : Rel K γ (p :: O) H' σ e1 := {
            bo := fun q hq => List.mem_cons_of_mem _ (r2.bo q hq)
            live := fun q hq => by
              rcases List.mem_cons.mp hq with z | z
              · rw [z, hp]; intro w; cases w
              · exact r2.live q z
            gs := r2.gs
            len := r2.len
            sl := fun i s hs => by
              obtain ⟨v, g1, g2⟩ := r1.sl i s hs
              refine ⟨v, g1, ?_⟩
              cases s with
              | st u => exact g2
              | d x => exact DD.mono fs g2
              | ol zs =>
                obtain ⟨q', us, k1', k2', k3', k4', k5'⟩ := g2
                exact ⟨q', us, k1', List.mem_cons_of_mem _ k2', k3', by rw [k1 q' k2']; exact k4', k5'.mono fs⟩
              | io zs =>
                obtain ⟨us, k1', k2', k3', k4', k5'⟩ := g2
                exact ⟨us, k1', k2', k3', by rw [k1 _ (r1.bo _ k2')]; exact k4', k5'.mono fs⟩
            dj := r2.dj
            ij := r2.ij }
          exact g p vs' H' pO' r2 r3 (FrS.trans f1.s fs) (f1.trans k2) hp (td.mono sx)
        | _ => exact g.elim
    · rw [if_neg nl] at g; exact g.elim
inductive SlRs (K : PySem.W.Frag) (B O : List Addr) (H : Hp) : List Addr → List V → List Sl → Prop
  | nil : SlRs K B O H [] [] []
  | d {ps : List Addr} {vs : List V} {ss : List Sl} {v : V} {x : D} : DD K (msk O H) v x → SlRs K B O H ps vs ss → SlRs K B O H ps (v :: vs) (.d x :: ss)
  | ol {ps : List Addr} {vs : List V} {ss : List Sl} {p : Addr} {us : List V} {xs : List D} : p ∈ O → p ∉ B → p ∉ ps → H p = some (.lst us) → DDs K (msk O H) us xs → SlRs K B O H ps vs ss → SlRs K B O H (p :: ps) (.ref p :: vs) (.ol xs :: ss)
end
theorem spM_ln {K : PySem.W.Frag} {N ps : List Str} {np : Nat} {b : M Out} (h0 : np = ps.length) (vs : List V) (H : Hp) (Q : VK) (E : XK) (h : spM K N np b vs H Q E) : vs.length = ps.length := by
  obtain ⟨γ, O, as, h1, _⟩ := h
  exact h1.trans h0
/-- the promise of a def that no error leaves -/
def spM0 (K : PySem.W.Frag) (N : List Str) (np : Nat) (b : M Out) : Sp := fun vs H Q _ => spM K N np b vs H Q E0
theorem spM_ln0 {K : PySem.W.Frag} {N ps : List Str} {np : Nat} {b : M Out} (h0 : np = ps.length) (vs : List V) (H : Hp) (Q : VK) (E : XK) (h : spM0 K N np b vs H Q E) : vs.length = ps.length := spM_ln h0 vs H Q E0 h
section
variable {K : PySem.W.Frag} {N : List Str} {np j : Nat} {b : M Out} {ta : TA} {a : M (List D)} {te : TE}
theorem ex_call0 (h : EA K E0S ta a) : EX K E0S (tCall (spM0 K N np b) [] E0 ta) (mCall b N.length np a) := ex_call (Ek := E0) (fun _ => rfl) h
theorem ex_callI0 (h : EA K E0S ta a) : EX K E0S (tCall (spM0 K N np b) [] E0 (tCons (tVar j) ta)) (mCallI b N.length np j a) := ex_callI (Ek := E0) (fun _ => rfl) h
theorem ex_callF0 (h : EF K E0S te a) : EX K E0S (tCall (spM0 K N np b) [] E0 (tCons te tNil)) (mCallF b N.length np a) := ex_callF (Ek := E0) (fun _ => rfl) h
theorem ef_call0 (h : EA K E0S ta a) : EF K E0S (tCall (spM0 K N np b) [] E0 ta) (oCall b N.length np a) := ef_call (Ek := E0) (fun _ => rfl) h
end
theorem fn_bad {P : Program} {w : World} {K : PySem.W.Frag} {mg : Str → Option Value} {base : Heap} {CX : CXT} {k : Nat} {f : Addr} {fd : FuncData} {ps : List Str} {N : List Str} {np : Nat} (h0 : np = ps.length) : FnOk P w K mg base CX k f fd ps (spM0 K N np fun _ => .bad) where
  len := spM_ln0 h0
  run := fun A outer s H args us vs Q E hr e0 hb hv h => by
    obtain ⟨_, _, _, _, _, _, _, g⟩ := h
    exact g.elim
end Mir

set_option Elab.async false
set_option linter.all false
set_option maxRecDepth 100000
set_option maxHeartbeats 4000000
namespace Mir
open PySem L2
section
variable {K : PySem.W.Frag} {E : XS} {γ : Gh} {O : List Addr} {H : Hp} {σ : L2.St} {e : Env}
theorem SlRs.mono {B O O' : List Addr} {H H' : Hp} (f : FrS O H O' H') (s : ∀ q ∈ O, q ∈ O') (k : ∀ p us, p ∈ O → p ∉ B → H p = some (.lst us) → H' p = some (.lst us)) : ∀ {ps : List Addr} {vs : List V} {ss : List Sl}, SlRs K B O H ps vs ss → SlRs K B O' H' ps vs ss
  | _, _, _, .nil => .nil
  | _, _, _, .d a b => .d (a.mono f) (SlRs.mono f s k b)
  | _, _, _, .ol h1 h2 h3 h4 h5 h6 => .ol (s _ h1) h2 h3 (k _ _ h1 h2 h4) (h5.mono f) (SlRs.mono f s k h6)
def GoodI (K : PySem.W.Frag) (γ : Gh) (O : List Addr) (H : Hp) (σ : L2.St) (E : XS) (Q : List V → Hp → Prop) : R (List Sl) → Prop
  | .ok ss e' => ∀ O' ps vs H', Rel K γ O' H' σ e' → FrS O H O' H' → (∀ q ∈ O, q ∈ O') → SlRs K γ.B O' H' ps vs ss → (∀ p ∈ ps, ∀ (c : Nat) (zs : List D), e'[c]? = some (some (Sl.ol zs)) → σ[c]? ≠ some (some (.ref p))) → Q vs H'
  | .ex x e' => ∀ O' H', Rel K γ O' H' σ e' → FrS O H O' H' → GoodX K γ O' H' σ E x e'
  | .bad => False
def IL (K : PySem.W.Frag) (E : XS) (ta : TA) (m : M (List Sl)) : Prop := ∀ γ O H σ e Q, Rel K γ O H σ e → (∀ x e', m e = .ex x e' → False) → GoodI K γ O H σ E Q (m e) → ta σ H Q
def iNil : M (List Sl) := M.ret []
def iDatk (r : M (List Sl)) (d : D) : M (List Sl) := fun e => match r e with
  | .ok ss e' => .ok (.d d :: ss) e'
  | _ => .bad
def iDat (m : M D) (r : M (List Sl)) : M (List Sl) := fun e => match m e with
  | .ok d e' => iDatk r d e'
  | _ => .bad
def iOwnk (r : M (List Sl)) (xs : List D) : M (List Sl) := fun e => match r e with
  | .ok ss e' => .ok (.ol xs :: ss) e'
  | _ => .bad
def iOwn (m : M (List D)) (r : M (List Sl)) : M (List Sl) := fun e => match m e with
  | .ok d e' => iOwnk r d e'
  | _ => .bad
theorem il_nil : IL K E tNil iNil := fun γ O H σ e Q r _ g => g O [] [] H r FrS.refl (fun _ h => h) .nil (fun _ h => by simp at h)
theorem il_dat {te : TE} {tr : TA} {m : M D} {ms : M (List Sl)} (h : EX K E te m) (hr : IL K E tr ms) : IL K E (tCons te tr) (iDat m ms) := fun γ O H σ e Q r _ g => by
  refine h γ O H σ e _ r ?_
  unfold iDat at g
  cases q : m e with
  | bad => rw [q] at g; exact g.elim
  | ex x e' => rw [q] at g; exact g.elim
  | ok d e1 =>
    rw [q] at g
    intro v H1 r1 f1 t1
    unfold iDatk at g
    refine hr γ O H1 σ e1 _ r1 (fun x e' z => ?_) ?_
    · dsimp only at g
      rw [z] at g; exact g
    · dsimp only at g
      cases q2 : ms e1 with
      | bad => rw [q2] at g; exact g
      | ex x e' => rw [q2] at g; exact g.elim
      | ok ss e2 =>
        rw [q2] at g
        intro O' ps vs H' r2 f2 s2 sl fr
        exact g O' ps (v :: vs) H' r2 (f1.s.trans f2) s2 (.d (t1.mono f2) sl) fr
/-- the watch over a list of one's own ends -/
theorem Rel.unwatch' {p : Addr} {us : List V} {O' : List Addr} (hO : p ∉ O) (b0 : ∀ q ∈ γ.B, q ∈ O) (g0 : ∀ q o, γ.hp q = some o → q ∈ γ.B) (r : Rel K (γ.at p us) O' H σ e) : Rel K γ O' H σ e where
  bo := fun q hq => r.bo q (List.mem_cons_of_mem _ hq)
  live := r.live
  gs := fun q o h => by
    have hne : q ≠ p := fun z => hO (by rw [← z]; exact b0 q (g0 q o h))
    exact ⟨g0 q o h, (r.gs q o (show (if q = p then some (HO.lst us) else γ.hp q) = some o by rw [if_neg hne]; exact h)).2⟩
  len := r.len
  sl := fun i s h => by
    obtain ⟨v, h1, h2⟩ := r.sl i s h
    refine ⟨v, h1, ?_⟩
    cases s with
    | st u => exact h2
    | d x => exact h2
    | ol xs =>
      obtain ⟨q, ws, g1, g2, g3, g4, g5⟩ := h2
      exact ⟨q, ws, g1, g2, fun z => g3 (List.mem_cons_of_mem _ z), g4, g5⟩
    | io xs =>
      obtain ⟨ws, g1, g2, g3, g4, g5⟩ := h2
      have g3' : (if γ.A i = p then some (HO.lst us) else γ.hp (γ.A i)) = none := g3
      have ne : γ.A i ≠ p := fun z => by rw [if_pos z] at g3'; cases g3'
      rw [if_neg ne] at g3'
      exact ⟨ws, g1, (List.mem_cons.mp g2).resolve_left ne, g3', g4, g5⟩
  dj := r.dj
  ij := r.ij
theorem SlRs.sub {B : List Addr} {p : Addr} : ∀ {ps : List Addr} {vs : List V} {ss : List Sl}, SlRs K (p :: B) O H ps vs ss → SlRs K B O H ps vs ss ∧ p ∉ ps
  | _, _, _, .nil => ⟨.nil, by simp⟩
  | _, _, _, .d a b => ⟨.d a (SlRs.sub b).1, (SlRs.sub b).2⟩
  | _, _, _, .ol h1 h2 h3 h4 h5 h6 => by
    simp only [List.mem_cons, not_or] at h2
    exact ⟨.ol h1 h2.2 h3 h4 h5 (SlRs.sub h6).1, by simp only [List.mem_cons, not_or]; exact ⟨fun z => h2.1 z.symm, (SlRs.sub h6).2⟩⟩
theorem il_own {te : TE} {tr : TA} {m : M (List D)} {ms : M (List Sl)} (h : EF K E te m) (hr : IL K E tr ms) : IL K E (tCons te tr) (iOwn m ms) := fun γ O H σ e Q r _ g => by
  refine h γ O H σ e _ r ?_
  unfold iOwn at g
  cases q : m e with
  | bad => rw [q] at g; exact g.elim
  | ex x e' => rw [q] at g; exact g.elim
  | ok xs e1 =>
    rw [q] at g
    intro p us H1 hO r1 r2 f1 f2 hp t
    unfold iOwnk at g
    have rwt : Rel K (γ.at p us) (p :: O) H1 σ e1 := r1.watch hO r2 hp
    refine hr (γ.at p us) (p :: O) H1 σ e1 _ rwt (fun x e' z => ?_) ?_
    · dsimp only at g
      rw [z] at g; exact g
    · dsimp only at g
      cases q2 : ms e1 with
      | bad => rw [q2] at g; exact g
      | ex x e' => rw [q2] at g; exact g.elim
      | ok ss e2 =>
        rw [q2] at g
        intro O' ps vs H' r3 f3 s3 sl fr
        have hp' : H' p = some (.lst us) := (r3.gs p _ (show (if p = p then some (HO.lst us) else γ.hp p) = _ from if_pos rfl)).2
        have r4 : Rel K γ O' H' σ e2 := Rel.unwatch' hO r1.bo (fun q o hq => (r1.gs q o hq).1) r3
        obtain ⟨sl1, sl2⟩ := SlRs.sub sl
        refine g O' (p :: ps) (.ref p :: vs) H' r4 (FrS.trans f1 f3) (fun q hq => s3 q (List.mem_cons_of_mem _ hq)) (.ol (s3 p List.mem_cons_self) (fun z => hO (r1.bo _ z)) sl2 hp' (t.mono f3) sl1) fun q hq c zs hc hz => ?_
        rcases List.mem_cons.mp hq with z | z
        · rw [z] at hz
          obtain ⟨w, w1, q', ws, e1', _, e3', _⟩ := r3.sl c _ hc
          rw [hz] at w1; cases w1
          cases e1'
          exact e3' List.mem_cons_self
        · exact fr q z c zs hc hz
/-- a list of one's own comes into a slot; no other slot has it -/
theorem Rel.setO' {p : Addr} {vs : List V} {xs : List D} {i : Nat} (r : Rel K γ O H σ e) (pO : p ∈ O) (pB : p ∉ γ.B) (far : ∀ (c : Nat) (zs : List D), i ≠ c → e[c]? = some (some (Sl.ol zs)) → σ[c]? ≠ some (some (.ref p))) (hi : i < e.length) (hp : H p = some (.lst vs)) (t : DDs K (msk O H) vs xs) :
    Rel K γ O H (σ.set i (some (.ref p))) (e.set i (some (.ol xs))) where
  bo := r.bo
  live := r.live
  gs := r.gs
  len := by rw [List.length_set, List.length_set]; exact r.len
  sl := fun j s h => by
    by_cases hj : i = j
    · subst hj
      rw [List.getElem?_set_self hi] at h
      cases h
      exact ⟨_, List.getElem?_set_self (by rw [r.len]; exact hi), p, vs, rfl, pO, pB, hp, t⟩
    · rw [List.getElem?_set_ne hj] at h
      obtain ⟨w, h1, h2⟩ := r.sl j s h
      exact ⟨w, by rw [List.getElem?_set_ne hj]; exact h1, h2⟩
  dj := fun a b xs ys w ha hb va vb => by
    by_cases h1 : i = a
    · subst h1
      rw [List.getElem?_set_self (by rw [r.len]; exact hi)] at va
      cases va
      by_cases h2 : i = b
      · exact h2
      · rw [List.getElem?_set_ne h2] at hb vb
        exact absurd vb (far b _ h2 hb)
    · by_cases h2 : i = b
      · subst h2
        rw [List.getElem?_set_self (by rw [r.len]; exact hi)] at vb
        cases vb
        rw [List.getElem?_set_ne h1] at ha va
        exact absurd va (far a _ h1 ha)
      · rw [List.getElem?_set_ne h1] at ha va
        rw [List.getElem?_set_ne h2] at hb vb
        exact r.dj a b _ _ w ha hb va vb
  ij := fun a b xs ys ha hb => by
    by_cases h1 : i = a
    · subst h1; rw [List.getElem?_set_self hi] at ha; cases ha
    · by_cases h2 : i = b
      · subst h2; rw [List.getElem?_set_self hi] at hb; cases hb
      · rw [List.getElem?_set_ne h1] at ha
        rw [List.getElem?_set_ne h2] at hb
        exact r.ij a b _ _ ha hb
/-- all into their slots, one by one -/
def putS : List Nat → List Sl → Env → Option Env
  | [], [], e => some e
  | i :: is, s :: ss, e => if noIo e i = true then putS is ss (e.set i (some s)) else none
  | _, _, _ => none
def putV : List Nat → List V → L2.St → L2.St
  | i :: is, v :: vs, σ => putV is vs (σ.set i (some v))
  | _, _, σ => σ
theorem put_rel : ∀ {is : List Nat} {ss : List Sl} {ps : List Addr} {vs : List V} {σ : L2.St} {e e' : Env}, Rel K γ O H σ e → SlRs K γ.B O H ps vs ss → (∀ p ∈ ps, ∀ (c : Nat) (zs : List D), e[c]? = some (some (Sl.ol zs)) → σ[c]? ≠ some (some (.ref p))) → putS is ss e = some e' → Rel K γ O H (putV is vs σ) e'
  | [], [], _, _, σ, e, e', r, sl, far, h => by
    cases sl
    cases h
    exact r
  | [], _ :: _, _, _, _, _, _, _, _, _, h => by cases h
  | _ :: _, [], _, _, _, _, _, _, _, _, h => by cases h
  | i :: is, s :: ss, ps, vs, σ, e, e', r, sl, far, h => by
    unfold putS at h
    by_cases z : noIo e i = true
    · rw [if_pos z] at h
      have hi := noIo_lt z
      cases sl with
      | d a b =>
        show Rel K γ O H (putV is _ (σ.set i _)) e'
        refine put_rel (r.setD hi a) b (fun p hp c zs hc => ?_) h
        by_cases hj : i = c
        · subst hj; rw [List.getElem?_set_self hi] at hc; cases hc
        · rw [List.getElem?_set_ne hj] at hc ⊢
          exact far p hp c zs hc
      | ol h1 h2 h3 h4 h5 h6 =>
        show Rel K γ O H (putV is _ (σ.set i _)) e'
        refine put_rel (Rel.setO' r h1 h2 (fun c zs hj hc => far _ List.mem_cons_self c zs hc) hi h4 h5) h6 (fun p' hp' c zs hc => ?_) h
        by_cases hj : i = c
        · subst hj
          rw [List.getElem?_set_self (by rw [r.len]; exact hi)]
          intro w
          cases w
          exact h3 hp'
        · rw [List.getElem?_set_ne hj] at hc ⊢
          exact far p' (List.mem_cons_of_mem _ hp') c zs hc
    · rw [if_neg z] at h
      cases h
def sParL (is : List Nat) (m : M (List Sl)) : M Out := fun e => match m e with
  | .ok ss e' => sDo (putS is ss e') e'
  | _ => .bad
theorem par_good {ta : TA} {m : M (List Sl)} {is : List Nat} {Dn : Ends} (h : IL K E ta m) (r : Rel K γ O H σ e) (g : GoodS K γ O H E Dn (sParL is m e)) (Q : List V → Hp → Prop)
    (k : ∀ ss e', m e = .ok ss e' → ∀ vs H', vs.length = ss.length → Dn.nx (putV is vs σ) H' → Q vs H') : ta σ H Q := by
  unfold sParL at g
  refine h γ O H σ e Q r (fun x e' z => by rw [z] at g; exact g) ?_
  cases q : m e with
  | bad => rw [q] at g; exact g
  | ex x e' => rw [q] at g; exact g.elim
  | ok ss e1 =>
    rw [q] at g
    intro O' ps vs H' r1 f1 s1 sl fr
    have hl : vs.length = ss.length := by
      clear g q k fr
      induction sl with
      | nil => rfl
      | d _ _ ih => exact congrArg (· + 1) ih
      | ol _ _ _ _ _ _ ih => exact congrArg (· + 1) ih
    refine k ss e1 q vs H' hl ?_
    dsimp only at g
    cases qp : putS is ss e1 with
    | none => rw [qp] at g; exact g.elim
    | some e2 =>
      rw [qp] at g
      exact g O' _ H' (put_rel r1 sl fr qp) f1
def sPar (i j : Nat) (m : M (List Sl)) : M Out := fun e => match m e with
  | .ok [s, t] e' => sDo (putS [i, j] [s, t] e') e'
  | _ => .bad
def sPar3 (i j l : Nat) (m : M (List Sl)) : M Out := fun e => match m e with
  | .ok [s, t, u] e' => sDo (putS [i, j, l] [s, t, u] e') e'
  | _ => .bad
theorem sx_par {i j : Nat} {ta : TA} {m : M (List Sl)} (h : IL K E ta m) : SX K E (tPar i j ta) (sPar i j m) := fun γ O H σ e Dn r g => by
  have g' : GoodS K γ O H E Dn (sParL [i, j] m e) ∧ ∀ ss e', m e = .ok ss e' → ss.length = 2 := by
    unfold sPar at g
    unfold sParL
    cases q : m e with
    | bad => rw [q] at g; exact g.elim
    | ex x e' => rw [q] at g; exact g.elim
    | ok ss e1 =>
      rw [q] at g
      match ss, g with
      | [s, t], g => exact ⟨g, fun ss' e' h => by cases h; rfl⟩
      | [], g => exact g.elim
      | [_], g => exact g.elim
      | _ :: _ :: _ :: _, g => exact g.elim
  refine par_good h r g'.1 _ fun ss e' q vs H' hl hd => ?_
  have hl2 := g'.2 ss e' q
  rw [hl2] at hl
  match vs, hl with
  | [v, w], _ => exact ⟨v, w, rfl, hd⟩
theorem sx_par3 {i j l : Nat} {ta : TA} {m : M (List Sl)} (h : IL K E ta m) : SX K E (tPar3 i j l ta) (sPar3 i j l m) := fun γ O H σ e Dn r g => by
  have g' : GoodS K γ O H E Dn (sParL [i, j, l] m e) ∧ ∀ ss e', m e = .ok ss e' → ss.length = 3 := by
    unfold sPar3 at g
    unfold sParL
    cases q : m e with
    | bad => rw [q] at g; exact g.elim
    | ex x e' => rw [q] at g; exact g.elim
    | ok ss e1 =>
      rw [q] at g
      match ss, g with
      | [s, t, u], g => exact ⟨g, fun ss' e' h => by cases h; rfl⟩
      | [], g => exact g.elim
      | [_], g => exact g.elim
      | [_, _], g => exact g.elim
      | _ :: _ :: _ :: _ :: _, g => exact g.elim
  refine par_good h r g'.1 _ fun ss e' q vs H' hl hd => ?_
  have hl2 := g'.2 ss e' q
  rw [hl2] at hl
  match vs, hl with
  | [u, v, w], _ => exact ⟨u, v, w, rfl, hd⟩
end
end Mir

set_option Elab.async false
set_option linter.all false
set_option maxRecDepth 100000
set_option maxHeartbeats 4000000
namespace Mir
open PySem L2

section
variable {K : PySem.W.Frag} {E : XS} {γ : Gh} {O : List Addr} {H : Hp} {σ : L2.St} {e : Env}
inductive SlA (K : PySem.W.Frag) (O : List Addr) (H : Hp) : List V → List Sl → Prop
  | nil : SlA K O H [] []
  | d {v : V} {x : D} {vs : List V} {ss : List Sl} : DD K (msk O H) v x → SlA K O H vs ss → SlA K O H (v :: vs) (.d x :: ss)
  | st {v : V} {vs : List V} {ss : List Sl} : SlA K O H vs ss → SlA K O H (v :: vs) (.st v :: ss)
theorem SlA.fr {H' : Hp} (f : Fr O H H') : ∀ {vs : List V} {ss : List Sl}, SlA K O H vs ss → SlA K O H' vs ss
  | _, _, .nil => .nil
  | _, _, .d a b => .d (a.mono f) (SlA.fr f b)
  | _, _, .st b => .st (SlA.fr f b)
theorem SlA.length : ∀ {vs : List V} {ss : List Sl}, SlA K O H vs ss → vs.length = ss.length
  | _, _, .nil => rfl
  | _, _, .d _ b => congrArg (· + 1) b.length
  | _, _, .st b => congrArg (· + 1) b.length
theorem SlA.get : ∀ {vs : List V} {ss : List Sl} {i : Nat} {s : Sl}, SlA K O H vs ss → ss[i]? = some s → ∃ v, vs[i]? = some v ∧ ((∃ x, s = .d x ∧ DD K (msk O H) v x) ∨ s = .st v)
  | _, _, i, _, .nil, h => by simp at h
  | _, _, 0, _, .d a _, h => by simp at h; exact ⟨_, rfl, .inl ⟨_, h.symm, a⟩⟩
  | _, _, 0, _, .st _, h => by simp at h; exact ⟨_, rfl, .inr h.symm⟩
  | _, _, i + 1, s, .d _ b, h => by
    obtain ⟨v, h1, h2⟩ := SlA.get (i := i) (s := s) b (by simpa using h)
    exact ⟨v, by simpa using h1, h2⟩
  | _, _, i + 1, s, .st b, h => by
    obtain ⟨v, h1, h2⟩ := SlA.get (i := i) (s := s) b (by simpa using h)
    exact ⟨v, by simpa using h1, h2⟩
abbrev ES (K : PySem.W.Frag) (E : XS) (te : TA) (m : M (List Sl)) : Prop := J K E (fun O H _ vs ss => SlA K O H vs ss) te m
def eNil : M (List Sl) := M.ret []
def eCons (m : M D) (r : M (List Sl)) : M (List Sl) := m >>= fun x => r >>= fun ss => M.ret (.d x :: ss)
def eSt (v : V) (r : M (List Sl)) : M (List Sl) := r >>= fun ss => M.ret (.st v :: ss)
theorem es_nil : ES K E tNil eNil := fun γ O H σ e Q r g => g [] H r (Fr.refl _ _) .nil
theorem es_d {te : TE} {tr : TA} {m : M D} {ms : M (List Sl)} (h : EX K E te m) (hr : ES K E tr ms) : ES K E (tCons te tr) (eCons m ms) := fun γ O H σ e Q r g =>
  J.bind (te := te) (T := TD K) (T' := fun O H _ vs ss => SlA K O H vs ss) h r g fun d e1 v H1 r1 f1 t1 g1 => J.bind (te := tr) (T := fun O H _ vs ss => SlA K O H vs ss) (T' := fun O H _ vs ss => SlA K O H vs ss) hr r1 g1 fun ss e2 vs H2 r2 f2 t2 g2 =>
    g2 (v :: vs) H2 r2 (Fr.refl _ _) (.d (t1.mono f2) t2)
theorem es_st {v : V} {tr : TA} {ms : M (List Sl)} (hr : ES K E tr ms) : ES K E (tCons (tC v) tr) (eSt v ms) := fun γ O H σ e Q r g =>
  J.bind (te := tr) (T := fun O H _ vs ss => SlA K O H vs ss) (T' := fun O H _ vs ss => SlA K O H vs ss) hr r g fun ss e2 vs H2 r2 f2 t2 g2 =>
    g2 (v :: vs) H2 r2 (Fr.refl _ _) (.st t2)
theorem Rel.calleeS {N : List Str} {vs : List V} {ss : List Sl} (r : Rel K γ O H σ e) (t : SlA K O H vs ss) : Rel K ⟨fun q => if q ∈ O then H q else none, O, fun _ => 0⟩ O H (L2.start N vs) (startE N.length ss) where
  bo := fun q h => h
  live := r.live
  gs := fun q o h => by
    have h : (if q ∈ O then H q else none) = some o := h
    by_cases z : q ∈ O
    · rw [if_pos z] at h; exact ⟨z, h⟩
    · rw [if_neg z] at h; cases h
  len := start_len t.length
  sl := fun i s h => by
    obtain ⟨v, hv, k⟩ := t.get (startE_get h)
    refine ⟨v, start_get hv, ?_⟩
    rcases k with ⟨x, rfl, td⟩ | rfl
    · exact td
    · rfl
  dj := fun a b xs ys v ha hb _ _ => by
    obtain ⟨v, hv, k⟩ := t.get (startE_get ha)
    rcases k with ⟨x, z, _⟩ | z <;> cases z
  ij := fun a b xs ys ha hb _ => by
    obtain ⟨v, hv, k⟩ := t.get (startE_get ha)
    rcases k with ⟨x, z, _⟩ | z <;> cases z
/-- the callee's promise, met by a caller -/
theorem sp_of {N : List Str} {np : Nat} {b : M Out} {Ek : XK} {vs : List V} {ss : List Sl} {Q : VK} (hE : ∀ σ, E σ = Ek) (nl : ss.length = np) (r1 : Rel K γ O H σ e) (t : SlA K O H vs ss) (g : Good K γ O H σ E (fun H' => TD K O H' σ) Q (back e (runD b N.length ss))) : spM K N np b vs H Q Ek := by
  refine ⟨_, O, ss, by rw [t.length]; exact nl, t.length, rfl, r1.calleeS t, ?_⟩
  unfold runD at g
  have fin := fun {O' : List Addr} {H' : Hp} {σ' : L2.St} {e' : Env} (rr : Rel K ⟨fun q => if q ∈ O then H q else none, O, fun _ => 0⟩ O' H' σ' e') (ff : FrS O H O' H') => callee_end (O := O) (H := H) rfl (fun q hq => if_pos hq) r1.live rr ff
  cases qb : b (startE N.length ss) with
  | bad => rw [qb] at g; exact g.elim
  | ex x e2 =>
    rw [qb] at g
    cases x with
    | ins C fs =>
      intro O' σ' dx fv H' rr ff hx tf
      obtain ⟨k1, k2, k3⟩ := fin rr ff
      have := g dx fv H' (r1.after k1 k2) k2 (k3 _ _ hx) (tf.mono k3)
      rw [hE] at this
      exact this
    | _ => exact g.elim
  | ok o e2 =>
    rw [qb] at g
    cases o with
    | nx =>
      intro O' σ' H' rr ff
      obtain ⟨k1, k2, k3⟩ := fin rr ff
      exact g .non H' (r1.after k1 k2) k2 .non
    | rt d =>
      intro O' σ' v H' rr ff td
      obtain ⟨k1, k2, k3⟩ := fin rr ff
      exact g v H' (r1.after k1 k2) k2 (td.mono k3)
    | rf xs =>
      intro O' σ' p vs' H' rr ff pO pB hp td
      obtain ⟨k1, k2, k3⟩ := fin rr ff
      have pO' : p ∉ O := pB
      exact g (.ref p) H' (r1.after k1 k2) k2 (.lst (by rw [msk_out pO']; exact hp) (td.mono k3))
    | bk => exact g.elim
    | ct => exact g.elim
def callS (b : M Out) (n np : Nat) (ss : List Sl) : M D := fun e => if ss.length = np then back e (runD b n ss) else .bad
def mCallS (b : M Out) (n np : Nat) (a : M (List Sl)) : M D := a >>= callS b n np
theorem ex_callS {N : List Str} {np : Nat} {b : M Out} {Ek : XK} {ta : TA} {a : M (List Sl)} (hE : ∀ σ, E σ = Ek) (h : ES K E ta a) : EX K E (tCall (spM K N np b) [] Ek ta) (mCallS b N.length np a) := fun γ O H σ e Q r g =>
  J.bind (te := ta) (T := fun O H _ vs ss => SlA K O H vs ss) (T' := TD K) h r g fun ss e1 vs H1 r1 f1 t1 g1 => by
    show spM K N np b (vs ++ []) H1 Q Ek
    rw [List.append_nil]
    unfold callS at g1
    by_cases nl : ss.length = np
    · rw [if_pos nl] at g1
      exact sp_of hE nl r1 t1 g1
    · rw [if_neg nl] at g1; exact g1.elim
theorem ex_callS0 {N : List Str} {np : Nat} {b : M Out} {ta : TA} {a : M (List Sl)} (h : ES K E0S ta a) : EX K E0S (tCall (spM0 K N np b) [] E0 ta) (mCallS b N.length np a) := ex_callS (Ek := E0) (fun _ => rfl) h
/-- a call of a name that holds a def -/
def mCallL (i : Nat) (f : Addr) (b : M Out) (n np : Nat) (a : M (List D)) : M D := fun e => match e[i]? with
  | some (some (.st (.ref g))) => if g = f then mCall b n np a e else .bad
  | _ => .bad
theorem ex_callL0 {N : List Str} {np i : Nat} {f : Addr} {b : M Out} {ta : TA} {a : M (List D)} (h : EA K E0S ta a) : EX K E0S (tCallL i f (spM0 K N np b) [] E0 ta) (mCallL i f b N.length np a) := fun γ O H σ e Q r g => by
  unfold mCallL at g
  try dsimp only at g
  split at g
  · rename_i g' hx
    by_cases z : g' = f
    · rw [if_pos z] at g
      obtain ⟨v, h1, h2⟩ := r.sl _ _ hx
      have h2 : v = .ref g' := h2
      rw [h2, z] at h1
      exact ⟨h1, ex_call0 h γ O H σ e Q r g⟩
    · rw [if_neg z] at g; exact g.elim
  · exact g.elim
end
section
variable {X : Cx} {CX : CXT} {k : Nat} {f : Addr} {fd : FuncData} {ps ks : List Str} {sp : Sp} {E : XK} {x : Str} {p pos : Pos} {kws : List Keyword} {tk : TA} {g : List Value → List Value → List Value} {gV : List V → List V → List V}
theorem pe_callK0 (F : FnOk X.prog X.w X.K X.mg X.base CX k f fd ps sp) (hr : Room k X.A) (hg : Gl X x) (hm : X.mg x = some (.ref f)) (hk : PySem.W.keepIn X.K (.ref f) = true) (hb : KBinds X.K fd ps ks g gV) (hx : Passes CX X E) (hkw : PK X kws tk)
    (hall : (backToKw pos (keywordEach kws X.env)).all (·.1.isSome) = true := by rfl) (hks : (backToKw pos (keywordEach kws X.env)).filterMap (·.1) = ks := by rfl) (hdb : (x == ("__debug__" : Str)) = false := by decide)
    (hpl : ((backTo pos (starEach [] X.env)).any (·.1) || (backToKw pos (keywordEach kws X.env)).any (·.1.isNone)) = false := by rfl) :
    PE X (.Call (.Name x p) [] kws pos) (tCallK sp gV E tNil tk) := ⟨fun pins s σ H Q I h =>
  wpAny_Call_Name_kw (ld_glob I hg hm (PySem.W.callWith_KW0 (h₀ := X.base) I.ok.mod.kin hk hall (thn (hkw.run pos pins s σ H _ I h) fun ws s2 ⟨zs, H2, I2, rz, q2⟩ => ⟨I2.kIn, by
    rw [hks]
    exact run_fnk (us := []) (vs := []) F hr hb hx I2 .nil rz q2⟩) hpl) hdb)⟩
end
section
variable {K : PySem.W.Frag} {E : XS} {γ : Gh} {O : List Addr} {H : Hp} {σ : L2.St} {e : Env}
/-- the values behind the names, put in the parameters' order by places -/
def perm (is : List Nat) {α : Type} (zs : List α) : List α := is.filterMap fun i => zs[i]?
def mCallP (b : M Out) (n np : Nat) (is : List Nat) (a : M (List D)) : M D := a >>= fun ds => fun e => if (perm is ds).length = np then back e (runD b n ((perm is ds).map .d)) else .bad
theorem DDs.perm {vs : List V} {ds : List D} (t : DDs K H vs ds) : ∀ is : List Nat, DDs K H (Mir.perm is vs) (Mir.perm is ds)
  | [] => .nil
  | i :: is => by
    have ih := DDs.perm t is
    unfold Mir.perm at ih ⊢
    rw [List.filterMap_cons, List.filterMap_cons]
    cases q : ds[i]? with
    | none =>
      have : vs[i]? = none := by
        rw [List.getElem?_eq_none_iff] at q ⊢
        rw [t.length]; exact q
      rw [this]; exact ih
    | some d =>
      obtain ⟨v, hv, td⟩ := t.get q
      rw [hv]
      exact .cons td ih
theorem DDs.sla : ∀ {vs : List V} {ds : List D}, DDs K (msk O H) vs ds → SlA K O H vs (ds.map .d)
  | _, _, .nil => .nil
  | _, _, .cons a b => .d a (DDs.sla b)
theorem ex_callP {N : List Str} {np : Nat} {b : M Out} {Ek : XK} {tk : TA} {a : M (List D)} (is : List Nat) (hE : ∀ σ, E σ = Ek) (h : EA K E tk a) : EX K E (tCallK (spM K N np b) (fun _ zs => perm is zs) Ek tNil tk) (mCallP b N.length np is a) := fun γ O H σ e Q r g => by
  unfold mCallP at g
  change Good K γ O H σ E _ Q (M.andThen a (fun ds => fun e => if (perm is ds).length = np then back e (runD b N.length ((perm is ds).map .d)) else .bad) e) at g
  show tk σ H _
  refine J.bind (te := tk) (T := TDs K) (T' := TD K) h r g fun ds e1 vs H1 r1 f1 t1 g1 => ?_
  by_cases nl : (perm is ds).length = np
  · rw [if_pos nl] at g1
    exact sp_of hE (by rw [List.length_map]; exact nl) r1 (DDs.sla (t1.perm is)) g1
  · rw [if_neg nl] at g1; exact g1.elim
theorem ex_callP0 {N : List Str} {np : Nat} {b : M Out} {tk : TA} {a : M (List D)} (is : List Nat) (h : EA K E0S tk a) : EX K E0S (tCallK (spM0 K N np b) (fun _ zs => perm is zs) E0 tNil tk) (mCallP b N.length np is a) := ex_callP (Ek := E0) is (fun _ => rfl) h
theorem perm_vals {vs : List V} {us : List Value} (r : Vals vs us) : ∀ is : List Nat, Vals (perm is vs) (perm is us)
  | [] => .nil
  | i :: is => by
    have ih := perm_vals r is
    unfold perm at ih ⊢
    rw [List.filterMap_cons, List.filterMap_cons]
    cases q : vs[i]? with
    | none => rw [r.none_of q]; exact ih
    | some v =>
      obtain ⟨u, hu, ru⟩ := r.get q
      rw [hu]
      exact .cons ru ih
structure TabS (K : PySem.W.Frag) (w : World) (d : Addr) (f : Str → Option Str) : Prop where
  kd : ∃ es n, KDict K w d es n
  get : ∀ z, (f z = none → PySem.W.nsIn K d z = some none) ∧ ∀ y, f z = some y → ∃ t, PySem.W.nsIn K d z = some (some (.str y t))
def tabG (f : Str → Option Str) : D → Option D
  | .str z => (f z).map .str
  | _ => none
def mTab (f : Str → Option Str) (m : M D) : M D := m >>= fun d => M.lift (tabG f d)
theorem ex_tab {w : World} {d : Addr} {f : Str → Option Str} {te : TE} {m : M D} (T : TabS K w d f) (h : EX K E te m) : EX K E (tOp (rIxD K w) (tC (.ref d)) te) (mTab f m) := fun γ O H σ e Q r g =>
  J.bind (te := te) (T := TD K) (T' := TD K) h r g fun x e1 v H1 r1 f1 t1 g1 => by
    cases x with
    | str z =>
      cases t1
      have g2 : Good K γ O H1 σ E (fun H' => TD K O H' σ) Q (M.lift ((f z).map D.str) e1) := g1
      cases q : f z with
      | none => rw [q] at g2; exact g2.elim
      | some y =>
        rw [q] at g2
        obtain ⟨t, ht⟩ := (T.get z).2 y q
        obtain ⟨es, n, kd⟩ := T.kd
        exact ⟨d, z, .str y, rfl, rfl, ⟨es, n, _, kd.at_, kd.lit, ht, t, rfl⟩, g2 _ H1 r1 (Fr.refl _ _) (.str _)⟩
    | _ => exact g1.elim
abbrev rNotT (K : PySem.W.Frag) (d : Addr) : R2 := fun x y H Q => ∃ (z : Str) (r : Option Value), x = .str z ∧ y = .ref d ∧ PySem.W.nsIn K d z = some r ∧ Q (.bl (!r.isSome)) H
def tabN (f : Str → Option Str) : D → Option D
  | .str z => some (.bl (!(f z).isSome))
  | _ => none
def mTabN (f : Str → Option Str) (m : M D) : M D := m >>= fun d => M.lift (tabN f d)
theorem ex_tabN {w : World} {d : Addr} {f : Str → Option Str} {te : TE} {m : M D} (T : TabS K w d f) (h : EX K E te m) : EX K E (tOp (rNotT K d) te (tC (.ref d))) (mTabN f m) := fun γ O H σ e Q r g =>
  J.bind (te := te) (T := TD K) (T' := TD K) h r g fun x e1 v H1 r1 f1 t1 g1 => by
    cases x with
    | str z =>
      cases t1
      have g2 : Good K γ O H1 σ E (fun H' => TD K O H' σ) Q (.ok (.bl (!(f z).isSome)) e1) := g1
      cases q : f z with
      | none =>
        rw [q] at g2
        exact ⟨z, none, rfl, rfl, (T.get z).1 q, g2 _ H1 r1 (Fr.refl _ _) (.bl _)⟩
      | some y =>
        rw [q] at g2
        obtain ⟨t, ht⟩ := (T.get z).2 y q
        exact ⟨z, some (.str y t), rfl, rfl, ht, g2 _ H1 r1 (Fr.refl _ _) (.bl _)⟩
    | _ => exact g1.elim
abbrev rTupS : List V → Hp → VK → Prop := fun xs H Q => ∃ z, xs = [.str z] ∧ z.length ≤ sizeLine ∧ ∀ p, H p = none → Q (.ref p) (upd H p (.tup (z.cps.toList.map fun c => V.str ⟨#[c]⟩)))
end
end Mir

set_option Elab.async false
set_option linter.all false
set_option maxRecDepth 100000
set_option maxHeartbeats 4000000
namespace Mir
open PySem L2

section
variable {X : Cx}

theorem callTupS (hc : X.calm = true) : CallR X (.type "tuple") rTupS := fun pins s σ H xs us Q I r h => by
  obtain ⟨z, rfl, hz, q⟩ := h
  obtain ⟨u, rfl, t, rfl⟩ : ∃ u, us = [u] ∧ RelV (.str z) u := by
    cases r with
    | cons a b => cases b; exact ⟨_, rfl, a⟩
  refine call_tuple_str (I.ok.hd hc) z t (fun h' tk acc kp it => ?_) hz
  have vals : Vals (z.cps.toList.map fun c => V.str ⟨#[c]⟩) acc.toList := by
    have key : ∀ (cs : List Nat) (ws : List Value), ws.length = cs.length → (∀ (j : Nat) (v : Value), ws[j]? = some v → ∃ (c : Nat) (u : Tok), cs[j]? = some c ∧ v = Value.str ⟨#[c]⟩ u) → Vals (cs.map fun c => V.str ⟨#[c]⟩) ws := by
      intro cs
      induction cs with
      | nil => intro ws hl _; cases ws with | nil => exact .nil | cons _ _ => cases hl
      | cons c cs ih =>
        intro ws hl hv
        cases ws with
        | nil => cases hl
        | cons w ws =>
          obtain ⟨c', u, h1, h2⟩ := hv 0 w rfl
          simp at h1; subst h1
          exact .cons ⟨u, h2⟩ (ih ws (Nat.succ.inj hl) fun j v hj => by simpa using hv (j + 1) v (by simpa using hj))
    refine key _ _ (by rw [Array.length_toList, it.1, Array.length_toList]) fun j v hj => ?_
    obtain ⟨c, u, h1, h2⟩ := it.2 j v (by simpa using hj)
    exact ⟨c, u, by simpa using h1, h2⟩
  have I1 : Inv X pins σ H { s with heap := h', toks := tk } := I.kept (t' := tk) kp
  have hf : H h'.objs.size = none := I1.hok.fresh (Nat.le_refl _)
  exact ⟨.ref h'.objs.size, _, I1.laid (t' := tk) (o := .tup (z.cps.toList.map fun c => V.str ⟨#[c]⟩)) (fun b o e => Heap.get?_push_of_some _ e) (Nat.le_refl _) ⟨by rw [List.length_map]; exact hz, acc.toList, vals, ⟨_, Heap.get?_push_size _ rfl, rfl, 0, by simp⟩⟩, rfl, q _ hf⟩
end
section
variable {K : PySem.W.Frag}
abbrev rTupleB (K : PySem.W.Frag) : List V → Hp → VK → Prop := rOrC (rTupleA K) rTupS
def dTupleB : List D → Option D
  | [.str z] => if mLine z.length = true then some (.tup (signs z)) else none
  | ds => dTuple ds
theorem signs_rel {H : Hp} : ∀ cs : List Nat, DDs K H (cs.map fun c => V.str ⟨#[c]⟩) (cs.map fun c => D.str ⟨#[c]⟩)
  | [] => .nil
  | c :: cs => .cons (.str _) (signs_rel cs)
theorem tuple_B : OPn K (rTupleB K) dTupleB := fun O H xs ds d Q l hz h k => by
  unfold dTupleB at h
  split at h
  · rename_i z
    obtain ⟨x, rfl, hx⟩ := hz.one
    cases hx.str
    by_cases hl : mLine z.length = true
    · rw [if_pos hl] at h; cases h
      exact .inr ⟨z, rfl, mLine_ok hl, fun p hp => k _ _ (Evl.Ex.new hp) (DD.new_tup hp (live_out l hp) (signs_rel _))⟩
    · rw [if_neg hl] at h; cases h
  · exact .inl (tuple_D O H xs _ d Q l hz h k)
def leAt (xs ys : List Str) : Bool := Ob.lexAt (fun j => xs.getD j Str.empty == ys.getD j Str.empty) (fun j => !ltStr (ys.getD j Str.empty) (xs.getD j Str.empty)) (decide (xs.length ≤ ys.length)) 0 (min xs.length ys.length)
def rLeTS (K : PySem.W.Frag) : R2 := fun x y H Q => ∃ (a b : Addr) (ss ts : List Str), x = .ref a ∧ y = .ref b ∧ SqT K H a (ss.map V.str) ∧ SqT K H b (ts.map V.str) ∧ Q (.bl (leAt ss ts)) H
theorem str_item : ∀ {ss : List Str} {us : List Value} {j : Nat} {v : Value}, Vals (ss.map V.str) us → us[j]? = some v → ∃ t, v = .str (ss.getD j Str.empty) t
  | [], _, j, _, .nil, h => by simp at h
  | s :: ss, _, 0, _, .cons a _, h => by
    simp at h; subst h
    obtain ⟨t, rfl⟩ := a
    exact ⟨t, rfl⟩
  | s :: ss, _, j + 1, v, .cons _ b, h => by
    obtain ⟨t, ht⟩ := str_item (j := j) b (by simpa using h)
    exact ⟨t, by simpa using ht⟩
theorem op_leTS {X : Cx} (hu : X.A.units < cLine) : OpR X (compareOp .LtE) (rLeTS X.K) := fun pins s σ H x y v u Q I rx ry h => by
  obtain ⟨a, b, ss, ts, rfl, rfl, ha, hb, q⟩ := h
  cases rx; cases ry
  obtain ⟨is1, v1, t1, _⟩ := I.tuple ha
  obtain ⟨is2, v2, t2, _⟩ := I.tuple hb
  have z1 : is1.toArray.size = ss.length := by rw [List.size_toArray, ← v1.length, List.length_map]
  have z2 : is2.toArray.size = ts.length := by rw [List.size_toArray, ← v2.length, List.length_map]
  have res := Ob.RcOp.tuples_le (A := X.A) (s := s) (e := fun j => ss.getD j Str.empty == ts.getD j Str.empty) (r := fun j => !ltStr (ts.getD j Str.empty) (ss.getD j Str.empty)) t1 t2 hu
    (fun j g1 g2 => by
      obtain ⟨k1, e1⟩ := str_item v1 (j := j) (v := is1.toArray[j]) (by simpa using g1)
      obtain ⟨k2, e2⟩ := str_item v2 (j := j) (v := is2.toArray[j]) (by simpa using g2)
      rw [e1, e2]
      exact SeqAt.EqAt.str_str _ _ _ _)
    (fun j g1 g2 _ => by
      obtain ⟨k1, e1⟩ := str_item v1 (j := j) (v := is1.toArray[j]) (by simpa using g1)
      obtain ⟨k2, e2⟩ := str_item v2 (j := j) (v := is2.toArray[j]) (by simpa using g2)
      rw [e1, e2]
      exact fun prog w E Q h => PySem.P.le_str h)
  rw [z1, z2] at res
  exact res X.prog X.w X.xe (EP X pins σ Q) ⟨.bl _, H, I, rfl, q⟩
abbrev rLeB (K : PySem.W.Frag) : R2 := rOr rLeA (rLeTS K)
def dLeB : D → D → Option D
  | .tup xs, .tup ys => match strsD xs, strsD ys with
    | some ss, some ts => some (.bl (leAt ss ts))
    | _, _ => none
  | x, y => dLe x y
theorem opLeB {X : Cx} (hu : X.A.units < cLine) : OpR X (compareOp .LtE) (rLeB X.K) := opLeA.or (op_leTS hu)
theorem op_leDB : OP2 K (rLeB K) dLeB := fun O H x y dx dy d Q l hx hy h k => by
  unfold dLeB at h
  split at h
  · rename_i xs ys
    obtain ⟨a, vs, rfl, ha, t⟩ := hx.tup
    obtain ⟨b, us, rfl, hb, t2⟩ := hy.tup
    cases q1 : strsD xs with
    | none => rw [q1] at h; cases h
    | some ss =>
      cases q2 : strsD ys with
      | none => rw [q1, q2] at h; cases h
      | some ts =>
        rw [q1, q2] at h
        cases h
        obtain ⟨e1, _⟩ := strs_rel t q1
        obtain ⟨e2, _⟩ := strs_rel t2 q2
        subst e1; subst e2
        exact .inr ⟨a, b, ss, ts, rfl, rfl, ha, hb, k _ H (Evl.Ex.refl H) (.bl _)⟩
  · exact .inl (op_leD O H x y dx dy d Q l hx hy h k)
end
end Mir

set_option Elab.async false
set_option linter.all false
set_option maxRecDepth 100000
set_option maxHeartbeats 4000000
namespace Mir
open PySem L2

/-- what stands in the parameters' order, if all are given by name -/
def gK {α : Type} (d : α) (np : Nat) (is : List Nat) (us zs : List α) : List α := if us.length = 0 ∧ zs.length = is.length then perm is zs else List.replicate (np + 1) d
theorem vals_rep : ∀ n : Nat, Vals (List.replicate n V.non) (List.replicate n Value.none)
  | 0 => .nil
  | n + 1 => by
    rw [List.replicate_succ, List.replicate_succ]
    exact .cons rfl (vals_rep n)
section
variable {K : PySem.W.Frag}
theorem kb_of {x qual : Str} {st : Stmt} {f : Addr} {fd : FuncData} {ps ks : List Str} {is : List Nat} (F : Fun K x qual st f fd) (hk : ks.length = is.length)
    (h : ∀ (kV doc pm : Value) (an : Option Addr) (cdv ct : Value) (ws : List Value), ws.length = is.length → bindArgs (PySem.W.fnOf x qual (defArgs st) (defBody st) (defScope st) .none kV doc pm an cdv ct) ⟨[], ks.zip ws⟩ = pure (ps.zip (perm is ws))) :
    KBinds K fd ps ks (gK Value.none ps.length is) (gK V.non ps.length is) where
  to := fun s us ws _ hl => by
    obtain ⟨oc, od, kV, doc, pm, an, cdv, ct, osl, rfl, _, _⟩ := F.ex
    by_cases z : us.length = 0 ∧ ws.length = is.length
    · have e : gK Value.none ps.length is us ws = perm is ws := if_pos z
      rw [e]
      have e0 : us = [] := List.eq_nil_of_length_eq_zero z.1
      rw [e0]
      exact .of_eq (h kV doc pm an cdv ct ws z.2)
    · have e : gK Value.none ps.length is us ws = List.replicate (ps.length + 1) Value.none := if_neg z
      rw [e, List.length_replicate] at hl
      omega
  rel := fun {vs us zs ws} r1 r2 => by
    unfold gK
    rw [r1.length, r2.length]
    by_cases z : us.length = 0 ∧ ws.length = is.length
    · rw [if_pos z, if_pos z]; exact perm_vals r2 is
    · rw [if_neg z, if_neg z]; exact vals_rep _
variable {E : XS} {γ : Gh} {O : List Addr} {H : Hp} {σ : L2.St} {e : Env}
def callQ (b : M Out) (n np : Nat) (is : List Nat) (ds : List D) : M D := fun e => if ds.length = is.length ∧ (perm is ds).length = np then back e (runD b n ((perm is ds).map .d)) else .bad
def mCallQ (b : M Out) (n np : Nat) (is : List Nat) (a : M (List D)) : M D := a >>= callQ b n np is
theorem ex_callQ0 {N : List Str} {np m : Nat} {b : M Out} {tk : TA} {a : M (List D)} (is : List Nat) (h : EA K E0S tk a) : EX K E0S (tCallK (spM0 K N np b) (gK V.non m is) E0 tNil tk) (mCallQ b N.length np is a) := fun γ O H σ e Q r g => by
  show tk σ H _
  refine J.bind (te := tk) (T := TDs K) (T' := TD K) h r g fun ds e1 vs H1 r1 f1 t1 g1 => ?_
  unfold callQ at g1
  by_cases z : ds.length = is.length ∧ (perm is ds).length = np
  · rw [if_pos z] at g1
    have e0 : gK V.non m is [] vs = perm is vs := if_pos ⟨rfl, by rw [t1.length]; exact z.1⟩
    show spM K N np b (gK V.non m is [] vs) H1 Q E0
    rw [e0]
    exact sp_of (fun _ => rfl) (by rw [List.length_map]; exact z.2) r1 (DDs.sla (t1.perm is)) g1
  · rw [if_neg z] at g1; exact g1.elim
def spLaw (K : PySem.W.Frag) : Sp := fun vs H Q _ => ∃ (a : Addr) (ns : List Int), vs = [.ref a] ∧ SqL K H a (ns.map V.int) ∧ ns.length ≤ 63 ∧ ∀ H', Q (.bl true) H'
def TabAt (K : PySem.W.Frag) (d : Addr) (f : Str → Option Str) (z : Str) : Prop := (f z = none → PySem.W.nsIn K d z = some none) ∧ ∀ y, f z = some y → ∃ t, PySem.W.nsIn K d z = some (some (.str y t))
/-- a written dict's entries, all texts -/
inductive TabL : List DictEntry → List (Str × Str) → Prop
  | nil : TabL [] []
  | cons {d : DictEntry} {ds : List DictEntry} {k v : Str} {ps : List (Str × Str)} {t u : Tok} : d.key = .str k t → d.val = .str v u → TabL ds ps → TabL (d :: ds) ((k, v) :: ps)
def tabOf (ps : List (Str × Str)) (z : Str) : Option Str := (ps.find? fun p => p.1 == z).map (·.2)
theorem tabL_ref : ∀ {ds : List DictEntry} {ps : List (Str × Str)}, TabL ds ps → ds.any (·.refKey) = false
  | _, _, .nil => rfl
  | _, _, .cons (d := d) (ds := ds) h _ r => by
    have e : d.refKey = false := by unfold DictEntry.refKey; rw [h]
    rw [List.any_cons, e, tabL_ref r]
    rfl
theorem tabL_find (z : Str) : ∀ {ds : List DictEntry} {ps : List (Str × Str)}, TabL ds ps →
    (tabOf ps z = none → ds.find? (·.key.isStr z) = none) ∧ ∀ y, tabOf ps z = some y → ∃ d t, ds.find? (·.key.isStr z) = some d ∧ d.val = .str y t
  | _, _, .nil => ⟨fun _ => rfl, fun y h => by cases h⟩
  | _, _, .cons (d := d) (ds := ds) (k := k) (v := v) (ps := ps) h hv r => by
    have e : d.key.isStr z = (k == z) := by rw [h]; rfl
    have ih := tabL_find z r
    unfold tabOf at ih ⊢
    by_cases q : (k == z) = true
    · have f1 : ((k, v) :: ps).find? (fun p => p.1 == z) = some (k, v) := List.find?_cons_of_pos q
      have f2 : (d :: ds).find? (·.key.isStr z) = some d := List.find?_cons_of_pos (by rw [e]; exact q)
      rw [f1, f2]
      refine ⟨fun w => ?_, fun y w => ?_⟩
      · cases w
      · cases w; exact ⟨d, _, rfl, hv⟩
    · have f1 : ((k, v) :: ps).find? (fun p => p.1 == z) = ps.find? (fun p => p.1 == z) := List.find?_cons_of_neg q
      have f2 : (d :: ds).find? (·.key.isStr z) = ds.find? (·.key.isStr z) := List.find?_cons_of_neg (by rw [e]; exact q)
      rw [f1, f2]
      exact ih
theorem tab_at {a : Addr} {es : Array DictEntry} {n : Nat} {ps : List (Str × Str)} (h : K.lookup a = some ⟨.type "dict", none, .dict es n, #[]⟩) (t : TabL es.toList ps) (z : Str) : TabAt K a (tabOf ps) z := by
  have e : PySem.W.nsIn K a z = (match es.toList.find? (·.key.isStr z) with
      | some e => some (some e.val)
      | none => if es.toList.any (·.refKey) then none else some none) := by
    unfold PySem.W.nsIn
    rw [h]
    rfl
  obtain ⟨h1, h2⟩ := tabL_find z t
  refine ⟨fun q => ?_, fun y q => ?_⟩
  · rw [e, h1 q, tabL_ref t]
    rfl
  · obtain ⟨d, u, f1, f2⟩ := h2 y q
    rw [e, f1]
    refine ⟨u, ?_⟩
    show some (some d.val) = _
    rw [f2]
theorem law_sp {P : Program} {w : World} {mg : Str → Option Value} {base : Heap} {k : Nat} {f : Addr} {fd : FuncData} {ps N : List Str} {b : M Out} (F : FnOk P w K mg base CX0 k f fd ps (spM0 K N 1 b))
    (h : ∀ ns : List Int, ns.length ≤ 63 → ∃ e', b (startE N.length [.d (.fz (ns.map D.int))]) = .ok (.rt (.bl true)) e') : FnOk P w K mg base CX0 k f fd ps (spLaw K) :=
  F.imp fun vs H Q E hs => by
    obtain ⟨a, ns, rfl, sq, hl, q⟩ := hs
    obtain ⟨e', he⟩ := h ns hl
    have r : Rel K ⟨fun _ => none, [], fun _ => 0⟩ [] H [] [] := {
      bo := fun q h => (by cases h)
      live := fun q h => (by cases h)
      gs := fun q o h => (by cases h)
      len := rfl
      sl := fun i s h => (by simp at h)
      dj := fun i j xs ys v h => (by simp at h)
      ij := fun i j xs ys h => (by simp at h) }
    have ex : Ex H (msk [] H) := fun a o e => by rw [msk_out (by simp)]; exact e
    have dd : DDs K (msk [] H) [.ref a] [.fz (ns.map D.int)] := .cons (.fz (Evl.ex_l ex sq) (DDs.ints ns)) .nil
    refine ⟨_, [], [.d (.fz (ns.map D.int))], rfl, rfl, rfl, Rel.callee (ds := [.fz (ns.map D.int)]) r dd, ?_⟩
    rw [he]
    intro O' σ' v H' _ _ t
    cases t
    exact q H'
theorem bind_one {x qual y : Str} {st : Stmt} {f : Addr} {fd : FuncData} (F : Fun K x qual st f fd)
    (h : ∀ (kV doc pm : Value) (an : Option Addr) (cdv ct v : Value), bindArgs (PySem.W.fnOf x qual (defArgs st) (defBody st) (defScope st) .none kV doc pm an cdv ct) ⟨[v], []⟩ = pure [(y, v)]) (s : Shared) (v : Value) : BindsTo s fd ⟨[v], []⟩ [(y, v)] := by
  obtain ⟨oc, od, kV, doc, pm, an, cdv, ct, osl, rfl, _, _⟩ := F.ex
  exact .of_eq (h kV doc pm an cdv ct v)
end
end Mir

set_option Elab.async false
set_option linter.all false
set_option maxRecDepth 100000
set_option maxHeartbeats 4000000
namespace Mir
open PySem L2

/-- the answer of a def whose arguments are all data -/
def outD : R Out → Option D
  | .ok (.rt d) _ => some d
  | .ok (.rf xs) _ => some (.lst xs)
  | .ok .nx _ => some .non
  | _ => none
/-- the answer, and what has become of the given list -/
def outI (r : R Out) : Option (D × List D) := match r with
  | .ok (.rt d) e => (ioAt e).map fun ys => (d, ys)
  | .ok (.rf xs) e => (ioAt e).map fun ys => (.lst xs, ys)
  | .ok .nx e => (ioAt e).map fun ys => (.non, ys)
  | _ => none
def outF : R Out → Option (List D)
  | .ok (.rf xs) _ => some xs
  | _ => none
theorem runD_of {b : M Out} {n : Nat} {as : List Sl} {d : D} (h : outD (b (startE n as)) = some d) : ∃ e', runD b n as = .ok d e' := by
  unfold runD
  unfold outD at h
  split at h <;> first | (cases h; rename_i q; rw [q]; exact ⟨_, rfl⟩) | cases h
theorem call_of {b : M Out} {n np : Nat} {a : M (List D)} {e e1 : Env} {ds : List D} {d : D} (ha : a e = .ok ds e1) (hn : ds.length = np) (h : outD (b (startE n (ds.map .d))) = some d) : mCall b n np a e = .ok d e1 := by
  obtain ⟨e', he⟩ := runD_of h
  simp [mCall, bind, M.andThen, ha, hn, he, back]
theorem callS_of {b : M Out} {n np : Nat} {a : M (List Sl)} {e e1 : Env} {ss : List Sl} {d : D} (ha : a e = .ok ss e1) (hn : ss.length = np) (h : outD (b (startE n ss)) = some d) : mCallS b n np a e = .ok d e1 := by
  obtain ⟨e', he⟩ := runD_of h
  unfold mCallS
  rw [bind_eq, ha]
  show (if ss.length = np then back e1 (runD b n ss) else .bad) = _
  rw [if_pos hn, he]
  rfl
theorem callI_of {b : M Out} {n np j : Nat} {a : M (List D)} {e e1 : Env} {ds xs0 xs ys : List D} {d : D} (h0 : ownAt e j = some xs0) (ha : a e = .ok ds e1) (h1 : ownAt e1 j = some xs) (hn : ds.length + 1 = np)
    (h : outI (b (startE n (.io xs :: ds.map .d))) = some (d, ys)) : mCallI b n np j a e = .ok d (setSame e1 j ys) := by
  have key : ∃ e', runD b n (.io xs :: ds.map .d) = .ok d e' ∧ ioAt e' = some ys := by
    unfold runD
    unfold outI at h
    split at h
    · rename_i d' e' q
      rw [q]
      cases z : ioAt e' with
      | none => rw [z] at h; cases h
      | some zs => rw [z] at h; cases h; exact ⟨_, rfl, z⟩
    · rename_i d' e' q
      rw [q]
      cases z : ioAt e' with
      | none => rw [z] at h; cases h
      | some zs => rw [z] at h; cases h; exact ⟨_, rfl, z⟩
    · rename_i e' q
      rw [q]
      cases z : ioAt e' with
      | none => rw [z] at h; cases h
      | some zs => rw [z] at h; cases h; exact ⟨_, rfl, z⟩
    · cases h
  obtain ⟨e', h2, h3⟩ := key
  unfold mCallI
  rw [h0]
  show (a >>= callI b n np j) e = _
  rw [bind_eq, ha]
  show callI b n np j ds e1 = _
  unfold callI
  rw [h1]
  show (if ds.length + 1 = np then backI e1 j (runD b n (.io xs :: ds.map .d)) else .bad) = _
  rw [if_pos hn, h2]
  show (match ioAt e' with | some ys => R.ok d (setSame e1 j ys) | none => R.bad) = _
  rw [h3]
theorem oCall_of {b : M Out} {n np : Nat} {a : M (List D)} {e e1 : Env} {ds xs : List D} (ha : a e = .ok ds e1) (hn : ds.length = np) (h : outF (b (startE n (ds.map .d))) = some xs) : oCall b n np a e = .ok xs e1 := by
  have key : ∃ e', b (startE n (ds.map .d)) = .ok (.rf xs) e' := by
    unfold outF at h
    split at h
    · rename_i q; cases h; exact ⟨_, q⟩
    · cases h
  obtain ⟨e', he⟩ := key
  simp [oCall, bind, M.andThen, ha, hn, he, backF]
theorem callF_of {b : M Out} {n : Nat} {m : M (List D)} {e e1 : Env} {xs : List D} {d : D} (hm : m e = .ok xs e1) (h : outD (b (startE n [.io xs])) = some d) : mCallF b n 1 m e = .ok d e1 := by
  obtain ⟨e', he⟩ := runD_of h
  unfold mCallF
  rw [bind_eq, hm]
  show callF b n 1 xs e1 = _
  unfold callF
  rw [if_pos rfl, he]
  rfl
/-- three numbers, the last of them how many have been drawn; n more may come -/
def Box (n : Nat) (xs : List D) : Prop := ∃ a b c : Int, xs = [.int a, .int b, .int c] ∧ 0 ≤ c ∧ c + n ≤ 1000000000
theorem Box.mono {m n : Nat} {xs : List D} (h : Box n xs) (k : m ≤ n) : Box m xs := by
  obtain ⟨a, b, c, h1, h2, h3⟩ := h
  exact ⟨a, b, c, h1, h2, by omega⟩
theorem small_of {i : Int} (h1 : 0 ≤ i) (h2 : i < 2 ^ 62) : Mir.small64 i = true := by
  unfold Mir.small64
  simp only [Bool.and_eq_true, decide_eq_true_eq]
  omega
theorem fmod_lo {x n : Int} (h : 0 < n) : 0 ≤ x.fmod n ∧ x.fmod n < n := ⟨Int.fmod_nonneg_of_pos x h, Int.fmod_lt_of_pos x h⟩
/-- a def that draws: the list given, and n more draws; what it gives, and a list for m more -/
def Draws (b : M Out) (N : Nat) (ds : List D) (n m : Nat) (P : D → Prop) : Prop := ∀ xs, Box n xs → ∃ d ys, P d ∧ Box m ys ∧ outI (b (startE N (.io xs :: ds.map .d))) = some (d, ys)
end Mir
namespace Mir
open PySem L2
theorem comp_map {s : D → Env → Option Env} {x : M D} {vs : List Nat} {e : Env} {f : D → D} : ∀ {ds acc : List D}, acc.length + ds.length ≤ 100000 → (∀ d ∈ ds, ∃ e1 e2, s d e = some e1 ∧ x e1 = .ok (f d) e2 ∧ ewipe e2 vs = e) →
    mComp s tYesM x vs acc ds e = .ok (acc ++ ds.map f) e
  | [], acc, _, _ => by
    rw [List.map_nil, List.append_nil]
    rfl
  | d :: ds, acc, hl, h => by
    obtain ⟨e1, e2, h1, h2, h3⟩ := h d List.mem_cons_self
    rw [List.length_cons] at hl
    have hm : mLine (acc.length + 1) = true := decide_eq_true (by omega)
    have ih := comp_map (s := s) (x := x) (vs := vs) (e := e) (f := f) (ds := ds) (acc := acc ++ [f d]) (by rw [List.length_append, List.length_singleton]; omega) fun d' hd => h d' (List.mem_cons_of_mem _ hd)
    have ht : tYesM e1 = .ok true e1 := rfl
    unfold mComp
    simp only [h1, ht, h2, hm, if_true, h3, ih]
    simp
theorem lc_map {w : M (List D)} {s : D → Env → Option Env} {x : M D} {vs : List Nat} {e e1 : Env} {ds : List D} {f : D → D} (hw : w e = .ok ds e1) (hl : ds.length ≤ 100000) (h0 : ewipe e1 vs = e1)
    (h : ∀ d ∈ ds, ∃ e2 e3, s d e1 = some e2 ∧ x e2 = .ok (f d) e3 ∧ ewipe e3 vs = e1) : mLc w s tYesM x vs e = .ok (ds.map f) e1 := by
  have q := comp_map (acc := []) (by simpa using hl) h
  show M.andThen w (fun ds => fun e => mComp s tYesM x vs [] ds (ewipe e vs)) e = _
  unfold M.andThen
  rw [hw]
  show mComp s tYesM x vs [] ds (ewipe e1 vs) = _
  rw [h0, q, List.nil_append]
/-- data without dicts, instances and defs, at most n deep -/
def plainN : Nat → D → Bool
  | 0, _ => false
  | _ + 1, .non => true
  | _ + 1, .bl _ => true
  | _ + 1, .int _ => true
  | _ + 1, .str s => PyData.strOk s
  | n + 1, .lst xs => decide (xs.length ≤ 100000) && xs.all (plainN n)
  | n + 1, .tup xs => decide (xs.length ≤ 100000) && xs.all (plainN n)
  | _ + 1, _ => false
theorem zip_self : ∀ {xs : List D} {d : D}, d ∈ zipD xs xs → ∃ x ∈ xs, d = .tup [x, x]
  | [], d, h => by cases h
  | x :: xs, d, h => by
    have h : d ∈ D.tup [x, x] :: zipD xs xs := h
    rcases List.mem_cons.mp h with z | z
    · exact ⟨x, List.mem_cons_self, z⟩
    · obtain ⟨y, hy, e⟩ := zip_self z
      exact ⟨y, List.mem_cons_of_mem _ hy, e⟩
theorem zip_self_len : ∀ {xs : List D}, (zipD xs xs).length = xs.length
  | [] => rfl
  | x :: xs => congrArg (· + 1) zip_self_len
theorem bls_true {α : Type} : ∀ (l : List α), blsD (l.map fun _ => D.bl true) = some (l.map fun _ => true)
  | [] => rfl
  | a :: l => by
    show (blsD (l.map fun _ => D.bl true)).map (true :: ·) = _
    rw [bls_true l]
    rfl
end Mir

set_option Elab.async false
set_option linter.all false
namespace Mir
open PySem L2
theorem mNil_at {e} : mNil e = (M.ret []) e := rfl
theorem mCons_at {a b e} : mCons a b e = (M.andThen a (fun x => M.andThen b (fun xs => M.ret (x :: xs)))) e := rfl
theorem wNil_at {e} : wNil e = (M.ret []) e := rfl
theorem wCons_at {a b e} : wCons a b e = (M.andThen a (fun x => M.andThen b (fun xs => M.ret (x :: xs)))) e := rfl
theorem mRd1_at {m f e} : mRd1 m f e = (M.andThen m (fun a => M.andThen (rd a) (fun x => M.lift (f x)))) e := rfl
theorem mBin_at {f a b e} : mBin f a b e = (M.andThen a (fun x => M.andThen b (fun y => M.lift (f x y)))) e := rfl
theorem mBinV_at {f a b e} : mBinV f a b e = (M.andThen a (fun x => M.andThen b (fun y => M.andThen (rd x) (fun dx => M.andThen (rd y) (fun dy => M.lift (f dx dy)))))) e := rfl
theorem mCB_at {f a e} : mCB f a e = (M.andThen a (fun xs => M.lift (f xs))) e := rfl
theorem mCW_at {f a e} : mCW f a e = (M.andThen a (fun vs => M.andThen (rds vs) (fun xs => M.lift (f xs)))) e := rfl
theorem mTup_at {a e} : mTup a e = (M.andThen a (fun xs => M.lift (if mLine xs.length = true then some (.tup xs) else none))) e := rfl
theorem mLst_at {a e} : mLst a e = (M.andThen a (fun xs => M.lift (if mLine xs.length = true then some (.lst xs) else none))) e := rfl
theorem oLst_at {a e} : oLst a e = (M.andThen a (fun xs => M.lift (if mLine xs.length = true then some xs else none))) e := rfl
theorem mNot_at {m e} : mNot m e = (M.andThen m (fun b => M.ret (!b))) e := rfl
theorem mAnd_at {m n e} : mAnd m n e = (M.andThen m (fun b => if b = true then n else M.ret false)) e := rfl
theorem mOr_at {m n e} : mOr m n e = (M.andThen m (fun b => if b = true then M.ret true else n)) e := rfl
theorem mBl_at {m e} : mBl m e = (M.andThen m (fun b => M.ret (.bl b))) e := rfl
theorem mF_at {m e} : mF m e = (M.andThen m (fun ds => M.ret (.lst ds))) e := rfl
theorem vD_at {m e} : vD m e = (M.andThen m (fun d => M.ret (.val d))) e := rfl
theorem mTru_at {a e} : mTru a e = (M.andThen a (fun v => M.andThen (rd v) (fun d => M.lift (truD d)))) e := rfl
theorem mIs1_at {n a e} : mIs1 n a e = (M.andThen a (fun v => M.andThen (rd v) (fun d => M.lift ((isTy n d).map .bl)))) e := rfl
theorem mIs2_at {m n a e} : mIs2 m n a e = (M.andThen a (fun v => M.andThen (rd v) (fun d => M.lift ((isTy2 m n d).map .bl)))) e := rfl
theorem mNotT_at {m e} : mNotT m e = (M.andThen (mTru m) (fun b => M.ret (.bl (!b)))) e := rfl
theorem mSl_at {a lo hi e} : mSl a lo hi e = (M.andThen a (fun v => M.andThen lo (fun l => M.andThen hi (fun h => M.andThen (rd v) (fun d => M.lift (dSl d l h)))))) e := rfl
theorem sIf_at {c a b e} : sIf c a b e = (M.andThen c (fun r => if r = true then a else b)) e := rfl
theorem sRet_at {m e} : sRet m e = (M.andThen m (fun d => M.ret (.rt d))) e := rfl
theorem sRetF_at {m e} : sRetF m e = (M.andThen m (fun d => M.ret (.rf d))) e := rfl
theorem sExpr_at {m e} : sExpr m e = (M.andThen m (fun _ => M.ret .nx)) e := rfl
theorem sOwn_at {i m e} : sOwn i m e = (M.andThen m (putO i)) e := rfl
theorem sFor_at {w g b e} : sFor w g b e = (M.andThen w (mLoop g b)) e := rfl
theorem wAny_at {m e} : wAny m e = (M.andThen m (fun d => M.lift (dSeq d))) e := rfl
theorem wRng1_at {m e} : wRng1 m e = (M.andThen m (fun d => M.lift (dRng1 d))) e := rfl
theorem wRng2_at {m e} : wRng2 m e = (M.andThen m (fun d => M.lift (dRng2 d))) e := rfl
theorem wEnum_at {m e} : wEnum m e = (M.andThen m (fun d => M.lift (dEnum d))) e := rfl
theorem wZip_at {m e} : wZip m e = (M.andThen m (fun d => M.lift (dZip d))) e := rfl
theorem oCB_at {f a e} : oCB f a e = (M.andThen a (fun xs => M.lift (f xs))) e := rfl
theorem oCW_at {f a e} : oCW f a e = (M.andThen a (fun vs => M.andThen (rds vs) (fun xs => M.lift (f xs)))) e := rfl
theorem mUn_at {f m e} : mUn f m e = (M.andThen m (fun x => M.lift (f x))) e := rfl
theorem mFmt_at {m e} : mFmt m e = (M.andThen m (fun d => M.lift ((fmtD d).map .str))) e := rfl
theorem aT_at {α β : Type} {m : M α} {f : α → M β} {e : Env} : M.andThen m f e = match m e with | .ok a e' => f a e' | .ex x e' => .ex x e' | .bad => .bad := rfl
theorem ret_at {α : Type} {a : α} {e : Env} : (M.ret a) e = .ok a e := rfl
theorem mIf_at {α : Type} {c : M Bool} {m n : M α} {e : Env} : mIf c m n e = M.andThen c (fun b => if b = true then m else n) e := rfl
theorem ite_at {α : Type} {c : Prop} [Decidable c] {m n : M α} {e : Env} : (if c then m else n) e = if c then m e else n e := by split <;> rfl
theorem mB_at {m : M D} {e : Env} : mB m e = match m e with | .ok (.bl b) e' => .ok b e' | .ok _ _ => .bad | .ex x e' => .ex x e' | .bad => .bad := by
  show M.andThen m _ e = _
  unfold M.andThen
  cases m e with
  | ok d e' => cases d <;> rfl
  | ex x e' => rfl
  | bad => rfl
theorem sSeq_at {a b : M Out} {e : Env} : sSeq a b e = match a e with | .ok .nx e' => b e' | .ok o e' => .ok o e' | .ex x e' => .ex x e' | .bad => .bad := by
  show M.andThen a _ e = _
  unfold M.andThen
  cases a e with
  | ok d e' => cases d <;> rfl
  | ex x e' => rfl
  | bad => rfl
theorem lift_at {α : Type} {o : Option α} {e : Env} : (M.lift o) e = match o with | some a => .ok a e | none => .bad := rfl
theorem mAndT_at {a b : M D} {e : Env} : mAndT a b e = match a e with | .ok d e1 => (match truD d with | some false => .ok d e1 | some true => b e1 | none => .bad) | .ex x e' => .ex x e' | .bad => .bad := by
  show M.andThen a _ e = _
  unfold M.andThen
  cases a e with
  | ok d e1 =>
    first
      | rfl
      | (dsimp only; done)
      | (dsimp only; cases truD d <;> first | rfl | (rename_i b; cases b <;> rfl))
  | ex x e' => rfl
  | bad => rfl
theorem mOrT_at {a b : M D} {e : Env} : mOrT a b e = match a e with | .ok d e1 => (match truD d with | some true => .ok d e1 | some false => b e1 | none => .bad) | .ex x e' => .ex x e' | .bad => .bad := by
  show M.andThen a _ e = _
  unfold M.andThen
  cases a e with
  | ok d e1 =>
    first
      | rfl
      | (dsimp only; done)
      | (dsimp only; cases truD d <;> first | rfl | (rename_i b; cases b <;> rfl))
  | ex x e' => rfl
  | bad => rfl
theorem bind_at {α β : Type} {m : M α} {f : α → M β} {e : Env} : (m >>= f) e = match m e with | .ok a e' => f a e' | .ex x e' => .ex x e' | .bad => .bad := rfl
theorem mVar_at {i : Nat} {e : Env} : mVar i e = match e[i]? with | some (some (.d x)) => .ok x e | _ => .bad := rfl
theorem mOwn_at {i : Nat} {e : Env} : mOwn i e = match e[i]? with | some (some _) => .ok (.slot i) e | _ => .bad := rfl
theorem rdv_at {d : D} {e : Env} : rd (.val d) e = .ok d e := rfl
theorem rds_at {i : Nat} {e : Env} : rd (.slot i) e = match e[i]? with | some (some (.d x)) => .ok x e | some (some (Sl.ol xs)) => .ok (.lst xs) e | some (some (Sl.io xs)) => .ok (.lst xs) e | _ => .bad := rfl
theorem rdN_at {e : Env} : rds [] e = .ok [] e := rfl
theorem rdC_at {a : Dv} {r : List Dv} {e : Env} : rds (a :: r) e = M.andThen (rd a) (fun x => M.andThen (rds r) (fun xs => M.ret (x :: xs))) e := rfl
theorem sApp_at {i : Nat} {m : M D} {e : Env} : sApp i m e = match ownAt e i with | some _ => M.andThen m (appO i) e | none => .bad := rfl
theorem mPop_at {i : Nat} {m : M D} {e : Env} : mPop i m e = match ownAt e i with | some _ => M.andThen m (popO i) e | none => .bad := rfl
theorem appO_at {i : Nat} {d : D} {e : Env} : appO i d e = match ownAt e i with | some xs => if mLine (xs.length + 1) = true then .ok .nx (setSame e i (xs ++ [d])) else .bad | none => .bad := rfl
theorem sAsg_at {m : M D} {s : D → Env → Option Env} {e : Env} : sAsg m s e = match m e with | .ok d e1 => sDo (s d e1) e1 | .ex x e' => .ex x e' | .bad => .bad := by
  show M.andThen m _ e = _
  unfold M.andThen
  cases m e with
  | ok d e1 => rfl
  | ex x e' => rfl
  | bad => rfl
theorem sSet_at {i : Nat} {m k : M D} {e : Env} : sSet i m k e = match m e with | .ok d e1 => (match ownAt e1 i with | some _ => M.andThen k (Mir.putAt i d) e1 | none => .bad) | .ex x e' => .ex x e' | .bad => .bad := by
  show M.andThen m _ e = _
  unfold M.andThen
  cases m e with
  | ok d e1 => rfl
  | ex x e' => rfl
  | bad => rfl
theorem putO_at {i : Nat} {ds : List D} {e : Env} : putO i ds e = if noIo e i = true then .ok .nx (e.set i (some (.ol ds))) else .bad := rfl
theorem sRetO_at {i : Nat} {e : Env} : sRetO i e = match e[i]? with | some (some (.ol xs)) => .ok (.rf xs) e | _ => .bad := rfl
theorem loopN_at {g : D → Env → Option Env} {b : M Out} {e : Env} : mLoop g b [] e = .ok .nx e := rfl
theorem loopC_at {g : D → Env → Option Env} {b : M Out} {d : D} {ds : List D} {e e1 e2 : Env} (h1 : g d e = some e1) (h2 : b e1 = .ok .nx e2) : mLoop g b (d :: ds) e = mLoop g b ds e2 := by
  show (match g d e with | none => R.bad | some e1 => _) = _
  rw [h1]
  dsimp only
  rw [h2]
theorem oOr_at {a b : M (List D)} {e : Env} : oOr a b e = match a e with | .ok d e1 => (if d.isEmpty = true then b e1 else .ok d e1) | .ex x e' => .ex x e' | .bad => .bad := by
  show M.andThen a _ e = _
  unfold M.andThen
  cases a e with
  | ok d e1 => rfl
  | ex x e' => rfl
  | bad => rfl
theorem oSome_at {m : M D} {e : Env} : oSome m e = match m e with | .ok (.int i) e' => .ok (some i) e' | .ok _ _ => .bad | .ex x e' => .ex x e' | .bad => .bad := by
  show M.andThen m _ e = _
  unfold M.andThen
  cases m e with
  | ok d e' => cases d <;> rfl
  | ex x e' => rfl
  | bad => rfl
theorem oNone_at {e : Env} : oNone e = .ok none e := rfl
theorem mCall_at {b : M Out} {n np : Nat} {a : M (List D)} {e : Env} : mCall b n np a e = match a e with | .ok ds e1 => (if ds.length = np then back e1 (runD b n (ds.map .d)) else .bad) | .ex x e' => .ex x e' | .bad => .bad := by
  show M.andThen a _ e = _
  unfold M.andThen
  cases a e with
  | ok d e' => rfl
  | ex x e' => rfl
  | bad => rfl
theorem mCallL_at {i : Nat} {f : Addr} {b : M Out} {n np : Nat} {a : M (List D)} {e : Env} (h : e[i]? = some (some (.st (.ref f)))) : mCallL i f b n np a e = mCall b n np a e := by
  unfold mCallL
  rw [h]
  show (if f = f then mCall b n np a e else .bad) = _
  rw [if_pos rfl]
theorem sNx_at {e : Env} : sNx e = .ok .nx e := rfl
end Mir
-- mNil_at, mCons_at, wNil_at, wCons_at, mRd1_at, mBin_at, mBinV_at, mCB_at, mCW_at, mTup_at, mLst_at, oLst_at, mNot_at, mAnd_at, mOr_at, mBl_at, mF_at, vD_at, mTru_at, mIs1_at, mIs2_at, mNotT_at, mSl_at, sIf_at, sRet_at, sRetF_at, sExpr_at, sOwn_at, sFor_at, wAny_at, wRng1_at, wRng2_at, wEnum_at, wZip_at, oCB_at, oCW_at, mUn_at, mFmt_at

set_option Elab.async false
set_option linter.all false
set_option maxRecDepth 100000
set_option maxHeartbeats 4000000
namespace Mir
open PySem L2 PySem.Spec PyProof.Rows
section
variable {X : Cx} {pins : List (Addr × Obj)} {σ : L2.St} {H : Hp} {s : Shared}
/-- an object that stands in the heap, new since the entry, is tracked from here on -/
theorem track {a : Addr} {φ : Heap → Prop} (I : Inv X pins σ H s) (na : H a = none) (n0 : X.s_0.heap.get? a = none) (nL : a ≠ X.env.locals) (nC : ∀ x c, X.env.cells.lookup x = some c → c ≠ a) (np : ∀ p ∈ X.pn ++ pins, p.1 ≠ a)
    (ok : ObjOk X.prog X.w (upd H a (.ext φ)) s.heap a (.ext φ)) : Inv X pins σ (upd H a (.ext φ)) s where
  ok := I.ok
  os := I.os
  bare := I.bare
  base := {
    keep := I.base.keep
    slot := I.base.slot
    free := fun b o e n hx => by
      rw [upd_ne fun z => by rw [z, n0] at e; cases e]
      exact I.base.free b o e n hx
    there := I.base.there
    tups := fun b xs e => (upd_ne (ne_of_none (I.base.tups b xs e) na)).trans (I.base.tups b xs e)
    frzs := fun b o u e => (upd_ne (ne_of_none (I.base.frzs b o u e) na)).trans (I.base.frzs b o u e)
    tbls := fun b ps e => by
      obtain ⟨more, q⟩ := I.base.tbls b ps e
      exact ⟨more, (upd_ne (ne_of_none q na)).trans q⟩ }
  loc := I.loc
  cell := I.cell
  free := (upd_ne (Ne.symm nL)).trans I.free
  freeC := fun x c e => (upd_ne (nC x c e)).trans (I.freeC x c e)
  pin := fun p hp => by
    obtain ⟨e, n, r⟩ := I.pin p hp
    exact ⟨e, (upd_ne (np p hp)).trans n, r⟩
  hok := fun b u e => by
    by_cases z : b = a
    · subst z
      rw [upd_same] at e
      cases e
      exact ok
    · rw [upd_ne z] at e
      exact (I.hok b u e).stay (fun _ _ _ q => q) (fun c q => (upd_ne (ne_of_none q na)).trans q) fun c xs q => (upd_ne (ne_of_none q na)).trans q
  len := I.len
theorem exv_ok {P : Program} {w : World} {h : Heap} {a C dx : Addr} {oe : Obj} {vs : Array Value} (he : h.get? a = some oe) (hz : Zc (.ref C) (some dx) oe) (hd : oe.data = .fields vs) : ObjOk P w H h a (exv C dx a) :=
  ⟨⟨oe, vs, he, hz, hd⟩, ⟨oe, he⟩, fun _ _ ⟨o, v, q, r⟩ k => ⟨o, v, k o q, r⟩⟩
end
/-- what the clause 'except x as n: m = n' wishes of an exception of the body (n in slot i, m in slot j): it is one of x's -/
def wKeep (K : PySem.W.Frag) (c : Value) (i j : Nat) (D : Ends) : WX := fun cls d σ H => PySem.W.exmOne K cls c = some true ∧ ∃ C dx : Addr, cls = .ref C ∧ d = some dx ∧
  ∀ a, H a = none → D.nx (((σ.set i (some (.ref a))).set j (some (.ref a))).set i none) (upd H a (exv C dx a))
section
variable {X : Cx} {x n m : Str} {c : Value} {i j : Nat} {body : List Stmt} {q1 q2 q3 q4 q5 q6 : Pos} {tb : WX → TS}
theorem ps_try_keep (hs : X.stack = X.env :: X.outer) (hf : X.env.frame = some X.env.locals) (hex : X.ex = []) (hN : X.N.Nodup) (hi : X.N[i]? = some n) (hj : X.N[j]? = some m) (hln : X.env.kindOf n = some .local) (hlm : X.env.kindOf m = some .local)
    (hd1 : (n == ("__debug__" : Str)) = false) (hd2 : (n == ("__classdict__" : Str)) = false) (hsw : swapsWith (.Name n q2) (some (.Name m q1)) q3.line X.env = pure false) (hc : Names X x c)
    (hb : ∀ (W : WX) (pn : List (Addr × Obj)) (xe : Value → Shared → Prop), Takes (X.tr pn xe) W → PassesOwn (model X.prog X.w) X.A X.env xe → PSs (X.tr pn xe) body (tb W)) :
    PS X (.Try body [.ExceptHandler (some (.Name x q4)) (some n) [.Assign [.Name m q1] (.Name n q2) q3] q5] [] [] q6) (fun D σ H => tb (wKeep X.K c i j D) D σ H) := by
  refine ⟨fun pins s σ H D I h => wpAny_Try_except (wpAny_mono ((hb (wKeep X.K c i j D) (X.pn ++ pins) _ (fun u s' air => ?_) PassesOwn.looking).run [] s σ H D (I.toTry _) h) (fun f s1 r => ?_) fun _ _ z => z)⟩
  · obtain ⟨a, B, sI, ps', σ', H', cls, d, rfl, J', nb, up, sky, na, os, ag, hm, C, dx, rfl, rfl, hq⟩ := air
    have J : Inv X pins σ' H' sI := J'.ofTry I.ok
    have hfr : X.A.frames = some (X.env :: X.outer) := I.ok.frames.trans (congrArg some hs)
    rw [hs] at sky
    refine Sky.land Zc.steady hfr hf sky fun h3 fl up3 => ?_
    have J3 : Inv X pins σ' H' { s' with heap := h3 } := J.landed nb fl.1 (up.trans up3) os ag
    obtain ⟨oe, vs, he, hz, hd⟩ := fl.there
    have far : a ∉ frs (X.env :: X.outer) := fun z => by
      obtain ⟨_, o', e', y⟩ := fl.2.2.1.mem z
      rw [he] at e'
      cases e'
      exact y _ hd
    have aL : a ≠ X.env.locals := fun z => far (List.mem_filterMap.mpr ⟨X.env, List.mem_cons_self, hf.trans (congrArg some z.symm)⟩)
    have aF : a ∉ X.fs := fun z => by
      obtain ⟨e, he, y⟩ := List.mem_filterMap.mp z
      exact far (List.mem_filterMap.mpr ⟨e, List.mem_cons_of_mem _ he, y⟩)
    have gone : ∀ {o : Obj}, sI.heap.get? a ≠ some o := fun {o} z => by
      have y := nb a o z (by rw [hs]; exact far)
      rw [fl.2.1] at y
      cases y
    have a0 : X.s_0.heap.get? a = none := by
      cases z : X.s_0.heap.get? a with
      | none => rfl
      | some o =>
        obtain ⟨o', y⟩ := J.base.there a o z (by rw [hex]; exact List.not_mem_nil)
        exact (gone y).elim
    have aP : ∀ p ∈ X.pn ++ pins, p.1 ≠ a := fun p hp z => by
      have y := (J.pin p hp).1
      rw [z] at y
      exact gone y
    have aC : ∀ y c, X.env.cells.lookup y = some c → c ≠ a := fun y c e z => by
      obtain ⟨v, o, e1, _⟩ := J.cell y c e
      rw [z] at e1
      exact gone e1
    have S3 := J3.suite he hd na aL aF
    refine wpAny_handleBy_cons (codeAny_handlers_test ?_) (by intro z; cases z)
    have ty : PySem.W.Looks (model X.prog X.w) h3 (typeOf (.ref a)) (.ref C) := fun A Q E s k q => wpAny_typeOf_ref (k _ _ he) (by rw [hz.1]; exact q)
    have mt := PySem.W.exm_one (M := model X.prog X.w) J3.kIn ty hm
    have named : ∀ {Q : Value → Shared → Prop} {E : Value → Shared → Prop}, Q c { s' with heap := h3 } → wpAny (model X.prog X.w) (X.A.mark (some (.ref a))) (eval (.Name x q4) X.env) Q E { s' with heap := h3 } := fun {Q E} q => by
      obtain ⟨g1, g2, g3 | ⟨g3, g4, g5⟩⟩ := hc
      · exact ld_glob (X := X.suite a ((a, oe) :: (X.pn ++ pins))) S3 g1 g3 q g2
      · exact ld_blt (X := X.suite a ((a, oe) :: (X.pn ++ pins))) S3 g1 g3 g4 q g5 g2
    refine named (mt.here (codeAny_handlers_suite_as (HandSPX.lands_againZ fl fun h4 fl4 up4 => ?_)))
    have J4 : Inv X pins σ' H' { s' with heap := h4 } := J.landed nb fl4.1 ((up.trans up3).trans up4) os ag
    obtain ⟨oe4, vs4, he4, hz4, hd4⟩ := fl4.there
    have S4 := J4.suite he4 hd4 na aL aF
    refine store_ok (X := X.suite a ((a, oe4) :: (X.pn ++ pins))) (v := .ref a) S4 hN hi (.inl hln) rfl (fun s5 S5 => ?_) (.inr hln)
    have st : PSs (X.suite a ((a, oe4) :: (X.pn ++ pins))) [.Assign [.Name m q1] (.Name n q2) q3] (tAsg (tVar i) (gName j)) := pss_one (ps_set hN hj (.inl hlm) (pe_var hi (.inl hln) hd1 hd2) hsw (.inr hlm))
    refine wpAny_mono (st.run [] s5 _ H' { nx := fun τ G => τ = (σ'.set i (some (.ref a))).set j (some (.ref a)) ∧ G = H', rt := fun _ _ => False } S5 ⟨.ref a, List.getElem?_set_self (by rw [J.len]; exact (List.getElem?_eq_some_iff.mp hi).1), rfl, rfl⟩) (fun f s6 r => ?_) fun _ _ z => z.elim
    cases f with
    | next =>
      obtain ⟨σ6, H6, S6, rfl, rfl⟩ := r
      have there := (S6.pin (a, oe4) (List.mem_append_left _ List.mem_cons_self)).1
      have K6 := track (S6.unsuite I.ok) na a0 aL aC aP (exv_ok (H := upd H6 a (exv C dx a)) there hz4 hd4)
      exact gone_ok K6 hN hi hln fun s7 K7 => ⟨_, _, K7, hq a na⟩
    | brk =>
      obtain ⟨_, _, _, z⟩ := r
      exact z.elim
    | cont =>
      obtain ⟨_, _, _, z⟩ := r
      exact z.elim
    | ret u =>
      obtain ⟨_, _, _, _, _, z⟩ := r
      exact z.elim
  · cases f with
    | next =>
      obtain ⟨σ', H', J', q⟩ := r
      exact wpAny_execs_nil ⟨σ', H', J'.ofTry I.ok, q⟩
    | brk =>
      obtain ⟨σ', H', J', q⟩ := r
      exact ⟨σ', H', J'.ofTry I.ok, q⟩
    | cont =>
      obtain ⟨σ', H', J', q⟩ := r
      exact ⟨σ', H', J'.ofTry I.ok, q⟩
    | ret u =>
      obtain ⟨v, σ', H', J', rv, q⟩ := r
      exact ⟨v, σ', H', J'.ofTry I.ok, rv, q⟩
end
end Mir

set_option Elab.async false
set_option linter.all false
set_option maxRecDepth 100000
set_option maxHeartbeats 4000000
namespace Mir
open PySem L2 PySem.Spec PyProof.Rows
section
variable {K : PySem.W.Frag} {E : XS} {γ : Gh} {O : List Addr} {H : Hp} {σ : L2.St} {e : Env}
theorem DDf.look {f : Str} {d : D} : ∀ {es : List (Str × D)} {fs : List (Str × V)}, DDf K H fs es → es.lookup f = some d → ∃ v, fs.lookup f = some v ∧ DD K H v d
  | [], _, h, e => by cases e
  | (k, x) :: es, _, h, e => by
    cases h with
    | cons a b =>
      rename_i v vs
      by_cases z : f = k
      · subst z
        rw [show List.lookup f ((f, x) :: es) = some x by simp [List.lookup]] at e
        cases e
        exact ⟨v, by simp [List.lookup], a⟩
      · have q : (f == k) = false := by simpa using z
        rw [show List.lookup f ((k, x) :: es) = es.lookup f by simp [List.lookup, q]] at e
        obtain ⟨w, h1, h2⟩ := DDf.look b e
        exact ⟨w, by simp [List.lookup, q, h1], h2⟩
abbrev tFldE (K : PySem.W.Frag) (f : Str) (te : TE) : TE := fun σ H Q => te σ H fun x H1 => ∃ (a C dx : Addr) (fs : List (Str × V)) (v : V), x = .ref a ∧ H1 a = some (exv C dx a) ∧ H1 dx = some (.xd fs) ∧ XfC K C ∧ PySem.W.findIn K (.ref C) f = some none ∧ fs.lookup f = some v ∧ Q v H1
theorem pe_fldE {X : Cx} {o : Expr} {te : TE} {pos : Pos} {n : Str} (he : PE X o te) (hb : attributeBase o n X.env (eval o X.env) = eval o X.env := by rfl) : PE X (.Attribute o n pos) (tFldE X.K n te) := by
  refine ⟨fun pins s σ H Q I h => attr_of hb (thn (he.run pins s σ H _ I h) fun u s1 hh => ?_)⟩
  obtain ⟨x, H1, I1, rx, a, C, dx, fs, v, rfl, ea, ed, T, hno, l, q⟩ := hh
  obtain rfl : u = Value.ref a := rx
  obtain ⟨oe, vs, ho, hz, hd⟩ : ∃ (oe : Obj) (vs : Array Value), s1.heap.get? a = some oe ∧ Zc (.ref C) (some dx) oe ∧ oe.data = .fields vs := (show ObjOk X.prog X.w H1 s1.heap a (exv C dx a) from I1.hok a _ ea).1
  obtain ⟨mA, hns, hr⟩ : ∃ mA, s1.heap.Ns1 dx mA ∧ ∀ f, RelO (fs.lookup f) (mA f) := (show ObjOk X.prog X.w H1 s1.heap dx (.xd fs) from I1.hok dx _ ed)
  obtain ⟨od, hod, hl⟩ := lookIn_ns hns
  obtain ⟨w, hw, rw'⟩ := RelO.some_of (v := v) (o := mA n) (by rw [← l]; exact hr n)
  have inst : PySem.W.InstAt s1.heap a oe C (some od) := ⟨ho, hz.1, by unfold PySem.W.notCls; rw [hd] <;> rfl, by rw [hz.2]; exact hod⟩
  exact HandSPX.exc_get I1.kIn inst T.ga T.gg T.exC (PySem.W.findObj_own T.hdC hno rfl ((hl n).trans (congrArg some hw))) (handed_of rw') ⟨v, H1, I1.tok _, rw', q⟩
def fldK (cs : List Addr) (f : Str) (d : D) : M D := fun e => match d with
  | .xc C fs => if C ∈ cs then (match fs.lookup f with | some x => .ok x e | none => .bad) else .bad
  | _ => .bad
/-- m.f, m a kept exception of one of the classes cs -/
def mFld (cs : List Addr) (f : Str) (m : M D) : M D := m >>= fldK cs f
theorem ex_fldE {te : TE} {m : M D} {cs : List Addr} {f : Str} (hc : ∀ C ∈ cs, XfC K C ∧ PySem.W.findIn K (.ref C) f = some none) (h : EX K E te m) : EX K E (tFldE K f te) (mFld cs f m) := fun γ O H σ e Q r g => by
  show te σ H _
  refine J.bind (T' := TD K) h r g fun d e1 v H1 r1 f1 t1 g1 => ?_
  unfold fldK at g1
  cases d with
  | xc C fs =>
    dsimp only at g1
    by_cases z : C ∈ cs
    · rw [if_pos z] at g1
      cases q : fs.lookup f with
      | none => rw [q] at g1; exact g1.elim
      | some x =>
        rw [q] at g1
        cases t1 with
        | exc0 _ => cases q
        | exc a b c =>
          obtain ⟨w, h1, h2⟩ := DDf.look c q
          exact ⟨_, C, _, _, w, rfl, msk_ex _ _ a, msk_ex _ _ b, (hc C z).1, (hc C z).2, h1, g1 w H1 r1 (Fr.refl _ _) h2⟩
    · rw [if_neg z] at g1; exact g1.elim
  | _ => exact g1.elim
def tryK (cs : List Addr) (i j : Nat) : R Out → R Out
  | .ok o e => .ok o e
  | .ex (.ins C fs) e => if C ∈ cs ∧ noIo e i = true ∧ noIo e j = true ∧ i ≠ j then .ok .nx ((e.set j (some (.d (.xc C fs)))).set i none) else .bad
  | _ => .bad
def sTry (cs : List Addr) (i j : Nat) (b : M Out) : M Out := fun e => tryK cs i j (b e)
theorem sx_try {c : Value} {i j : Nat} {tb : WX → TS} {b : M Out} {cs : List Addr} (hc : ∀ C ∈ cs, PySem.W.exmOne K (.ref C) c = some true) (hb : ∀ W : WX, SX K (fun σ cls d H => W cls d σ H) (tb W) b) : SX K E (fun D σ H => tb (wKeep K c i j D) D σ H) (sTry cs i j b) := fun γ O H σ e Dn r g => by
  refine hb (wKeep K c i j Dn) γ O H σ e Dn r ?_
  unfold sTry at g
  cases q : b e with
  | bad => rw [q] at g; exact g
  | ok o e' => rw [q] at g; cases o <;> exact g
  | ex x e' =>
    rw [q] at g
    cases x with
    | ins C fs =>
      unfold tryK at g
      dsimp only at g
      by_cases z : C ∈ cs ∧ noIo e' i = true ∧ noIo e' j = true ∧ i ≠ j
      · rw [if_pos z] at g
        obtain ⟨z1, z2, z3, z4⟩ := z
        intro O' σ' dx fv H' r' f' hx tf
        refine ⟨hc C z1, C, dx, rfl, rfl, fun a na => ?_⟩
        have ext : Ex H' (upd H' a (exv C dx a)) := fun b o hb => (upd_ne (ne_of_none hb na)).trans hb
        have aO : a ∉ O' := r'.out na
        have r2 := r'.ext ext
        have td : DD K (msk O' (upd H' a (exv C dx a))) (.ref a) (.xc C fs) := .exc (by rw [msk_out aO]; exact upd_same) (msk_mono ext _ _ hx) (tf.mono (msk_mono ext))
        have r3 := (r2.setD (noIo_lt z3) td).wipe [i]
        have es : ((σ'.set i (some (V.ref a))).set j (some (.ref a))).set i none = (σ'.set j (some (.ref a))).set i none := by
          rw [List.set_comm _ _ z4, List.set_set]
        rw [es]
        exact g O' _ _ r3 (f'.trans (Fr.ext ext).s)
      · rw [if_neg z] at g; exact g.elim
    | _ => exact g.elim
/-- what __init__(self, f) does that keeps f -/
def spIni (K : PySem.W.Frag) (f : Str) : Sp := fun vs H Q _ => ∃ (a C : Addr) (y : V), vs = [.ref a, y] ∧ OexC K C ∧ PySem.W.findIn K (.ref C) f = some none ∧ H a = some (exo a C none) ∧
  ∀ dx, H dx = none → dx ≠ a → Q .non (upd (upd H dx (exd dx [(f, y)])) a (exo a C (some dx)))
theorem ini_ok {P : Program} {w : World} {mg : Str → Option Value} {base : Heap} {qual f : Str} {st : Stmt} {fI : Addr} {fd : FuncData} {p1 p2 p3 p4 : Pos} (F : Fun K "__init__" qual st fI fd) (S : FnScope ["self", f] ["self", f] (defScope st))
    (hb : defBody st = [.Assign [.Attribute (.Name "self" p1) f p2] (.Name f p3) p4]) (hd1 : (f == ("__debug__" : Str)) = false) (hd2 : (f == ("__classdict__" : Str)) = false) (hl : ("self" :: [f] : List Str)[1]? = some f) (hv : Vis (defScope st) f) (hv0 : Vis (defScope st) "self")
    : FnOk P w K mg base CX0 1 fI fd ["self", f] (spIni K f) := by
  refine F.ok S (fun vs H Q E h => ?_) (fun cdv A outer s H vs Q E hr h => ⟨tOst K f (tVar 0) (tVar 1), ?_, ?_⟩)
  · obtain ⟨a, C, y, rfl, _⟩ := h
    rfl
  · rw [hb]
    exact pss_one (ps_ost (pe_var (i := 0) rfl hv0) (pe_var (i := 1) rfl hv hd1 hd2))
  · obtain ⟨a, C, y, rfl, T, hno, ea, q⟩ := h
    exact ⟨_, rfl, _, rfl, a, C, rfl, T, hno, .inl ⟨ea, fun dx n ne => q dx n ne⟩⟩
/-- raise C(m), the field f -/
def sRz (C : Addr) (f : Str) (m : M D) : M Out := m >>= fun d => fun e => .ex (.ins C [(f, d)]) e
theorem sx_rz {te : TE} {m : M D} {C : Addr} {f : Str} (T : OexC K C) (hno : PySem.W.findIn K (.ref C) f = some none) (h : EX K E te m) :
    SX K E (fun _ σ H => tMkO C (spIni K f) [] (tCons te tNil) σ H fun cls d H' => E σ cls d H') (sRz C f m) := fun γ O H σ e Dn r g => by
  show te σ H _
  refine J.stmt h r g fun d e1 v H1 r1 f1 t1 g1 => ?_
  refine ⟨by simp, fun a na => ⟨a, C, v, rfl, T, hno, upd_same, fun dx nd ne => ⟨rfl, dx, [(f, v)], upd_same, (upd_ne ne).trans upd_same, ?_, ?_⟩⟩⟩
  · rw [upd_ne ne] at nd
    exact nd
  · rw [upd_ne ne] at nd
    have ext : Ex H1 (upd (del (upd (upd (upd H1 a (exo a C none)) dx (exd dx [(f, v)])) a (exo a C (some dx))) a) dx (.xd [(f, v)])) := fun b o hb => by
      have n1 := ne_of_none hb na
      have n2 := ne_of_none hb nd
      rw [upd_ne n2, del_ne n1, upd_ne n1, upd_ne n2, upd_ne n1]
      exact hb
    exact g1 O σ dx [(f, v)] _ (r1.ext ext) (Fr.ext ext).s (by rw [msk_out (r1.out nd)]; exact upd_same) (.cons (t1.mono (msk_mono ext)) .nil)
theorem ex_callW {N : List Str} {np : Nat} {b : M Out} {ta : TA} {a : M (List D)} (h : ∀ E' : XS, EA K E' ta a) : EX K E (tCallS (spM K N np b) E ta) (mCall b N.length np a) := fun γ O H σ e Q r g => by
  have q := ex_call (K := K) (N := N) (np := np) (b := b) (E := fun _ => E σ) (Ek := E σ) (fun _ => rfl) (h _) γ O H σ e Q r g
  have e0 : (fun (vs : List V) (H1 : Hp) => spM K N np b (vs ++ []) H1 Q (E σ)) = fun vs H1 => spM K N np b vs H1 Q (E σ) := by
    funext vs H1
    rw [List.append_nil]
  show ta σ H (fun vs H1 => spM K N np b vs H1 Q (E σ))
  rw [← e0]
  exact q
end
end Mir

set_option Elab.async false
set_option linter.all false
set_option maxRecDepth 100000
set_option maxHeartbeats 4000000
namespace Mir
open PySem L2 PySem.Spec PyProof.Rows
section
variable {K : PySem.W.Frag} {E : XS}
theorem ex_fn {f : Addr} : EX K E (tC (.ref f)) (M.ret (.fn f)) := fun γ O H σ e Q r g => g (.ref f) H r (Fr.refl _ _) (.fn f)
/-- a def that may raise, at f, keeping sp -/
structure HeldX (P : Program) (w : World) (K : PySem.W.Frag) (mg : Str → Option Value) (base : Heap) (k : Nat) (f : Addr) (sp : Sp) : Prop where
  ex : ∃ (fd : FuncData) (ps : List Str), FnOk P w K mg base (L2.CX P w) k f fd ps sp ∧ PySem.W.keepIn K (.ref f) = true ∧ Binds K fd ps []
/-- what is called is what an expression says -/
def tCallV (S : Addr → Sp → Prop) (E : L2.St → XK) (tc : TE) (t : TA) : TE := fun σ H Q => tc σ H fun v H1 => ∃ f sp, v = .ref f ∧ S f sp ∧ t σ H1 fun vs H2 => sp vs H2 Q (E σ)
theorem pe_callV {X : Cx} {S : Addr → Sp → Prop} {E : L2.St → XK} {fe e : Expr} {es : List Expr} {tc : TE} {t : TA} {k : Nat} {pos : Pos} (hf : PE X fe tc) (A : ∀ f sp, S f sp → HeldX X.prog X.w X.K X.mg X.base k f sp) (hr : Room k X.A) (hx : ∀ σ, PassesAt (L2.CX X.prog X.w) X σ (E σ)) (ha : PA X (e :: es) t)
    (hc : eval (.Call fe (e :: es) [] pos) X.env = (do
      let fv ← eval fe X.env
      callWith pos fv [] (backTo pos (starEach (e :: es) X.env)) (backToKw pos (keywordEach [] X.env))) := by rfl)
    (he : starEach (e :: es) X.env = (false, eval e X.env) :: starEach es X.env := by rfl) (hpl : (backTo pos (starEach es X.env)).any (·.1) = false := by rfl) : PE X (.Call fe (e :: es) [] pos) (tCallV S E tc t) := by
  refine ⟨fun pins s σ H Q I h => ?_⟩
  rw [hc]
  refine wpAny_bind (thn (hf.run pins s σ H _ I h) fun u s1 hh => ?_)
  obtain ⟨v, H1, I1, r1, f, sp, rfl, hS, q1⟩ := hh
  cases r1
  obtain ⟨fd, ps, F, hk, hb⟩ := (A f sp hS).ex
  refine PySem.W.callWith_K (h₀ := X.base) I1.ok.mod.kin hk (thn (ha.run pos pins s1 σ H1 _ I1 q1) fun us s2 ⟨vs, H2, I2, r, q⟩ => ⟨I2.kIn, ?_⟩) he hpl
  exact run_fnS F hr hb (hx σ) I2 r q
abbrev Df := Addr × M Out × List Str
def fnsM : List Df → M (List D)
  | [] => mNil
  | f :: r => mCons (M.ret (.fn f.1)) (fnsM r)
theorem fnsM_at : ∀ (fs : List Df) (e : Env), fnsM fs e = .ok (fs.map fun f => .fn f.1) e
  | [], e => rfl
  | f :: r, e => by
    show M.andThen (M.ret (D.fn f.1)) (fun x => M.andThen (fnsM r) fun xs => M.ret (x :: xs)) e = _
    unfold M.andThen
    dsimp only
    rw [fnsM_at r e]
    rfl
def callAtK (fs : List Df) (a : M (List D)) (d : D) : M D := fun e => match d with
  | .int i => if 0 ≤ i then (match fs[i.toNat]? with | some f => mCall f.2.1 f.2.2.length 1 a e | none => .bad) else .bad
  | _ => .bad
/-- [f, g, ..][k](x) -/
def mCallAt (fs : List Df) (k : M D) (a : M (List D)) : M D := k >>= callAtK fs a
abbrev sOf (K : PySem.W.Frag) (fs : List Df) : Addr → Sp → Prop := fun f sp => ∃ z ∈ fs, f = z.1 ∧ sp = spM K z.2.2 1 z.2.1
theorem ex_callAt {fs : List Df} {tc : TE} {ta : TA} {k : M D} {a : M (List D)} (hl : fs.length ≤ 1000) (hc : EX K E tc (mBin dIx (mLst (fnsM fs)) k)) (h : ∀ E' : XS, EA K E' ta a) : EX K E (tCallV (sOf K fs) E tc ta) (mCallAt fs k a) := fun γ O H σ e Q r g => by
  refine hc γ O H σ e _ r ?_
  have hm : mLine (fs.map fun f => D.fn f.1).length = true := decide_eq_true (by rw [List.length_map]; omega)
  have e0 : mBin dIx (mLst (fnsM fs)) k e = M.andThen k (fun y => M.lift (dIx (.lst (fs.map fun f => D.fn f.1)) y)) e := by
    have e1 : mLst (fnsM fs) e = .ok (.lst (fs.map fun f => D.fn f.1)) e := by
      rw [mLst_at, aT_at, fnsM_at]
      dsimp only
      rw [if_pos hm]
      rfl
    rw [mBin_at, aT_at, e1]
  rw [e0]
  change Good K γ O H σ E _ Q (M.andThen k (callAtK fs a) e) at g
  unfold M.andThen at g ⊢
  cases q : k e with
  | bad => rw [q] at g; exact g
  | ex x e' => rw [q] at g; exact g
  | ok d e1 =>
    rw [q] at g
    dsimp only at g ⊢
    unfold callAtK at g
    cases d with
    | int i =>
      dsimp only at g
      by_cases z : 0 ≤ i
      · rw [if_pos z] at g
        cases z1 : fs[i.toNat]? with
        | none => rw [z1] at g; exact g.elim
        | some f =>
          rw [z1] at g
          have hx : dIx (.lst (fs.map fun f => D.fn f.1)) (.int i) = some (.fn f.1) := by
            have hi : (fs.map fun f => D.fn f.1)[i.toNat]? = some (.fn f.1) := by rw [List.getElem?_map, z1]; rfl
            have hlt : i < ((fs.map fun f => D.fn f.1).length : Nat) := by
              have := (List.getElem?_eq_some_iff.mp hi).1
              omega
            unfold dIx
            simp only [atI, ixN]
            rw [if_pos z, if_pos hlt]
            exact hi
          rw [hx]
          intro v H1 r1 f1 t1
          cases t1
          exact ⟨f.1, _, rfl, ⟨f, List.mem_of_getElem? z1, rfl, rfl⟩, ex_callW h γ O H1 σ e1 Q r1 (Good.fr f1 g)⟩
      · rw [if_neg z] at g; exact g.elim
    | _ => exact g.elim
def splitD (x y : D) : Option (List D) := match dSplit x y with
  | some (.lst ds) => some ds
  | _ => none
def splitK (b : M D) (x : D) : M (List D) := fun e => if isStr x = true then (b >>= fun y => M.lift (splitD x y)) e else .bad
def oSplit (a b : M D) : M (List D) := a >>= splitK b
theorem ef_split {ta tb : TE} {a b : M D} (ha : EX K E ta a) (hb : EX K E tb b) : EF K E (tM1 rSplitA ta tb) (oSplit a b) := fun γ O H σ e Q r0 g =>
  J.own (te := ta) (T := TD K) (Q' := Q) ha r0 g fun dx e1 x H1 r1 f1 t1 g1 => by
    unfold splitK at g1
    by_cases hs : isStr dx = true
    · rw [if_pos hs] at g1
      cases dx with
      | str s =>
        cases t1
        refine ⟨⟨s, rfl⟩, J.own (te := tb) (T := TD K) (Q' := Q) hb r1 g1 fun dy e2 y H2 r2 f2 t2 g2 => ?_⟩
        cases dy with
        | str z =>
          cases t2
          have g3 : GoodF K γ O H2 σ E Q (M.lift (splitD (.str s) (.str z)) e2) := g2
          by_cases c : ((z.length == 0) == false && mLine (s.length + 2)) = true
          · have ee : splitD (.str s) (.str z) = some ((Txt.split s z).map .str) := by
              unfold splitD dSplit
              dsimp only
              rw [if_pos c]
            rw [ee] at g3
            simp only [Bool.and_eq_true, beq_iff_eq] at c
            refine ⟨s, z, rfl, rfl, by simpa using c.1, mLine_ok c.2, fun p hp => ?_⟩
            have hO := r2.out hp
            have ex : Ex H2 (upd H2 p (.lst ((Txt.split s z).map V.str))) := Evl.Ex.new hp
            have hm : msk O H2 p = none := by rw [msk_out hO]; exact hp
            exact g3 p ((Txt.split s z).map V.str) _ hO (r2.ext ex) (r2.more (e' := e2) hp ex (by rw [upd_same]; intro z; cases z)) (msk_cons_ex hm (msk_mono ex)) (Fr.ext ex) upd_same (DDs.strs _)
          · have ee : splitD (.str s) (.str z) = none := by
              unfold splitD dSplit
              dsimp only
              rw [if_neg c]
            rw [ee] at g3; exact g3.elim
        | _ => exact g2.elim
      | _ => cases hs
    · rw [if_neg hs] at g1; exact g1.elim
end
end Mir

set_option Elab.async false
set_option linter.all false
set_option maxRecDepth 100000
set_option maxHeartbeats 4000000
namespace Mir
open PySem L2 PySem.Spec PyProof.Rows
section
variable {K : PySem.W.Frag} {E : XS}
def noxD : R D → R D
  | .ok d e => .ok d e
  | _ => .bad
theorem good_nox {γ : Gh} {O : List Addr} {H : Hp} {σ : L2.St} {T : Hp → V → D → Prop} {Q : V → Hp → Prop} {e : Env} {r : R D} (g : Good K γ O H σ E T Q (back e (noxD r))) : Good K γ O H σ E0S T Q (back e r) := by
  cases r with
  | ok d e' => exact g
  | ex x e' => exact g.elim
  | bad => exact g.elim
def callN (b : M Out) (n np : Nat) (ds : List D) : M D := fun e => if ds.length = np then back e (noxD (runD b n (ds.map .d))) else .bad
def mCallN (b : M Out) (n np : Nat) (a : M (List D)) : M D := a >>= callN b n np
theorem ex_callN {N : List Str} {np : Nat} {b : M Out} {ta : TA} {a : M (List D)} (h : EA K E ta a) : EX K E (tCall (spM0 K N np b) [] E0 ta) (mCallN b N.length np a) := fun γ O H σ e Q r g =>
  J.bind (te := ta) (T := TDs K) (T' := TD K) h r g fun ds e1 vs H1 r1 f1 t1 g1 => by
    show spM K N np b (vs ++ []) H1 Q E0
    rw [List.append_nil]
    unfold callN at g1
    by_cases nl : ds.length = np
    · rw [if_pos nl] at g1
      exact sp_of (E := E0S) (fun _ => rfl) (by rw [List.length_map]; exact nl) r1 (DDs.sla t1) (good_nox g1)
    · rw [if_neg nl] at g1; exact g1.elim
def mCallLN (i : Nat) (f : Addr) (b : M Out) (n np : Nat) (a : M (List D)) : M D := fun e => match e[i]? with
  | some (some (.st (.ref g))) => if g = f then mCallN b n np a e else .bad
  | _ => .bad
theorem ex_callLN {N : List Str} {np i : Nat} {f : Addr} {b : M Out} {ta : TA} {a : M (List D)} (h : EA K E ta a) : EX K E (tCallL i f (spM0 K N np b) [] E0 ta) (mCallLN i f b N.length np a) := fun γ O H σ e Q r g => by
  unfold mCallLN at g
  try dsimp only at g
  split at g
  · rename_i g' hx
    by_cases z : g' = f
    · rw [if_pos z] at g
      subst z
      obtain ⟨v, h1, h2⟩ := r.sl _ _ hx
      have h2 : v = .ref g' := h2
      subst h2
      exact ⟨h1, ex_callN h γ O H σ e Q r g⟩
    · rw [if_neg z] at g; exact g.elim
  · exact g.elim
end
/-- what the top says of an exception class whose __init__ keeps one field -/
structure XCls (K : PySem.W.Frag) (mg : Str → Option Value) (x qual f : Str) (st : Stmt) (C fI : Addr) (fd : FuncData) : Prop where
  gC : mg x = some (.ref C)
  oex : OexC K C
  xf : XfC K C
  noN : PySem.W.findIn K (.ref C) f = some none
  iC : PySem.W.findIn K (.ref C) "__init__" = some (some (.ref fI))
  tI : PySem.W.typeIn K (.ref fI) = some (.type "function")
  F : Fun K "__init__" qual st fI fd
  B : Binds K fd ["self", f] []
  te : PySem.W.exmOne K (.ref C) (.ref C) = some true
/-- a class below one that is right below ValueError -/
theorem XCls.mk1 {K : PySem.W.Frag} {mg : Str → Option Value} {h : Heap} (X : K.In h) (G : h.Ns mainGlobals mg) {x qual f : Str} {st : Stmt} {C S fI : Addr}
    {nm q : Str} {N : Addr} {bs : List Value} {sn : List Str} {sub : List Value} {ab : Bool} {col : Option Bool} {dd : Option Addr} {m0 m1 m2 m3 m5 : Option Value} {od1 an1 : Option Addr} {sl1 : Array (Option Value)} {oc1 kV1 dc1 pm1 cd1 ct1 : Value}
    (aC : PySem.W.nsIn K mainGlobals x = some (some (.ref C)))
    (xL : K.lookup C = some (excClassObj nm q C N bs [.ref S, .type "ValueError", .type "Exception", .type "BaseException", .type "object"] true sn sub ab col dd m0 m1 m2 m3 m5 "ValueError.__new__"))
    (sa : PySem.W.findIn K (.ref C) "__setattr__" = some (some (.builtin "object.__setattr__"))) (ga : PySem.W.findIn K (.ref C) "__getattribute__" = some (some (.builtin "BaseException.__getattribute__"))) (gg : PySem.W.findIn K (.ref C) "__getattr__" = some none)
    (nb : PySem.W.findIn K (.ref C) f = some none) (a1 : PySem.W.findIn K (.ref C) "__init__" = some (some (.ref fI))) (t1 : PySem.W.typeIn K (.ref fI) = some (.type "function"))
    (l1 : K.lookup fI = some ⟨oc1, od1, .func (PySem.W.fnOf "__init__" qual (defArgs st) (defBody st) (defScope st) .none kV1 dc1 pm1 an1 cd1 ct1), sl1⟩) (c1 : PySem.W.codeIn K cd1 qual = true) (k1 : PySem.W.keepIn K (.ref fI) = true)
    (kC : PySem.W.keepIn K (.ref C) = true) (eC : PySem.W.subIn K (.ref C) (.type "BaseException") = some true) (tC : PySem.W.typeIn K (.ref C) = some (.type "type")) (hC : PySem.W.hasDictIn K C = true) (sC : PySem.W.subIn K (.ref C) (.ref C) = some true)
    (hB : ∀ us : List Value, us.length = 2 → bindArgs (PySem.W.fnOf "__init__" qual (defArgs st) (defBody st) (defScope st) .none kV1 dc1 pm1 an1 cd1 ct1) ⟨us, []⟩ = pure ((["self", f] : List Str).zip us)) :
    XCls K mg x qual f st C fI (PySem.W.fnOf "__init__" qual (defArgs st) (defBody st) (defScope st) .none kV1 dc1 pm1 an1 cd1 ct1) where
  gC := PySem.W.mg_of X G aC
  oex := ⟨⟨nm, q, N, bs, _, sn, sub, ab, col, dd, m0, m1, m2, m3, m5, xL, rfl⟩, sa, eC, tC, kC⟩
  xf := ⟨ga, gg, eC, hC⟩
  noN := nb
  iC := a1
  tI := t1
  F := fun_mk (st := st) l1 c1 k1
  B := fun s us _ hl => by
    rw [List.append_nil] at hl ⊢
    exact .of_eq (hB us hl)
  te := PySem.W.exm_ref eC hC tC sC
theorem held_nil {P : Program} {w : World} {K : PySem.W.Frag} {mg : Str → Option Value} {base : Heap} {k : Nat} : ∀ f sp, sOf K [] f sp → HeldX P w K mg base k f sp := fun _ _ ⟨_, h, _⟩ => nomatch h
theorem held_cons {P : Program} {w : World} {K : PySem.W.Frag} {mg : Str → Option Value} {base : Heap} {k : Nat} {z : Df} {zs : List Df} {fd : FuncData} {p : Str} (F : FnOk P w K mg base (L2.CX P w) k z.1 fd [p] (spM K z.2.2 1 z.2.1)) (hk : PySem.W.keepIn K (.ref z.1) = true) (hb : Binds K fd [p] [])
    (t : ∀ f sp, sOf K zs f sp → HeldX P w K mg base k f sp) : ∀ f sp, sOf K (z :: zs) f sp → HeldX P w K mg base k f sp := fun f sp ⟨y, hy, e1, e2⟩ => by
  rcases List.mem_cons.mp hy with q | q
  · subst q e1 e2
    exact ⟨fd, [p], F, hk, hb⟩
  · exact t f sp ⟨y, q, e1, e2⟩
end Mir

set_option Elab.async false
set_option linter.all false
set_option maxRecDepth 100000
set_option maxHeartbeats 4000000
namespace PySem
namespace XK
open PySem.W PySem.Calls PyProof.Rows PySem.HandSPX
section
variable {prog : Program} {w : World} {A : Around} {E : Value → Shared → Prop} {R : Result → Shared → Prop} {h : Heap} {g : Array GenState} {d : Drawn} {t : Nat} {os : OsState}
variable {nm q : Str} {C N : Addr} {bs bm bmB : List Value} {hdct : Bool} {sn : List Str} {sub : List Value} {ab : Bool} {col : Option Bool} {dd : Option Addr} {k0 k1 k2 k3 k5 : Option Value} {B newId initId : String} {f : Str} {v : Value}
theorem chk_new {M : Model} {Q : Unit → Shared → Prop} (F : ExcBaseFacts B newId initId bmB) (hT : ∀ X : String, bm.contains (.type X) = bmB.contains (.type X))
    (hC : h.get? C = some (excClassObj nm q C N bs bm hdct sn sub ab col dd k0 k1 k2 k3 k5 newId)) (z : Q () ⟨h, g, d, t, os⟩) : wpAny M A (checkBuiltinCall newId ⟨[.ref C], [(f, v)]⟩) Q E ⟨h, g, d, t, os⟩ := by
  have below : (Value.ref C :: bm).contains (.type B) = true := (List.contains_cons ..).trans (by rw [hT, F.hasB, Bool.or_true])
  have star := F.noStar
  simp only [checkBuiltinCall, F.newKind, F.newSplit, F.newRow]
  repeat (first | refine wpAny_loadPart_at hC ?_ | (refine wpAny_isSubtype_exc hC ?_; rw [below]) | refine wpAny_staticBase_exc hC ?_ | refine wpAny_madeBy_exc hC ?_ | simp only [bne_self_eq_false, Bool.false_eq_true, if_false] | wp_step)
  exact z
theorem chk_type {M : Model} {Q : Unit → Shared → Prop} (hC : h.get? C = some (excClassObj nm q C N bs bm hdct sn sub ab col dd k0 k1 k2 k3 k5 newId)) (z : Q () ⟨h, g, d, t, os⟩) :
    wpAny M A (checkBuiltinCall "type.__call__" ⟨[.ref C], [(f, v)]⟩) Q E ⟨h, g, d, t, os⟩ := by
  have e1 := tc_sub
  have e2 : (⟨h, g, d, t, os⟩ : Shared).TypeIs (.ref C) "type" := ⟨_, hC, rfl⟩
  simp only [checkBuiltinCall, tc_kind, tc_split]
  repeat (any_goals (first | assumption | with_reducible refine wpAny_loadPart_at hC ?_ | with_reducible refine wpAny_onRaise ?_ | with_reducible refine wpAny_map ?_ | wp_step))
theorem new_kw (F : ExcBaseFacts B newId initId bmB) (hT : ∀ X : String, bm.contains (.type X) = bmB.contains (.type X)) (hC : h.get? C = some (excClassObj nm q C N bs bm hdct sn sub ab col dd k0 k1 k2 k3 k5 newId))
    (z : R (.ok (.ret (.ref (h.objs.size + 1)))) ⟨(h.push (W.kdv_tup [])).push (excO C h.objs.size), g, d, t, os⟩) : codeAny (model prog w) A (.builtin newId ⟨[.ref C], [(f, v)]⟩) R ⟨h, g, d, t, os⟩ := by
  have ends := F.ends
  have isB : (Value.ref C :: bm).contains (.type B) = true := (List.contains_cons ..).trans (by rw [hT, F.hasB, Bool.or_true])
  have isA : (Value.ref C :: bm).contains (.type "AttributeError") = false := (List.contains_cons ..).trans (by rw [hT, F.noAttr]; rfl)
  have isN : (Value.ref C :: bm).contains (.type "NameError") = false := (List.contains_cons ..).trans (by rw [hT, F.noName]; rfl)
  have none_le : ([] : List Value).length ≤ sizeLine := Nat.zero_le _
  refine codeAny_builtinAt F.entry ?_
  unfold Builtin.«BaseException.__new__»
  refine wpAt_bind ?_
  show wpAt _ _ _ (stack >>= _) _ _ _
  refine wpAt_bind (wpAt_stack fun p below => wpAt_of_wpAny ?_)
  wp_walk
  refine wpAt_of_wpAny ?_
  rw [F.owner]
  repeat (first | with_reducible refine wpAny_madeHere_exc F.canon hC ?_ | with_reducible refine wpAny_loadPart_at hC ?_ | (with_reducible refine wpAny_isSubtype_exc hC ?_; first | rw [isB] | rw [isA] | rw [isN]) | wp_step)
  show R _ _
  rw [Heap.size_push]
  exact z
theorem type_kw (F : ExcBaseFacts B newId initId bmB) (hT : ∀ X : String, bm.contains (.type X) = bmB.contains (.type X)) {fI : Addr} {Q : Fin → Shared → Prop} (hC : h.get? C = some (excClassObj nm q C N bs bm hdct sn sub ab col dd k0 k1 k2 k3 k5 newId))
    (hi : W.Looks (model prog w) h (typeLookup (.ref C) "__init__") (some (.ref fI))) (hb : ∀ self, W.Looks (model prog w) h (bindSpecial (.ref fI) self) (.ref fI, [self]))
    (z : codeAny (model prog w) A (.call (.ref fI) ⟨[.ref (h.objs.size + 1)], [(f, v)]⟩) (fun r s' => match r with | .ok (.ret v) => v = .none ∧ Q (.done (.ret (.ref (h.objs.size + 1)))) s' | .ok _ => False | .error e => E e s')
      ⟨(h.push (W.kdv_tup [])).push (excO C h.objs.size), g, d, t, os⟩) : wpAny (model prog w) A (Builtin.«type.__call__» ⟨[.ref C], [(f, v)]⟩) Q E ⟨h, g, d, t, os⟩ := by
  repeat (first | with_reducible refine wpAny_loadPart_at hC ?_ | with_reducible refine wpAny_madeBy_exc hC ?_ | wp_step)
  refine codeAny_call_builtin_code (Code.quiet_builtin _ F.quiet) (chk_new F hT hC (new_kw F hT hC ?_))
  show wpAny _ _ _ _ _ _
  have keep : ∀ b o, h.get? b = some o → ((h.push (W.kdv_tup [])).push (excO C h.objs.size)).get? b = some o := fun b o e => Heap.get?_push_of_some _ (Heap.get?_push_of_some _ e)
  have hC2 := keep _ _ hC
  have made : ((h.push (W.kdv_tup [])).push (excO C h.objs.size)).get? (h.objs.size + 1) = some (excO C h.objs.size) := by heap_get
  have self : (Value.ref C :: bm).contains (.ref C) = true := by simp
  have hi2 := hi.keeps keep
  have hb2 := (hb (.ref (h.objs.size + 1))).keeps keep
  unfold isInstance
  repeat (first | with_reducible refine wpAny_loadPart_at made ?_ | (with_reducible refine wpAny_isSubtype_exc hC2 ?_; rw [self]) | wp_step)
  show wpAny _ _ (typeLookup (.ref C) _) _ _ _
  refine hi2.at (wpAny_holding (wpAny_bind (hb2.at ?_)))
  refine wpAny_bind (wpAny_call (codeAny_mono z fun r s' y => ?_))
  rcases r with e | (v | _ | _ | _) <;> first | exact y | exact y.elim | skip
  obtain ⟨rfl, y⟩ := y
  first
    | exact wpAny_pure (wpAny_pure y)
    | (wp_walk; exact y)
theorem call_kw (F : ExcBaseFacts B newId initId bmB) (hT : ∀ X : String, bm.contains (.type X) = bmB.contains (.type X)) {fI : Addr} (hC : h.get? C = some (excClassObj nm q C N bs bm hdct sn sub ab col dd k0 k1 k2 k3 k5 newId))
    (hi : W.Looks (model prog w) h (typeLookup (.ref C) "__init__") (some (.ref fI))) (hb : ∀ self, W.Looks (model prog w) h (bindSpecial (.ref fI) self) (.ref fI, [self]))
    (z : codeAny (model prog w) (A.under (.builtin "type.__call__" ⟨[.ref C], [(f, v)]⟩)) (.call (.ref fI) ⟨[.ref (h.objs.size + 1)], [(f, v)]⟩) (W.InitBack (h.objs.size + 1) R) ⟨(h.push (W.kdv_tup [])).push (excO C h.objs.size), g, d, t, os⟩) :
    codeAny (model prog w) A (.call (.ref C) ⟨[], [(f, v)]⟩) R ⟨h, g, d, t, os⟩ := by
  have y1 := tc_lookup
  have y2 := tc_bind (.ref C)
  have y3 : (⟨h, g, d, t, os⟩ : Shared).TypeIs (.ref C) "type" := ⟨_, hC, rfl⟩
  refine codeAny_of_tree ?_
  show wpAny _ _ (callAny (.ref C) _) _ _ _
  repeat (any_goals (first | assumption | with_reducible refine wpAny_loadPart_at hC ?_ | wp_step))
  refine ⟨rfl, codeAny_call_builtin_at (Code.quiet_builtin _ (by decide +kernel)) entry_typeCall (chk_type hC (type_kw F hT hC hi hb ?_))⟩
  refine codeAny_mono z fun r s' y => ?_
  rcases r with e | (v | _ | _ | _) <;> exact y
end
end XK
end PySem

set_option Elab.async false
set_option linter.all false
set_option maxRecDepth 100000
set_option maxHeartbeats 4000000
namespace Mir
open PySem L2 PySem.Spec PyProof.Rows
section
variable {X : Cx} {pins : List (Addr × Obj)} {σ : L2.St} {H1 H2 : Hp} {hp hp2 h2 : Heap} {g1 g2 : Array GenState} {d1 d2 : Drawn} {t1 t2 : Nat} {os1 os2 : OsState} {a C d : Addr} {fs : List (Str × V)}
/-- behind __init__: what was made stands as a value, its dict as an exception's dict -/
theorem kept_end (I1 : Inv X pins σ H1 ⟨hp, g1, d1, t1, os1⟩) (ha : hp.objs.size ≤ a) (k : ∀ b o, hp.get? b = some o → hp2.get? b = some o) (un : Un (frs X.stack) [] (upd H1 a (exo a C none)) H2 hp2 h2) (hok : HOk X.prog X.w H2 h2) (ho : os2 = os1) (hb : AllBare g2)
    (ea : H2 a = some (exo a C (some d))) (ed : H2 d = some (exd d fs)) (hd1 : H1 d = none) : Inv X pins σ (upd (upd H2 a (exv C d a)) d (.xd fs)) ⟨h2, g2, d2, t2, os2⟩ := by
  obtain ⟨t0, hoe⟩ := exo_at hok ea
  obtain ⟨mA, hns, rel⟩ := exd_at hok ed
  have hn : H1 a = none := I1.hok.fresh ha
  have hda : d ≠ a := fun z => by
    obtain ⟨o, es, ep, e1, e2, _⟩ := hns
    rw [z, hoe] at e1
    cases e1
    cases e2
  have na : ∀ {b : Addr} {o : Obj}, hp.get? b = some o → b ≠ a := fun {b o} z => Nat.ne_of_lt (Nat.lt_of_lt_of_le (Heap.lt_size z) ha)
  have up : ∀ {b : Addr}, b ≠ a → H1 b = none → upd H1 a (exo a C none) b = none := fun {b} z n => (upd_ne z).trans n
  have nd : ∀ {b : Addr} {o : Obj}, hp.get? b = some o → H1 b = none → b ≠ d := fun {b o} z n e => by
    have y := un.free b o (k b o z) (up (na z) n) List.not_mem_nil
    rw [e, ed] at y
    cases y
  have at3 : ∀ {b : Addr}, b ≠ a → b ≠ d → upd (upd H2 a (exv C d a)) d (.xd fs) b = H2 b := fun {b} z y => (upd_ne y).trans (upd_ne z)
  have U : Un (frs X.stack) [] H1 (upd (upd H2 a (exv C d a)) d (.xd fs)) hp h2 := {
    keep := fun b o z n hf hx => un.keep b o (k b o z) (up (na z) n) hf hx
    slot := fun b o z n hf hx => un.slot b o (k b o z) (up (na z) n) hf hx
    free := fun b o z n hx => (at3 (na z) (nd z n)).trans (un.free b o (k b o z) (up (na z) n) hx)
    there := fun b o z hx => un.there b o (k b o z) hx
    tups := fun b xs z => (at3 (ne_of_none z hn) (ne_of_none z hd1)).trans (un.tups b xs ((upd_ne (ne_of_none z hn)).trans z))
    frzs := fun b o v z => (at3 (ne_of_none z hn) (ne_of_none z hd1)).trans (un.frzs b o v ((upd_ne (ne_of_none z hn)).trans z))
    tbls := fun b ps z => by
      obtain ⟨m, y⟩ := un.tbls b ps ((upd_ne (ne_of_none z hn)).trans z)
      exact ⟨m, (at3 (ne_of_none z hn) (ne_of_none z hd1)).trans y⟩ }
  have hok3 : HOk X.prog X.w (upd (upd H2 a (exv C d a)) d (.xd fs)) h2 := fun b o z => by
    by_cases hbd : b = d
    · subst hbd
      rw [upd_same] at z
      cases z
      exact ⟨mA, hns, rel⟩
    · by_cases hba : b = a
      · subst hba
        rw [upd_ne hbd, upd_same] at z
        cases z
        exact exv_ok hoe ⟨rfl, rfl⟩ rfl
      · rw [at3 hba hbd] at z
        exact (hok b o z).stay (fun _ _ _ y => y) (fun c hc => (at3 (at_ne ea hc exo_own) (at_ne ed hc exd_own)).trans hc) fun c xs hc => (at3 (at_ne ea hc exo_tup) (at_ne ed hc exd_tup)).trans hc
  exact I1.call' (ch := []) ho U hok3 hb fun b z => absurd z List.not_mem_nil
theorem kept_end0 (I1 : Inv X pins σ H1 ⟨hp, g1, d1, t1, os1⟩) (ha : hp.objs.size ≤ a) (k : ∀ b o, hp.get? b = some o → hp2.get? b = some o) (un : Un (frs X.stack) [] (upd H1 a (exo a C none)) H2 hp2 h2) (hok : HOk X.prog X.w H2 h2) (ho : os2 = os1) (hb : AllBare g2)
    (ea : H2 a = some (exo a C none)) : Inv X pins σ (upd H2 a (exv0 C a)) ⟨h2, g2, d2, t2, os2⟩ := by
  obtain ⟨t0, hoe⟩ := exo_at hok ea
  have hn : H1 a = none := I1.hok.fresh ha
  have na : ∀ {b : Addr} {o : Obj}, hp.get? b = some o → b ≠ a := fun {b o} z => Nat.ne_of_lt (Nat.lt_of_lt_of_le (Heap.lt_size z) ha)
  have up : ∀ {b : Addr}, b ≠ a → H1 b = none → upd H1 a (exo a C none) b = none := fun {b} z n => (upd_ne z).trans n
  have U : Un (frs X.stack) [] H1 (upd H2 a (exv0 C a)) hp h2 := {
    keep := fun b o z n hf hx => un.keep b o (k b o z) (up (na z) n) hf hx
    slot := fun b o z n hf hx => un.slot b o (k b o z) (up (na z) n) hf hx
    free := fun b o z n hx => (upd_ne (na z)).trans (un.free b o (k b o z) (up (na z) n) hx)
    there := fun b o z hx => un.there b o (k b o z) hx
    tups := fun b xs z => (upd_ne (ne_of_none z hn)).trans (un.tups b xs ((upd_ne (ne_of_none z hn)).trans z))
    frzs := fun b o v z => (upd_ne (ne_of_none z hn)).trans (un.frzs b o v ((upd_ne (ne_of_none z hn)).trans z))
    tbls := fun b ps z => by
      obtain ⟨m, y⟩ := un.tbls b ps ((upd_ne (ne_of_none z hn)).trans z)
      exact ⟨m, (upd_ne (ne_of_none z hn)).trans y⟩ }
  have hok3 : HOk X.prog X.w (upd H2 a (exv0 C a)) h2 := fun b o z => by
    by_cases hba : b = a
    · subst hba
      rw [upd_same] at z
      cases z
      exact ⟨⟨_, _, hoe, ⟨rfl, rfl⟩, rfl⟩, ⟨_, hoe⟩, fun _ _ ⟨o, v, q, r⟩ k => ⟨o, v, k o q, r⟩⟩
    · rw [upd_ne hba] at z
      exact (hok b o z).stay (fun _ _ _ y => y) (fun c hc => (upd_ne (at_ne ea hc exo_own)).trans hc) fun c xs hc => (upd_ne (at_ne ea hc exo_tup)).trans hc
  exact I1.call' (ch := []) ho U hok3 hb fun b z => absurd z List.not_mem_nil
end
/-- C(..), C's own __init__ keeping sp: what is made, as a value -/
def tMkV (C : Addr) (sp : Sp) (ta : TA) : TE := fun σ H Q => ta σ H fun vs H1 => vs.length ≤ 1000 ∧ ∀ a, H1 a = none → sp (.ref a :: vs) (upd H1 a (exo a C none))
  (fun v H2 => v = .non ∧ ((∃ (d : Addr) (fs : List (Str × V)), H2 a = some (exo a C (some d)) ∧ H2 d = some (exd d fs) ∧ H1 d = none ∧ Q (.ref a) (upd (upd H2 a (exv C d a)) d (.xd fs))) ∨ (H2 a = some (exo a C none) ∧ Q (.ref a) (upd H2 a (exv0 C a))))) (fun _ _ _ => False)
section
variable {X : Cx} {CX : CXT} {x f : Str} {C fI : Addr} {k : Nat} {fd : FuncData} {ps : List Str} {sp : Sp} {e : Expr} {es : List Expr} {ta : TA} {p pos : Pos}
theorem mk_pos {pins : List (Addr × Obj)} {σ : L2.St} {H1 : Hp} {s1 : Shared} {us : List Value} {vs : List V} {Q : VK} (T : OexC X.K C) (iC : PySem.W.findIn X.K (.ref C) "__init__" = some (some (.ref fI))) (tI : PySem.W.typeIn X.K (.ref fI) = some (.type "function"))
    (F1 : FnOk X.prog X.w X.K X.mg X.base CX k fI fd ps sp) (hr : Room (k + 1) X.A) (hb : Binds X.K fd ps []) (hx : Passes CX X (fun _ _ _ => False)) (I1 : Inv X pins σ H1 s1) (r1 : Vals vs us) (hz : vs.length ≤ 1000)
    (q1 : ∀ a, H1 a = none → sp (.ref a :: vs) (upd H1 a (exo a C none)) (fun v H2 => v = .non ∧ ((∃ (d : Addr) (fs : List (Str × V)), H2 a = some (exo a C (some d)) ∧ H2 d = some (exd d fs) ∧ H1 d = none ∧ Q (.ref a) (upd (upd H2 a (exv C d a)) d (.xd fs))) ∨ (H2 a = some (exo a C none) ∧ Q (.ref a) (upd H2 a (exv0 C a))))) (fun _ _ _ => False)) :
    wpAny (model X.prog X.w) X.A (call (.ref C) us) (EP X pins σ Q) X.xe s1 := by
  obtain ⟨nm, q, N, bs, bm, sn, sub, ab, col, dd, k0, k1, k2, k3, k5, hC, hbm⟩ := T.cls
  obtain ⟨hp, g, dr, tk, os⟩ := s1
  have sz : hp.objs.size ≤ hp.objs.size + 1 := Nat.le_succ _
  have hq := q1 (hp.objs.size + 1) (I1.hok.fresh sz)
  have kk : ∀ b o, hp.get? b = some o → ((hp.push (PySem.W.kdv_tup us)).push (PySem.HandSPX.excO C hp.objs.size)).get? b = some o := fun b o e => Heap.get?_push_of_some _ (Heap.get?_push_of_some _ e)
  have hget : ((hp.push (PySem.W.kdv_tup us)).push (PySem.HandSPX.excO C hp.objs.size)).get? (hp.objs.size + 1) = some (PySem.HandSPX.excO C hp.objs.size) := by heap_get
  have I2 := I1.laid (t' := tk) (a := hp.objs.size + 1) (o := exo (hp.objs.size + 1) C none) (h' := (hp.push (PySem.W.kdv_tup us)).push (PySem.HandSPX.excO C hp.objs.size)) kk sz (exo_ok hget)
  have r2 : Vals (V.ref (hp.objs.size + 1) :: vs) (Value.ref (hp.objs.size + 1) :: us) := .cons rfl r1
  have hl : (Value.ref (hp.objs.size + 1) :: us).length = ps.length := r2.length.symm.trans (F1.len _ _ _ _ hq)
  have hus : us.length ≤ sizeLine := by
    rw [← Paired.length r1, sizeLine_eq]
    omega
  have bd := hb _ (Value.ref (hp.objs.size + 1) :: us) I2.kIn (by rw [List.append_nil]; exact hl)
  rw [List.append_nil] at bd
  refine wpAny_call (PySem.HandSPX.call_own PySem.F.excBase_ValueError (fun Y => PySem.HandSPX.refsVE_contains Y bm hbm) (I1.kIn _ _ hC) (PySem.W.looks_findIn I1.kIn iC) (fun self => PySem.W.bind_fn I1.kIn self tI) hus
    (codeAny_mono (F1.run _ X.stack _ _ ⟨Value.ref (hp.objs.size + 1) :: us, []⟩ (Value.ref (hp.objs.size + 1) :: us) _ _ (fun _ _ _ => False) (hr.make C us []) (I2.env0.make C us []) bd r2 hq) fun r s' hq' => ?_))
  cases r with
  | error er => exact hx pins σ _ _ er s' I2 hq'
  | ok fl =>
    cases fl with
    | ret u =>
      obtain ⟨v, H2, os2, bare2, un2, hok2, rv, ev, q2⟩ := hq'
      subst ev
      obtain ⟨h2, g2, d2, t2, os'⟩ := s'
      rcases q2 with ⟨d, fs, ea, ed, hd1, q2⟩ | ⟨ea, q2⟩
      · exact ⟨rv, V.ref (hp.objs.size + 1), _, kept_end I1 sz kk un2 hok2 os2 bare2 ea ed hd1, rfl, q2⟩
      · exact ⟨rv, V.ref (hp.objs.size + 1), _, kept_end0 I1 sz kk un2 hok2 os2 bare2 ea, rfl, q2⟩
    | next => exact False.elim hq'
    | brk => exact False.elim hq'
    | cont => exact False.elim hq'
end
section
variable {X : Cx} {CX : CXT} {x f : Str} {C fI : Addr} {k : Nat} {fd : FuncData} {ps : List Str} {sp : Sp} {e : Expr} {es : List Expr} {ta : TA} {p pos : Pos}
theorem pe_mkV (T : OexC X.K C) (iC : PySem.W.findIn X.K (.ref C) "__init__" = some (some (.ref fI))) (tI : PySem.W.typeIn X.K (.ref fI) = some (.type "function")) (F1 : FnOk X.prog X.w X.K X.mg X.base CX k fI fd ps sp) (hr : Room (k + 1) X.A) (hb : Binds X.K fd ps []) (hx : Passes CX X (fun _ _ _ => False)) (hg : Gl X x) (hm : X.mg x = some (.ref C)) (ha : PA X (e :: es) ta)
    (hdb : (x == ("__debug__" : Str)) = false := by decide) (he : starEach (e :: es) X.env = (false, eval e X.env) :: starEach es X.env := by rfl) (hpl : (backTo pos (starEach es X.env)).any (·.1) = false := by rfl) : PE X (.Call (.Name x p) (e :: es) [] pos) (tMkV C sp ta) := by
  refine ⟨fun pins s σ H Q I h => wpAny_Call_Name_kw (ld_glob I hg hm ?_ hdb)⟩
  refine PySem.W.callWith_K (h₀ := X.base) I.ok.mod.kin T.kC (thn (ha.run pos pins s σ H _ I h) fun us s1 ⟨vs, H1, I1, r1, hz, q1⟩ => ⟨I1.kIn, ?_⟩) he hpl
  exact mk_pos T iC tI F1 hr hb hx I1 r1 hz q1
theorem pe_mkV0 (T : OexC X.K C) (iC : PySem.W.findIn X.K (.ref C) "__init__" = some (some (.ref fI))) (tI : PySem.W.typeIn X.K (.ref fI) = some (.type "function")) (F1 : FnOk X.prog X.w X.K X.mg X.base CX k fI fd ps sp) (hr : Room (k + 1) X.A) (hb : Binds X.K fd ps []) (hx : Passes CX X (fun _ _ _ => False)) (hg : Gl X x) (hm : X.mg x = some (.ref C))
    (hdb : (x == ("__debug__" : Str)) = false := by decide) : PE X (.Call (.Name x p) [] [] pos) (tMkV C sp tNil) := by
  refine ⟨fun pins s σ H Q I h => wpAny_Call_Name_kw (ld_glob I hg hm ?_ hdb)⟩
  obtain ⟨hz, q1⟩ := h
  exact PySem.W.callWith_K0 I.kIn T.kC (mk_pos (us := []) T iC tI F1 hr hb hx I .nil hz q1)
end
section
variable {X : Cx} {CX : CXT} {x f : Str} {C fI : Addr} {k : Nat} {fd : FuncData} {ps : List Str} {sp : Sp} {e : Expr} {es : List Expr} {ta : TA} {p pos : Pos}
theorem mk_kwd {pins : List (Addr × Obj)} {σ : L2.St} {H1 : Hp} {s1 : Shared} {us : List Value} {vs : List V} {Q : VK} (T : OexC X.K C) (iC : PySem.W.findIn X.K (.ref C) "__init__" = some (some (.ref fI))) (tI : PySem.W.typeIn X.K (.ref fI) = some (.type "function"))
    (F1 : FnOk X.prog X.w X.K X.mg X.base CX k fI fd ["self", f] sp) (hr : Room (k + 1) X.A) (hb : ∀ (s : Shared) (u v : Value), X.K.In s.heap → BindsTo s fd ⟨[u], [(f, v)]⟩ ((["self", f] : List Str).zip [u, v])) (hx : Passes CX X (fun _ _ _ => False)) (I1 : Inv X pins σ H1 s1) (r1 : Vals vs us)
    (q1 : ∀ a, H1 a = none → sp (.ref a :: vs) (upd H1 a (exo a C none)) (fun v H2 => v = .non ∧ ((∃ (d : Addr) (fs : List (Str × V)), H2 a = some (exo a C (some d)) ∧ H2 d = some (exd d fs) ∧ H1 d = none ∧ Q (.ref a) (upd (upd H2 a (exv C d a)) d (.xd fs))) ∨ (H2 a = some (exo a C none) ∧ Q (.ref a) (upd H2 a (exv0 C a))))) (fun _ _ _ => False)) :
    wpAny (model X.prog X.w) X.A (call (.ref C) [] ([f].zip us)) (EP X pins σ Q) X.xe s1 := by
  obtain ⟨nm, q, N, bs, bm, sn, sub, ab, col, dd, k0, k1, k2, k3, k5, hC, hbm⟩ := T.cls
  obtain ⟨hp, g, dr, tk, os⟩ := s1
  have sz : hp.objs.size ≤ hp.objs.size + 1 := Nat.le_succ _
  have hq := q1 (hp.objs.size + 1) (I1.hok.fresh sz)
  have two : (V.ref (hp.objs.size + 1) :: vs).length = 2 := F1.len _ _ _ _ hq
  cases r1 with
  | nil => cases two
  | @cons y u vs' us' ry rr =>
    cases rr with
    | cons _ _ => cases two
    | nil =>
      have kk : ∀ b o, hp.get? b = some o → ((hp.push (PySem.W.kdv_tup [])).push (PySem.HandSPX.excO C hp.objs.size)).get? b = some o := fun b o e => Heap.get?_push_of_some _ (Heap.get?_push_of_some _ e)
      have hget : ((hp.push (PySem.W.kdv_tup [])).push (PySem.HandSPX.excO C hp.objs.size)).get? (hp.objs.size + 1) = some (PySem.HandSPX.excO C hp.objs.size) := by heap_get
      have I2 := I1.laid (t' := tk) (a := hp.objs.size + 1) (o := exo (hp.objs.size + 1) C none) (h' := (hp.push (PySem.W.kdv_tup [])).push (PySem.HandSPX.excO C hp.objs.size)) kk sz (exo_ok hget)
      have r2 : Vals [V.ref (hp.objs.size + 1), y] [Value.ref (hp.objs.size + 1), u] := .cons rfl (.cons ry .nil)
      have bd := hb ⟨(hp.push (PySem.W.kdv_tup [])).push (PySem.HandSPX.excO C hp.objs.size), g, dr, tk, os⟩ (Value.ref (hp.objs.size + 1)) u I2.kIn
      have go := F1.run (X.A.under (.builtin "type.__call__" ⟨[Value.ref C], [(f, u)]⟩)) X.stack _ _ ⟨[Value.ref (hp.objs.size + 1)], [(f, u)]⟩ [Value.ref (hp.objs.size + 1), u] _ _ (fun _ _ _ => False) (hr.make C [] [(f, u)]) (I2.env0.make C [] [(f, u)]) bd r2 hq
      show wpAny _ _ (call (.ref C) [] [(f, u)]) _ _ _
      refine wpAny_call (PySem.XK.call_kw PySem.F.excBase_ValueError (fun Y => PySem.HandSPX.refsVE_contains Y bm hbm) (I1.kIn _ _ hC) (PySem.W.looks_findIn I1.kIn iC) (fun self => PySem.W.bind_fn I1.kIn self tI) (codeAny_mono go fun r s' hq' => ?_))
      cases r with
      | error er => exact hx pins σ _ _ er s' I2 hq'
      | ok fl =>
        cases fl with
        | ret u =>
          obtain ⟨v, H2, os2, bare2, un2, hok2, rv, ev, q2⟩ := hq'
          subst ev
          obtain ⟨h2, g2, d2, t2, os'⟩ := s'
          rcases q2 with ⟨d, fs, ea, ed, hd1, q2⟩ | ⟨ea, q2⟩
          · exact ⟨rv, V.ref (hp.objs.size + 1), _, kept_end I1 sz kk un2 hok2 os2 bare2 ea ed hd1, rfl, q2⟩
          · exact ⟨rv, V.ref (hp.objs.size + 1), _, kept_end0 I1 sz kk un2 hok2 os2 bare2 ea, rfl, q2⟩
        | next => exact False.elim hq'
        | brk => exact False.elim hq'
        | cont => exact False.elim hq'
/-- C(f = e) -/
theorem pe_mkVK {te : TE} {kp : Pos} (T : OexC X.K C) (iC : PySem.W.findIn X.K (.ref C) "__init__" = some (some (.ref fI))) (tI : PySem.W.typeIn X.K (.ref fI) = some (.type "function")) (F1 : FnOk X.prog X.w X.K X.mg X.base CX k fI fd ["self", f] sp) (hr : Room (k + 1) X.A)
    (hb : ∀ (s : Shared) (u v : Value), X.K.In s.heap → BindsTo s fd ⟨[u], [(f, v)]⟩ ((["self", f] : List Str).zip [u, v])) (hx : Passes CX X (fun _ _ _ => False)) (hg : Gl X x) (hm : X.mg x = some (.ref C)) (he : PE X e te)
    (hall : (backToKw pos (keywordEach [⟨some f, e, kp⟩] X.env)).all (·.1.isSome) = true := by rfl) (hks : (backToKw pos (keywordEach [⟨some f, e, kp⟩] X.env)).filterMap (·.1) = [f] := by rfl) (hdb : (x == ("__debug__" : Str)) = false := by decide)
    (hpl : ((backTo pos (starEach [] X.env)).any (·.1) || (backToKw pos (keywordEach [⟨some f, e, kp⟩] X.env)).any (·.1.isNone)) = false := by rfl) : PE X (.Call (.Name x p) [] [⟨some f, e, kp⟩] pos) (tMkV C sp (tCons te tNil)) := by
  refine ⟨fun pins s σ H Q I h => wpAny_Call_Name_kw (ld_glob I hg hm ?_ hdb)⟩
  refine PySem.W.callWith_KW0 (h₀ := X.base) I.ok.mod.kin T.kC hall (thn ((pk_cons he pk_nil).run pos pins s σ H _ I h) fun us s1 ⟨vs, H1, I1, r1, hz, q1⟩ => ⟨I1.kIn, ?_⟩) hpl
  rw [hks]
  exact mk_kwd T iC tI F1 hr hb hx I1 r1 q1
end
def rIsX (K : PySem.W.Frag) : List V → Hp → VK → Prop := fun xs H Q => ∃ (a C : Addr) (c : V) (cv : Value) (b : Bool), xs = [.ref a, c] ∧ ((∃ dx fs, H a = some (exv C dx a) ∧ H dx = some (.xd fs)) ∨ H a = some (exv0 C a)) ∧ ClsV c cv ∧ ExcC K C ∧ PySem.W.kitOne K (.ref C) cv = some b ∧ Q (.bl b) H
theorem call_isX {X : Cx} : CallR X (.builtin "isinstance") (rIsX X.K) := by
  intro pins s σ H xs us Q I r h
  obtain ⟨a, C, c, cv, b, rfl, st, k, T, e, q⟩ := h
  obtain ⟨u1, u2, rfl, r1, r2⟩ := vals2 r
  cases r1
  have e2 := k.eq r2
  subst e2
  obtain ⟨oe, od, J⟩ : ∃ (oe : Obj) (od : Option Obj), PySem.W.InstAt s.heap a oe C od := by
    rcases st with ⟨dx, fs, ea, ed⟩ | ea
    · obtain ⟨oe, vs, ho, hz, hd⟩ : ∃ (oe : Obj) (vs : Array Value), s.heap.get? a = some oe ∧ Zc (.ref C) (some dx) oe ∧ oe.data = .fields vs := (show ObjOk X.prog X.w H s.heap a (exv C dx a) from I.hok a _ ea).1
      obtain ⟨mA, hns, _⟩ : ∃ mA, s.heap.Ns1 dx mA ∧ ∀ f, RelO (fs.lookup f) (mA f) := (show ObjOk X.prog X.w H s.heap dx (.xd fs) from I.hok dx _ ed)
      obtain ⟨od, hod, _⟩ := lookIn_ns hns
      exact ⟨oe, some od, ho, hz.1, by unfold PySem.W.notCls; rw [hd] <;> rfl, by rw [hz.2]; exact hod⟩
    · obtain ⟨oe, vs, ho, hz, hd⟩ : ∃ (oe : Obj) (vs : Array Value), s.heap.get? a = some oe ∧ Zc (.ref C) none oe ∧ oe.data = .fields vs := (show ObjOk X.prog X.w H s.heap a (exv0 C a) from I.hok a _ ea).1
      exact ⟨oe, none, ho, hz.1, by unfold PySem.W.notCls; rw [hd] <;> rfl, by rw [hz.2]; trivial⟩
  obtain ⟨cd, hcl, _⟩ := PySem.W.any_some T.hd
  exact PySem.W.kia_one (PySem.W.kitx_exc (by rw [hcl]; rfl) T.hg T.hk T.hs T.ha T.hn T.ht T.hm) I.kIn J e (fun z => nomatch z) fun tk => ⟨.bl b, H, I.kept (t' := tk) fun _ _ z => z, rfl, q⟩
end Mir

set_option Elab.async false
set_option linter.all false
set_option maxRecDepth 100000
set_option maxHeartbeats 4000000
namespace Mir
open PySem L2 PySem.Spec PyProof.Rows
section
variable {K : PySem.W.Frag} {E : XS}
def mMkE (C : Addr) (f : Str) (m : M D) : M D := m >>= fun d => M.ret (.xc C [(f, d)])
theorem ex_mkV {te : TE} {m : M D} {C : Addr} {f : Str} (T : OexC K C) (hno : PySem.W.findIn K (.ref C) f = some none) (h : EX K E te m) : EX K E (tMkV C (spIni K f) (tCons te tNil)) (mMkE C f m) := fun γ O H σ e Q r g => by
  show te σ H _
  refine J.bind (T' := TD K) h r g fun d e1 v H1 r1 f1 t1 g1 => ?_
  refine ⟨by simp, fun a na => ⟨a, C, v, rfl, T, hno, upd_same, fun dx nd ne => ?_⟩⟩
  rw [upd_ne ne] at nd
  have ext : Ex H1 (upd (upd (upd (upd (upd H1 a (exo a C none)) dx (exd dx [(f, v)])) a (exo a C (some dx))) a (exv C dx a)) dx (.xd [(f, v)])) := fun b o hb => by
    have n1 := ne_of_none hb na
    have n2 := ne_of_none hb nd
    rw [upd_ne n2, upd_ne n1, upd_ne n1, upd_ne n2, upd_ne n1]
    exact hb
  refine ⟨rfl, .inl ⟨dx, [(f, v)], upd_same, (upd_ne ne).trans upd_same, nd, g1 (.ref a) _ (r1.ext ext) (Fr.ext ext) (.exc (dx := dx) ?_ ?_ (.cons (t1.mono (msk_mono ext)) .nil))⟩⟩
  · rw [msk_out (r1.out na), upd_ne (Ne.symm ne)]
    exact upd_same
  · rw [msk_out (r1.out nd)]
    exact upd_same
def spNil : Sp := fun vs H Q _ => ∃ a : Addr, vs = [.ref a] ∧ Q .non H
theorem ex_mkV0 {C : Addr} : EX K E (tMkV C spNil tNil) (M.ret (.xc C [])) := fun γ O H σ e Q r g => by
  refine ⟨by simp, fun a na => ⟨a, rfl, rfl, .inr ⟨upd_same, ?_⟩⟩⟩
  have ext : Ex H (upd (upd H a (exo a C none)) a (exv0 C a)) := fun b o hb => by
    have n1 := ne_of_none hb na
    rw [upd_ne n1, upd_ne n1]
    exact hb
  exact g (.ref a) _ (r.ext ext) (Fr.ext ext) (.exc0 (by rw [msk_out (r.out na)]; exact upd_same))
theorem nil_ini {P : Program} {w : World} {mg : Str → Option Value} {base : Heap} {qual : Str} {st : Stmt} {fI : Addr} {fd : FuncData} {p : Pos} (F : Fun K "__init__" qual st fI fd) (S : FnScope ["self"] ["self"] (defScope st)) (hb : defBody st = [.Pass p]) :
    FnOk P w K mg base CX0 1 fI fd ["self"] spNil := by
  refine F.ok S (fun vs H Q E h => ?_) (fun cdv A outer s H vs Q E hr h => ⟨tNext, ?_, ?_⟩)
  · obtain ⟨a, rfl, _⟩ := h
    rfl
  · rw [hb]
    exact pss_one ps_pass
  · obtain ⟨a, rfl, q⟩ := h
    exact q
def isX (yes no : List Addr) : D → Option D
  | .xc C _ => if C ∈ yes then some (.bl true) else if C ∈ no then some (.bl false) else none
  | _ => none
def mIsX (yes no : List Addr) (m : M D) : M D := m >>= fun d => M.lift (isX yes no d)
theorem ex_isX {te : TE} {m : M D} {yes no : List Addr} {c : V} {cv : Value} (hk : ClsV c cv) (hy : ∀ C ∈ yes, ExcC K C ∧ PySem.W.kitOne K (.ref C) cv = some true) (hn : ∀ C ∈ no, ExcC K C ∧ PySem.W.kitOne K (.ref C) cv = some false) (h : EX K E te m) :
    EX K E (tCB (rIsX K) (tCons te (tCons (tC c) tNil))) (mIsX yes no m) := fun γ O H σ e Q r g => by
  show te σ H _
  refine J.bind (T' := TD K) h r g fun d e1 v H1 r1 f1 t1 g1 => ?_
  have g2 : Good K γ O H1 σ E (fun H' => TD K O H' σ) Q (M.lift (isX yes no d) e1) := g1
  cases d with
  | xc C fs =>
    have st : ∃ a, v = .ref a ∧ ((∃ dx gs, H1 a = some (exv C dx a) ∧ H1 dx = some (.xd gs)) ∨ H1 a = some (exv0 C a)) := by
      cases t1 with
      | exc a b c => exact ⟨_, rfl, .inl ⟨_, _, msk_ex _ _ a, msk_ex _ _ b⟩⟩
      | exc0 a => exact ⟨_, rfl, .inr (msk_ex _ _ a)⟩
    obtain ⟨a, rfl, st⟩ := st
    unfold isX at g2
    dsimp only at g2
    by_cases y : C ∈ yes
    · rw [if_pos y] at g2
      exact ⟨a, C, c, cv, true, rfl, st, hk, (hy C y).1, (hy C y).2, g2 _ H1 r1 (Fr.refl _ _) (.bl true)⟩
    · rw [if_neg y] at g2
      by_cases z : C ∈ no
      · rw [if_pos z] at g2
        exact ⟨a, C, c, cv, false, rfl, st, hk, (hn C z).1, (hn C z).2, g2 _ H1 r1 (Fr.refl _ _) (.bl false)⟩
      · rw [if_neg z] at g2; exact g2.elim
  | _ => exact g2.elim
theorem allC_nil {P : Addr → Prop} : ∀ C ∈ ([] : List Addr), P C := fun _ h => nomatch h
theorem allC_cons {P : Addr → Prop} {c : Addr} {cs : List Addr} (h : P c) (t : ∀ C ∈ cs, P C) : ∀ C ∈ c :: cs, P C := fun C hC => by
  rcases List.mem_cons.mp hC with z | z
  · rw [z]; exact h
  · exact t C z
theorem kit_self {t : Value} : PySem.W.kitOne K t t = some true := if_pos (beq_self_eq_true t)
theorem kit_sub {C S : Addr} (hc : PySem.W.isClsIn K S = true) (ht : PySem.W.typeIn K (.ref S) = some (.type "type")) (h : PySem.W.subIn K (.ref C) (.ref S) = some true) : PySem.W.kitOne K (.ref C) (.ref S) = some true := by
  by_cases z : ((Value.ref C : Value) == .ref S) = true
  · exact if_pos z
  · have e1 : ((PySem.W.clsIn K S).isSome && PySem.W.typeIn K (.ref S) == some (.type "type")) = true := by
      have h2 : (PySem.W.clsIn K S).isSome = true := hc
      rw [h2, ht] <;> rfl
    refine (if_neg z).trans ?_
    show (if ((PySem.W.clsIn K S).isSome && PySem.W.typeIn K (.ref S) == some (.type "type")) = true then PySem.W.subIn K (.ref C) (.ref S) else none) = _
    rw [if_pos e1]
    exact h
theorem kit_no {C S : Addr} (hc : PySem.W.isClsIn K S = true) (ht : PySem.W.typeIn K (.ref S) = some (.type "type")) (h : PySem.W.subIn K (.ref C) (.ref S) = some false) (hs : PySem.W.subIn K (.ref S) (.ref S) = some true) : PySem.W.kitOne K (.ref C) (.ref S) = some false := by
  by_cases z : ((Value.ref C : Value) == .ref S) = true
  · have e : C = S := Value.ref.inj (beq_iff_eq.mp z)
    rw [e, hs] at h
    cases h
  · have e1 : ((PySem.W.clsIn K S).isSome && PySem.W.typeIn K (.ref S) == some (.type "type")) = true := by
      have h2 : (PySem.W.clsIn K S).isSome = true := hc
      rw [h2, ht] <;> rfl
    refine (if_neg z).trans ?_
    show (if ((PySem.W.clsIn K S).isSome && PySem.W.typeIn K (.ref S) == some (.type "type")) = true then PySem.W.subIn K (.ref C) (.ref S) else none) = _
    rw [if_pos e1]
    exact h
theorem kit_ty {C : Addr} {T : String} (hm : PySem.W.kitMeta T = true) (h : PySem.W.subIn K (.ref C) (.type T) = some true) : PySem.W.kitOne K (.ref C) (.type T) = some true := by
  refine (if_neg (by intro z; cases beq_iff_eq.mp z)).trans ?_
  show (if PySem.W.kitMeta T = true then PySem.W.subIn K (.ref C) (.type T) else none) = _
  rw [if_pos hm]
  exact h
theorem sub_ne {C S : Addr} (h : PySem.W.subIn K (.ref C) (.ref S) = some false) (hs : PySem.W.subIn K (.ref S) (.ref S) = some true) : C ≠ S := fun e => by
  rw [e, hs] at h
  cases h
end
/-- what the top says of an exception class of one's own, whatever its __init__ keeps -/
structure XBase (K : PySem.W.Frag) (mg : Str → Option Value) (x : Str) (C : Addr) : Prop where
  gC : mg x = some (.ref C)
  isC : PySem.W.isClsIn K C = true
  tyC : PySem.W.typeIn K (.ref C) = some (.type "type")
  self : PySem.W.subIn K (.ref C) (.ref C) = some true
/-- and of its __init__ -/
structure XMake (K : PySem.W.Frag) (qual : Str) (st : Stmt) (ps : List Str) (C fI : Addr) (fd : FuncData) : Prop where
  oex : OexC K C
  isx : ExcC K C
  xf : XfC K C
  iC : PySem.W.findIn K (.ref C) "__init__" = some (some (.ref fI))
  tI : PySem.W.typeIn K (.ref fI) = some (.type "function")
  F : Fun K "__init__" qual st fI fd
  B : Binds K fd ps []
theorem XMake.mk1 {K : PySem.W.Frag} {qual : Str} {st : Stmt} {ps : List Str} {C S fI : Addr} {nm q : Str} {N : Addr} {bs : List Value} {sn : List Str} {sub : List Value} {ab : Bool} {col : Option Bool} {dd : Option Addr} {m0 m1 m2 m3 m5 : Option Value} {od1 an1 : Option Addr} {sl1 : Array (Option Value)} {oc1 kV1 dc1 pm1 cd1 ct1 : Value}
    (xL : K.lookup C = some (excClassObj nm q C N bs [.ref S, .type "ValueError", .type "Exception", .type "BaseException", .type "object"] true sn sub ab col dd m0 m1 m2 m3 m5 "ValueError.__new__"))
    (sa : PySem.W.findIn K (.ref C) "__setattr__" = some (some (.builtin "object.__setattr__"))) (ga : PySem.W.findIn K (.ref C) "__getattribute__" = some (some (.builtin "BaseException.__getattribute__"))) (gg : PySem.W.findIn K (.ref C) "__getattr__" = some none)
    (a1 : PySem.W.findIn K (.ref C) "__init__" = some (some (.ref fI))) (t1 : PySem.W.typeIn K (.ref fI) = some (.type "function")) (l1 : K.lookup fI = some ⟨oc1, od1, .func (PySem.W.fnOf "__init__" qual (defArgs st) (defBody st) (defScope st) .none kV1 dc1 pm1 an1 cd1 ct1), sl1⟩) (c1 : PySem.W.codeIn K cd1 qual = true) (k1 : PySem.W.keepIn K (.ref fI) = true)
    (kC : PySem.W.keepIn K (.ref C) = true) (eC : PySem.W.subIn K (.ref C) (.type "BaseException") = some true) (tC : PySem.W.typeIn K (.ref C) = some (.type "type")) (hC : PySem.W.hasDictIn K C = true)
    (ha : PySem.W.findIn K (.ref C) "__class__" = some (some (.builtin "object.__class__"))) (hn : PySem.W.specialIn K (.builtin "object.__class__") "__get__" = some (some (.builtin "getset_descriptor.__get__"))) (ht : PySem.W.takesIn K (.builtin "object.__class__") = some true) (hm : PySem.W.mroIn K C (.type "object") = some true)
    (hB : ∀ us : List Value, us.length = ps.length → bindArgs (PySem.W.fnOf "__init__" qual (defArgs st) (defBody st) (defScope st) .none kV1 dc1 pm1 an1 cd1 ct1) ⟨us, []⟩ = pure (ps.zip us)) :
    XMake K qual st ps C fI (PySem.W.fnOf "__init__" qual (defArgs st) (defBody st) (defScope st) .none kV1 dc1 pm1 an1 cd1 ct1) where
  oex := ⟨⟨nm, q, N, bs, _, sn, sub, ab, col, dd, m0, m1, m2, m3, m5, xL, rfl⟩, sa, eC, tC, kC⟩
  isx := ⟨ga, gg, eC, hC, ha, hn, ht, hm⟩
  xf := ⟨ga, gg, eC, hC⟩
  iC := a1
  tI := t1
  F := fun_mk (st := st) l1 c1 k1
  B := fun s us _ hl => by
    rw [List.append_nil] at hl ⊢
    exact .of_eq (hB us hl)
/-- __init__ called with its one argument by name -/
theorem XMake.bk {K : PySem.W.Frag} {qual : Str} {st : Stmt} {ps : List Str} {C fI : Addr} {fd : FuncData} {f : Str} (T : XMake K qual st ps C fI fd)
    (hB : ∀ (kV1 dc1 pm1 : Value) (an1 : Option Addr) (cd1 ct1 : Value) (u v : Value), bindArgs (PySem.W.fnOf "__init__" qual (defArgs st) (defBody st) (defScope st) .none kV1 dc1 pm1 an1 cd1 ct1) ⟨[u], [(f, v)]⟩ = pure ((["self", f] : List Str).zip [u, v])) :
    ∀ (s : Shared) (u v : Value), K.In s.heap → BindsTo s fd ⟨[u], [(f, v)]⟩ ((["self", f] : List Str).zip [u, v]) := fun s u v _ => by
  obtain ⟨oc, od, kV, doc, pm, an, cdv, ct, osl, rfl, _, _⟩ := T.F.ex
  exact .of_eq (hB kV doc pm an cdv ct u v)
end Mir

set_option Elab.async false
set_option linter.all false
set_option maxRecDepth 100000
set_option maxHeartbeats 600000
namespace Law
open PySem L2 Mir
def topS (i : Nat) : Stmt := PySem.Challenge.pw_seatsahead_k00_errors.main.body.getD i (.Pass ⟨0, 0, 0, 0⟩)
abbrev s_l_box : Stmt := topS 15
abbrev N_l_box : List Str := ["_law_script", "_law_k", "_law_cell"]
abbrev s_l_take : Stmt := topS 16
abbrev N_l_take : List Str := ["_law_box_here", "_law_size_so", "_law_once", "_law_far", "_law_again", "_law_some"]
abbrev s_l_cells : Stmt := topS 17
abbrev N_l_cells : List Str := ["_law_script", "_law_top_so", "_law_cells_so", "_law_k", "_law_cell", "_law_at_so"]
abbrev s_l_of : Stmt := topS 18
abbrev N_l_of : List Str := ["_law_box_here", "_law_goods_so"]
abbrev s_l_same : Stmt := topS 19
abbrev N_l_same : List Str := ["_law_got", "_law_due", "_law_mine", "_law_its"]
abbrev s_l_sorts : Stmt := topS 20
abbrev N_l_sorts : List Str := ["_law_caught", "_law_kinds_so"]
abbrev s_l_right : Stmt := topS 21
abbrev N_l_right : List Str := ["_law_box_here", "_law_every_so", "_law_got", "_law_due", "_law_far", "_law_tag", "_law_k", "_law_own", "_law_j"]
abbrev s_law : Stmt := topS 22
abbrev N_law : List Str := ["_law_script", "_law_cells_here", "_law_k"]
abbrev si_BadDeed : Stmt := inClass (topS 2) 0
abbrev si_BadLayout : Stmt := inClass (topS 3) 0
abbrev si_BadLine : Stmt := inClass (topS 4) 0
abbrev si_BadPair : Stmt := inClass (topS 5) 0
abbrev si_BadText : Stmt := inClass (topS 6) 0
abbrev si_Known : Stmt := inClass (topS 7) 0
abbrev si_NoNumber : Stmt := inClass (topS 8) 0
abbrev si_NoPlace : Stmt := inClass (topS 9) 0
abbrev si_NoProgram : Stmt := inClass (topS 10) 0
abbrev si_NoStep : Stmt := inClass (topS 11) 0
abbrev si_NothingDone : Stmt := inClass (topS 12) 0
abbrev si_OtherSteps : Stmt := inClass (topS 13) 0
structure Ad where
  c_BadDeed : Addr
  c_BadLayout : Addr
  c_BadLine : Addr
  c_BadPair : Addr
  c_BadText : Addr
  c_Known : Addr
  c_NoNumber : Addr
  c_NoPlace : Addr
  c_NoProgram : Addr
  c_NoStep : Addr
  c_NothingDone : Addr
  c_OtherSteps : Addr
structure Tx (K : PySem.W.Frag) (mg : Str → Option Value) (w : World) where
  a_l_box : Addr
  fd_l_box : FuncData
  F_l_box : Fun K "_law_box" "_law_box" s_l_box a_l_box fd_l_box
  B_l_box : Binds K fd_l_box ["_law_script", "_law_k"] []
  m_l_box : mg "_law_box" = some (.ref a_l_box)
  a_l_take : Addr
  fd_l_take : FuncData
  F_l_take : Fun K "_law_take" "_law_take" s_l_take a_l_take fd_l_take
  B_l_take : Binds K fd_l_take ["_law_box_here", "_law_size_so"] []
  m_l_take : mg "_law_take" = some (.ref a_l_take)
  a_l_cells : Addr
  fd_l_cells : FuncData
  F_l_cells : Fun K "_law_cells" "_law_cells" s_l_cells a_l_cells fd_l_cells
  B_l_cells : Binds K fd_l_cells ["_law_script", "_law_top_so"] []
  m_l_cells : mg "_law_cells" = some (.ref a_l_cells)
  a_l_of : Addr
  fd_l_of : FuncData
  F_l_of : Fun K "_law_of" "_law_of" s_l_of a_l_of fd_l_of
  B_l_of : Binds K fd_l_of ["_law_box_here", "_law_goods_so"] []
  m_l_of : mg "_law_of" = some (.ref a_l_of)
  a_l_same : Addr
  fd_l_same : FuncData
  F_l_same : Fun K "_law_same" "_law_same" s_l_same a_l_same fd_l_same
  B_l_same : Binds K fd_l_same ["_law_got", "_law_due"] []
  m_l_same : mg "_law_same" = some (.ref a_l_same)
  a_l_sorts : Addr
  fd_l_sorts : FuncData
  F_l_sorts : Fun K "_law_sorts" "_law_sorts" s_l_sorts a_l_sorts fd_l_sorts
  B_l_sorts : Binds K fd_l_sorts ["_law_caught"] []
  m_l_sorts : mg "_law_sorts" = some (.ref a_l_sorts)
  a_l_right : Addr
  fd_l_right : FuncData
  F_l_right : Fun K "_law_right" "_law_right" s_l_right a_l_right fd_l_right
  B_l_right : Binds K fd_l_right ["_law_box_here"] []
  m_l_right : mg "_law_right" = some (.ref a_l_right)
  a_law : Addr
  fd_law : FuncData
  F_law : Fun K "law" "law" s_law a_law fd_law
  B_law : Binds K fd_law ["_law_script"] []
  m_law : mg "law" = some (.ref a_law)
  n_ValueError : mg "ValueError" = none
  n_abs : mg "abs" = none
  n_all : mg "all" = none
  n_bool : mg "bool" = none
  n_enumerate : mg "enumerate" = none
  n_int : mg "int" = none
  n_isinstance : mg "isinstance" = none
  n_len : mg "len" = none
  n_list : mg "list" = none
  n_range : mg "range" = none
  n_str : mg "str" = none
  n_tuple : mg "tuple" = none
  n_zip : mg "zip" = none
  c_BadDeed : Addr
  XB_BadDeed : XBase K mg "BadDeed" c_BadDeed
  c_BadLayout : Addr
  XB_BadLayout : XBase K mg "BadLayout" c_BadLayout
  c_BadLine : Addr
  XB_BadLine : XBase K mg "BadLine" c_BadLine
  c_BadPair : Addr
  XB_BadPair : XBase K mg "BadPair" c_BadPair
  c_BadText : Addr
  XB_BadText : XBase K mg "BadText" c_BadText
  c_Known : Addr
  XB_Known : XBase K mg "Known" c_Known
  c_NoNumber : Addr
  XB_NoNumber : XBase K mg "NoNumber" c_NoNumber
  c_NoPlace : Addr
  XB_NoPlace : XBase K mg "NoPlace" c_NoPlace
  c_NoProgram : Addr
  XB_NoProgram : XBase K mg "NoProgram" c_NoProgram
  c_NoStep : Addr
  XB_NoStep : XBase K mg "NoStep" c_NoStep
  c_NothingDone : Addr
  XB_NothingDone : XBase K mg "NothingDone" c_NothingDone
  c_OtherSteps : Addr
  XB_OtherSteps : XBase K mg "OtherSteps" c_OtherSteps
  c_SeatError : Addr
  XB_SeatError : XBase K mg "SeatError" c_SeatError
  fi_BadDeed : Addr
  fdi_BadDeed : FuncData
  XM_BadDeed : XMake K "BadDeed.__init__" si_BadDeed ["self", "place"] c_BadDeed fi_BadDeed fdi_BadDeed
  noN_BadDeed : PySem.W.findIn K (.ref c_BadDeed) "place" = some none
  VE_BadDeed : PySem.W.subIn K (.ref c_BadDeed) (.type "ValueError") = some true
  fi_BadLayout : Addr
  fdi_BadLayout : FuncData
  XM_BadLayout : XMake K "BadLayout.__init__" si_BadLayout ["self", "place"] c_BadLayout fi_BadLayout fdi_BadLayout
  noN_BadLayout : PySem.W.findIn K (.ref c_BadLayout) "place" = some none
  VE_BadLayout : PySem.W.subIn K (.ref c_BadLayout) (.type "ValueError") = some true
  fi_BadLine : Addr
  fdi_BadLine : FuncData
  XM_BadLine : XMake K "BadLine.__init__" si_BadLine ["self", "number"] c_BadLine fi_BadLine fdi_BadLine
  noN_BadLine : PySem.W.findIn K (.ref c_BadLine) "number" = some none
  VE_BadLine : PySem.W.subIn K (.ref c_BadLine) (.type "ValueError") = some true
  fi_BadPair : Addr
  fdi_BadPair : FuncData
  XM_BadPair : XMake K "BadPair.__init__" si_BadPair ["self", "place"] c_BadPair fi_BadPair fdi_BadPair
  noN_BadPair : PySem.W.findIn K (.ref c_BadPair) "place" = some none
  VE_BadPair : PySem.W.subIn K (.ref c_BadPair) (.type "ValueError") = some true
  fi_BadText : Addr
  fdi_BadText : FuncData
  XM_BadText : XMake K "BadText.__init__" si_BadText ["self", "piece"] c_BadText fi_BadText fdi_BadText
  noN_BadText : PySem.W.findIn K (.ref c_BadText) "piece" = some none
  VE_BadText : PySem.W.subIn K (.ref c_BadText) (.type "ValueError") = some true
  fi_Known : Addr
  fdi_Known : FuncData
  XM_Known : XMake K "Known.__init__" si_Known ["self", "name"] c_Known fi_Known fdi_Known
  noN_Known : PySem.W.findIn K (.ref c_Known) "name" = some none
  VE_Known : PySem.W.subIn K (.ref c_Known) (.type "ValueError") = some true
  fi_NoNumber : Addr
  fdi_NoNumber : FuncData
  XM_NoNumber : XMake K "NoNumber.__init__" si_NoNumber ["self", "number"] c_NoNumber fi_NoNumber fdi_NoNumber
  noN_NoNumber : PySem.W.findIn K (.ref c_NoNumber) "number" = some none
  VE_NoNumber : PySem.W.subIn K (.ref c_NoNumber) (.type "ValueError") = some true
  fi_NoPlace : Addr
  fdi_NoPlace : FuncData
  XM_NoPlace : XMake K "NoPlace.__init__" si_NoPlace ["self", "number"] c_NoPlace fi_NoPlace fdi_NoPlace
  noN_NoPlace : PySem.W.findIn K (.ref c_NoPlace) "number" = some none
  VE_NoPlace : PySem.W.subIn K (.ref c_NoPlace) (.type "ValueError") = some true
  fi_NoProgram : Addr
  fdi_NoProgram : FuncData
  XM_NoProgram : XMake K "NoProgram.__init__" si_NoProgram ["self", "name"] c_NoProgram fi_NoProgram fdi_NoProgram
  noN_NoProgram : PySem.W.findIn K (.ref c_NoProgram) "name" = some none
  VE_NoProgram : PySem.W.subIn K (.ref c_NoProgram) (.type "ValueError") = some true
  fi_NoStep : Addr
  fdi_NoStep : FuncData
  XM_NoStep : XMake K "NoStep.__init__" si_NoStep ["self", "name"] c_NoStep fi_NoStep fdi_NoStep
  noN_NoStep : PySem.W.findIn K (.ref c_NoStep) "name" = some none
  VE_NoStep : PySem.W.subIn K (.ref c_NoStep) (.type "ValueError") = some true
  fi_NothingDone : Addr
  fdi_NothingDone : FuncData
  XM_NothingDone : XMake K "NothingDone.__init__" si_NothingDone ["self"] c_NothingDone fi_NothingDone fdi_NothingDone
  VE_NothingDone : PySem.W.subIn K (.ref c_NothingDone) (.type "ValueError") = some true
  fi_OtherSteps : Addr
  fdi_OtherSteps : FuncData
  XM_OtherSteps : XMake K "OtherSteps.__init__" si_OtherSteps ["self"] c_OtherSteps fi_OtherSteps fdi_OtherSteps
  VE_OtherSteps : PySem.W.subIn K (.ref c_OtherSteps) (.type "ValueError") = some true
  SB_BadDeed_BadLayout : PySem.W.subIn K (.ref c_BadDeed) (.ref c_BadLayout) = some false
  SB_BadDeed_BadLine : PySem.W.subIn K (.ref c_BadDeed) (.ref c_BadLine) = some false
  SB_BadDeed_BadPair : PySem.W.subIn K (.ref c_BadDeed) (.ref c_BadPair) = some false
  SB_BadDeed_BadText : PySem.W.subIn K (.ref c_BadDeed) (.ref c_BadText) = some false
  SB_BadDeed_Known : PySem.W.subIn K (.ref c_BadDeed) (.ref c_Known) = some false
  SB_BadDeed_NoNumber : PySem.W.subIn K (.ref c_BadDeed) (.ref c_NoNumber) = some false
  SB_BadDeed_NoPlace : PySem.W.subIn K (.ref c_BadDeed) (.ref c_NoPlace) = some false
  SB_BadDeed_NoProgram : PySem.W.subIn K (.ref c_BadDeed) (.ref c_NoProgram) = some false
  SB_BadDeed_NoStep : PySem.W.subIn K (.ref c_BadDeed) (.ref c_NoStep) = some false
  SB_BadDeed_NothingDone : PySem.W.subIn K (.ref c_BadDeed) (.ref c_NothingDone) = some false
  SB_BadDeed_OtherSteps : PySem.W.subIn K (.ref c_BadDeed) (.ref c_OtherSteps) = some false
  SB_BadDeed_SeatError : PySem.W.subIn K (.ref c_BadDeed) (.ref c_SeatError) = some true
  SB_BadLayout_BadDeed : PySem.W.subIn K (.ref c_BadLayout) (.ref c_BadDeed) = some false
  SB_BadLayout_BadLine : PySem.W.subIn K (.ref c_BadLayout) (.ref c_BadLine) = some false
  SB_BadLayout_BadPair : PySem.W.subIn K (.ref c_BadLayout) (.ref c_BadPair) = some false
  SB_BadLayout_BadText : PySem.W.subIn K (.ref c_BadLayout) (.ref c_BadText) = some false
  SB_BadLayout_Known : PySem.W.subIn K (.ref c_BadLayout) (.ref c_Known) = some false
  SB_BadLayout_NoNumber : PySem.W.subIn K (.ref c_BadLayout) (.ref c_NoNumber) = some false
  SB_BadLayout_NoPlace : PySem.W.subIn K (.ref c_BadLayout) (.ref c_NoPlace) = some false
  SB_BadLayout_NoProgram : PySem.W.subIn K (.ref c_BadLayout) (.ref c_NoProgram) = some false
  SB_BadLayout_NoStep : PySem.W.subIn K (.ref c_BadLayout) (.ref c_NoStep) = some false
  SB_BadLayout_NothingDone : PySem.W.subIn K (.ref c_BadLayout) (.ref c_NothingDone) = some false
  SB_BadLayout_OtherSteps : PySem.W.subIn K (.ref c_BadLayout) (.ref c_OtherSteps) = some false
  SB_BadLayout_SeatError : PySem.W.subIn K (.ref c_BadLayout) (.ref c_SeatError) = some true
  SB_BadLine_BadDeed : PySem.W.subIn K (.ref c_BadLine) (.ref c_BadDeed) = some false
  SB_BadLine_BadLayout : PySem.W.subIn K (.ref c_BadLine) (.ref c_BadLayout) = some false
  SB_BadLine_BadPair : PySem.W.subIn K (.ref c_BadLine) (.ref c_BadPair) = some false
  SB_BadLine_BadText : PySem.W.subIn K (.ref c_BadLine) (.ref c_BadText) = some false
  SB_BadLine_Known : PySem.W.subIn K (.ref c_BadLine) (.ref c_Known) = some false
  SB_BadLine_NoNumber : PySem.W.subIn K (.ref c_BadLine) (.ref c_NoNumber) = some false
  SB_BadLine_NoPlace : PySem.W.subIn K (.ref c_BadLine) (.ref c_NoPlace) = some false
  SB_BadLine_NoProgram : PySem.W.subIn K (.ref c_BadLine) (.ref c_NoProgram) = some false
  SB_BadLine_NoStep : PySem.W.subIn K (.ref c_BadLine) (.ref c_NoStep) = some false
  SB_BadLine_NothingDone : PySem.W.subIn K (.ref c_BadLine) (.ref c_NothingDone) = some false
  SB_BadLine_OtherSteps : PySem.W.subIn K (.ref c_BadLine) (.ref c_OtherSteps) = some false
  SB_BadLine_SeatError : PySem.W.subIn K (.ref c_BadLine) (.ref c_SeatError) = some true
  SB_BadPair_BadDeed : PySem.W.subIn K (.ref c_BadPair) (.ref c_BadDeed) = some false
  SB_BadPair_BadLayout : PySem.W.subIn K (.ref c_BadPair) (.ref c_BadLayout) = some false
  SB_BadPair_BadLine : PySem.W.subIn K (.ref c_BadPair) (.ref c_BadLine) = some false
  SB_BadPair_BadText : PySem.W.subIn K (.ref c_BadPair) (.ref c_BadText) = some false
  SB_BadPair_Known : PySem.W.subIn K (.ref c_BadPair) (.ref c_Known) = some false
  SB_BadPair_NoNumber : PySem.W.subIn K (.ref c_BadPair) (.ref c_NoNumber) = some false
  SB_BadPair_NoPlace : PySem.W.subIn K (.ref c_BadPair) (.ref c_NoPlace) = some false
  SB_BadPair_NoProgram : PySem.W.subIn K (.ref c_BadPair) (.ref c_NoProgram) = some false
  SB_BadPair_NoStep : PySem.W.subIn K (.ref c_BadPair) (.ref c_NoStep) = some false
  SB_BadPair_NothingDone : PySem.W.subIn K (.ref c_BadPair) (.ref c_NothingDone) = some false
  SB_BadPair_OtherSteps : PySem.W.subIn K (.ref c_BadPair) (.ref c_OtherSteps) = some false
  SB_BadPair_SeatError : PySem.W.subIn K (.ref c_BadPair) (.ref c_SeatError) = some true
  SB_BadText_BadDeed : PySem.W.subIn K (.ref c_BadText) (.ref c_BadDeed) = some false
  SB_BadText_BadLayout : PySem.W.subIn K (.ref c_BadText) (.ref c_BadLayout) = some false
  SB_BadText_BadLine : PySem.W.subIn K (.ref c_BadText) (.ref c_BadLine) = some false
  SB_BadText_BadPair : PySem.W.subIn K (.ref c_BadText) (.ref c_BadPair) = some false
  SB_BadText_Known : PySem.W.subIn K (.ref c_BadText) (.ref c_Known) = some false
  SB_BadText_NoNumber : PySem.W.subIn K (.ref c_BadText) (.ref c_NoNumber) = some false
  SB_BadText_NoPlace : PySem.W.subIn K (.ref c_BadText) (.ref c_NoPlace) = some false
  SB_BadText_NoProgram : PySem.W.subIn K (.ref c_BadText) (.ref c_NoProgram) = some false
  SB_BadText_NoStep : PySem.W.subIn K (.ref c_BadText) (.ref c_NoStep) = some false
  SB_BadText_NothingDone : PySem.W.subIn K (.ref c_BadText) (.ref c_NothingDone) = some false
  SB_BadText_OtherSteps : PySem.W.subIn K (.ref c_BadText) (.ref c_OtherSteps) = some false
  SB_BadText_SeatError : PySem.W.subIn K (.ref c_BadText) (.ref c_SeatError) = some true
  SB_Known_BadDeed : PySem.W.subIn K (.ref c_Known) (.ref c_BadDeed) = some false
  SB_Known_BadLayout : PySem.W.subIn K (.ref c_Known) (.ref c_BadLayout) = some false
  SB_Known_BadLine : PySem.W.subIn K (.ref c_Known) (.ref c_BadLine) = some false
  SB_Known_BadPair : PySem.W.subIn K (.ref c_Known) (.ref c_BadPair) = some false
  SB_Known_BadText : PySem.W.subIn K (.ref c_Known) (.ref c_BadText) = some false
  SB_Known_NoNumber : PySem.W.subIn K (.ref c_Known) (.ref c_NoNumber) = some false
  SB_Known_NoPlace : PySem.W.subIn K (.ref c_Known) (.ref c_NoPlace) = some false
  SB_Known_NoProgram : PySem.W.subIn K (.ref c_Known) (.ref c_NoProgram) = some false
  SB_Known_NoStep : PySem.W.subIn K (.ref c_Known) (.ref c_NoStep) = some false
  SB_Known_NothingDone : PySem.W.subIn K (.ref c_Known) (.ref c_NothingDone) = some false
  SB_Known_OtherSteps : PySem.W.subIn K (.ref c_Known) (.ref c_OtherSteps) = some false
  SB_Known_SeatError : PySem.W.subIn K (.ref c_Known) (.ref c_SeatError) = some true
  SB_NoNumber_BadDeed : PySem.W.subIn K (.ref c_NoNumber) (.ref c_BadDeed) = some false
  SB_NoNumber_BadLayout : PySem.W.subIn K (.ref c_NoNumber) (.ref c_BadLayout) = some false
  SB_NoNumber_BadLine : PySem.W.subIn K (.ref c_NoNumber) (.ref c_BadLine) = some false
  SB_NoNumber_BadPair : PySem.W.subIn K (.ref c_NoNumber) (.ref c_BadPair) = some false
  SB_NoNumber_BadText : PySem.W.subIn K (.ref c_NoNumber) (.ref c_BadText) = some false
  SB_NoNumber_Known : PySem.W.subIn K (.ref c_NoNumber) (.ref c_Known) = some false
  SB_NoNumber_NoPlace : PySem.W.subIn K (.ref c_NoNumber) (.ref c_NoPlace) = some false
  SB_NoNumber_NoProgram : PySem.W.subIn K (.ref c_NoNumber) (.ref c_NoProgram) = some false
  SB_NoNumber_NoStep : PySem.W.subIn K (.ref c_NoNumber) (.ref c_NoStep) = some false
  SB_NoNumber_NothingDone : PySem.W.subIn K (.ref c_NoNumber) (.ref c_NothingDone) = some false
  SB_NoNumber_OtherSteps : PySem.W.subIn K (.ref c_NoNumber) (.ref c_OtherSteps) = some false
  SB_NoNumber_SeatError : PySem.W.subIn K (.ref c_NoNumber) (.ref c_SeatError) = some true
  SB_NoPlace_BadDeed : PySem.W.subIn K (.ref c_NoPlace) (.ref c_BadDeed) = some false
  SB_NoPlace_BadLayout : PySem.W.subIn K (.ref c_NoPlace) (.ref c_BadLayout) = some false
  SB_NoPlace_BadLine : PySem.W.subIn K (.ref c_NoPlace) (.ref c_BadLine) = some false
  SB_NoPlace_BadPair : PySem.W.subIn K (.ref c_NoPlace) (.ref c_BadPair) = some false
  SB_NoPlace_BadText : PySem.W.subIn K (.ref c_NoPlace) (.ref c_BadText) = some false
  SB_NoPlace_Known : PySem.W.subIn K (.ref c_NoPlace) (.ref c_Known) = some false
  SB_NoPlace_NoNumber : PySem.W.subIn K (.ref c_NoPlace) (.ref c_NoNumber) = some false
  SB_NoPlace_NoProgram : PySem.W.subIn K (.ref c_NoPlace) (.ref c_NoProgram) = some false
  SB_NoPlace_NoStep : PySem.W.subIn K (.ref c_NoPlace) (.ref c_NoStep) = some false
  SB_NoPlace_NothingDone : PySem.W.subIn K (.ref c_NoPlace) (.ref c_NothingDone) = some false
  SB_NoPlace_OtherSteps : PySem.W.subIn K (.ref c_NoPlace) (.ref c_OtherSteps) = some false
  SB_NoPlace_SeatError : PySem.W.subIn K (.ref c_NoPlace) (.ref c_SeatError) = some true
  SB_NoProgram_BadDeed : PySem.W.subIn K (.ref c_NoProgram) (.ref c_BadDeed) = some false
  SB_NoProgram_BadLayout : PySem.W.subIn K (.ref c_NoProgram) (.ref c_BadLayout) = some false
  SB_NoProgram_BadLine : PySem.W.subIn K (.ref c_NoProgram) (.ref c_BadLine) = some false
  SB_NoProgram_BadPair : PySem.W.subIn K (.ref c_NoProgram) (.ref c_BadPair) = some false
  SB_NoProgram_BadText : PySem.W.subIn K (.ref c_NoProgram) (.ref c_BadText) = some false
  SB_NoProgram_Known : PySem.W.subIn K (.ref c_NoProgram) (.ref c_Known) = some false
  SB_NoProgram_NoNumber : PySem.W.subIn K (.ref c_NoProgram) (.ref c_NoNumber) = some false
  SB_NoProgram_NoPlace : PySem.W.subIn K (.ref c_NoProgram) (.ref c_NoPlace) = some false
  SB_NoProgram_NoStep : PySem.W.subIn K (.ref c_NoProgram) (.ref c_NoStep) = some false
  SB_NoProgram_NothingDone : PySem.W.subIn K (.ref c_NoProgram) (.ref c_NothingDone) = some false
  SB_NoProgram_OtherSteps : PySem.W.subIn K (.ref c_NoProgram) (.ref c_OtherSteps) = some false
  SB_NoProgram_SeatError : PySem.W.subIn K (.ref c_NoProgram) (.ref c_SeatError) = some true
  SB_NoStep_BadDeed : PySem.W.subIn K (.ref c_NoStep) (.ref c_BadDeed) = some false
  SB_NoStep_BadLayout : PySem.W.subIn K (.ref c_NoStep) (.ref c_BadLayout) = some false
  SB_NoStep_BadLine : PySem.W.subIn K (.ref c_NoStep) (.ref c_BadLine) = some false
  SB_NoStep_BadPair : PySem.W.subIn K (.ref c_NoStep) (.ref c_BadPair) = some false
  SB_NoStep_BadText : PySem.W.subIn K (.ref c_NoStep) (.ref c_BadText) = some false
  SB_NoStep_Known : PySem.W.subIn K (.ref c_NoStep) (.ref c_Known) = some false
  SB_NoStep_NoNumber : PySem.W.subIn K (.ref c_NoStep) (.ref c_NoNumber) = some false
  SB_NoStep_NoPlace : PySem.W.subIn K (.ref c_NoStep) (.ref c_NoPlace) = some false
  SB_NoStep_NoProgram : PySem.W.subIn K (.ref c_NoStep) (.ref c_NoProgram) = some false
  SB_NoStep_NothingDone : PySem.W.subIn K (.ref c_NoStep) (.ref c_NothingDone) = some false
  SB_NoStep_OtherSteps : PySem.W.subIn K (.ref c_NoStep) (.ref c_OtherSteps) = some false
  SB_NoStep_SeatError : PySem.W.subIn K (.ref c_NoStep) (.ref c_SeatError) = some true
  SB_NothingDone_BadDeed : PySem.W.subIn K (.ref c_NothingDone) (.ref c_BadDeed) = some false
  SB_NothingDone_BadLayout : PySem.W.subIn K (.ref c_NothingDone) (.ref c_BadLayout) = some false
  SB_NothingDone_BadLine : PySem.W.subIn K (.ref c_NothingDone) (.ref c_BadLine) = some false
  SB_NothingDone_BadPair : PySem.W.subIn K (.ref c_NothingDone) (.ref c_BadPair) = some false
  SB_NothingDone_BadText : PySem.W.subIn K (.ref c_NothingDone) (.ref c_BadText) = some false
  SB_NothingDone_Known : PySem.W.subIn K (.ref c_NothingDone) (.ref c_Known) = some false
  SB_NothingDone_NoNumber : PySem.W.subIn K (.ref c_NothingDone) (.ref c_NoNumber) = some false
  SB_NothingDone_NoPlace : PySem.W.subIn K (.ref c_NothingDone) (.ref c_NoPlace) = some false
  SB_NothingDone_NoProgram : PySem.W.subIn K (.ref c_NothingDone) (.ref c_NoProgram) = some false
  SB_NothingDone_NoStep : PySem.W.subIn K (.ref c_NothingDone) (.ref c_NoStep) = some false
  SB_NothingDone_OtherSteps : PySem.W.subIn K (.ref c_NothingDone) (.ref c_OtherSteps) = some false
  SB_NothingDone_SeatError : PySem.W.subIn K (.ref c_NothingDone) (.ref c_SeatError) = some true
  SB_OtherSteps_BadDeed : PySem.W.subIn K (.ref c_OtherSteps) (.ref c_BadDeed) = some false
  SB_OtherSteps_BadLayout : PySem.W.subIn K (.ref c_OtherSteps) (.ref c_BadLayout) = some false
  SB_OtherSteps_BadLine : PySem.W.subIn K (.ref c_OtherSteps) (.ref c_BadLine) = some false
  SB_OtherSteps_BadPair : PySem.W.subIn K (.ref c_OtherSteps) (.ref c_BadPair) = some false
  SB_OtherSteps_BadText : PySem.W.subIn K (.ref c_OtherSteps) (.ref c_BadText) = some false
  SB_OtherSteps_Known : PySem.W.subIn K (.ref c_OtherSteps) (.ref c_Known) = some false
  SB_OtherSteps_NoNumber : PySem.W.subIn K (.ref c_OtherSteps) (.ref c_NoNumber) = some false
  SB_OtherSteps_NoPlace : PySem.W.subIn K (.ref c_OtherSteps) (.ref c_NoPlace) = some false
  SB_OtherSteps_NoProgram : PySem.W.subIn K (.ref c_OtherSteps) (.ref c_NoProgram) = some false
  SB_OtherSteps_NoStep : PySem.W.subIn K (.ref c_OtherSteps) (.ref c_NoStep) = some false
  SB_OtherSteps_NothingDone : PySem.W.subIn K (.ref c_OtherSteps) (.ref c_NothingDone) = some false
  SB_OtherSteps_SeatError : PySem.W.subIn K (.ref c_OtherSteps) (.ref c_SeatError) = some true
def Tx.ad {K : PySem.W.Frag} {mg : Str → Option Value} {w : World} (T : Tx K mg w) : Ad := ⟨T.c_BadDeed, T.c_BadLayout, T.c_BadLine, T.c_BadPair, T.c_BadText, T.c_Known, T.c_NoNumber, T.c_NoPlace, T.c_NoProgram, T.c_NoStep, T.c_NothingDone, T.c_OtherSteps⟩
section
variable {P : Program} {w : World} {K : PySem.W.Frag} {mg : Str → Option Value} {base : Heap}
theorem sci_BadDeed : FnScope ["self", "place"] ["self", "place"] (defScope si_BadDeed) := ⟨rfl, rfl, rfl, by decide +kernel, rfl, by decide +kernel, by decide +kernel⟩
theorem I_BadDeed (T : Tx K mg w) : FnOk P w K mg base CX0 1 T.fi_BadDeed T.fdi_BadDeed ["self", "place"] (spIni K "place") := ini_ok T.XM_BadDeed.F sci_BadDeed rfl (by decide) (by decide) rfl (Or.inl rfl) (Or.inl rfl)
theorem sci_BadLayout : FnScope ["self", "place"] ["self", "place"] (defScope si_BadLayout) := ⟨rfl, rfl, rfl, by decide +kernel, rfl, by decide +kernel, by decide +kernel⟩
theorem I_BadLayout (T : Tx K mg w) : FnOk P w K mg base CX0 1 T.fi_BadLayout T.fdi_BadLayout ["self", "place"] (spIni K "place") := ini_ok T.XM_BadLayout.F sci_BadLayout rfl (by decide) (by decide) rfl (Or.inl rfl) (Or.inl rfl)
theorem sci_BadLine : FnScope ["self", "number"] ["self", "number"] (defScope si_BadLine) := ⟨rfl, rfl, rfl, by decide +kernel, rfl, by decide +kernel, by decide +kernel⟩
theorem I_BadLine (T : Tx K mg w) : FnOk P w K mg base CX0 1 T.fi_BadLine T.fdi_BadLine ["self", "number"] (spIni K "number") := ini_ok T.XM_BadLine.F sci_BadLine rfl (by decide) (by decide) rfl (Or.inl rfl) (Or.inl rfl)
theorem sci_BadPair : FnScope ["self", "place"] ["self", "place"] (defScope si_BadPair) := ⟨rfl, rfl, rfl, by decide +kernel, rfl, by decide +kernel, by decide +kernel⟩
theorem I_BadPair (T : Tx K mg w) : FnOk P w K mg base CX0 1 T.fi_BadPair T.fdi_BadPair ["self", "place"] (spIni K "place") := ini_ok T.XM_BadPair.F sci_BadPair rfl (by decide) (by decide) rfl (Or.inl rfl) (Or.inl rfl)
theorem sci_BadText : FnScope ["self", "piece"] ["self", "piece"] (defScope si_BadText) := ⟨rfl, rfl, rfl, by decide +kernel, rfl, by decide +kernel, by decide +kernel⟩
theorem I_BadText (T : Tx K mg w) : FnOk P w K mg base CX0 1 T.fi_BadText T.fdi_BadText ["self", "piece"] (spIni K "piece") := ini_ok T.XM_BadText.F sci_BadText rfl (by decide) (by decide) rfl (Or.inl rfl) (Or.inl rfl)
theorem sci_Known : FnScope ["self", "name"] ["self", "name"] (defScope si_Known) := ⟨rfl, rfl, rfl, by decide +kernel, rfl, by decide +kernel, by decide +kernel⟩
theorem I_Known (T : Tx K mg w) : FnOk P w K mg base CX0 1 T.fi_Known T.fdi_Known ["self", "name"] (spIni K "name") := ini_ok T.XM_Known.F sci_Known rfl (by decide) (by decide) rfl (Or.inl rfl) (Or.inl rfl)
theorem sci_NoNumber : FnScope ["self", "number"] ["self", "number"] (defScope si_NoNumber) := ⟨rfl, rfl, rfl, by decide +kernel, rfl, by decide +kernel, by decide +kernel⟩
theorem I_NoNumber (T : Tx K mg w) : FnOk P w K mg base CX0 1 T.fi_NoNumber T.fdi_NoNumber ["self", "number"] (spIni K "number") := ini_ok T.XM_NoNumber.F sci_NoNumber rfl (by decide) (by decide) rfl (Or.inl rfl) (Or.inl rfl)
theorem sci_NoPlace : FnScope ["self", "number"] ["self", "number"] (defScope si_NoPlace) := ⟨rfl, rfl, rfl, by decide +kernel, rfl, by decide +kernel, by decide +kernel⟩
theorem I_NoPlace (T : Tx K mg w) : FnOk P w K mg base CX0 1 T.fi_NoPlace T.fdi_NoPlace ["self", "number"] (spIni K "number") := ini_ok T.XM_NoPlace.F sci_NoPlace rfl (by decide) (by decide) rfl (Or.inl rfl) (Or.inl rfl)
theorem sci_NoProgram : FnScope ["self", "name"] ["self", "name"] (defScope si_NoProgram) := ⟨rfl, rfl, rfl, by decide +kernel, rfl, by decide +kernel, by decide +kernel⟩
theorem I_NoProgram (T : Tx K mg w) : FnOk P w K mg base CX0 1 T.fi_NoProgram T.fdi_NoProgram ["self", "name"] (spIni K "name") := ini_ok T.XM_NoProgram.F sci_NoProgram rfl (by decide) (by decide) rfl (Or.inl rfl) (Or.inl rfl)
theorem sci_NoStep : FnScope ["self", "name"] ["self", "name"] (defScope si_NoStep) := ⟨rfl, rfl, rfl, by decide +kernel, rfl, by decide +kernel, by decide +kernel⟩
theorem I_NoStep (T : Tx K mg w) : FnOk P w K mg base CX0 1 T.fi_NoStep T.fdi_NoStep ["self", "name"] (spIni K "name") := ini_ok T.XM_NoStep.F sci_NoStep rfl (by decide) (by decide) rfl (Or.inl rfl) (Or.inl rfl)
theorem sci_NothingDone : FnScope ["self"] ["self"] (defScope si_NothingDone) := ⟨rfl, rfl, rfl, by decide +kernel, rfl, by decide +kernel, by decide +kernel⟩
theorem I_NothingDone (T : Tx K mg w) : FnOk P w K mg base CX0 1 T.fi_NothingDone T.fdi_NothingDone ["self"] spNil := nil_ini T.XM_NothingDone.F sci_NothingDone rfl
theorem sci_OtherSteps : FnScope ["self"] ["self"] (defScope si_OtherSteps) := ⟨rfl, rfl, rfl, by decide +kernel, rfl, by decide +kernel, by decide +kernel⟩
theorem I_OtherSteps (T : Tx K mg w) : FnOk P w K mg base CX0 1 T.fi_OtherSteps T.fdi_OtherSteps ["self"] spNil := nil_ini T.XM_OtherSteps.F sci_OtherSteps rfl
theorem hy_BadDeed (T : Tx K mg w) : ∀ C ∈ ([T.c_BadDeed] : List Addr), ExcC K C ∧ PySem.W.kitOne K (.ref C) (.ref T.c_BadDeed) = some true := allC_cons ⟨T.XM_BadDeed.isx, kit_self⟩ (allC_nil)
theorem hn_BadDeed (T : Tx K mg w) : ∀ C ∈ ([T.c_BadLayout, T.c_BadLine, T.c_BadPair, T.c_BadText, T.c_Known, T.c_NoNumber, T.c_NoPlace, T.c_NoProgram, T.c_NoStep, T.c_NothingDone, T.c_OtherSteps] : List Addr), ExcC K C ∧ PySem.W.kitOne K (.ref C) (.ref T.c_BadDeed) = some false := allC_cons ⟨T.XM_BadLayout.isx, kit_no T.XB_BadDeed.isC T.XB_BadDeed.tyC T.SB_BadLayout_BadDeed T.XB_BadDeed.self⟩ (allC_cons ⟨T.XM_BadLine.isx, kit_no T.XB_BadDeed.isC T.XB_BadDeed.tyC T.SB_BadLine_BadDeed T.XB_BadDeed.self⟩ (allC_cons ⟨T.XM_BadPair.isx, kit_no T.XB_BadDeed.isC T.XB_BadDeed.tyC T.SB_BadPair_BadDeed T.XB_BadDeed.self⟩ (allC_cons ⟨T.XM_BadText.isx, kit_no T.XB_BadDeed.isC T.XB_BadDeed.tyC T.SB_BadText_BadDeed T.XB_BadDeed.self⟩ (allC_cons ⟨T.XM_Known.isx, kit_no T.XB_BadDeed.isC T.XB_BadDeed.tyC T.SB_Known_BadDeed T.XB_BadDeed.self⟩ (allC_cons ⟨T.XM_NoNumber.isx, kit_no T.XB_BadDeed.isC T.XB_BadDeed.tyC T.SB_NoNumber_BadDeed T.XB_BadDeed.self⟩ (allC_cons ⟨T.XM_NoPlace.isx, kit_no T.XB_BadDeed.isC T.XB_BadDeed.tyC T.SB_NoPlace_BadDeed T.XB_BadDeed.self⟩ (allC_cons ⟨T.XM_NoProgram.isx, kit_no T.XB_BadDeed.isC T.XB_BadDeed.tyC T.SB_NoProgram_BadDeed T.XB_BadDeed.self⟩ (allC_cons ⟨T.XM_NoStep.isx, kit_no T.XB_BadDeed.isC T.XB_BadDeed.tyC T.SB_NoStep_BadDeed T.XB_BadDeed.self⟩ (allC_cons ⟨T.XM_NothingDone.isx, kit_no T.XB_BadDeed.isC T.XB_BadDeed.tyC T.SB_NothingDone_BadDeed T.XB_BadDeed.self⟩ (allC_cons ⟨T.XM_OtherSteps.isx, kit_no T.XB_BadDeed.isC T.XB_BadDeed.tyC T.SB_OtherSteps_BadDeed T.XB_BadDeed.self⟩ (allC_nil)))))))))))
theorem hy_BadLayout (T : Tx K mg w) : ∀ C ∈ ([T.c_BadLayout] : List Addr), ExcC K C ∧ PySem.W.kitOne K (.ref C) (.ref T.c_BadLayout) = some true := allC_cons ⟨T.XM_BadLayout.isx, kit_self⟩ (allC_nil)
theorem hn_BadLayout (T : Tx K mg w) : ∀ C ∈ ([T.c_BadDeed, T.c_BadLine, T.c_BadPair, T.c_BadText, T.c_Known, T.c_NoNumber, T.c_NoPlace, T.c_NoProgram, T.c_NoStep, T.c_NothingDone, T.c_OtherSteps] : List Addr), ExcC K C ∧ PySem.W.kitOne K (.ref C) (.ref T.c_BadLayout) = some false := allC_cons ⟨T.XM_BadDeed.isx, kit_no T.XB_BadLayout.isC T.XB_BadLayout.tyC T.SB_BadDeed_BadLayout T.XB_BadLayout.self⟩ (allC_cons ⟨T.XM_BadLine.isx, kit_no T.XB_BadLayout.isC T.XB_BadLayout.tyC T.SB_BadLine_BadLayout T.XB_BadLayout.self⟩ (allC_cons ⟨T.XM_BadPair.isx, kit_no T.XB_BadLayout.isC T.XB_BadLayout.tyC T.SB_BadPair_BadLayout T.XB_BadLayout.self⟩ (allC_cons ⟨T.XM_BadText.isx, kit_no T.XB_BadLayout.isC T.XB_BadLayout.tyC T.SB_BadText_BadLayout T.XB_BadLayout.self⟩ (allC_cons ⟨T.XM_Known.isx, kit_no T.XB_BadLayout.isC T.XB_BadLayout.tyC T.SB_Known_BadLayout T.XB_BadLayout.self⟩ (allC_cons ⟨T.XM_NoNumber.isx, kit_no T.XB_BadLayout.isC T.XB_BadLayout.tyC T.SB_NoNumber_BadLayout T.XB_BadLayout.self⟩ (allC_cons ⟨T.XM_NoPlace.isx, kit_no T.XB_BadLayout.isC T.XB_BadLayout.tyC T.SB_NoPlace_BadLayout T.XB_BadLayout.self⟩ (allC_cons ⟨T.XM_NoProgram.isx, kit_no T.XB_BadLayout.isC T.XB_BadLayout.tyC T.SB_NoProgram_BadLayout T.XB_BadLayout.self⟩ (allC_cons ⟨T.XM_NoStep.isx, kit_no T.XB_BadLayout.isC T.XB_BadLayout.tyC T.SB_NoStep_BadLayout T.XB_BadLayout.self⟩ (allC_cons ⟨T.XM_NothingDone.isx, kit_no T.XB_BadLayout.isC T.XB_BadLayout.tyC T.SB_NothingDone_BadLayout T.XB_BadLayout.self⟩ (allC_cons ⟨T.XM_OtherSteps.isx, kit_no T.XB_BadLayout.isC T.XB_BadLayout.tyC T.SB_OtherSteps_BadLayout T.XB_BadLayout.self⟩ (allC_nil)))))))))))
theorem hy_BadLine (T : Tx K mg w) : ∀ C ∈ ([T.c_BadLine] : List Addr), ExcC K C ∧ PySem.W.kitOne K (.ref C) (.ref T.c_BadLine) = some true := allC_cons ⟨T.XM_BadLine.isx, kit_self⟩ (allC_nil)
theorem hn_BadLine (T : Tx K mg w) : ∀ C ∈ ([T.c_BadDeed, T.c_BadLayout, T.c_BadPair, T.c_BadText, T.c_Known, T.c_NoNumber, T.c_NoPlace, T.c_NoProgram, T.c_NoStep, T.c_NothingDone, T.c_OtherSteps] : List Addr), ExcC K C ∧ PySem.W.kitOne K (.ref C) (.ref T.c_BadLine) = some false := allC_cons ⟨T.XM_BadDeed.isx, kit_no T.XB_BadLine.isC T.XB_BadLine.tyC T.SB_BadDeed_BadLine T.XB_BadLine.self⟩ (allC_cons ⟨T.XM_BadLayout.isx, kit_no T.XB_BadLine.isC T.XB_BadLine.tyC T.SB_BadLayout_BadLine T.XB_BadLine.self⟩ (allC_cons ⟨T.XM_BadPair.isx, kit_no T.XB_BadLine.isC T.XB_BadLine.tyC T.SB_BadPair_BadLine T.XB_BadLine.self⟩ (allC_cons ⟨T.XM_BadText.isx, kit_no T.XB_BadLine.isC T.XB_BadLine.tyC T.SB_BadText_BadLine T.XB_BadLine.self⟩ (allC_cons ⟨T.XM_Known.isx, kit_no T.XB_BadLine.isC T.XB_BadLine.tyC T.SB_Known_BadLine T.XB_BadLine.self⟩ (allC_cons ⟨T.XM_NoNumber.isx, kit_no T.XB_BadLine.isC T.XB_BadLine.tyC T.SB_NoNumber_BadLine T.XB_BadLine.self⟩ (allC_cons ⟨T.XM_NoPlace.isx, kit_no T.XB_BadLine.isC T.XB_BadLine.tyC T.SB_NoPlace_BadLine T.XB_BadLine.self⟩ (allC_cons ⟨T.XM_NoProgram.isx, kit_no T.XB_BadLine.isC T.XB_BadLine.tyC T.SB_NoProgram_BadLine T.XB_BadLine.self⟩ (allC_cons ⟨T.XM_NoStep.isx, kit_no T.XB_BadLine.isC T.XB_BadLine.tyC T.SB_NoStep_BadLine T.XB_BadLine.self⟩ (allC_cons ⟨T.XM_NothingDone.isx, kit_no T.XB_BadLine.isC T.XB_BadLine.tyC T.SB_NothingDone_BadLine T.XB_BadLine.self⟩ (allC_cons ⟨T.XM_OtherSteps.isx, kit_no T.XB_BadLine.isC T.XB_BadLine.tyC T.SB_OtherSteps_BadLine T.XB_BadLine.self⟩ (allC_nil)))))))))))
theorem hy_BadPair (T : Tx K mg w) : ∀ C ∈ ([T.c_BadPair] : List Addr), ExcC K C ∧ PySem.W.kitOne K (.ref C) (.ref T.c_BadPair) = some true := allC_cons ⟨T.XM_BadPair.isx, kit_self⟩ (allC_nil)
theorem hn_BadPair (T : Tx K mg w) : ∀ C ∈ ([T.c_BadDeed, T.c_BadLayout, T.c_BadLine, T.c_BadText, T.c_Known, T.c_NoNumber, T.c_NoPlace, T.c_NoProgram, T.c_NoStep, T.c_NothingDone, T.c_OtherSteps] : List Addr), ExcC K C ∧ PySem.W.kitOne K (.ref C) (.ref T.c_BadPair) = some false := allC_cons ⟨T.XM_BadDeed.isx, kit_no T.XB_BadPair.isC T.XB_BadPair.tyC T.SB_BadDeed_BadPair T.XB_BadPair.self⟩ (allC_cons ⟨T.XM_BadLayout.isx, kit_no T.XB_BadPair.isC T.XB_BadPair.tyC T.SB_BadLayout_BadPair T.XB_BadPair.self⟩ (allC_cons ⟨T.XM_BadLine.isx, kit_no T.XB_BadPair.isC T.XB_BadPair.tyC T.SB_BadLine_BadPair T.XB_BadPair.self⟩ (allC_cons ⟨T.XM_BadText.isx, kit_no T.XB_BadPair.isC T.XB_BadPair.tyC T.SB_BadText_BadPair T.XB_BadPair.self⟩ (allC_cons ⟨T.XM_Known.isx, kit_no T.XB_BadPair.isC T.XB_BadPair.tyC T.SB_Known_BadPair T.XB_BadPair.self⟩ (allC_cons ⟨T.XM_NoNumber.isx, kit_no T.XB_BadPair.isC T.XB_BadPair.tyC T.SB_NoNumber_BadPair T.XB_BadPair.self⟩ (allC_cons ⟨T.XM_NoPlace.isx, kit_no T.XB_BadPair.isC T.XB_BadPair.tyC T.SB_NoPlace_BadPair T.XB_BadPair.self⟩ (allC_cons ⟨T.XM_NoProgram.isx, kit_no T.XB_BadPair.isC T.XB_BadPair.tyC T.SB_NoProgram_BadPair T.XB_BadPair.self⟩ (allC_cons ⟨T.XM_NoStep.isx, kit_no T.XB_BadPair.isC T.XB_BadPair.tyC T.SB_NoStep_BadPair T.XB_BadPair.self⟩ (allC_cons ⟨T.XM_NothingDone.isx, kit_no T.XB_BadPair.isC T.XB_BadPair.tyC T.SB_NothingDone_BadPair T.XB_BadPair.self⟩ (allC_cons ⟨T.XM_OtherSteps.isx, kit_no T.XB_BadPair.isC T.XB_BadPair.tyC T.SB_OtherSteps_BadPair T.XB_BadPair.self⟩ (allC_nil)))))))))))
theorem hy_BadText (T : Tx K mg w) : ∀ C ∈ ([T.c_BadText] : List Addr), ExcC K C ∧ PySem.W.kitOne K (.ref C) (.ref T.c_BadText) = some true := allC_cons ⟨T.XM_BadText.isx, kit_self⟩ (allC_nil)
theorem hn_BadText (T : Tx K mg w) : ∀ C ∈ ([T.c_BadDeed, T.c_BadLayout, T.c_BadLine, T.c_BadPair, T.c_Known, T.c_NoNumber, T.c_NoPlace, T.c_NoProgram, T.c_NoStep, T.c_NothingDone, T.c_OtherSteps] : List Addr), ExcC K C ∧ PySem.W.kitOne K (.ref C) (.ref T.c_BadText) = some false := allC_cons ⟨T.XM_BadDeed.isx, kit_no T.XB_BadText.isC T.XB_BadText.tyC T.SB_BadDeed_BadText T.XB_BadText.self⟩ (allC_cons ⟨T.XM_BadLayout.isx, kit_no T.XB_BadText.isC T.XB_BadText.tyC T.SB_BadLayout_BadText T.XB_BadText.self⟩ (allC_cons ⟨T.XM_BadLine.isx, kit_no T.XB_BadText.isC T.XB_BadText.tyC T.SB_BadLine_BadText T.XB_BadText.self⟩ (allC_cons ⟨T.XM_BadPair.isx, kit_no T.XB_BadText.isC T.XB_BadText.tyC T.SB_BadPair_BadText T.XB_BadText.self⟩ (allC_cons ⟨T.XM_Known.isx, kit_no T.XB_BadText.isC T.XB_BadText.tyC T.SB_Known_BadText T.XB_BadText.self⟩ (allC_cons ⟨T.XM_NoNumber.isx, kit_no T.XB_BadText.isC T.XB_BadText.tyC T.SB_NoNumber_BadText T.XB_BadText.self⟩ (allC_cons ⟨T.XM_NoPlace.isx, kit_no T.XB_BadText.isC T.XB_BadText.tyC T.SB_NoPlace_BadText T.XB_BadText.self⟩ (allC_cons ⟨T.XM_NoProgram.isx, kit_no T.XB_BadText.isC T.XB_BadText.tyC T.SB_NoProgram_BadText T.XB_BadText.self⟩ (allC_cons ⟨T.XM_NoStep.isx, kit_no T.XB_BadText.isC T.XB_BadText.tyC T.SB_NoStep_BadText T.XB_BadText.self⟩ (allC_cons ⟨T.XM_NothingDone.isx, kit_no T.XB_BadText.isC T.XB_BadText.tyC T.SB_NothingDone_BadText T.XB_BadText.self⟩ (allC_cons ⟨T.XM_OtherSteps.isx, kit_no T.XB_BadText.isC T.XB_BadText.tyC T.SB_OtherSteps_BadText T.XB_BadText.self⟩ (allC_nil)))))))))))
theorem hy_Known (T : Tx K mg w) : ∀ C ∈ ([T.c_Known] : List Addr), ExcC K C ∧ PySem.W.kitOne K (.ref C) (.ref T.c_Known) = some true := allC_cons ⟨T.XM_Known.isx, kit_self⟩ (allC_nil)
theorem hn_Known (T : Tx K mg w) : ∀ C ∈ ([T.c_BadDeed, T.c_BadLayout, T.c_BadLine, T.c_BadPair, T.c_BadText, T.c_NoNumber, T.c_NoPlace, T.c_NoProgram, T.c_NoStep, T.c_NothingDone, T.c_OtherSteps] : List Addr), ExcC K C ∧ PySem.W.kitOne K (.ref C) (.ref T.c_Known) = some false := allC_cons ⟨T.XM_BadDeed.isx, kit_no T.XB_Known.isC T.XB_Known.tyC T.SB_BadDeed_Known T.XB_Known.self⟩ (allC_cons ⟨T.XM_BadLayout.isx, kit_no T.XB_Known.isC T.XB_Known.tyC T.SB_BadLayout_Known T.XB_Known.self⟩ (allC_cons ⟨T.XM_BadLine.isx, kit_no T.XB_Known.isC T.XB_Known.tyC T.SB_BadLine_Known T.XB_Known.self⟩ (allC_cons ⟨T.XM_BadPair.isx, kit_no T.XB_Known.isC T.XB_Known.tyC T.SB_BadPair_Known T.XB_Known.self⟩ (allC_cons ⟨T.XM_BadText.isx, kit_no T.XB_Known.isC T.XB_Known.tyC T.SB_BadText_Known T.XB_Known.self⟩ (allC_cons ⟨T.XM_NoNumber.isx, kit_no T.XB_Known.isC T.XB_Known.tyC T.SB_NoNumber_Known T.XB_Known.self⟩ (allC_cons ⟨T.XM_NoPlace.isx, kit_no T.XB_Known.isC T.XB_Known.tyC T.SB_NoPlace_Known T.XB_Known.self⟩ (allC_cons ⟨T.XM_NoProgram.isx, kit_no T.XB_Known.isC T.XB_Known.tyC T.SB_NoProgram_Known T.XB_Known.self⟩ (allC_cons ⟨T.XM_NoStep.isx, kit_no T.XB_Known.isC T.XB_Known.tyC T.SB_NoStep_Known T.XB_Known.self⟩ (allC_cons ⟨T.XM_NothingDone.isx, kit_no T.XB_Known.isC T.XB_Known.tyC T.SB_NothingDone_Known T.XB_Known.self⟩ (allC_cons ⟨T.XM_OtherSteps.isx, kit_no T.XB_Known.isC T.XB_Known.tyC T.SB_OtherSteps_Known T.XB_Known.self⟩ (allC_nil)))))))))))
theorem hy_NoNumber (T : Tx K mg w) : ∀ C ∈ ([T.c_NoNumber] : List Addr), ExcC K C ∧ PySem.W.kitOne K (.ref C) (.ref T.c_NoNumber) = some true := allC_cons ⟨T.XM_NoNumber.isx, kit_self⟩ (allC_nil)
theorem hn_NoNumber (T : Tx K mg w) : ∀ C ∈ ([T.c_BadDeed, T.c_BadLayout, T.c_BadLine, T.c_BadPair, T.c_BadText, T.c_Known, T.c_NoPlace, T.c_NoProgram, T.c_NoStep, T.c_NothingDone, T.c_OtherSteps] : List Addr), ExcC K C ∧ PySem.W.kitOne K (.ref C) (.ref T.c_NoNumber) = some false := allC_cons ⟨T.XM_BadDeed.isx, kit_no T.XB_NoNumber.isC T.XB_NoNumber.tyC T.SB_BadDeed_NoNumber T.XB_NoNumber.self⟩ (allC_cons ⟨T.XM_BadLayout.isx, kit_no T.XB_NoNumber.isC T.XB_NoNumber.tyC T.SB_BadLayout_NoNumber T.XB_NoNumber.self⟩ (allC_cons ⟨T.XM_BadLine.isx, kit_no T.XB_NoNumber.isC T.XB_NoNumber.tyC T.SB_BadLine_NoNumber T.XB_NoNumber.self⟩ (allC_cons ⟨T.XM_BadPair.isx, kit_no T.XB_NoNumber.isC T.XB_NoNumber.tyC T.SB_BadPair_NoNumber T.XB_NoNumber.self⟩ (allC_cons ⟨T.XM_BadText.isx, kit_no T.XB_NoNumber.isC T.XB_NoNumber.tyC T.SB_BadText_NoNumber T.XB_NoNumber.self⟩ (allC_cons ⟨T.XM_Known.isx, kit_no T.XB_NoNumber.isC T.XB_NoNumber.tyC T.SB_Known_NoNumber T.XB_NoNumber.self⟩ (allC_cons ⟨T.XM_NoPlace.isx, kit_no T.XB_NoNumber.isC T.XB_NoNumber.tyC T.SB_NoPlace_NoNumber T.XB_NoNumber.self⟩ (allC_cons ⟨T.XM_NoProgram.isx, kit_no T.XB_NoNumber.isC T.XB_NoNumber.tyC T.SB_NoProgram_NoNumber T.XB_NoNumber.self⟩ (allC_cons ⟨T.XM_NoStep.isx, kit_no T.XB_NoNumber.isC T.XB_NoNumber.tyC T.SB_NoStep_NoNumber T.XB_NoNumber.self⟩ (allC_cons ⟨T.XM_NothingDone.isx, kit_no T.XB_NoNumber.isC T.XB_NoNumber.tyC T.SB_NothingDone_NoNumber T.XB_NoNumber.self⟩ (allC_cons ⟨T.XM_OtherSteps.isx, kit_no T.XB_NoNumber.isC T.XB_NoNumber.tyC T.SB_OtherSteps_NoNumber T.XB_NoNumber.self⟩ (allC_nil)))))))))))
theorem hy_NoPlace (T : Tx K mg w) : ∀ C ∈ ([T.c_NoPlace] : List Addr), ExcC K C ∧ PySem.W.kitOne K (.ref C) (.ref T.c_NoPlace) = some true := allC_cons ⟨T.XM_NoPlace.isx, kit_self⟩ (allC_nil)
theorem hn_NoPlace (T : Tx K mg w) : ∀ C ∈ ([T.c_BadDeed, T.c_BadLayout, T.c_BadLine, T.c_BadPair, T.c_BadText, T.c_Known, T.c_NoNumber, T.c_NoProgram, T.c_NoStep, T.c_NothingDone, T.c_OtherSteps] : List Addr), ExcC K C ∧ PySem.W.kitOne K (.ref C) (.ref T.c_NoPlace) = some false := allC_cons ⟨T.XM_BadDeed.isx, kit_no T.XB_NoPlace.isC T.XB_NoPlace.tyC T.SB_BadDeed_NoPlace T.XB_NoPlace.self⟩ (allC_cons ⟨T.XM_BadLayout.isx, kit_no T.XB_NoPlace.isC T.XB_NoPlace.tyC T.SB_BadLayout_NoPlace T.XB_NoPlace.self⟩ (allC_cons ⟨T.XM_BadLine.isx, kit_no T.XB_NoPlace.isC T.XB_NoPlace.tyC T.SB_BadLine_NoPlace T.XB_NoPlace.self⟩ (allC_cons ⟨T.XM_BadPair.isx, kit_no T.XB_NoPlace.isC T.XB_NoPlace.tyC T.SB_BadPair_NoPlace T.XB_NoPlace.self⟩ (allC_cons ⟨T.XM_BadText.isx, kit_no T.XB_NoPlace.isC T.XB_NoPlace.tyC T.SB_BadText_NoPlace T.XB_NoPlace.self⟩ (allC_cons ⟨T.XM_Known.isx, kit_no T.XB_NoPlace.isC T.XB_NoPlace.tyC T.SB_Known_NoPlace T.XB_NoPlace.self⟩ (allC_cons ⟨T.XM_NoNumber.isx, kit_no T.XB_NoPlace.isC T.XB_NoPlace.tyC T.SB_NoNumber_NoPlace T.XB_NoPlace.self⟩ (allC_cons ⟨T.XM_NoProgram.isx, kit_no T.XB_NoPlace.isC T.XB_NoPlace.tyC T.SB_NoProgram_NoPlace T.XB_NoPlace.self⟩ (allC_cons ⟨T.XM_NoStep.isx, kit_no T.XB_NoPlace.isC T.XB_NoPlace.tyC T.SB_NoStep_NoPlace T.XB_NoPlace.self⟩ (allC_cons ⟨T.XM_NothingDone.isx, kit_no T.XB_NoPlace.isC T.XB_NoPlace.tyC T.SB_NothingDone_NoPlace T.XB_NoPlace.self⟩ (allC_cons ⟨T.XM_OtherSteps.isx, kit_no T.XB_NoPlace.isC T.XB_NoPlace.tyC T.SB_OtherSteps_NoPlace T.XB_NoPlace.self⟩ (allC_nil)))))))))))
theorem hy_NoProgram (T : Tx K mg w) : ∀ C ∈ ([T.c_NoProgram] : List Addr), ExcC K C ∧ PySem.W.kitOne K (.ref C) (.ref T.c_NoProgram) = some true := allC_cons ⟨T.XM_NoProgram.isx, kit_self⟩ (allC_nil)
theorem hn_NoProgram (T : Tx K mg w) : ∀ C ∈ ([T.c_BadDeed, T.c_BadLayout, T.c_BadLine, T.c_BadPair, T.c_BadText, T.c_Known, T.c_NoNumber, T.c_NoPlace, T.c_NoStep, T.c_NothingDone, T.c_OtherSteps] : List Addr), ExcC K C ∧ PySem.W.kitOne K (.ref C) (.ref T.c_NoProgram) = some false := allC_cons ⟨T.XM_BadDeed.isx, kit_no T.XB_NoProgram.isC T.XB_NoProgram.tyC T.SB_BadDeed_NoProgram T.XB_NoProgram.self⟩ (allC_cons ⟨T.XM_BadLayout.isx, kit_no T.XB_NoProgram.isC T.XB_NoProgram.tyC T.SB_BadLayout_NoProgram T.XB_NoProgram.self⟩ (allC_cons ⟨T.XM_BadLine.isx, kit_no T.XB_NoProgram.isC T.XB_NoProgram.tyC T.SB_BadLine_NoProgram T.XB_NoProgram.self⟩ (allC_cons ⟨T.XM_BadPair.isx, kit_no T.XB_NoProgram.isC T.XB_NoProgram.tyC T.SB_BadPair_NoProgram T.XB_NoProgram.self⟩ (allC_cons ⟨T.XM_BadText.isx, kit_no T.XB_NoProgram.isC T.XB_NoProgram.tyC T.SB_BadText_NoProgram T.XB_NoProgram.self⟩ (allC_cons ⟨T.XM_Known.isx, kit_no T.XB_NoProgram.isC T.XB_NoProgram.tyC T.SB_Known_NoProgram T.XB_NoProgram.self⟩ (allC_cons ⟨T.XM_NoNumber.isx, kit_no T.XB_NoProgram.isC T.XB_NoProgram.tyC T.SB_NoNumber_NoProgram T.XB_NoProgram.self⟩ (allC_cons ⟨T.XM_NoPlace.isx, kit_no T.XB_NoProgram.isC T.XB_NoProgram.tyC T.SB_NoPlace_NoProgram T.XB_NoProgram.self⟩ (allC_cons ⟨T.XM_NoStep.isx, kit_no T.XB_NoProgram.isC T.XB_NoProgram.tyC T.SB_NoStep_NoProgram T.XB_NoProgram.self⟩ (allC_cons ⟨T.XM_NothingDone.isx, kit_no T.XB_NoProgram.isC T.XB_NoProgram.tyC T.SB_NothingDone_NoProgram T.XB_NoProgram.self⟩ (allC_cons ⟨T.XM_OtherSteps.isx, kit_no T.XB_NoProgram.isC T.XB_NoProgram.tyC T.SB_OtherSteps_NoProgram T.XB_NoProgram.self⟩ (allC_nil)))))))))))
theorem hy_NoStep (T : Tx K mg w) : ∀ C ∈ ([T.c_NoStep] : List Addr), ExcC K C ∧ PySem.W.kitOne K (.ref C) (.ref T.c_NoStep) = some true := allC_cons ⟨T.XM_NoStep.isx, kit_self⟩ (allC_nil)
theorem hn_NoStep (T : Tx K mg w) : ∀ C ∈ ([T.c_BadDeed, T.c_BadLayout, T.c_BadLine, T.c_BadPair, T.c_BadText, T.c_Known, T.c_NoNumber, T.c_NoPlace, T.c_NoProgram, T.c_NothingDone, T.c_OtherSteps] : List Addr), ExcC K C ∧ PySem.W.kitOne K (.ref C) (.ref T.c_NoStep) = some false := allC_cons ⟨T.XM_BadDeed.isx, kit_no T.XB_NoStep.isC T.XB_NoStep.tyC T.SB_BadDeed_NoStep T.XB_NoStep.self⟩ (allC_cons ⟨T.XM_BadLayout.isx, kit_no T.XB_NoStep.isC T.XB_NoStep.tyC T.SB_BadLayout_NoStep T.XB_NoStep.self⟩ (allC_cons ⟨T.XM_BadLine.isx, kit_no T.XB_NoStep.isC T.XB_NoStep.tyC T.SB_BadLine_NoStep T.XB_NoStep.self⟩ (allC_cons ⟨T.XM_BadPair.isx, kit_no T.XB_NoStep.isC T.XB_NoStep.tyC T.SB_BadPair_NoStep T.XB_NoStep.self⟩ (allC_cons ⟨T.XM_BadText.isx, kit_no T.XB_NoStep.isC T.XB_NoStep.tyC T.SB_BadText_NoStep T.XB_NoStep.self⟩ (allC_cons ⟨T.XM_Known.isx, kit_no T.XB_NoStep.isC T.XB_NoStep.tyC T.SB_Known_NoStep T.XB_NoStep.self⟩ (allC_cons ⟨T.XM_NoNumber.isx, kit_no T.XB_NoStep.isC T.XB_NoStep.tyC T.SB_NoNumber_NoStep T.XB_NoStep.self⟩ (allC_cons ⟨T.XM_NoPlace.isx, kit_no T.XB_NoStep.isC T.XB_NoStep.tyC T.SB_NoPlace_NoStep T.XB_NoStep.self⟩ (allC_cons ⟨T.XM_NoProgram.isx, kit_no T.XB_NoStep.isC T.XB_NoStep.tyC T.SB_NoProgram_NoStep T.XB_NoStep.self⟩ (allC_cons ⟨T.XM_NothingDone.isx, kit_no T.XB_NoStep.isC T.XB_NoStep.tyC T.SB_NothingDone_NoStep T.XB_NoStep.self⟩ (allC_cons ⟨T.XM_OtherSteps.isx, kit_no T.XB_NoStep.isC T.XB_NoStep.tyC T.SB_OtherSteps_NoStep T.XB_NoStep.self⟩ (allC_nil)))))))))))
theorem hy_NothingDone (T : Tx K mg w) : ∀ C ∈ ([T.c_NothingDone] : List Addr), ExcC K C ∧ PySem.W.kitOne K (.ref C) (.ref T.c_NothingDone) = some true := allC_cons ⟨T.XM_NothingDone.isx, kit_self⟩ (allC_nil)
theorem hn_NothingDone (T : Tx K mg w) : ∀ C ∈ ([T.c_BadDeed, T.c_BadLayout, T.c_BadLine, T.c_BadPair, T.c_BadText, T.c_Known, T.c_NoNumber, T.c_NoPlace, T.c_NoProgram, T.c_NoStep, T.c_OtherSteps] : List Addr), ExcC K C ∧ PySem.W.kitOne K (.ref C) (.ref T.c_NothingDone) = some false := allC_cons ⟨T.XM_BadDeed.isx, kit_no T.XB_NothingDone.isC T.XB_NothingDone.tyC T.SB_BadDeed_NothingDone T.XB_NothingDone.self⟩ (allC_cons ⟨T.XM_BadLayout.isx, kit_no T.XB_NothingDone.isC T.XB_NothingDone.tyC T.SB_BadLayout_NothingDone T.XB_NothingDone.self⟩ (allC_cons ⟨T.XM_BadLine.isx, kit_no T.XB_NothingDone.isC T.XB_NothingDone.tyC T.SB_BadLine_NothingDone T.XB_NothingDone.self⟩ (allC_cons ⟨T.XM_BadPair.isx, kit_no T.XB_NothingDone.isC T.XB_NothingDone.tyC T.SB_BadPair_NothingDone T.XB_NothingDone.self⟩ (allC_cons ⟨T.XM_BadText.isx, kit_no T.XB_NothingDone.isC T.XB_NothingDone.tyC T.SB_BadText_NothingDone T.XB_NothingDone.self⟩ (allC_cons ⟨T.XM_Known.isx, kit_no T.XB_NothingDone.isC T.XB_NothingDone.tyC T.SB_Known_NothingDone T.XB_NothingDone.self⟩ (allC_cons ⟨T.XM_NoNumber.isx, kit_no T.XB_NothingDone.isC T.XB_NothingDone.tyC T.SB_NoNumber_NothingDone T.XB_NothingDone.self⟩ (allC_cons ⟨T.XM_NoPlace.isx, kit_no T.XB_NothingDone.isC T.XB_NothingDone.tyC T.SB_NoPlace_NothingDone T.XB_NothingDone.self⟩ (allC_cons ⟨T.XM_NoProgram.isx, kit_no T.XB_NothingDone.isC T.XB_NothingDone.tyC T.SB_NoProgram_NothingDone T.XB_NothingDone.self⟩ (allC_cons ⟨T.XM_NoStep.isx, kit_no T.XB_NothingDone.isC T.XB_NothingDone.tyC T.SB_NoStep_NothingDone T.XB_NothingDone.self⟩ (allC_cons ⟨T.XM_OtherSteps.isx, kit_no T.XB_NothingDone.isC T.XB_NothingDone.tyC T.SB_OtherSteps_NothingDone T.XB_NothingDone.self⟩ (allC_nil)))))))))))
theorem hy_OtherSteps (T : Tx K mg w) : ∀ C ∈ ([T.c_OtherSteps] : List Addr), ExcC K C ∧ PySem.W.kitOne K (.ref C) (.ref T.c_OtherSteps) = some true := allC_cons ⟨T.XM_OtherSteps.isx, kit_self⟩ (allC_nil)
theorem hn_OtherSteps (T : Tx K mg w) : ∀ C ∈ ([T.c_BadDeed, T.c_BadLayout, T.c_BadLine, T.c_BadPair, T.c_BadText, T.c_Known, T.c_NoNumber, T.c_NoPlace, T.c_NoProgram, T.c_NoStep, T.c_NothingDone] : List Addr), ExcC K C ∧ PySem.W.kitOne K (.ref C) (.ref T.c_OtherSteps) = some false := allC_cons ⟨T.XM_BadDeed.isx, kit_no T.XB_OtherSteps.isC T.XB_OtherSteps.tyC T.SB_BadDeed_OtherSteps T.XB_OtherSteps.self⟩ (allC_cons ⟨T.XM_BadLayout.isx, kit_no T.XB_OtherSteps.isC T.XB_OtherSteps.tyC T.SB_BadLayout_OtherSteps T.XB_OtherSteps.self⟩ (allC_cons ⟨T.XM_BadLine.isx, kit_no T.XB_OtherSteps.isC T.XB_OtherSteps.tyC T.SB_BadLine_OtherSteps T.XB_OtherSteps.self⟩ (allC_cons ⟨T.XM_BadPair.isx, kit_no T.XB_OtherSteps.isC T.XB_OtherSteps.tyC T.SB_BadPair_OtherSteps T.XB_OtherSteps.self⟩ (allC_cons ⟨T.XM_BadText.isx, kit_no T.XB_OtherSteps.isC T.XB_OtherSteps.tyC T.SB_BadText_OtherSteps T.XB_OtherSteps.self⟩ (allC_cons ⟨T.XM_Known.isx, kit_no T.XB_OtherSteps.isC T.XB_OtherSteps.tyC T.SB_Known_OtherSteps T.XB_OtherSteps.self⟩ (allC_cons ⟨T.XM_NoNumber.isx, kit_no T.XB_OtherSteps.isC T.XB_OtherSteps.tyC T.SB_NoNumber_OtherSteps T.XB_OtherSteps.self⟩ (allC_cons ⟨T.XM_NoPlace.isx, kit_no T.XB_OtherSteps.isC T.XB_OtherSteps.tyC T.SB_NoPlace_OtherSteps T.XB_OtherSteps.self⟩ (allC_cons ⟨T.XM_NoProgram.isx, kit_no T.XB_OtherSteps.isC T.XB_OtherSteps.tyC T.SB_NoProgram_OtherSteps T.XB_OtherSteps.self⟩ (allC_cons ⟨T.XM_NoStep.isx, kit_no T.XB_OtherSteps.isC T.XB_OtherSteps.tyC T.SB_NoStep_OtherSteps T.XB_OtherSteps.self⟩ (allC_cons ⟨T.XM_NothingDone.isx, kit_no T.XB_OtherSteps.isC T.XB_OtherSteps.tyC T.SB_NothingDone_OtherSteps T.XB_OtherSteps.self⟩ (allC_nil)))))))))))
theorem hy_SeatError (T : Tx K mg w) : ∀ C ∈ ([T.c_BadDeed, T.c_BadLayout, T.c_BadLine, T.c_BadPair, T.c_BadText, T.c_Known, T.c_NoNumber, T.c_NoPlace, T.c_NoProgram, T.c_NoStep, T.c_NothingDone, T.c_OtherSteps] : List Addr), ExcC K C ∧ PySem.W.kitOne K (.ref C) (.ref T.c_SeatError) = some true := allC_cons ⟨T.XM_BadDeed.isx, kit_sub T.XB_SeatError.isC T.XB_SeatError.tyC T.SB_BadDeed_SeatError⟩ (allC_cons ⟨T.XM_BadLayout.isx, kit_sub T.XB_SeatError.isC T.XB_SeatError.tyC T.SB_BadLayout_SeatError⟩ (allC_cons ⟨T.XM_BadLine.isx, kit_sub T.XB_SeatError.isC T.XB_SeatError.tyC T.SB_BadLine_SeatError⟩ (allC_cons ⟨T.XM_BadPair.isx, kit_sub T.XB_SeatError.isC T.XB_SeatError.tyC T.SB_BadPair_SeatError⟩ (allC_cons ⟨T.XM_BadText.isx, kit_sub T.XB_SeatError.isC T.XB_SeatError.tyC T.SB_BadText_SeatError⟩ (allC_cons ⟨T.XM_Known.isx, kit_sub T.XB_SeatError.isC T.XB_SeatError.tyC T.SB_Known_SeatError⟩ (allC_cons ⟨T.XM_NoNumber.isx, kit_sub T.XB_SeatError.isC T.XB_SeatError.tyC T.SB_NoNumber_SeatError⟩ (allC_cons ⟨T.XM_NoPlace.isx, kit_sub T.XB_SeatError.isC T.XB_SeatError.tyC T.SB_NoPlace_SeatError⟩ (allC_cons ⟨T.XM_NoProgram.isx, kit_sub T.XB_SeatError.isC T.XB_SeatError.tyC T.SB_NoProgram_SeatError⟩ (allC_cons ⟨T.XM_NoStep.isx, kit_sub T.XB_SeatError.isC T.XB_SeatError.tyC T.SB_NoStep_SeatError⟩ (allC_cons ⟨T.XM_NothingDone.isx, kit_sub T.XB_SeatError.isC T.XB_SeatError.tyC T.SB_NothingDone_SeatError⟩ (allC_cons ⟨T.XM_OtherSteps.isx, kit_sub T.XB_SeatError.isC T.XB_SeatError.tyC T.SB_OtherSteps_SeatError⟩ (allC_nil))))))))))))
theorem hn_SeatError (T : Tx K mg w) : ∀ C ∈ ([] : List Addr), ExcC K C ∧ PySem.W.kitOne K (.ref C) (.ref T.c_SeatError) = some false := allC_nil
theorem hy_ValueError (T : Tx K mg w) : ∀ C ∈ ([T.c_BadDeed, T.c_BadLayout, T.c_BadLine, T.c_BadPair, T.c_BadText, T.c_Known, T.c_NoNumber, T.c_NoPlace, T.c_NoProgram, T.c_NoStep, T.c_NothingDone, T.c_OtherSteps] : List Addr), ExcC K C ∧ PySem.W.kitOne K (.ref C) (.type "ValueError") = some true := allC_cons ⟨T.XM_BadDeed.isx, kit_ty (by rfl) T.VE_BadDeed⟩ (allC_cons ⟨T.XM_BadLayout.isx, kit_ty (by rfl) T.VE_BadLayout⟩ (allC_cons ⟨T.XM_BadLine.isx, kit_ty (by rfl) T.VE_BadLine⟩ (allC_cons ⟨T.XM_BadPair.isx, kit_ty (by rfl) T.VE_BadPair⟩ (allC_cons ⟨T.XM_BadText.isx, kit_ty (by rfl) T.VE_BadText⟩ (allC_cons ⟨T.XM_Known.isx, kit_ty (by rfl) T.VE_Known⟩ (allC_cons ⟨T.XM_NoNumber.isx, kit_ty (by rfl) T.VE_NoNumber⟩ (allC_cons ⟨T.XM_NoPlace.isx, kit_ty (by rfl) T.VE_NoPlace⟩ (allC_cons ⟨T.XM_NoProgram.isx, kit_ty (by rfl) T.VE_NoProgram⟩ (allC_cons ⟨T.XM_NoStep.isx, kit_ty (by rfl) T.VE_NoStep⟩ (allC_cons ⟨T.XM_NothingDone.isx, kit_ty (by rfl) T.VE_NothingDone⟩ (allC_cons ⟨T.XM_OtherSteps.isx, kit_ty (by rfl) T.VE_OtherSteps⟩ (allC_nil))))))))))))
theorem hn_ValueError (T : Tx K mg w) : ∀ C ∈ ([] : List Addr), ExcC K C ∧ PySem.W.kitOne K (.ref C) (.type "ValueError") = some false := allC_nil
def Dist (ad : Ad) : Prop := ([ad.c_BadDeed, ad.c_BadLayout, ad.c_BadLine, ad.c_BadPair, ad.c_BadText, ad.c_Known, ad.c_NoNumber, ad.c_NoPlace, ad.c_NoProgram, ad.c_NoStep, ad.c_NothingDone, ad.c_OtherSteps] : List Addr).Nodup
theorem dist (T : Tx K mg w) : Dist T.ad := by
  have e : ∀ (c : Addr) (cs : List Addr), (∀ d ∈ cs, c ≠ d) → cs.Nodup → (c :: cs).Nodup := fun c cs h n => List.nodup_cons.mpr ⟨fun z => h c z rfl, n⟩
  exact e _ _ (allC_cons (sub_ne T.SB_BadDeed_BadLayout T.XB_BadLayout.self) (allC_cons (sub_ne T.SB_BadDeed_BadLine T.XB_BadLine.self) (allC_cons (sub_ne T.SB_BadDeed_BadPair T.XB_BadPair.self) (allC_cons (sub_ne T.SB_BadDeed_BadText T.XB_BadText.self) (allC_cons (sub_ne T.SB_BadDeed_Known T.XB_Known.self) (allC_cons (sub_ne T.SB_BadDeed_NoNumber T.XB_NoNumber.self) (allC_cons (sub_ne T.SB_BadDeed_NoPlace T.XB_NoPlace.self) (allC_cons (sub_ne T.SB_BadDeed_NoProgram T.XB_NoProgram.self) (allC_cons (sub_ne T.SB_BadDeed_NoStep T.XB_NoStep.self) (allC_cons (sub_ne T.SB_BadDeed_NothingDone T.XB_NothingDone.self) (allC_cons (sub_ne T.SB_BadDeed_OtherSteps T.XB_OtherSteps.self) (allC_nil)))))))))))) (e _ _ (allC_cons (sub_ne T.SB_BadLayout_BadLine T.XB_BadLine.self) (allC_cons (sub_ne T.SB_BadLayout_BadPair T.XB_BadPair.self) (allC_cons (sub_ne T.SB_BadLayout_BadText T.XB_BadText.self) (allC_cons (sub_ne T.SB_BadLayout_Known T.XB_Known.self) (allC_cons (sub_ne T.SB_BadLayout_NoNumber T.XB_NoNumber.self) (allC_cons (sub_ne T.SB_BadLayout_NoPlace T.XB_NoPlace.self) (allC_cons (sub_ne T.SB_BadLayout_NoProgram T.XB_NoProgram.self) (allC_cons (sub_ne T.SB_BadLayout_NoStep T.XB_NoStep.self) (allC_cons (sub_ne T.SB_BadLayout_NothingDone T.XB_NothingDone.self) (allC_cons (sub_ne T.SB_BadLayout_OtherSteps T.XB_OtherSteps.self) (allC_nil))))))))))) (e _ _ (allC_cons (sub_ne T.SB_BadLine_BadPair T.XB_BadPair.self) (allC_cons (sub_ne T.SB_BadLine_BadText T.XB_BadText.self) (allC_cons (sub_ne T.SB_BadLine_Known T.XB_Known.self) (allC_cons (sub_ne T.SB_BadLine_NoNumber T.XB_NoNumber.self) (allC_cons (sub_ne T.SB_BadLine_NoPlace T.XB_NoPlace.self) (allC_cons (sub_ne T.SB_BadLine_NoProgram T.XB_NoProgram.self) (allC_cons (sub_ne T.SB_BadLine_NoStep T.XB_NoStep.self) (allC_cons (sub_ne T.SB_BadLine_NothingDone T.XB_NothingDone.self) (allC_cons (sub_ne T.SB_BadLine_OtherSteps T.XB_OtherSteps.self) (allC_nil)))))))))) (e _ _ (allC_cons (sub_ne T.SB_BadPair_BadText T.XB_BadText.self) (allC_cons (sub_ne T.SB_BadPair_Known T.XB_Known.self) (allC_cons (sub_ne T.SB_BadPair_NoNumber T.XB_NoNumber.self) (allC_cons (sub_ne T.SB_BadPair_NoPlace T.XB_NoPlace.self) (allC_cons (sub_ne T.SB_BadPair_NoProgram T.XB_NoProgram.self) (allC_cons (sub_ne T.SB_BadPair_NoStep T.XB_NoStep.self) (allC_cons (sub_ne T.SB_BadPair_NothingDone T.XB_NothingDone.self) (allC_cons (sub_ne T.SB_BadPair_OtherSteps T.XB_OtherSteps.self) (allC_nil))))))))) (e _ _ (allC_cons (sub_ne T.SB_BadText_Known T.XB_Known.self) (allC_cons (sub_ne T.SB_BadText_NoNumber T.XB_NoNumber.self) (allC_cons (sub_ne T.SB_BadText_NoPlace T.XB_NoPlace.self) (allC_cons (sub_ne T.SB_BadText_NoProgram T.XB_NoProgram.self) (allC_cons (sub_ne T.SB_BadText_NoStep T.XB_NoStep.self) (allC_cons (sub_ne T.SB_BadText_NothingDone T.XB_NothingDone.self) (allC_cons (sub_ne T.SB_BadText_OtherSteps T.XB_OtherSteps.self) (allC_nil)))))))) (e _ _ (allC_cons (sub_ne T.SB_Known_NoNumber T.XB_NoNumber.self) (allC_cons (sub_ne T.SB_Known_NoPlace T.XB_NoPlace.self) (allC_cons (sub_ne T.SB_Known_NoProgram T.XB_NoProgram.self) (allC_cons (sub_ne T.SB_Known_NoStep T.XB_NoStep.self) (allC_cons (sub_ne T.SB_Known_NothingDone T.XB_NothingDone.self) (allC_cons (sub_ne T.SB_Known_OtherSteps T.XB_OtherSteps.self) (allC_nil))))))) (e _ _ (allC_cons (sub_ne T.SB_NoNumber_NoPlace T.XB_NoPlace.self) (allC_cons (sub_ne T.SB_NoNumber_NoProgram T.XB_NoProgram.self) (allC_cons (sub_ne T.SB_NoNumber_NoStep T.XB_NoStep.self) (allC_cons (sub_ne T.SB_NoNumber_NothingDone T.XB_NothingDone.self) (allC_cons (sub_ne T.SB_NoNumber_OtherSteps T.XB_OtherSteps.self) (allC_nil)))))) (e _ _ (allC_cons (sub_ne T.SB_NoPlace_NoProgram T.XB_NoProgram.self) (allC_cons (sub_ne T.SB_NoPlace_NoStep T.XB_NoStep.self) (allC_cons (sub_ne T.SB_NoPlace_NothingDone T.XB_NothingDone.self) (allC_cons (sub_ne T.SB_NoPlace_OtherSteps T.XB_OtherSteps.self) (allC_nil))))) (e _ _ (allC_cons (sub_ne T.SB_NoProgram_NoStep T.XB_NoStep.self) (allC_cons (sub_ne T.SB_NoProgram_NothingDone T.XB_NothingDone.self) (allC_cons (sub_ne T.SB_NoProgram_OtherSteps T.XB_OtherSteps.self) (allC_nil)))) (e _ _ (allC_cons (sub_ne T.SB_NoStep_NothingDone T.XB_NothingDone.self) (allC_cons (sub_ne T.SB_NoStep_OtherSteps T.XB_OtherSteps.self) (allC_nil))) (e _ _ (allC_cons (sub_ne T.SB_NothingDone_OtherSteps T.XB_OtherSteps.self) (allC_nil)) (e _ _ (allC_nil) (List.nodup_nil))))))))))))
theorem sc_l_box : FnScope N_l_box ["_law_script", "_law_k"] (defScope s_l_box) := ⟨rfl, rfl, rfl, by decide +kernel, rfl, by decide +kernel, by decide +kernel⟩
def b_l_box : M Out :=
  sSeq (sAsg (mIf (mB (mBin dLt (mVar 1) (mCB dLen (mCons (mVar 0) (mNil))))) (mBin dIx (mVar 0) (mVar 1)) (M.ret (.int 0))) (gSet 2)) (
  sRetF (oLst (mCons (mBin dMul (mCB dAbs (mCons (mVar 2) (mNil))) (mCB dInt (mCons (mBin dGe (mCB dAbs (mCons (mVar 2) (mNil))) (mBin dPow (M.ret (.int 10)) (M.ret (.int 18)))) (mNil)))) (mCons (mBin dAdd (mBin dAdd (mBin dMod (mCB dInt (mCons (mVar 2) (mNil))) (M.ret (.int 2305843009213693951))) (mBin dMul (M.ret (.int 39373)) (mVar 1))) (M.ret (.int 91700))) (mCons (M.ret (.int 0)) (mNil))))))
theorem G_l_box (T : Tx K mg w) : FnOk P w K mg base CX0 1 T.a_l_box T.fd_l_box ["_law_script", "_law_k"] (spM0 K N_l_box 2 b_l_box) := by
  refine T.F_l_box.ok sc_l_box (spM_ln0 rfl) (fun cdv A outer s H vs Q E hr h => ?_)
  obtain ⟨γ, O, as, h1, h2, h3, r, g⟩ := h
  have nd := sc_l_box.nd
  exact ⟨_, pss_cons (ps_set (i := 2) nd rfl (by first | exact Or.inl rfl | exact Or.inr rfl) (pe_ifExp (pt_cmpR opLtA (pv 1) (pe_callB call_len (by rfl) T.n_len (by decide +kernel) (pa_cons (pv 0) (pa_nil))) (nomark _)) (pe_ix ix_seq (pv 0) (pv 1) (fun _ _ => rfl)) (pe_int))) (pss_one (ps_ret (pe_lst (pa_cons (pe_op opMulA (pe_callB call_abs (by rfl) T.n_abs (by decide +kernel) (pa_cons (pv 2) (pa_nil))) (pe_callTy callIntA (by rfl) T.n_int (by decide +kernel) (pa_cons (pe_cmpR opGeA (pe_callB call_abs (by rfl) T.n_abs (by decide +kernel) (pa_cons (pv 2) (pa_nil))) (pe_op op_pow (pe_int) (pe_int)) (nomark _)) (pa_nil)))) (pa_cons (pe_op opAddA (pe_op opAddA (pe_op op_modN (pe_callTy callIntA (by rfl) T.n_int (by decide +kernel) (pa_cons (pv 2) (pa_nil))) (pe_int)) (pe_op opMulA (pe_int) (pv 1))) (pe_int)) (pa_cons (pe_int) (pa_nil))))))),
    (sx_seq (sx_asg (ex_if (et_test (ex_op op_ltD (ex_var) (ex_cb len_D (ea_cons (ex_var) (ea_nil))))) (ex_op op_ixD (ex_var) (ex_var)) (ex_int)) gx_name) (sx_retF (ef_lst (ea_cons (ex_op op_mulD (ex_cb abs_D (ea_cons (ex_var) (ea_nil))) (ex_cb int_D (ea_cons (ex_op op_geD (ex_cb abs_D (ea_cons (ex_var) (ea_nil))) (ex_op op_powD (ex_int) (ex_int))) (ea_nil)))) (ea_cons (ex_op op_addD (ex_op op_addD (ex_op op_modD (ex_cb int_D (ea_cons (ex_var) (ea_nil))) (ex_int)) (ex_op op_mulD (ex_int) (ex_var))) (ex_int)) (ea_cons (ex_int) (ea_nil))))))) γ O H _ _ _ r g⟩
theorem sc_l_take : FnScope N_l_take ["_law_box_here", "_law_size_so"] (defScope s_l_take) := ⟨rfl, rfl, rfl, by decide +kernel, rfl, by decide +kernel, by decide +kernel⟩
def b_l_take : M Out :=
  sSeq (sIf (mB (mBin dGt (mBinV dIx (mOwn 0) (vD (M.ret (.int 0)))) (M.ret (.int 0)))) (sSeq (sAsg (mBin dMod (mCB dInt (mCons (mBinV dIx (mOwn 0) (vD (M.ret (.int 0)))) (mNil))) (mVar 1)) (gSet 5)) (
  sSeq (sSet 0 (mBin dDiv (mBinV dIx (mOwn 0) (vD (M.ret (.int 0)))) (mVar 1)) (M.ret (.int 0))) (
  sRet (mVar 5)))) (sNx)) (
  sSeq (sSet 0 (mBin dAdd (mBinV dIx (mOwn 0) (vD (M.ret (.int 2)))) (M.ret (.int 1))) (M.ret (.int 2))) (
  sSeq (sAsg (mBin dMod (mCB dInt (mCons (mBin dMul (mBin dAdd (mBinV dIx (mOwn 0) (vD (M.ret (.int 1)))) (mBin dMul (M.ret (.int 48271)) (mBinV dIx (mOwn 0) (vD (M.ret (.int 2)))))) (mBin dAdd (M.ret (.int 39373)) (mBinV dIx (mOwn 0) (vD (M.ret (.int 2)))))) (mNil))) (M.ret (.int 2147483647))) (gSet 2)) (
  sSeq (sAsg (mBin dAdd (mBin dMod (mCB dInt (mCons (mVar 2) (mNil))) (M.ret (.int 40009))) (M.ret (.int 7))) (gSet 3)) (
  sSeq (sAsg (mBin dMod (mCB dInt (mCons (mBin dMul (mBin dAdd (mBin dAdd (mVar 2) (mBinV dIx (mOwn 0) (vD (M.ret (.int 2))))) (mBin dDiv (mBinV dIx (mOwn 0) (vD (M.ret (.int 1)))) (M.ret (.int 1000003)))) (mVar 3)) (mNil))) (M.ret (.int 2147483629))) (gSet 4)) (
  sRet (mBin dMod (mCB dInt (mCons (mBin dDiv (mBin dMod (mCB dInt (mCons (mBin dAdd (mBin dMul (mVar 4) (M.ret (.int 48271))) (mVar 2)) (mNil))) (M.ret (.int 2147483587))) (M.ret (.int 64))) (mNil))) (mVar 1)))))))
theorem G_l_take (T : Tx K mg w) : FnOk P w K mg base CX0 1 T.a_l_take T.fd_l_take ["_law_box_here", "_law_size_so"] (spM0 K N_l_take 2 b_l_take) := by
  refine T.F_l_take.ok sc_l_take (spM_ln0 rfl) (fun cdv A outer s H vs Q E hr h => ?_)
  obtain ⟨γ, O, as, h1, h2, h3, r, g⟩ := h
  have nd := sc_l_take.nd
  exact ⟨_, pss_cons (ps_if (pt_cmpR opGtA (pe_ix ix_seq (pv 0) (pe_int) (fun _ _ => rfl)) (pe_int) (nomark _)) (pss_cons (ps_set (i := 5) nd rfl (by first | exact Or.inl rfl | exact Or.inr rfl) (pe_op op_modN (pe_callTy callIntA (by rfl) T.n_int (by decide +kernel) (pa_cons (pe_ix ix_seq (pv 0) (pe_int) (fun _ _ => rfl)) (pa_nil))) (pv 1))) (pss_cons (ps_asg (pe_op op_fdivN (pe_ix ix_seq (pv 0) (pe_int) (fun _ _ => rfl)) (pv 1)) (pg_sub (pv 0) (pe_int) set_list)) (pss_one (ps_ret (pv 5))))) (pss_nil)) (pss_cons (ps_asg (pe_op opAddA (pe_ix ix_seq (pv 0) (pe_int) (fun _ _ => rfl)) (pe_int)) (pg_sub (pv 0) (pe_int) set_list)) (pss_cons (ps_set (i := 2) nd rfl (by first | exact Or.inl rfl | exact Or.inr rfl) (pe_op op_modN (pe_callTy callIntA (by rfl) T.n_int (by decide +kernel) (pa_cons (pe_op opMulA (pe_op opAddA (pe_ix ix_seq (pv 0) (pe_int) (fun _ _ => rfl)) (pe_op opMulA (pe_int) (pe_ix ix_seq (pv 0) (pe_int) (fun _ _ => rfl)))) (pe_op opAddA (pe_int) (pe_ix ix_seq (pv 0) (pe_int) (fun _ _ => rfl)))) (pa_nil))) (pe_int))) (pss_cons (ps_set (i := 3) nd rfl (by first | exact Or.inl rfl | exact Or.inr rfl) (pe_op opAddA (pe_op op_modN (pe_callTy callIntA (by rfl) T.n_int (by decide +kernel) (pa_cons (pv 2) (pa_nil))) (pe_int)) (pe_int))) (pss_cons (ps_set (i := 4) nd rfl (by first | exact Or.inl rfl | exact Or.inr rfl) (pe_op op_modN (pe_callTy callIntA (by rfl) T.n_int (by decide +kernel) (pa_cons (pe_op opMulA (pe_op opAddA (pe_op opAddA (pv 2) (pe_ix ix_seq (pv 0) (pe_int) (fun _ _ => rfl))) (pe_op op_fdivN (pe_ix ix_seq (pv 0) (pe_int) (fun _ _ => rfl)) (pe_int))) (pv 3)) (pa_nil))) (pe_int))) (pss_one (ps_ret (pe_op op_modN (pe_callTy callIntA (by rfl) T.n_int (by decide +kernel) (pa_cons (pe_op op_fdivN (pe_op op_modN (pe_callTy callIntA (by rfl) T.n_int (by decide +kernel) (pa_cons (pe_op opAddA (pe_op opMulA (pv 4) (pe_int)) (pv 2)) (pa_nil))) (pe_int)) (pe_int)) (pa_nil))) (pv 1)))))))),
    (sx_seq (sx_if (et_test (ex_op op_gtD (ex_opV op_ixD (ev_own) (J.v (ex_int))) (ex_int))) (sx_seq (sx_asg (ex_op op_modD (ex_cb int_D (ea_cons (ex_opV op_ixD (ev_own) (J.v (ex_int))) (ea_nil))) (ex_var)) gx_name) (sx_seq (sx_set (ex_op op_divD (ex_opV op_ixD (ev_own) (J.v (ex_int))) (ex_var)) (ex_int)) (sx_ret (ex_var)))) (sx_next)) (sx_seq (sx_set (ex_op op_addD (ex_opV op_ixD (ev_own) (J.v (ex_int))) (ex_int)) (ex_int)) (sx_seq (sx_asg (ex_op op_modD (ex_cb int_D (ea_cons (ex_op op_mulD (ex_op op_addD (ex_opV op_ixD (ev_own) (J.v (ex_int))) (ex_op op_mulD (ex_int) (ex_opV op_ixD (ev_own) (J.v (ex_int))))) (ex_op op_addD (ex_int) (ex_opV op_ixD (ev_own) (J.v (ex_int))))) (ea_nil))) (ex_int)) gx_name) (sx_seq (sx_asg (ex_op op_addD (ex_op op_modD (ex_cb int_D (ea_cons (ex_var) (ea_nil))) (ex_int)) (ex_int)) gx_name) (sx_seq (sx_asg (ex_op op_modD (ex_cb int_D (ea_cons (ex_op op_mulD (ex_op op_addD (ex_op op_addD (ex_var) (ex_opV op_ixD (ev_own) (J.v (ex_int)))) (ex_op op_divD (ex_opV op_ixD (ev_own) (J.v (ex_int))) (ex_int))) (ex_var)) (ea_nil))) (ex_int)) gx_name) (sx_ret (ex_op op_modD (ex_cb int_D (ea_cons (ex_op op_divD (ex_op op_modD (ex_cb int_D (ea_cons (ex_op op_addD (ex_op op_mulD (ex_var) (ex_int)) (ex_var)) (ea_nil))) (ex_int)) (ex_int)) (ea_nil))) (ex_var)))))))) γ O H _ _ _ r g⟩
theorem sc_l_cells : FnScope N_l_cells ["_law_script", "_law_top_so"] (defScope s_l_cells) := ⟨rfl, rfl, rfl, by decide +kernel, rfl, by decide +kernel, by decide +kernel⟩
def b_l_cells : M Out :=
  sSeq (sOwn 2 (oOr (oCB dList (mCons (mSl (vD (mVar 0)) (oNone) (oSome (mVar 1))) (mNil))) (oLst (mCons (M.ret (.int 0)) (mNil))))) (
  sSeq (sFor (wEnum (mCons (mSl (vD (mVar 0)) (oSome (mVar 1)) (oSome (M.ret (.int 63)))) (mNil))) (gTupD 2 (gsCons (gSet 3) (gsCons (gSet 4) (gsNil)))) (sSeq (sAsg (mBin dMod (mCB dInt (mCons (mVar 3) (mNil))) (mVar 1)) (gSet 5)) (
  sSet 2 (mBin dAdd (mBinV dIx (mOwn 2) (vD (mVar 5))) (mBin dMul (mVar 4) (mBin dAdd (mVar 3) (M.ret (.int 2))))) (mVar 5)))) (
  sRetO 2))
theorem G_l_cells (T : Tx K mg w) : FnOk P w K mg base CX0 1 T.a_l_cells T.fd_l_cells ["_law_script", "_law_top_so"] (spM0 K N_l_cells 2 b_l_cells) := by
  refine T.F_l_cells.ok sc_l_cells (spM_ln0 rfl) (fun cdv A outer s H vs Q E hr h => ?_)
  obtain ⟨γ, O, as, h1, h2, h3, r, g⟩ := h
  have nd := sc_l_cells.nd
  exact ⟨_, pss_cons (ps_set (i := 2) nd rfl (by first | exact Or.inl rfl | exact Or.inr rfl) (pe_orT (pe_callTy call_list_of (by rfl) T.n_list (by decide +kernel) (pa_cons (pe_slice slAll (pv 0) (po_none) (po_some (pv 1))) (pa_nil))) (pe_one (pe_lst (pa_cons (pe_int) (pa_nil)))))) (pss_cons (ps_for PassesOwn.never rfl (pi_enum (by rfl) T.n_enumerate (pa_cons (pe_slice slAll (pv 0) (po_some (pv 1)) (po_some (pe_int))) (pa_nil))) (pg_tupU (by rfl) (pgs_cons (pg_name (i := 3) nd rfl (by first | exact Or.inl rfl | exact Or.inr rfl)) (pgs_cons (pg_name (i := 4) nd rfl (by first | exact Or.inl rfl | exact Or.inr rfl)) (pgs_nil)))) (pss_cons (ps_set (i := 5) nd rfl (by first | exact Or.inl rfl | exact Or.inr rfl) (pe_op op_modN (pe_callTy callIntA (by rfl) T.n_int (by decide +kernel) (pa_cons (pv 3) (pa_nil))) (pv 1))) (pss_one (ps_asg (pe_op opAddA (pe_ix ix_seq (pv 2) (pv 5) (fun _ _ => rfl)) (pe_op opMulA (pv 4) (pe_op opAddA (pv 3) (pe_int)))) (pg_sub (pv 2) (pv 5) set_list))))) (pss_one (ps_ret (pv 2)))),
    (sx_seq (sx_own (ef_or (ef_cb list_F (ea_cons (ex_sl (J.v (ex_var)) (eo_none) (eo_some (ex_var))) (ea_nil))) (ef_lst (ea_cons (ex_int) (ea_nil))))) (sx_seq (sx_for (jw_enum (ea_cons (ex_sl (J.v (ex_var)) (eo_some (ex_var)) (eo_some (ex_int))) (ea_nil))) (gx_tup (gxs_cons (gx_name) (gxs_cons (gx_name) (gxs_nil)))) (sx_seq (sx_asg (ex_op op_modD (ex_cb int_D (ea_cons (ex_var) (ea_nil))) (ex_var)) gx_name) (sx_set (ex_op op_addD (ex_opV op_ixD (ev_own) (J.v (ex_var))) (ex_op op_mulD (ex_var) (ex_op op_addD (ex_var) (ex_int)))) (ex_var)))) (sx_retO))) γ O H _ _ _ r g⟩
theorem sc_l_of : FnScope N_l_of ["_law_box_here", "_law_goods_so"] (defScope s_l_of) := ⟨rfl, rfl, rfl, by decide +kernel, rfl, by decide +kernel, by decide +kernel⟩
def b_l_of : M Out :=
  sRet (mBin dIx (mVar 1) (mCallI b_l_take 6 2 0 (mCons (mCB dLen (mCons (mVar 1) (mNil))) (mNil))))
theorem G_l_of (T : Tx K mg w) : FnOk P w K mg base CX0 2 T.a_l_of T.fd_l_of ["_law_box_here", "_law_goods_so"] (spM0 K N_l_of 2 b_l_of) := by
  refine T.F_l_of.ok sc_l_of (spM_ln0 rfl) (fun cdv A outer s H vs Q E hr h => ?_)
  obtain ⟨γ, O, as, h1, h2, h3, r, g⟩ := h
  have nd := sc_l_of.nd
  exact ⟨_, pss_one (ps_ret (pe_ix ix_seq (pv 1) (pe_call (G_l_take T) (hr.mono (by decide)) (by rfl) T.m_l_take T.F_l_take.kp T.B_l_take .nil pass0 (pa_cons (pv 0) (pa_cons (pe_callB call_len (by rfl) T.n_len (by decide +kernel) (pa_cons (pv 1) (pa_nil))) (pa_nil)))) (fun _ _ => rfl))),
    (sx_ret (ex_op op_ixD (ex_var) (ex_callI0 (ea_cons (ex_cb len_D (ea_cons (ex_var) (ea_nil))) (ea_nil))))) γ O H _ _ _ r g⟩
theorem sc_l_same : FnScope N_l_same ["_law_got", "_law_due"] (defScope s_l_same) := ⟨rfl, rfl, rfl, by decide +kernel, rfl, by decide +kernel, by decide +kernel⟩
def b_l_same : Nat → M Out
  | 0 => fun _ => .bad
  | n + 1 => sSeq (sIf (mTru (vD (mIs2 "list" "tuple" (vD (mVar 1))))) (sSeq (sIf (mB (mBin dNe (mIs1 "list" (vD (mVar 0))) (mIs1 "list" (vD (mVar 1))))) (sRet (M.ret (.bl false))) (sNx)) (
  sSeq (sIf (mB (mBin dNe (mIs1 "tuple" (vD (mVar 0))) (mIs1 "tuple" (vD (mVar 1))))) (sRet (M.ret (.bl false))) (sNx)) (
  sRet (mAndT (mBin dEq (mCB dLen (mCons (mVar 0) (mNil))) (mCB dLen (mCons (mVar 1) (mNil)))) (mCB dAll (mCons (mF (mLc (wZip (mCons (mVar 0) (mCons (mVar 1) (mNil)))) (gTupD 2 (gsCons (gSet 2) (gsCons (gSet 3) (gsNil)))) (tYesM) (mCall (b_l_same n) 4 2 (mCons (mVar 2) (mCons (mVar 3) (mNil)))) [2, 3])) (mNil))))))) (sNx)) (
  sSeq (sIf (mOr (mB (mBin dIsN (mVar 1) (M.ret .non))) (mTru (vD (mIs2 "bool" "str" (vD (mVar 1)))))) (sRet (mAndT (mBin dEq (mVar 0) (mVar 1)) (mAndT (mBin dEq (mIs1 "bool" (vD (mVar 0))) (mIs1 "bool" (vD (mVar 1)))) (mBin dEq (mBin dIsN (mVar 0) (M.ret .non)) (mBin dIsN (mVar 1) (M.ret .non)))))) (sNx)) (
  sRet (mAndT (mIs1 "int" (vD (mVar 0))) (mAndT (mNotT (vD (mIs1 "bool" (vD (mVar 0))))) (mBin dEq (mVar 0) (mVar 1))))))
theorem G_l_same' (T : Tx K mg w) : ∀ n : Nat, FnOk P w K mg base CX0 (n + 1) T.a_l_same T.fd_l_same ["_law_got", "_law_due"] (spM0 K N_l_same 2 (b_l_same n))
  | 0 => fn_bad rfl
  | n + 1 => by
    have IH := G_l_same' T n
    refine T.F_l_same.ok sc_l_same (spM_ln0 rfl) (fun cdv A outer s H vs Q E hr h => ?_)
    obtain ⟨γ, O, as, h1, h2, h3, r, g⟩ := h
    have nd := sc_l_same.nd
    exact ⟨_, pss_cons (ps_if (pt_truth (pe_callB call_isiT (by rfl) T.n_isinstance (by decide +kernel) (pa_cons (pv 1) (pa_cons (pe_tup (pa_cons (pe_bltn (v := .ty "list") (u := .type "list") (by rfl) T.n_list (by decide +kernel) rfl) (pa_cons (pe_bltn (v := .ty "tuple") (u := .type "tuple") (by rfl) T.n_tuple (by decide +kernel) rfl) pa_nil))) pa_nil))) (by intro _; rfl)) (pss_cons (ps_if (pt_cmpR (op_neD hr.units) (pe_callB call_isi (by rfl) T.n_isinstance (by decide +kernel) (pa_cons (pv 0) (pa_cons (pe_bltn (v := .ty "list") (u := .type "list") (by rfl) T.n_list (by decide +kernel) rfl) pa_nil))) (pe_callB call_isi (by rfl) T.n_isinstance (by decide +kernel) (pa_cons (pv 1) (pa_cons (pe_bltn (v := .ty "list") (u := .type "list") (by rfl) T.n_list (by decide +kernel) rfl) pa_nil))) (nomark _)) (pss_one (ps_ret (pe_bl))) (pss_nil)) (pss_cons (ps_if (pt_cmpR (op_neD hr.units) (pe_callB call_isi (by rfl) T.n_isinstance (by decide +kernel) (pa_cons (pv 0) (pa_cons (pe_bltn (v := .ty "tuple") (u := .type "tuple") (by rfl) T.n_tuple (by decide +kernel) rfl) pa_nil))) (pe_callB call_isi (by rfl) T.n_isinstance (by decide +kernel) (pa_cons (pv 1) (pa_cons (pe_bltn (v := .ty "tuple") (u := .type "tuple") (by rfl) T.n_tuple (by decide +kernel) rfl) pa_nil))) (nomark _)) (pss_one (ps_ret (pe_bl))) (pss_nil)) (pss_one (ps_ret (pe_andT (pe_cmpR (op_eqD hr.units) (pe_callB call_len (by rfl) T.n_len (by decide +kernel) (pa_cons (pv 0) (pa_nil))) (pe_callB call_len (by rfl) T.n_len (by decide +kernel) (pa_cons (pv 1) (pa_nil))) (nomark _)) (pe_one (pe_callB (cr_all rfl) (by rfl) T.n_all (by decide +kernel) (pa_cons (pe_lc (own := [("_law_mine", 2), ("_law_its", 3)]) rfl nd (RZ.pi_zipA (by rfl) T.n_zip (pa_cons (pv 0) (pa_cons (pv 1) (pa_nil)))) (blkOk_by (N := N_l_same) (sc := (defScope s_l_same)) (by decide +kernel)) (fun _ _ _ _ _ => pg_tupU (by rfl) (pgs_cons (pg_name (i := 2) nd rfl (by first | exact Or.inl rfl | exact Or.inr rfl)) (pgs_cons (pg_name (i := 3) nd rfl (by first | exact Or.inl rfl | exact Or.inr rfl)) (pgs_nil)))) (fun _ _ _ _ _ => pts_nil) (fun _ _ _ _ _ => pe_call IH hr (by rfl) T.m_l_same T.F_l_same.kp T.B_l_same .nil pass0 (pa_cons (pv 2) (pa_cons (pv 3) (pa_nil))))) (pa_nil))))))))) (pss_nil)) (pss_cons (ps_if (PW.pt (pw_or (pt_cmpR op_isN (pv 1) (pe_non) (nomark _)) (pw_or1 (pt_truth (pe_callB call_isiT (by rfl) T.n_isinstance (by decide +kernel) (pa_cons (pv 1) (pa_cons (pe_tup (pa_cons (pe_bltn (v := .ty "bool") (u := .type "bool") (by rfl) T.n_bool (by decide +kernel) rfl) (pa_cons (pe_bltn (v := .ty "str") (u := .type "str") (by rfl) T.n_str (by decide +kernel) rfl) pa_nil))) pa_nil))) (by intro _; rfl))))) (pss_one (ps_ret (pe_andT (pe_cmpR (op_eqD hr.units) (pv 0) (pv 1) (nomark _)) (pe_andT (pe_cmpR (op_eqD hr.units) (pe_callB call_isi (by rfl) T.n_isinstance (by decide +kernel) (pa_cons (pv 0) (pa_cons (pe_bltn (v := .ty "bool") (u := .type "bool") (by rfl) T.n_bool (by decide +kernel) rfl) pa_nil))) (pe_callB call_isi (by rfl) T.n_isinstance (by decide +kernel) (pa_cons (pv 1) (pa_cons (pe_bltn (v := .ty "bool") (u := .type "bool") (by rfl) T.n_bool (by decide +kernel) rfl) pa_nil))) (nomark _)) (pe_one (pe_cmpR (op_eqD hr.units) (pe_cmpR op_isN (pv 0) (pe_non) (nomark _)) (pe_cmpR op_isN (pv 1) (pe_non) (nomark _)) (nomark _))))))) (pss_nil)) (pss_one (ps_ret (pe_andT (pe_callB call_isi (by rfl) T.n_isinstance (by decide +kernel) (pa_cons (pv 0) (pa_cons (pe_bltn (v := .ty "int") (u := .type "int") (by rfl) T.n_int (by decide +kernel) rfl) pa_nil))) (pe_andT (pe_notT (pe_callB call_isi (by rfl) T.n_isinstance (by decide +kernel) (pa_cons (pv 0) (pa_cons (pe_bltn (v := .ty "bool") (u := .type "bool") (by rfl) T.n_bool (by decide +kernel) rfl) pa_nil)))) (pe_one (pe_cmpR (op_eqD hr.units) (pv 0) (pv 1) (nomark _)))))))),
      (sx_seq (sx_if (et_tru (J.v (ex_is2 (J.v (ex_var))))) (sx_seq (sx_if (et_test (ex_op op_neD' (ex_is1 (J.v (ex_var))) (ex_is1 (J.v (ex_var))))) (sx_ret (ex_bl)) (sx_next)) (sx_seq (sx_if (et_test (ex_op op_neD' (ex_is1 (J.v (ex_var))) (ex_is1 (J.v (ex_var))))) (sx_ret (ex_bl)) (sx_next)) (sx_ret (ex_andT (ex_op op_eqD' (ex_cb len_D (ea_cons (ex_var) (ea_nil))) (ex_cb len_D (ea_cons (ex_var) (ea_nil)))) (ex_cb all_D (ea_cons ((ef_lc (jw_zip (ea_cons (ex_var) (ea_cons (ex_var) (ea_nil)))) (gx_tup (gxs_cons (gx_name) (gxs_cons (gx_name) (gxs_nil)))) (by decide) (et_yes) (ex_call0 (ea_cons (ex_var) (ea_cons (ex_var) (ea_nil))))).x) (ea_nil))))))) (sx_next)) (sx_seq (sx_if (et_or (et_test (ex_op op_isND (ex_var) (ex_non))) (et_tru (J.v (ex_is2 (J.v (ex_var)))))) (sx_ret (ex_andT (ex_op op_eqD' (ex_var) (ex_var)) (ex_andT (ex_op op_eqD' (ex_is1 (J.v (ex_var))) (ex_is1 (J.v (ex_var)))) (ex_op op_eqD' (ex_op op_isND (ex_var) (ex_non)) (ex_op op_isND (ex_var) (ex_non)))))) (sx_next)) (sx_ret (ex_andT (ex_is1 (J.v (ex_var))) (ex_andT (ex_notT (J.v (ex_is1 (J.v (ex_var))))) (ex_op op_eqD' (ex_var) (ex_var))))))) γ O H _ _ _ r g⟩
theorem G_l_same (T : Tx K mg w) : FnOk P w K mg base CX0 9 T.a_l_same T.fd_l_same ["_law_got", "_law_due"] (spM0 K N_l_same 2 (b_l_same 8)) := (G_l_same' T 8)
theorem sc_l_sorts : FnScope N_l_sorts ["_law_caught"] (defScope s_l_sorts) := ⟨rfl, rfl, rfl, by decide +kernel, rfl, by decide +kernel, by decide +kernel⟩
def b_l_sorts (ad : Ad) : M Out :=
  sSeq (sAsg (mLst (mCons (mIsX [ad.c_BadPair] [ad.c_BadDeed, ad.c_BadLayout, ad.c_BadLine, ad.c_BadText, ad.c_Known, ad.c_NoNumber, ad.c_NoPlace, ad.c_NoProgram, ad.c_NoStep, ad.c_NothingDone, ad.c_OtherSteps] (mVar 0)) (mCons (mIsX [ad.c_BadText] [ad.c_BadDeed, ad.c_BadLayout, ad.c_BadLine, ad.c_BadPair, ad.c_Known, ad.c_NoNumber, ad.c_NoPlace, ad.c_NoProgram, ad.c_NoStep, ad.c_NothingDone, ad.c_OtherSteps] (mVar 0)) (mCons (mIsX [ad.c_BadLine] [ad.c_BadDeed, ad.c_BadLayout, ad.c_BadPair, ad.c_BadText, ad.c_Known, ad.c_NoNumber, ad.c_NoPlace, ad.c_NoProgram, ad.c_NoStep, ad.c_NothingDone, ad.c_OtherSteps] (mVar 0)) (mNil))))) (gSet 1)) (
  sSeq (sAsg (mBin dAdd (mVar 1) (mLst (mCons (mIsX [ad.c_NoStep] [ad.c_BadDeed, ad.c_BadLayout, ad.c_BadLine, ad.c_BadPair, ad.c_BadText, ad.c_Known, ad.c_NoNumber, ad.c_NoPlace, ad.c_NoProgram, ad.c_NothingDone, ad.c_OtherSteps] (mVar 0)) (mCons (mIsX [ad.c_OtherSteps] [ad.c_BadDeed, ad.c_BadLayout, ad.c_BadLine, ad.c_BadPair, ad.c_BadText, ad.c_Known, ad.c_NoNumber, ad.c_NoPlace, ad.c_NoProgram, ad.c_NoStep, ad.c_NothingDone] (mVar 0)) (mNil))))) (gSet 1)) (
  sSeq (sAsg (mBin dAdd (mVar 1) (mLst (mCons (mIsX [ad.c_NoPlace] [ad.c_BadDeed, ad.c_BadLayout, ad.c_BadLine, ad.c_BadPair, ad.c_BadText, ad.c_Known, ad.c_NoNumber, ad.c_NoProgram, ad.c_NoStep, ad.c_NothingDone, ad.c_OtherSteps] (mVar 0)) (mNil)))) (gSet 1)) (
  sSeq (sAsg (mBin dAdd (mVar 1) (mLst (mCons (mIsX [ad.c_BadDeed] [ad.c_BadLayout, ad.c_BadLine, ad.c_BadPair, ad.c_BadText, ad.c_Known, ad.c_NoNumber, ad.c_NoPlace, ad.c_NoProgram, ad.c_NoStep, ad.c_NothingDone, ad.c_OtherSteps] (mVar 0)) (mCons (mIsX [ad.c_BadLayout] [ad.c_BadDeed, ad.c_BadLine, ad.c_BadPair, ad.c_BadText, ad.c_Known, ad.c_NoNumber, ad.c_NoPlace, ad.c_NoProgram, ad.c_NoStep, ad.c_NothingDone, ad.c_OtherSteps] (mVar 0)) (mNil))))) (gSet 1)) (
  sSeq (sAsg (mBin dAdd (mVar 1) (mLst (mCons (mIsX [ad.c_NothingDone] [ad.c_BadDeed, ad.c_BadLayout, ad.c_BadLine, ad.c_BadPair, ad.c_BadText, ad.c_Known, ad.c_NoNumber, ad.c_NoPlace, ad.c_NoProgram, ad.c_NoStep, ad.c_OtherSteps] (mVar 0)) (mNil)))) (gSet 1)) (
  sRet (mBin dAdd (mVar 1) (mLst (mCons (mIsX [ad.c_Known] [ad.c_BadDeed, ad.c_BadLayout, ad.c_BadLine, ad.c_BadPair, ad.c_BadText, ad.c_NoNumber, ad.c_NoPlace, ad.c_NoProgram, ad.c_NoStep, ad.c_NothingDone, ad.c_OtherSteps] (mVar 0)) (mCons (mIsX [ad.c_NoProgram] [ad.c_BadDeed, ad.c_BadLayout, ad.c_BadLine, ad.c_BadPair, ad.c_BadText, ad.c_Known, ad.c_NoNumber, ad.c_NoPlace, ad.c_NoStep, ad.c_NothingDone, ad.c_OtherSteps] (mVar 0)) (mCons (mIsX [ad.c_NoNumber] [ad.c_BadDeed, ad.c_BadLayout, ad.c_BadLine, ad.c_BadPair, ad.c_BadText, ad.c_Known, ad.c_NoPlace, ad.c_NoProgram, ad.c_NoStep, ad.c_NothingDone, ad.c_OtherSteps] (mVar 0)) (mNil)))))))))))
theorem G_l_sorts (T : Tx K mg w) : FnOk P w K mg base CX0 2 T.a_l_sorts T.fd_l_sorts ["_law_caught"] (spM0 K N_l_sorts 1 (b_l_sorts T.ad)) := by
  refine T.F_l_sorts.ok sc_l_sorts (spM_ln0 rfl) (fun cdv A outer s H vs Q E hr h => ?_)
  obtain ⟨γ, O, as, h1, h2, h3, r, g⟩ := h
  have nd := sc_l_sorts.nd
  exact ⟨_, pss_cons (ps_set (i := 1) nd rfl (by first | exact Or.inl rfl | exact Or.inr rfl) (pe_lst (pa_cons (pe_callB call_isX (by rfl) T.n_isinstance (by decide +kernel) (pa_cons (pv 0) (pa_cons (pe_glob (v := .ref T.c_BadPair) (by rfl) T.XB_BadPair.gC rfl) pa_nil))) (pa_cons (pe_callB call_isX (by rfl) T.n_isinstance (by decide +kernel) (pa_cons (pv 0) (pa_cons (pe_glob (v := .ref T.c_BadText) (by rfl) T.XB_BadText.gC rfl) pa_nil))) (pa_cons (pe_callB call_isX (by rfl) T.n_isinstance (by decide +kernel) (pa_cons (pv 0) (pa_cons (pe_glob (v := .ref T.c_BadLine) (by rfl) T.XB_BadLine.gC rfl) pa_nil))) (pa_nil)))))) (pss_cons (ps_set (i := 1) nd rfl (by first | exact Or.inl rfl | exact Or.inr rfl) (pe_op opAddA (pv 1) (pe_lst (pa_cons (pe_callB call_isX (by rfl) T.n_isinstance (by decide +kernel) (pa_cons (pv 0) (pa_cons (pe_glob (v := .ref T.c_NoStep) (by rfl) T.XB_NoStep.gC rfl) pa_nil))) (pa_cons (pe_callB call_isX (by rfl) T.n_isinstance (by decide +kernel) (pa_cons (pv 0) (pa_cons (pe_glob (v := .ref T.c_OtherSteps) (by rfl) T.XB_OtherSteps.gC rfl) pa_nil))) (pa_nil)))))) (pss_cons (ps_set (i := 1) nd rfl (by first | exact Or.inl rfl | exact Or.inr rfl) (pe_op opAddA (pv 1) (pe_lst (pa_cons (pe_callB call_isX (by rfl) T.n_isinstance (by decide +kernel) (pa_cons (pv 0) (pa_cons (pe_glob (v := .ref T.c_NoPlace) (by rfl) T.XB_NoPlace.gC rfl) pa_nil))) (pa_nil))))) (pss_cons (ps_set (i := 1) nd rfl (by first | exact Or.inl rfl | exact Or.inr rfl) (pe_op opAddA (pv 1) (pe_lst (pa_cons (pe_callB call_isX (by rfl) T.n_isinstance (by decide +kernel) (pa_cons (pv 0) (pa_cons (pe_glob (v := .ref T.c_BadDeed) (by rfl) T.XB_BadDeed.gC rfl) pa_nil))) (pa_cons (pe_callB call_isX (by rfl) T.n_isinstance (by decide +kernel) (pa_cons (pv 0) (pa_cons (pe_glob (v := .ref T.c_BadLayout) (by rfl) T.XB_BadLayout.gC rfl) pa_nil))) (pa_nil)))))) (pss_cons (ps_set (i := 1) nd rfl (by first | exact Or.inl rfl | exact Or.inr rfl) (pe_op opAddA (pv 1) (pe_lst (pa_cons (pe_callB call_isX (by rfl) T.n_isinstance (by decide +kernel) (pa_cons (pv 0) (pa_cons (pe_glob (v := .ref T.c_NothingDone) (by rfl) T.XB_NothingDone.gC rfl) pa_nil))) (pa_nil))))) (pss_one (ps_ret (pe_op opAddA (pv 1) (pe_lst (pa_cons (pe_callB call_isX (by rfl) T.n_isinstance (by decide +kernel) (pa_cons (pv 0) (pa_cons (pe_glob (v := .ref T.c_Known) (by rfl) T.XB_Known.gC rfl) pa_nil))) (pa_cons (pe_callB call_isX (by rfl) T.n_isinstance (by decide +kernel) (pa_cons (pv 0) (pa_cons (pe_glob (v := .ref T.c_NoProgram) (by rfl) T.XB_NoProgram.gC rfl) pa_nil))) (pa_cons (pe_callB call_isX (by rfl) T.n_isinstance (by decide +kernel) (pa_cons (pv 0) (pa_cons (pe_glob (v := .ref T.c_NoNumber) (by rfl) T.XB_NoNumber.gC rfl) pa_nil))) (pa_nil)))))))))))),
    (sx_seq (sx_asg (ex_lst (ea_cons (ex_isX (c := .ref T.c_BadPair) (cv := .ref T.c_BadPair) (ClsV.own _) (hy_BadPair T) (hn_BadPair T) (ex_var)) (ea_cons (ex_isX (c := .ref T.c_BadText) (cv := .ref T.c_BadText) (ClsV.own _) (hy_BadText T) (hn_BadText T) (ex_var)) (ea_cons (ex_isX (c := .ref T.c_BadLine) (cv := .ref T.c_BadLine) (ClsV.own _) (hy_BadLine T) (hn_BadLine T) (ex_var)) (ea_nil))))) gx_name) (sx_seq (sx_asg (ex_op op_addD (ex_var) (ex_lst (ea_cons (ex_isX (c := .ref T.c_NoStep) (cv := .ref T.c_NoStep) (ClsV.own _) (hy_NoStep T) (hn_NoStep T) (ex_var)) (ea_cons (ex_isX (c := .ref T.c_OtherSteps) (cv := .ref T.c_OtherSteps) (ClsV.own _) (hy_OtherSteps T) (hn_OtherSteps T) (ex_var)) (ea_nil))))) gx_name) (sx_seq (sx_asg (ex_op op_addD (ex_var) (ex_lst (ea_cons (ex_isX (c := .ref T.c_NoPlace) (cv := .ref T.c_NoPlace) (ClsV.own _) (hy_NoPlace T) (hn_NoPlace T) (ex_var)) (ea_nil)))) gx_name) (sx_seq (sx_asg (ex_op op_addD (ex_var) (ex_lst (ea_cons (ex_isX (c := .ref T.c_BadDeed) (cv := .ref T.c_BadDeed) (ClsV.own _) (hy_BadDeed T) (hn_BadDeed T) (ex_var)) (ea_cons (ex_isX (c := .ref T.c_BadLayout) (cv := .ref T.c_BadLayout) (ClsV.own _) (hy_BadLayout T) (hn_BadLayout T) (ex_var)) (ea_nil))))) gx_name) (sx_seq (sx_asg (ex_op op_addD (ex_var) (ex_lst (ea_cons (ex_isX (c := .ref T.c_NothingDone) (cv := .ref T.c_NothingDone) (ClsV.own _) (hy_NothingDone T) (hn_NothingDone T) (ex_var)) (ea_nil)))) gx_name) (sx_ret (ex_op op_addD (ex_var) (ex_lst (ea_cons (ex_isX (c := .ref T.c_Known) (cv := .ref T.c_Known) (ClsV.own _) (hy_Known T) (hn_Known T) (ex_var)) (ea_cons (ex_isX (c := .ref T.c_NoProgram) (cv := .ref T.c_NoProgram) (ClsV.own _) (hy_NoProgram T) (hn_NoProgram T) (ex_var)) (ea_cons (ex_isX (c := .ref T.c_NoNumber) (cv := .ref T.c_NoNumber) (ClsV.own _) (hy_NoNumber T) (hn_NoNumber T) (ex_var)) (ea_nil)))))))))))) γ O H _ _ _ r g⟩
theorem sc_l_right : FnScope N_l_right ["_law_box_here"] (defScope s_l_right) := ⟨rfl, rfl, rfl, by decide +kernel, rfl, by decide +kernel, by decide +kernel⟩
def b_l_right (ad : Ad) : M Out :=
  sSeq (sPar 4 5 (iDat (mBin dSub (mCallI b_l_take 6 2 0 (mCons (mBin dPow (M.ret (.int 10)) (M.ret (.int 9))) (mNil))) (mBin dMul (M.ret (.int 5)) (mBin dPow (M.ret (.int 10)) (M.ret (.int 8))))) (iDat (mCallI b_l_of 2 2 0 (mCons (mLst (mCons (M.ret (.str (PySem.Str.ofString "a"))) (mCons (M.ret (.str (PySem.Str.ofString "ants"))) (mCons (M.ret (.str (PySem.Str.ofString "abcdefgh"))) (mCons (M.ret (.str (PySem.Str.ofString "zz"))) (mNil)))))) (mNil))) (iNil)))) (
  sSeq (sAsg (mLst (mCons (mMkE ad.c_BadPair "place" (mVar 4)) (mCons (mMkE ad.c_BadText "piece" (mVar 4)) (mCons (mMkE ad.c_BadLine "number" (mVar 4)) (mCons (mMkE ad.c_NoStep "name" (mVar 5)) (mNil)))))) (gSet 1)) (
  sSeq (sAsg (mBin dAdd (mVar 1) (mLst (mCons (M.ret (.xc ad.c_OtherSteps [])) (mCons (mMkE ad.c_NoPlace "number" (mVar 4)) (mCons (mMkE ad.c_BadDeed "place" (mVar 4)) (mNil)))))) (gSet 1)) (
  sSeq (sAsg (mBin dAdd (mVar 1) (mLst (mCons (mMkE ad.c_BadLayout "place" (mVar 4)) (mCons (M.ret (.xc ad.c_NothingDone [])) (mCons (mMkE ad.c_Known "name" (mVar 5)) (mCons (mMkE ad.c_NoProgram "name" (mVar 5)) (mCons (mMkE ad.c_NoNumber "number" (mVar 4)) (mNil)))))))) (gSet 1)) (
  sSeq (sFor (wEnum (mCons (mVar 1) (mNil))) (gTupD 2 (gsCons (gSet 6) (gsCons (gSet 7) (gsNil)))) (sSeq (sIf (mNot (mTru (vD (mCall (b_l_same 8) 4 2 (mCons (mCall (b_l_sorts ad) 2 1 (mCons (mVar 7) (mNil))) (mCons (mF (mLc (wRng1 (mCons (M.ret (.int 12)) (mNil))) (gSet 8) (tYesM) (mBin dEq (mVar 8) (mVar 6)) [8])) (mNil))))))) (sRet (M.ret (.bl false))) (sNx)) (
  sIf (mOr (mNot (mTru (vD (mIsX [ad.c_BadDeed, ad.c_BadLayout, ad.c_BadLine, ad.c_BadPair, ad.c_BadText, ad.c_Known, ad.c_NoNumber, ad.c_NoPlace, ad.c_NoProgram, ad.c_NoStep, ad.c_NothingDone, ad.c_OtherSteps] [] (mVar 7))))) (mNot (mTru (vD (mIsX [ad.c_BadDeed, ad.c_BadLayout, ad.c_BadLine, ad.c_BadPair, ad.c_BadText, ad.c_Known, ad.c_NoNumber, ad.c_NoPlace, ad.c_NoProgram, ad.c_NoStep, ad.c_NothingDone, ad.c_OtherSteps] [] (mVar 7)))))) (sRet (M.ret (.bl false))) (sNx)))) (
  sSeq (sAsg (mLst (mCons (mFld [ad.c_BadDeed, ad.c_BadLayout, ad.c_BadPair] "place" (mBin dIx (mVar 1) (M.ret (.int 0)))) (mCons (mFld [ad.c_BadText] "piece" (mBin dIx (mVar 1) (M.ret (.int 1)))) (mCons (mFld [ad.c_BadLine, ad.c_NoNumber, ad.c_NoPlace] "number" (mBin dIx (mVar 1) (M.ret (.int 2)))) (mCons (mFld [ad.c_Known, ad.c_NoProgram, ad.c_NoStep] "name" (mBin dIx (mVar 1) (M.ret (.int 3)))) (mCons (mFld [ad.c_BadLine, ad.c_NoNumber, ad.c_NoPlace] "number" (mBin dIx (mVar 1) (M.ret (.int 5)))) (mNil))))))) (gSet 2)) (
  sSeq (sAsg (mBin dAdd (mVar 2) (mLst (mCons (mFld [ad.c_BadDeed, ad.c_BadLayout, ad.c_BadPair] "place" (mBin dIx (mVar 1) (M.ret (.int 6)))) (mCons (mFld [ad.c_BadDeed, ad.c_BadLayout, ad.c_BadPair] "place" (mBin dIx (mVar 1) (M.ret (.int 7)))) (mCons (mFld [ad.c_Known, ad.c_NoProgram, ad.c_NoStep] "name" (mBin dIx (mVar 1) (M.ret (.int 9)))) (mNil)))))) (gSet 2)) (
  sSeq (sAsg (mBin dAdd (mVar 2) (mLst (mCons (mFld [ad.c_Known, ad.c_NoProgram, ad.c_NoStep] "name" (mBin dIx (mVar 1) (M.ret (.int 10)))) (mCons (mFld [ad.c_BadLine, ad.c_NoNumber, ad.c_NoPlace] "number" (mBin dIx (mVar 1) (M.ret (.int 11)))) (mNil))))) (gSet 2)) (
  sSeq (sAsg (mLst (mCons (mVar 4) (mCons (mVar 4) (mCons (mVar 4) (mCons (mVar 5) (mCons (mVar 4) (mCons (mVar 4) (mCons (mVar 4) (mCons (mVar 5) (mCons (mVar 5) (mCons (mVar 4) (mNil)))))))))))) (gSet 3)) (
  sSeq (sAsg (mBin dAdd (mVar 2) (mLst (mCons (mFld [ad.c_BadDeed, ad.c_BadLayout, ad.c_BadPair] "place" (mMkE ad.c_BadPair "place" (mVar 4))) (mCons (mFld [ad.c_BadText] "piece" (mMkE ad.c_BadText "piece" (M.ret (.int 7)))) (mNil))))) (gSet 2)) (
  sSeq (sAsg (mBin dAdd (mVar 2) (mLst (mCons (mFld [ad.c_BadLine, ad.c_NoNumber, ad.c_NoPlace] "number" (mMkE ad.c_BadLine "number" (mUn dNeg (M.ret (.int 1))))) (mCons (mFld [ad.c_Known, ad.c_NoProgram, ad.c_NoStep] "name" (mMkE ad.c_NoStep "name" (M.ret (.str (PySem.Str.ofString "b"))))) (mNil))))) (gSet 2)) (
  sSeq (sAsg (mBin dAdd (mVar 3) (mLst (mCons (mVar 4) (mCons (M.ret (.int 7)) (mCons (mUn dNeg (M.ret (.int 1))) (mCons (M.ret (.str (PySem.Str.ofString "b"))) (mNil))))))) (gSet 3)) (
  sSeq (sAsg (mBin dAdd (mVar 2) (mLst (mCons (mFld [ad.c_BadLine, ad.c_NoNumber, ad.c_NoPlace] "number" (mMkE ad.c_NoPlace "number" (M.ret (.int 3)))) (mCons (mFld [ad.c_BadDeed, ad.c_BadLayout, ad.c_BadPair] "place" (mMkE ad.c_BadDeed "place" (M.ret (.int 4)))) (mNil))))) (gSet 2)) (
  sSeq (sAsg (mBin dAdd (mVar 2) (mLst (mCons (mFld [ad.c_BadDeed, ad.c_BadLayout, ad.c_BadPair] "place" (mMkE ad.c_BadLayout "place" (M.ret (.int 5)))) (mCons (mFld [ad.c_Known, ad.c_NoProgram, ad.c_NoStep] "name" (mMkE ad.c_Known "name" (mVar 5))) (mNil))))) (gSet 2)) (
  sSeq (sAsg (mBin dAdd (mVar 2) (mLst (mCons (mFld [ad.c_Known, ad.c_NoProgram, ad.c_NoStep] "name" (mMkE ad.c_NoProgram "name" (mVar 5))) (mCons (mFld [ad.c_BadLine, ad.c_NoNumber, ad.c_NoPlace] "number" (mMkE ad.c_NoNumber "number" (mBin dPow (M.ret (.int 10)) (M.ret (.int 30))))) (mNil))))) (gSet 2)) (
  sRet (mCall (b_l_same 8) 4 2 (mCons (mVar 2) (mCons (mBin dAdd (mVar 3) (mLst (mCons (M.ret (.int 3)) (mCons (M.ret (.int 4)) (mCons (M.ret (.int 5)) (mCons (mVar 5) (mCons (mVar 5) (mCons (mBin dPow (M.ret (.int 10)) (M.ret (.int 30))) (mNil))))))))) (mNil)))))))))))))))))))
theorem G_l_right (T : Tx K mg w) : FnOk P w K mg base CX0 10 T.a_l_right T.fd_l_right ["_law_box_here"] (spM0 K N_l_right 1 (b_l_right T.ad)) := by
  refine T.F_l_right.ok sc_l_right (spM_ln0 rfl) (fun cdv A outer s H vs Q E hr h => ?_)
  obtain ⟨γ, O, as, h1, h2, h3, r, g⟩ := h
  have nd := sc_l_right.nd
  exact ⟨_, pss_cons (ps_par (by rfl) nd rfl rfl (by decide) rfl rfl (pa_cons (pe_op opSubA (pe_call (G_l_take T) (hr.mono (by decide)) (by rfl) T.m_l_take T.F_l_take.kp T.B_l_take .nil pass0 (pa_cons (pv 0) (pa_cons (pe_op op_pow (pe_int) (pe_int)) (pa_nil)))) (pe_op opMulA (pe_int) (pe_op op_pow (pe_int) (pe_int)))) (pa_cons (pe_call (G_l_of T) (hr.mono (by decide)) (by rfl) T.m_l_of T.F_l_of.kp T.B_l_of .nil pass0 (pa_cons (pv 0) (pa_cons (pe_lst (pa_cons (pe_str) (pa_cons (pe_str) (pa_cons (pe_str) (pa_cons (pe_str) (pa_nil)))))) (pa_nil)))) (pa_nil))) (by rfl)) (pss_cons (ps_set (i := 1) nd rfl (by first | exact Or.inl rfl | exact Or.inr rfl) (pe_lst (pa_cons (pe_mkV T.XM_BadPair.oex T.XM_BadPair.iC T.XM_BadPair.tI (I_BadPair T) (hr.mono (by decide)) T.XM_BadPair.B pass0 (by rfl) T.XB_BadPair.gC (pa_cons (pv 4) (pa_nil))) (pa_cons (pe_mkV T.XM_BadText.oex T.XM_BadText.iC T.XM_BadText.tI (I_BadText T) (hr.mono (by decide)) T.XM_BadText.B pass0 (by rfl) T.XB_BadText.gC (pa_cons (pv 4) (pa_nil))) (pa_cons (pe_mkV T.XM_BadLine.oex T.XM_BadLine.iC T.XM_BadLine.tI (I_BadLine T) (hr.mono (by decide)) T.XM_BadLine.B pass0 (by rfl) T.XB_BadLine.gC (pa_cons (pv 4) (pa_nil))) (pa_cons (pe_mkV T.XM_NoStep.oex T.XM_NoStep.iC T.XM_NoStep.tI (I_NoStep T) (hr.mono (by decide)) T.XM_NoStep.B pass0 (by rfl) T.XB_NoStep.gC (pa_cons (pv 5) (pa_nil))) (pa_nil))))))) (pss_cons (ps_set (i := 1) nd rfl (by first | exact Or.inl rfl | exact Or.inr rfl) (pe_op opAddA (pv 1) (pe_lst (pa_cons (pe_mkV0 T.XM_OtherSteps.oex T.XM_OtherSteps.iC T.XM_OtherSteps.tI (I_OtherSteps T) (hr.mono (by decide)) T.XM_OtherSteps.B pass0 (by rfl) T.XB_OtherSteps.gC) (pa_cons (pe_mkV T.XM_NoPlace.oex T.XM_NoPlace.iC T.XM_NoPlace.tI (I_NoPlace T) (hr.mono (by decide)) T.XM_NoPlace.B pass0 (by rfl) T.XB_NoPlace.gC (pa_cons (pv 4) (pa_nil))) (pa_cons (pe_mkV T.XM_BadDeed.oex T.XM_BadDeed.iC T.XM_BadDeed.tI (I_BadDeed T) (hr.mono (by decide)) T.XM_BadDeed.B pass0 (by rfl) T.XB_BadDeed.gC (pa_cons (pv 4) (pa_nil))) (pa_nil))))))) (pss_cons (ps_set (i := 1) nd rfl (by first | exact Or.inl rfl | exact Or.inr rfl) (pe_op opAddA (pv 1) (pe_lst (pa_cons (pe_mkV T.XM_BadLayout.oex T.XM_BadLayout.iC T.XM_BadLayout.tI (I_BadLayout T) (hr.mono (by decide)) T.XM_BadLayout.B pass0 (by rfl) T.XB_BadLayout.gC (pa_cons (pv 4) (pa_nil))) (pa_cons (pe_mkV0 T.XM_NothingDone.oex T.XM_NothingDone.iC T.XM_NothingDone.tI (I_NothingDone T) (hr.mono (by decide)) T.XM_NothingDone.B pass0 (by rfl) T.XB_NothingDone.gC) (pa_cons (pe_mkV T.XM_Known.oex T.XM_Known.iC T.XM_Known.tI (I_Known T) (hr.mono (by decide)) T.XM_Known.B pass0 (by rfl) T.XB_Known.gC (pa_cons (pv 5) (pa_nil))) (pa_cons (pe_mkV T.XM_NoProgram.oex T.XM_NoProgram.iC T.XM_NoProgram.tI (I_NoProgram T) (hr.mono (by decide)) T.XM_NoProgram.B pass0 (by rfl) T.XB_NoProgram.gC (pa_cons (pv 5) (pa_nil))) (pa_cons (pe_mkV T.XM_NoNumber.oex T.XM_NoNumber.iC T.XM_NoNumber.tI (I_NoNumber T) (hr.mono (by decide)) T.XM_NoNumber.B pass0 (by rfl) T.XB_NoNumber.gC (pa_cons (pv 4) (pa_nil))) (pa_nil))))))))) (pss_cons (ps_for PassesOwn.never rfl (pi_enum (by rfl) T.n_enumerate (pa_cons (pv 1) (pa_nil))) (pg_tupU (by rfl) (pgs_cons (pg_name (i := 6) nd rfl (by first | exact Or.inl rfl | exact Or.inr rfl)) (pgs_cons (pg_name (i := 7) nd rfl (by first | exact Or.inl rfl | exact Or.inr rfl)) (pgs_nil)))) (pss_cons (ps_if (pt_not (pt_truth (pe_call (G_l_same T) (hr.mono (by decide)) (by rfl) T.m_l_same T.F_l_same.kp T.B_l_same .nil pass0 (pa_cons (pe_call (G_l_sorts T) (hr.mono (by decide)) (by rfl) T.m_l_sorts T.F_l_sorts.kp T.B_l_sorts .nil pass0 (pa_cons (pv 7) (pa_nil))) (pa_cons (pe_lc (own := [("_law_j", 8)]) rfl nd (pi_range1 (by rfl) T.n_range (pa_cons (pe_int) (pa_nil))) (blkOk_by (N := N_l_right) (sc := (defScope s_l_right)) (by decide +kernel)) (fun _ _ _ _ _ => pg_name (i := 8) nd rfl (by first | exact Or.inl rfl | exact Or.inr rfl)) (fun _ _ _ _ _ => pts_nil) (fun _ _ _ _ _ => pe_cmpR (op_eqD hr.units) (pv 8) (pv 6) (nomark _))) (pa_nil)))) (by intro _; rfl))) (pss_one (ps_ret (pe_bl))) (pss_nil)) (pss_one (ps_if (PW.pt (pw_or (pt_not (pt_truth (pe_callB call_isX (by rfl) T.n_isinstance (by decide +kernel) (pa_cons (pv 7) (pa_cons (pe_glob (v := .ref T.c_SeatError) (by rfl) T.XB_SeatError.gC rfl) pa_nil))) (by intro _; rfl))) (pw_or1 (pt_not (pt_truth (pe_callB call_isX (by rfl) T.n_isinstance (by decide +kernel) (pa_cons (pv 7) (pa_cons (pe_bltn (v := .ty "ValueError") (u := .type "ValueError") (by rfl) T.n_ValueError (by decide +kernel) rfl) pa_nil))) (by intro _; rfl)))))) (pss_one (ps_ret (pe_bl))) (pss_nil))))) (pss_cons (ps_set (i := 2) nd rfl (by first | exact Or.inl rfl | exact Or.inr rfl) (pe_lst (pa_cons (pe_fldE (pe_ix ix_seq (pv 1) (pe_int) (fun _ _ => rfl)) (by rfl)) (pa_cons (pe_fldE (pe_ix ix_seq (pv 1) (pe_int) (fun _ _ => rfl)) (by rfl)) (pa_cons (pe_fldE (pe_ix ix_seq (pv 1) (pe_int) (fun _ _ => rfl)) (by rfl)) (pa_cons (pe_fldE (pe_ix ix_seq (pv 1) (pe_int) (fun _ _ => rfl)) (by rfl)) (pa_cons (pe_fldE (pe_ix ix_seq (pv 1) (pe_int) (fun _ _ => rfl)) (by rfl)) (pa_nil)))))))) (pss_cons (ps_set (i := 2) nd rfl (by first | exact Or.inl rfl | exact Or.inr rfl) (pe_op opAddA (pv 2) (pe_lst (pa_cons (pe_fldE (pe_ix ix_seq (pv 1) (pe_int) (fun _ _ => rfl)) (by rfl)) (pa_cons (pe_fldE (pe_ix ix_seq (pv 1) (pe_int) (fun _ _ => rfl)) (by rfl)) (pa_cons (pe_fldE (pe_ix ix_seq (pv 1) (pe_int) (fun _ _ => rfl)) (by rfl)) (pa_nil))))))) (pss_cons (ps_set (i := 2) nd rfl (by first | exact Or.inl rfl | exact Or.inr rfl) (pe_op opAddA (pv 2) (pe_lst (pa_cons (pe_fldE (pe_ix ix_seq (pv 1) (pe_int) (fun _ _ => rfl)) (by rfl)) (pa_cons (pe_fldE (pe_ix ix_seq (pv 1) (pe_int) (fun _ _ => rfl)) (by rfl)) (pa_nil)))))) (pss_cons (ps_set (i := 3) nd rfl (by first | exact Or.inl rfl | exact Or.inr rfl) (pe_lst (pa_cons (pv 4) (pa_cons (pv 4) (pa_cons (pv 4) (pa_cons (pv 5) (pa_cons (pv 4) (pa_cons (pv 4) (pa_cons (pv 4) (pa_cons (pv 5) (pa_cons (pv 5) (pa_cons (pv 4) (pa_nil))))))))))))) (pss_cons (ps_set (i := 2) nd rfl (by first | exact Or.inl rfl | exact Or.inr rfl) (pe_op opAddA (pv 2) (pe_lst (pa_cons (pe_fldE (pe_mkVK T.XM_BadPair.oex T.XM_BadPair.iC T.XM_BadPair.tI (I_BadPair T) (hr.mono (by decide)) (T.XM_BadPair.bk fun _ _ _ _ _ _ _ _ => rfl) pass0 (by rfl) T.XB_BadPair.gC (pv 4)) (by rfl)) (pa_cons (pe_fldE (pe_mkVK T.XM_BadText.oex T.XM_BadText.iC T.XM_BadText.tI (I_BadText T) (hr.mono (by decide)) (T.XM_BadText.bk fun _ _ _ _ _ _ _ _ => rfl) pass0 (by rfl) T.XB_BadText.gC (pe_int)) (by rfl)) (pa_nil)))))) (pss_cons (ps_set (i := 2) nd rfl (by first | exact Or.inl rfl | exact Or.inr rfl) (pe_op opAddA (pv 2) (pe_lst (pa_cons (pe_fldE (pe_mkVK T.XM_BadLine.oex T.XM_BadLine.iC T.XM_BadLine.tI (I_BadLine T) (hr.mono (by decide)) (T.XM_BadLine.bk fun _ _ _ _ _ _ _ _ => rfl) pass0 (by rfl) T.XB_BadLine.gC (pe_un un_neg (pe_int))) (by rfl)) (pa_cons (pe_fldE (pe_mkVK T.XM_NoStep.oex T.XM_NoStep.iC T.XM_NoStep.tI (I_NoStep T) (hr.mono (by decide)) (T.XM_NoStep.bk fun _ _ _ _ _ _ _ _ => rfl) pass0 (by rfl) T.XB_NoStep.gC (pe_str)) (by rfl)) (pa_nil)))))) (pss_cons (ps_set (i := 3) nd rfl (by first | exact Or.inl rfl | exact Or.inr rfl) (pe_op opAddA (pv 3) (pe_lst (pa_cons (pv 4) (pa_cons (pe_int) (pa_cons (pe_un un_neg (pe_int)) (pa_cons (pe_str) (pa_nil)))))))) (pss_cons (ps_set (i := 2) nd rfl (by first | exact Or.inl rfl | exact Or.inr rfl) (pe_op opAddA (pv 2) (pe_lst (pa_cons (pe_fldE (pe_mkVK T.XM_NoPlace.oex T.XM_NoPlace.iC T.XM_NoPlace.tI (I_NoPlace T) (hr.mono (by decide)) (T.XM_NoPlace.bk fun _ _ _ _ _ _ _ _ => rfl) pass0 (by rfl) T.XB_NoPlace.gC (pe_int)) (by rfl)) (pa_cons (pe_fldE (pe_mkVK T.XM_BadDeed.oex T.XM_BadDeed.iC T.XM_BadDeed.tI (I_BadDeed T) (hr.mono (by decide)) (T.XM_BadDeed.bk fun _ _ _ _ _ _ _ _ => rfl) pass0 (by rfl) T.XB_BadDeed.gC (pe_int)) (by rfl)) (pa_nil)))))) (pss_cons (ps_set (i := 2) nd rfl (by first | exact Or.inl rfl | exact Or.inr rfl) (pe_op opAddA (pv 2) (pe_lst (pa_cons (pe_fldE (pe_mkVK T.XM_BadLayout.oex T.XM_BadLayout.iC T.XM_BadLayout.tI (I_BadLayout T) (hr.mono (by decide)) (T.XM_BadLayout.bk fun _ _ _ _ _ _ _ _ => rfl) pass0 (by rfl) T.XB_BadLayout.gC (pe_int)) (by rfl)) (pa_cons (pe_fldE (pe_mkVK T.XM_Known.oex T.XM_Known.iC T.XM_Known.tI (I_Known T) (hr.mono (by decide)) (T.XM_Known.bk fun _ _ _ _ _ _ _ _ => rfl) pass0 (by rfl) T.XB_Known.gC (pv 5)) (by rfl)) (pa_nil)))))) (pss_cons (ps_set (i := 2) nd rfl (by first | exact Or.inl rfl | exact Or.inr rfl) (pe_op opAddA (pv 2) (pe_lst (pa_cons (pe_fldE (pe_mkVK T.XM_NoProgram.oex T.XM_NoProgram.iC T.XM_NoProgram.tI (I_NoProgram T) (hr.mono (by decide)) (T.XM_NoProgram.bk fun _ _ _ _ _ _ _ _ => rfl) pass0 (by rfl) T.XB_NoProgram.gC (pv 5)) (by rfl)) (pa_cons (pe_fldE (pe_mkVK T.XM_NoNumber.oex T.XM_NoNumber.iC T.XM_NoNumber.tI (I_NoNumber T) (hr.mono (by decide)) (T.XM_NoNumber.bk fun _ _ _ _ _ _ _ _ => rfl) pass0 (by rfl) T.XB_NoNumber.gC (pe_op op_pow (pe_int) (pe_int))) (by rfl)) (pa_nil)))))) (pss_one (ps_ret (pe_call (G_l_same T) (hr.mono (by decide)) (by rfl) T.m_l_same T.F_l_same.kp T.B_l_same .nil pass0 (pa_cons (pv 2) (pa_cons (pe_op opAddA (pv 3) (pe_lst (pa_cons (pe_int) (pa_cons (pe_int) (pa_cons (pe_int) (pa_cons (pv 5) (pa_cons (pv 5) (pa_cons (pe_op op_pow (pe_int) (pe_int)) (pa_nil))))))))) (pa_nil)))))))))))))))))))),
    (sx_seq (sx_par (il_dat (ex_op op_subD (ex_callI0 (ea_cons (ex_op op_powD (ex_int) (ex_int)) (ea_nil))) (ex_op op_mulD (ex_int) (ex_op op_powD (ex_int) (ex_int)))) (il_dat (ex_callI0 (ea_cons (ex_lst (ea_cons (ex_str) (ea_cons (ex_str) (ea_cons (ex_str) (ea_cons (ex_str) (ea_nil)))))) (ea_nil))) (il_nil)))) (sx_seq (sx_asg (ex_lst (ea_cons (ex_mkV T.XM_BadPair.oex T.noN_BadPair (ex_var)) (ea_cons (ex_mkV T.XM_BadText.oex T.noN_BadText (ex_var)) (ea_cons (ex_mkV T.XM_BadLine.oex T.noN_BadLine (ex_var)) (ea_cons (ex_mkV T.XM_NoStep.oex T.noN_NoStep (ex_var)) (ea_nil)))))) gx_name) (sx_seq (sx_asg (ex_op op_addD (ex_var) (ex_lst (ea_cons (ex_mkV0) (ea_cons (ex_mkV T.XM_NoPlace.oex T.noN_NoPlace (ex_var)) (ea_cons (ex_mkV T.XM_BadDeed.oex T.noN_BadDeed (ex_var)) (ea_nil)))))) gx_name) (sx_seq (sx_asg (ex_op op_addD (ex_var) (ex_lst (ea_cons (ex_mkV T.XM_BadLayout.oex T.noN_BadLayout (ex_var)) (ea_cons (ex_mkV0) (ea_cons (ex_mkV T.XM_Known.oex T.noN_Known (ex_var)) (ea_cons (ex_mkV T.XM_NoProgram.oex T.noN_NoProgram (ex_var)) (ea_cons (ex_mkV T.XM_NoNumber.oex T.noN_NoNumber (ex_var)) (ea_nil)))))))) gx_name) (sx_seq (sx_for (jw_enum (ea_cons (ex_var) (ea_nil))) (gx_tup (gxs_cons (gx_name) (gxs_cons (gx_name) (gxs_nil)))) (sx_seq (sx_if (et_not (et_tru (J.v (ex_call0 (ea_cons (ex_call0 (ea_cons (ex_var) (ea_nil))) (ea_cons ((ef_lc (jw_rng1 (ea_cons (ex_int) (ea_nil))) (gx_name) (by decide) (et_yes) (ex_op op_eqD' (ex_var) (ex_var))).x) (ea_nil))))))) (sx_ret (ex_bl)) (sx_next)) (sx_if (et_or (et_not (et_tru (J.v (ex_isX (c := .ref T.c_SeatError) (cv := .ref T.c_SeatError) (ClsV.own _) (hy_SeatError T) (hn_SeatError T) (ex_var))))) (et_not (et_tru (J.v (ex_isX (c := .ty "ValueError") (cv := .type "ValueError") (ClsV.ty _) (hy_ValueError T) (hn_ValueError T) (ex_var)))))) (sx_ret (ex_bl)) (sx_next)))) (sx_seq (sx_asg (ex_lst (ea_cons (ex_fldE (allC_cons ⟨T.XM_BadDeed.xf, T.noN_BadDeed⟩ (allC_cons ⟨T.XM_BadLayout.xf, T.noN_BadLayout⟩ (allC_cons ⟨T.XM_BadPair.xf, T.noN_BadPair⟩ (allC_nil)))) (ex_op op_ixD (ex_var) (ex_int))) (ea_cons (ex_fldE (allC_cons ⟨T.XM_BadText.xf, T.noN_BadText⟩ (allC_nil)) (ex_op op_ixD (ex_var) (ex_int))) (ea_cons (ex_fldE (allC_cons ⟨T.XM_BadLine.xf, T.noN_BadLine⟩ (allC_cons ⟨T.XM_NoNumber.xf, T.noN_NoNumber⟩ (allC_cons ⟨T.XM_NoPlace.xf, T.noN_NoPlace⟩ (allC_nil)))) (ex_op op_ixD (ex_var) (ex_int))) (ea_cons (ex_fldE (allC_cons ⟨T.XM_Known.xf, T.noN_Known⟩ (allC_cons ⟨T.XM_NoProgram.xf, T.noN_NoProgram⟩ (allC_cons ⟨T.XM_NoStep.xf, T.noN_NoStep⟩ (allC_nil)))) (ex_op op_ixD (ex_var) (ex_int))) (ea_cons (ex_fldE (allC_cons ⟨T.XM_BadLine.xf, T.noN_BadLine⟩ (allC_cons ⟨T.XM_NoNumber.xf, T.noN_NoNumber⟩ (allC_cons ⟨T.XM_NoPlace.xf, T.noN_NoPlace⟩ (allC_nil)))) (ex_op op_ixD (ex_var) (ex_int))) (ea_nil))))))) gx_name) (sx_seq (sx_asg (ex_op op_addD (ex_var) (ex_lst (ea_cons (ex_fldE (allC_cons ⟨T.XM_BadDeed.xf, T.noN_BadDeed⟩ (allC_cons ⟨T.XM_BadLayout.xf, T.noN_BadLayout⟩ (allC_cons ⟨T.XM_BadPair.xf, T.noN_BadPair⟩ (allC_nil)))) (ex_op op_ixD (ex_var) (ex_int))) (ea_cons (ex_fldE (allC_cons ⟨T.XM_BadDeed.xf, T.noN_BadDeed⟩ (allC_cons ⟨T.XM_BadLayout.xf, T.noN_BadLayout⟩ (allC_cons ⟨T.XM_BadPair.xf, T.noN_BadPair⟩ (allC_nil)))) (ex_op op_ixD (ex_var) (ex_int))) (ea_cons (ex_fldE (allC_cons ⟨T.XM_Known.xf, T.noN_Known⟩ (allC_cons ⟨T.XM_NoProgram.xf, T.noN_NoProgram⟩ (allC_cons ⟨T.XM_NoStep.xf, T.noN_NoStep⟩ (allC_nil)))) (ex_op op_ixD (ex_var) (ex_int))) (ea_nil)))))) gx_name) (sx_seq (sx_asg (ex_op op_addD (ex_var) (ex_lst (ea_cons (ex_fldE (allC_cons ⟨T.XM_Known.xf, T.noN_Known⟩ (allC_cons ⟨T.XM_NoProgram.xf, T.noN_NoProgram⟩ (allC_cons ⟨T.XM_NoStep.xf, T.noN_NoStep⟩ (allC_nil)))) (ex_op op_ixD (ex_var) (ex_int))) (ea_cons (ex_fldE (allC_cons ⟨T.XM_BadLine.xf, T.noN_BadLine⟩ (allC_cons ⟨T.XM_NoNumber.xf, T.noN_NoNumber⟩ (allC_cons ⟨T.XM_NoPlace.xf, T.noN_NoPlace⟩ (allC_nil)))) (ex_op op_ixD (ex_var) (ex_int))) (ea_nil))))) gx_name) (sx_seq (sx_asg (ex_lst (ea_cons (ex_var) (ea_cons (ex_var) (ea_cons (ex_var) (ea_cons (ex_var) (ea_cons (ex_var) (ea_cons (ex_var) (ea_cons (ex_var) (ea_cons (ex_var) (ea_cons (ex_var) (ea_cons (ex_var) (ea_nil)))))))))))) gx_name) (sx_seq (sx_asg (ex_op op_addD (ex_var) (ex_lst (ea_cons (ex_fldE (allC_cons ⟨T.XM_BadDeed.xf, T.noN_BadDeed⟩ (allC_cons ⟨T.XM_BadLayout.xf, T.noN_BadLayout⟩ (allC_cons ⟨T.XM_BadPair.xf, T.noN_BadPair⟩ (allC_nil)))) (ex_mkV T.XM_BadPair.oex T.noN_BadPair (ex_var))) (ea_cons (ex_fldE (allC_cons ⟨T.XM_BadText.xf, T.noN_BadText⟩ (allC_nil)) (ex_mkV T.XM_BadText.oex T.noN_BadText (ex_int))) (ea_nil))))) gx_name) (sx_seq (sx_asg (ex_op op_addD (ex_var) (ex_lst (ea_cons (ex_fldE (allC_cons ⟨T.XM_BadLine.xf, T.noN_BadLine⟩ (allC_cons ⟨T.XM_NoNumber.xf, T.noN_NoNumber⟩ (allC_cons ⟨T.XM_NoPlace.xf, T.noN_NoPlace⟩ (allC_nil)))) (ex_mkV T.XM_BadLine.oex T.noN_BadLine (ex_un un_negD (ex_int)))) (ea_cons (ex_fldE (allC_cons ⟨T.XM_Known.xf, T.noN_Known⟩ (allC_cons ⟨T.XM_NoProgram.xf, T.noN_NoProgram⟩ (allC_cons ⟨T.XM_NoStep.xf, T.noN_NoStep⟩ (allC_nil)))) (ex_mkV T.XM_NoStep.oex T.noN_NoStep (ex_str))) (ea_nil))))) gx_name) (sx_seq (sx_asg (ex_op op_addD (ex_var) (ex_lst (ea_cons (ex_var) (ea_cons (ex_int) (ea_cons (ex_un un_negD (ex_int)) (ea_cons (ex_str) (ea_nil))))))) gx_name) (sx_seq (sx_asg (ex_op op_addD (ex_var) (ex_lst (ea_cons (ex_fldE (allC_cons ⟨T.XM_BadLine.xf, T.noN_BadLine⟩ (allC_cons ⟨T.XM_NoNumber.xf, T.noN_NoNumber⟩ (allC_cons ⟨T.XM_NoPlace.xf, T.noN_NoPlace⟩ (allC_nil)))) (ex_mkV T.XM_NoPlace.oex T.noN_NoPlace (ex_int))) (ea_cons (ex_fldE (allC_cons ⟨T.XM_BadDeed.xf, T.noN_BadDeed⟩ (allC_cons ⟨T.XM_BadLayout.xf, T.noN_BadLayout⟩ (allC_cons ⟨T.XM_BadPair.xf, T.noN_BadPair⟩ (allC_nil)))) (ex_mkV T.XM_BadDeed.oex T.noN_BadDeed (ex_int))) (ea_nil))))) gx_name) (sx_seq (sx_asg (ex_op op_addD (ex_var) (ex_lst (ea_cons (ex_fldE (allC_cons ⟨T.XM_BadDeed.xf, T.noN_BadDeed⟩ (allC_cons ⟨T.XM_BadLayout.xf, T.noN_BadLayout⟩ (allC_cons ⟨T.XM_BadPair.xf, T.noN_BadPair⟩ (allC_nil)))) (ex_mkV T.XM_BadLayout.oex T.noN_BadLayout (ex_int))) (ea_cons (ex_fldE (allC_cons ⟨T.XM_Known.xf, T.noN_Known⟩ (allC_cons ⟨T.XM_NoProgram.xf, T.noN_NoProgram⟩ (allC_cons ⟨T.XM_NoStep.xf, T.noN_NoStep⟩ (allC_nil)))) (ex_mkV T.XM_Known.oex T.noN_Known (ex_var))) (ea_nil))))) gx_name) (sx_seq (sx_asg (ex_op op_addD (ex_var) (ex_lst (ea_cons (ex_fldE (allC_cons ⟨T.XM_Known.xf, T.noN_Known⟩ (allC_cons ⟨T.XM_NoProgram.xf, T.noN_NoProgram⟩ (allC_cons ⟨T.XM_NoStep.xf, T.noN_NoStep⟩ (allC_nil)))) (ex_mkV T.XM_NoProgram.oex T.noN_NoProgram (ex_var))) (ea_cons (ex_fldE (allC_cons ⟨T.XM_BadLine.xf, T.noN_BadLine⟩ (allC_cons ⟨T.XM_NoNumber.xf, T.noN_NoNumber⟩ (allC_cons ⟨T.XM_NoPlace.xf, T.noN_NoPlace⟩ (allC_nil)))) (ex_mkV T.XM_NoNumber.oex T.noN_NoNumber (ex_op op_powD (ex_int) (ex_int)))) (ea_nil))))) gx_name) (sx_ret (ex_call0 (ea_cons (ex_var) (ea_cons (ex_op op_addD (ex_var) (ex_lst (ea_cons (ex_int) (ea_cons (ex_int) (ea_cons (ex_int) (ea_cons (ex_var) (ea_cons (ex_var) (ea_cons (ex_op op_powD (ex_int) (ex_int)) (ea_nil))))))))) (ea_nil)))))))))))))))))))) γ O H _ _ _ r g⟩
theorem sc_law : FnScope N_law ["_law_script"] (defScope s_law) := ⟨rfl, rfl, rfl, by decide +kernel, rfl, by decide +kernel, by decide +kernel⟩
def b_law (ad : Ad) : M Out :=
  sSeq (sAsg (mCall b_l_cells 6 2 (mCons (mVar 0) (mCons (M.ret (.int 3)) (mNil)))) (gSet 1)) (
  sRet (mCB dAll (mCons (mF (mLc (wRng1 (mCons (mCB dLen (mCons (mVar 1) (mNil))) (mNil))) (gSet 2) (tYesM) (mCallF (b_l_right ad) 9 1 (oCall b_l_box 3 2 (mCons (mVar 1) (mCons (mVar 2) (mNil))))) [2])) (mNil))))
theorem G_law (T : Tx K mg w) : FnOk P w K mg base CX0 11 T.a_law T.fd_law ["_law_script"] (spM0 K N_law 1 (b_law T.ad)) := by
  refine T.F_law.ok sc_law (spM_ln0 rfl) (fun cdv A outer s H vs Q E hr h => ?_)
  obtain ⟨γ, O, as, h1, h2, h3, r, g⟩ := h
  have nd := sc_law.nd
  exact ⟨_, pss_cons (ps_set (i := 1) nd rfl (by first | exact Or.inl rfl | exact Or.inr rfl) (pe_call (G_l_cells T) (hr.mono (by decide)) (by rfl) T.m_l_cells T.F_l_cells.kp T.B_l_cells .nil pass0 (pa_cons (pv 0) (pa_cons (pe_int) (pa_nil))))) (pss_one (ps_ret (pe_callB (cr_all rfl) (by rfl) T.n_all (by decide +kernel) (pa_cons (pe_lc (own := [("_law_k", 2)]) rfl nd (pi_range1 (by rfl) T.n_range (pa_cons (pe_callB call_len (by rfl) T.n_len (by decide +kernel) (pa_cons (pv 1) (pa_nil))) (pa_nil))) (blkOk_by (N := N_law) (sc := (defScope s_law)) (by decide +kernel)) (fun _ _ _ _ _ => pg_name (i := 2) nd rfl (by first | exact Or.inl rfl | exact Or.inr rfl)) (fun _ _ _ _ _ => pts_nil) (fun _ _ _ _ _ => pe_call (G_l_right T) (hr.mono (by decide)) (by rfl) T.m_l_right T.F_l_right.kp T.B_l_right .nil pass0 (pa_cons (pe_call (G_l_box T) (hr.mono (by decide)) (by rfl) T.m_l_box T.F_l_box.kp T.B_l_box .nil pass0 (pa_cons (pv 1) (pa_cons (pv 2) (pa_nil)))) pa_nil))) (pa_nil))))),
    (sx_seq (sx_asg (ex_call0 (ea_cons (ex_var) (ea_cons (ex_int) (ea_nil)))) gx_name) (sx_ret (ex_cb all_D (ea_cons ((ef_lc (jw_rng1 (ea_cons (ex_cb len_D (ea_cons (ex_var) (ea_nil))) (ea_nil))) (gx_name) (by decide) (et_yes) (ex_callF0 (ef_call0 (ea_cons (ex_var) (ea_cons (ex_var) (ea_nil)))))).x) (ea_nil))))) γ O H _ _ _ r g⟩
end
end Law

set_option maxRecDepth 100000
set_option maxHeartbeats 1000000
set_option linter.all false
namespace Law
open PySem L2 Mir
theorem take_ok {n : Nat} {k : Int} (hk : 0 < k) (hk2 : k < 1073741824) : Draws b_l_take 6 [.int k] (n + 1) n (fun d => ∃ r, d = .int r ∧ 0 ≤ r ∧ r < k) := fun xs h => by
  obtain ⟨a, b, c, rfl, hc0, hc⟩ := h
  have h2 : k ≠ 0 := by omega
  have h3 : k.natAbs < 1073741824 := by omega
  by_cases ha : 0 < a
  · obtain ⟨q1, q2⟩ := fmod_lo (x := a) hk
    refine ⟨.int (a.fmod k), [.int (a.fdiv k), .int b, .int c], ⟨_, rfl, q1, q2⟩, ⟨_, _, _, rfl, hc0, by omega⟩, ?_⟩
    have h1 : decide (0 < a) = true := decide_eq_true ha
    simp [b_l_take, outI, ioAt, startE, sSeq, sIf, mB, mBinV, mBin, mOwn, mVar, rd, dIx, dGt, M.lift, M.ret, bind, M.andThen, pure, atI, ixN, h1, h2, h3, vD, sAsg, gSet, noIo, sDo, mCB, dInt, mNil, mCons, dMod, dDiv, sSet, ownAt, Mir.putAt, setSame, sRet, sNx]
  · have h1 : decide (0 < a) = false := decide_eq_false ha
    have hs1 : Mir.small64 (39373 + (c + 1)) = true := small_of (by omega) (by omega)
    have hs2 : Mir.small64 48271 = true := by decide
    have e1 : ∀ x : Int, (0 ≤ x.fmod 40009 ∧ x.fmod 40009 < 40009) := fun x => fmod_lo (by decide)
    have hs3 : ∀ x : Int, Mir.small64 (x.fmod 40009 + 7) = true := fun x => small_of (by have := e1 x; omega) (by have := e1 x; omega)
    have ex : ∃ x : Int, outI (b_l_take (startE 6 (.io [.int a, .int b, .int c] :: [.int k].map .d))) = some (.int (x.fmod k), [.int a, .int b, .int (c + 1)]) := by
      simp [b_l_take, outI, ioAt, startE, sSeq, sIf, mB, mBinV, mBin, mOwn, mVar, rd, dIx, dGt, M.lift, M.ret, bind, M.andThen, pure, atI, ixN, h1, h2, h3, vD, sAsg, gSet, noIo, sDo, mCB, dInt, mNil, mCons, dMod, dDiv, dMul, dAdd, sSet, ownAt, Mir.putAt, setSame, sRet, sNx, hs1, hs2, hs3]
      exact ⟨_, rfl⟩
    obtain ⟨x, he⟩ := ex
    obtain ⟨q1, q2⟩ := fmod_lo (x := x) hk
    exact ⟨.int (x.fmod k), _, ⟨_, rfl, q1, q2⟩, ⟨_, _, _, rfl, by omega, by omega⟩, he⟩
end Law

set_option maxRecDepth 100000
set_option maxHeartbeats 1000000
set_option linter.all false
namespace Law
open PySem L2 Mir
theorem k_blx : kitB "list" "tuple" = some false ∧ kitB "tuple" "list" = some false ∧ kitB "list" "list" = some true ∧ kitB "tuple" "tuple" = some true := by decide +kernel
theorem k_bl : kitB "list" "list" = some true ∧ kitB "tuple" "tuple" = some true ∧ kitB "list" "tuple" = some false ∧ kitB "tuple" "list" = some false := by decide +kernel
theorem k_int : kitB "int" "list" = some false ∧ kitB "int" "tuple" = some false ∧ kitB "int" "bool" = some false ∧ kitB "int" "str" = some false ∧ kitB "int" "int" = some true := by decide +kernel
theorem k_str : kitB "str" "list" = some false ∧ kitB "str" "tuple" = some false ∧ kitB "str" "bool" = some false ∧ kitB "str" "str" = some true := by decide +kernel
theorem k_bool : kitB "bool" "list" = some false ∧ kitB "bool" "tuple" = some false ∧ kitB "bool" "bool" = some true ∧ kitB "bool" "str" = some false := by decide +kernel
theorem k_none : kitB "NoneType" "list" = some false ∧ kitB "NoneType" "tuple" = some false ∧ kitB "NoneType" "bool" = some false ∧ kitB "NoneType" "str" = some false := by decide +kernel
theorem same_ok : ∀ (n : Nat) (d : D), plainN n d = true → outD (b_l_same n (startE 4 [.d d, .d d])) = some (.bl true)
  | 0, d, h => by cases h
  | n + 1, d, h => by
    cases d with
    | non =>
      simp [b_l_same, outD, startE, sSeq, sIf, mTru, mIs2, isTy2, tyD, k_none, vD, mVar, rd, M.lift, M.ret, bind, M.andThen, truD, mOr, mB, mBin, dIsN, Mir.isNon, sNx, sRet, mAndT, mIs1, isTy, mNotT, dEq, eqD, toPy, SeqAt.shaped, PyData.canLay0, PyData.depth, PyData.eqv]
    | bl b =>
      simp [b_l_same, outD, startE, sSeq, sIf, mTru, mIs2, isTy2, tyD, k_bool, vD, mVar, rd, M.lift, M.ret, bind, M.andThen, truD, mOr, mB, mBin, dIsN, Mir.isNon, sNx, sRet, mAndT, mIs1, isTy, mNotT, dEq, eqD, toPy, SeqAt.shaped, PyData.canLay0, PyData.depth, PyData.eqv]
    | int i =>
      simp [b_l_same, outD, startE, sSeq, sIf, mTru, mIs2, isTy2, tyD, k_int, vD, mVar, rd, M.lift, M.ret, bind, M.andThen, truD, mOr, mB, mBin, dIsN, Mir.isNon, sNx, sRet, mAndT, mIs1, isTy, mNotT, dEq, eqD, toPy, SeqAt.shaped, PyData.canLay0, PyData.depth, PyData.eqv]
    | str s =>
      have hs : PyData.strOk s = true := h
      simp [hs, b_l_same, outD, startE, sSeq, sIf, mTru, mIs2, isTy2, tyD, k_str, vD, mVar, rd, M.lift, M.ret, bind, M.andThen, truD, mOr, mB, mBin, dIsN, Mir.isNon, sNx, sRet, mAndT, mIs1, isTy, mNotT, dEq, eqD, toPy, SeqAt.shaped, PyData.canLay0, PyData.depth, PyData.eqv]
    | lst xs =>
      have hl : xs.length ≤ 100000 := by
        have := (Bool.and_eq_true _ _ ▸ h : _ ∧ _).1
        exact of_decide_eq_true this
      have ha : ∀ x ∈ xs, plainN n x = true := List.all_eq_true.mp (Bool.and_eq_true _ _ ▸ h : _ ∧ _).2
      have q : mLc (wZip (mCons (mVar 0) (mCons (mVar 1) (mNil)))) (gTupD 2 (gsCons (gSet 2) (gsCons (gSet 3) (gsNil)))) (tYesM) (mCall (b_l_same n) 4 2 (mCons (mVar 2) (mCons (mVar 3) (mNil)))) [2, 3] (startE 4 [.d (.lst xs), .d (.lst xs)]) = .ok ((zipD xs xs).map fun _ => .bl true) (startE 4 [.d (.lst xs), .d (.lst xs)]) := by
        refine lc_map (ds := zipD xs xs) rfl (by rw [zip_self_len]; exact hl) rfl fun d hd => ?_
        obtain ⟨x, hx, rfl⟩ := zip_self hd
        exact ⟨_, _, rfl, call_of rfl rfl (same_ok n x (ha x hx)), rfl⟩
      have qn : xs.length ≤ 9000000000000000000 := by omega
      simp only [startE, List.map, List.length, List.replicate, List.append, List.cons_append, List.nil_append] at q
      simp [b_l_same, outD, startE, mNil_at, mCons_at, wNil_at, wCons_at, mRd1_at, mBin_at, mBinV_at, mCB_at, mCW_at, mTup_at, mLst_at, oLst_at, mNot_at, mAnd_at, mOr_at, mBl_at, mF_at, vD_at, mTru_at, mIs1_at, mIs2_at, mNotT_at, mSl_at, sIf_at, sRet_at, sRetF_at, sExpr_at, sAsg_at, sOwn_at, sFor_at, wAny_at, wRng1_at, wRng2_at, wEnum_at, wZip_at, oCB_at, oCW_at, mUn_at, mFmt_at, aT_at, ret_at, mIf_at, ite_at, mB_at, sSeq_at, lift_at, mAndT_at, mOrT_at, bind_at, mVar_at, mOwn_at, rdv_at, rds_at, rdN_at, rdC_at, sApp_at, mPop_at, appO_at, sSet_at, putO_at, sRetO_at, sNx_at, loopN_at, oOr_at, oSome_at, oNone_at, truD, k_bl, isTy2, isTy, tyD, mVar, rd, sNx, dNe, dEq, eqD, toPy, SeqAt.shaped, PyData.canLay0, PyData.depth, PyData.eqv, dLen, mAndT_at, q, bls_true, dAll]
    | tup xs =>
      have hl : xs.length ≤ 100000 := by
        have := (Bool.and_eq_true _ _ ▸ h : _ ∧ _).1
        exact of_decide_eq_true this
      have ha : ∀ x ∈ xs, plainN n x = true := List.all_eq_true.mp (Bool.and_eq_true _ _ ▸ h : _ ∧ _).2
      have q : mLc (wZip (mCons (mVar 0) (mCons (mVar 1) (mNil)))) (gTupD 2 (gsCons (gSet 2) (gsCons (gSet 3) (gsNil)))) (tYesM) (mCall (b_l_same n) 4 2 (mCons (mVar 2) (mCons (mVar 3) (mNil)))) [2, 3] (startE 4 [.d (.tup xs), .d (.tup xs)]) = .ok ((zipD xs xs).map fun _ => .bl true) (startE 4 [.d (.tup xs), .d (.tup xs)]) := by
        refine lc_map (ds := zipD xs xs) rfl (by rw [zip_self_len]; exact hl) rfl fun d hd => ?_
        obtain ⟨x, hx, rfl⟩ := zip_self hd
        exact ⟨_, _, rfl, call_of rfl rfl (same_ok n x (ha x hx)), rfl⟩
      have qn : xs.length ≤ 9000000000000000000 := by omega
      simp only [startE, List.map, List.length, List.replicate, List.append, List.cons_append, List.nil_append] at q
      simp [b_l_same, outD, startE, mNil_at, mCons_at, wNil_at, wCons_at, mRd1_at, mBin_at, mBinV_at, mCB_at, mCW_at, mTup_at, mLst_at, oLst_at, mNot_at, mAnd_at, mOr_at, mBl_at, mF_at, vD_at, mTru_at, mIs1_at, mIs2_at, mNotT_at, mSl_at, sIf_at, sRet_at, sRetF_at, sExpr_at, sAsg_at, sOwn_at, sFor_at, wAny_at, wRng1_at, wRng2_at, wEnum_at, wZip_at, oCB_at, oCW_at, mUn_at, mFmt_at, aT_at, ret_at, mIf_at, ite_at, mB_at, sSeq_at, lift_at, mAndT_at, mOrT_at, bind_at, mVar_at, mOwn_at, rdv_at, rds_at, rdN_at, rdC_at, sApp_at, mPop_at, appO_at, sSet_at, putO_at, sRetO_at, sNx_at, loopN_at, oOr_at, oSome_at, oNone_at, truD, k_bl, isTy2, isTy, tyD, mVar, rd, sNx, dNe, dEq, eqD, toPy, SeqAt.shaped, PyData.canLay0, PyData.depth, PyData.eqv, dLen, mAndT_at, q, bls_true, dAll]
    | _ => cases h
end Law

set_option maxRecDepth 100000
set_option maxHeartbeats 1000000
set_option linter.all false
namespace Law
open PySem L2 Mir
theorem of_ok {n : Nat} {xs : List D} (h1 : 0 < xs.length) (h2 : xs.length ≤ 100000) : Draws b_l_of 2 [.lst xs] (n + 1) n (fun d => d ∈ xs) := fun l hl => by
  obtain ⟨d, ys, ⟨r, rfl, r1, r2⟩, hb, he⟩ := take_ok (n := n) (k := xs.length) (by omega) (by omega) l hl
  have q : mCallI b_l_take 6 2 0 (mCons (mCB dLen (mCons (mVar 1) mNil)) mNil) [some (Sl.io l), some (.d (.lst xs))] = .ok (.int r) [some (Sl.io ys), some (.d (.lst xs))] := by
    have := callI_of (b := b_l_take) (n := 6) (np := 2) (j := 0) (a := mCons (mCB dLen (mCons (mVar 1) mNil)) mNil) (e := [some (Sl.io l), some (.d (.lst xs))]) rfl rfl rfl rfl he
    exact this
  have hi : r.toNat < xs.length := by omega
  refine ⟨xs[r.toNat], ys, List.getElem_mem hi, hb, ?_⟩
  have hx : dIx (.lst xs) (.int r) = some xs[r.toNat] := by
    unfold dIx
    simp [atI, ixN, r1, r2, hi]
  simp [b_l_of, outI, ioAt, startE, mNil_at, mCons_at, wNil_at, wCons_at, mRd1_at, mBin_at, mBinV_at, mCB_at, mCW_at, mTup_at, mLst_at, oLst_at, mNot_at, mAnd_at, mOr_at, mBl_at, mF_at, vD_at, mTru_at, mIs1_at, mIs2_at, mNotT_at, mSl_at, sIf_at, sRet_at, sRetF_at, sExpr_at, sAsg_at, sOwn_at, sFor_at, wAny_at, wRng1_at, wRng2_at, wEnum_at, wZip_at, oCB_at, oCW_at, mUn_at, mFmt_at, aT_at, ret_at, mIf_at, ite_at, mB_at, sSeq_at, lift_at, mAndT_at, mOrT_at, bind_at, mVar_at, mOwn_at, rdv_at, rds_at, rdN_at, rdC_at, sApp_at, mPop_at, appO_at, sSet_at, putO_at, sRetO_at, sNx_at, loopN_at, oOr_at, oSome_at, oNone_at, q, hx]
end Law

set_option maxRecDepth 100000
set_option maxHeartbeats 1000000
set_option linter.all false
namespace Law
open PySem L2 Mir
def isI (d : D) : Prop := ∃ i, d = .int i
theorem box_ok {xs : List D} {k : Nat} (hx : ∀ d ∈ xs, isI d) (hk : k < xs.length) (hk2 : k < 1000) : ∃ l, outF (b_l_box (startE 3 [.d (.lst xs), .d (.int k)])) = some l ∧ Box 1000000000 l := by
  obtain ⟨i, hi⟩ := hx xs[k] (List.getElem_mem hk)
  have h0 : dIx (.lst xs) (.int k) = some (.int i) := by
    unfold dIx
    simp [atI, ixN, hk, hi]
  have h1 : dLt (.int k) (.int xs.length) = some (.bl true) := by
    unfold dLt
    simp [hk]
  have hs1 : Mir.small64 39373 = true := by decide
  have hs2 : ∀ (p : Prop) [Decidable p], Mir.small64 (if p then 1 else 0) = true := fun p _ => by split <;> decide
  have ex : ∃ a b : Int, outF (b_l_box (startE 3 [.d (.lst xs), .d (.int k)])) = some [.int a, .int b, .int 0] := by
    simp [b_l_box, outF, startE, mNil_at, mCons_at, wNil_at, wCons_at, mRd1_at, mBin_at, mBinV_at, mCB_at, mCW_at, mTup_at, mLst_at, oLst_at, mNot_at, mAnd_at, mOr_at, mBl_at, mF_at, vD_at, mTru_at, mIs1_at, mIs2_at, mNotT_at, mSl_at, sIf_at, sRet_at, sRetF_at, sExpr_at, sAsg_at, sOwn_at, sFor_at, wAny_at, wRng1_at, wRng2_at, wEnum_at, wZip_at, oCB_at, oCW_at, mUn_at, mFmt_at, aT_at, ret_at, mIf_at, ite_at, mB_at, sSeq_at, lift_at, mAndT_at, mOrT_at, bind_at, mVar_at, mOwn_at, rdv_at, rds_at, rdN_at, rdC_at, sApp_at, mPop_at, appO_at, sSet_at, putO_at, sRetO_at, sNx_at, loopN_at, oOr_at, oSome_at, oNone_at, dLen, h0, h1, gSet, noIo, sDo, dAbs, dGe, dPow, dMul, dInt, dMod, dAdd, mLine, hs1, hs2]
  obtain ⟨a, b, he⟩ := ex
  exact ⟨_, he, a, b, 0, rfl, by omega, by omega⟩
abbrev EC (f cs : List D) (a b c : Option D) : Mir.Env := [some (.d (.fz f)), some (.d (.int 3)), some (.ol cs), a.map .d, b.map .d, c.map .d]
def cellG : D → Mir.Env → Option Mir.Env := gTupD 2 (gsCons (gSet 3) (gsCons (gSet 4) (gsNil)))
def cellB : M Out := sSeq (sAsg (mBin dMod (mCB dInt (mCons (mVar 3) (mNil))) (mVar 1)) (gSet 5)) (
  sSet 2 (mBin dAdd (mBinV dIx (mOwn 2) (vD (mVar 5))) (mBin dMul (mVar 4) (mBin dAdd (mVar 3) (M.ret (.int 2))))) (mVar 5))
theorem cell_g {f cs : List D} {a b c : Option D} {x y : D} : cellG (.tup [x, y]) (EC f cs a b c) = some (EC f cs (some x) (some y) c) := by
  cases a <;> cases b <;> rfl
theorem cell_b {f cs : List D} {i : Nat} {v : Int} {c : Option D} (hi : i < 100) (hl : cs.length = 3) (hc : ∀ d ∈ cs, isI d) :
    ∃ cs' c', cellB (EC f cs (some (.int i)) (some (.int v)) c) = .ok .nx (EC f cs' (some (.int i)) (some (.int v)) c') ∧ cs'.length = 3 ∧ ∀ d ∈ cs', isI d := by
  have hm : ∃ j : Nat, (i : Int).fmod 3 = (j : Int) ∧ j < cs.length := by
    obtain ⟨p, q⟩ := fmod_lo (x := (i : Int)) (n := 3) (by omega)
    exact ⟨((i : Int).fmod 3).toNat, by omega, by omega⟩
  obtain ⟨j, hm, hj⟩ := hm
  obtain ⟨w, hw⟩ := hc cs[j] (List.getElem_mem hj)
  have h0 : dIx (.lst cs) (.int (j : Int)) = some (.int w) := by
    unfold dIx
    simp [atI, ixN, hj, hw]
  have hx : ixN cs.length (j : Int) = some j := by
    unfold ixN
    simp [hj]
  have hs : Mir.small64 ((i : Int) + 2) = true := small_of (by omega) (by omega)
  refine ⟨cs.set j (.int (w + v * ((i : Int) + 2))), some (.int (j : Int)), ?_, by simp [hl], fun d hd => ?_⟩
  · cases c <;> simp [cellB, EC, mNil_at, mCons_at, wNil_at, wCons_at, mRd1_at, mBin_at, mBinV_at, mCB_at, mCW_at, mTup_at, mLst_at, oLst_at, mNot_at, mAnd_at, mOr_at, mBl_at, mF_at, vD_at, mTru_at, mIs1_at, mIs2_at, mNotT_at, mSl_at, sIf_at, sRet_at, sRetF_at, sExpr_at, sAsg_at, sOwn_at, sFor_at, wAny_at, wRng1_at, wRng2_at, wEnum_at, wZip_at, oCB_at, oCW_at, mUn_at, mFmt_at, aT_at, ret_at, mIf_at, ite_at, mB_at, sSeq_at, lift_at, mAndT_at, mOrT_at, bind_at, mVar_at, mOwn_at, rdv_at, rds_at, rdN_at, rdC_at, sApp_at, mPop_at, appO_at, sSet_at, putO_at, sRetO_at, sNx_at, loopN_at, oOr_at, oSome_at, oNone_at, dInt, dMod, hm, gSet, noIo, sDo, ownAt, h0, dMul, dAdd, hs, Mir.putAt, hx, setSame]
  · rcases List.mem_or_eq_of_mem_set hd with z | z
    · exact hc d z
    · exact ⟨_, z⟩
theorem cell_loop {f : List D} : ∀ (ds : List D) (n : Nat) (cs : List D) (a b c : Option D), n + ds.length < 100 → cs.length = 3 → (∀ d ∈ cs, isI d) → (∀ d ∈ ds, isI d) →
    ∃ cs' a' b' c', mLoop cellG cellB (pairs n ds) (EC f cs a b c) = .ok .nx (EC f cs' a' b' c') ∧ cs'.length = 3 ∧ ∀ d ∈ cs', isI d
  | [], n, cs, a, b, c, _, h1, h2, _ => ⟨cs, a, b, c, rfl, h1, h2⟩
  | d :: ds, n, cs, a, b, c, hn, h1, h2, h3 => by
    rw [List.length_cons] at hn
    obtain ⟨v, rfl⟩ := h3 d List.mem_cons_self
    obtain ⟨cs1, c1, q1, l1, i1⟩ := cell_b (f := f) (i := n) (v := v) (c := c) (by omega) h1 h2
    obtain ⟨cs2, a2, b2, c2, q2, l2, i2⟩ := cell_loop ds (n + 1) cs1 (some (.int n)) (some (.int v)) c1 (by omega) l1 i1 fun d hd => h3 d (List.mem_cons_of_mem _ hd)
    refine ⟨cs2, a2, b2, c2, ?_, l2, i2⟩
    show mLoop cellG cellB (.tup [.int n, .int v] :: pairs (n + 1) ds) _ = _
    rw [loopC_at cell_g q1]
    exact q2
theorem cells_ok {xs : List D} (hx : ∀ d ∈ xs, isI d) (hl : xs.length ≤ 63) : ∃ cs, outD (b_l_cells (startE 6 [.d (.fz xs), .d (.int 3)])) = some (.lst cs) ∧ cs.length ≤ 3 ∧ 0 < cs.length ∧ ∀ d ∈ cs, isI d := by
  have hc : cutD xs none (some 3) = xs.take 3 := by
    simp [cutD, HT.sIx, List.take_eq_take_iff]
  have hc2 : cutD xs (some 3) (some 63) = xs.drop 3 := by
    simp [cutD, HT.sIx]
    rcases Nat.le_total 3 xs.length with z | z
    · rw [Nat.min_eq_left z, Nat.min_eq_right (by omega : xs.length ≤ 63), List.take_of_length_le (by simp)]
    · rw [Nat.min_eq_right z, List.drop_of_length_le (Nat.le_refl _), List.drop_of_length_le z, List.take_nil]
  have key : ∃ cs0 : List D, (oOr (oCB dList (mCons (mSl (vD (mVar 0)) (oNone) (oSome (mVar 1))) (mNil))) (oLst (mCons (M.ret (.int 0)) (mNil)))) (startE 6 [.d (.fz xs), .d (.int 3)]) = .ok cs0 (startE 6 [.d (.fz xs), .d (.int 3)]) ∧ cs0.length ≤ 3 ∧ 0 < cs0.length ∧ (∀ d ∈ cs0, isI d) ∧ (3 < xs.length → cs0.length = 3) := by
    cases xs with
    | nil => exact ⟨[.int 0], rfl, by simp, by simp, by simp [isI], by simp⟩
    | cons x r =>
      refine ⟨(x :: r).take 3, ?_, by simp; omega, by simp, fun d hd => hx d (List.mem_of_mem_take hd), by simp; omega⟩
      simp [startE, mNil_at, mCons_at, wNil_at, wCons_at, mRd1_at, mBin_at, mBinV_at, mCB_at, mCW_at, mTup_at, mLst_at, oLst_at, mNot_at, mAnd_at, mOr_at, mBl_at, mF_at, vD_at, mTru_at, mIs1_at, mIs2_at, mNotT_at, mSl_at, sIf_at, sRet_at, sRetF_at, sExpr_at, sAsg_at, sOwn_at, sFor_at, wAny_at, wRng1_at, wRng2_at, wEnum_at, wZip_at, oCB_at, oCW_at, mUn_at, mFmt_at, aT_at, ret_at, mIf_at, ite_at, mB_at, sSeq_at, lift_at, mAndT_at, mOrT_at, bind_at, mVar_at, mOwn_at, rdv_at, rds_at, rdN_at, rdC_at, sApp_at, mPop_at, appO_at, sSet_at, putO_at, sRetO_at, sNx_at, loopN_at, oOr_at, oSome_at, oNone_at, dSl, hc, dList]
  obtain ⟨cs0, q0, l0, l1, i0, l3⟩ := key
  have fin : ∃ cs a b c, mLoop cellG cellB (pairs 0 (xs.drop 3)) (EC xs cs0 none none none) = .ok .nx (EC xs cs a b c) ∧ cs.length ≤ 3 ∧ 0 < cs.length ∧ ∀ d ∈ cs, isI d := by
    by_cases h : 3 < xs.length
    · obtain ⟨cs, a, b, c, q, l, i⟩ := cell_loop (f := xs) (xs.drop 3) 0 cs0 none none none (by simp; omega) (l3 h) i0 fun d hd => hx d (List.mem_of_mem_drop hd)
      exact ⟨cs, a, b, c, q, by omega, by omega, i⟩
    · rw [List.drop_of_length_le (by omega)]
      exact ⟨cs0, none, none, none, rfl, l0, l1, i0⟩
  obtain ⟨cs, a, b, c, q, m1, m2, m3⟩ := fin
  refine ⟨cs, ?_, m1, m2, m3⟩
  unfold cellG cellB at q
  simp [startE] at q0
  simp only [EC, Option.map] at q
  simp [b_l_cells, outD, startE, mNil_at, mCons_at, wNil_at, wCons_at, mRd1_at, mBin_at, mBinV_at, mCB_at, mCW_at, mTup_at, mLst_at, oLst_at, mNot_at, mAnd_at, mOr_at, mBl_at, mF_at, vD_at, mTru_at, mIs1_at, mIs2_at, mNotT_at, mSl_at, sIf_at, sRet_at, sRetF_at, sExpr_at, sAsg_at, sOwn_at, sFor_at, wAny_at, wRng1_at, wRng2_at, wEnum_at, wZip_at, oCB_at, oCW_at, mUn_at, mFmt_at, aT_at, ret_at, mIf_at, ite_at, mB_at, sSeq_at, lift_at, mAndT_at, mOrT_at, bind_at, mVar_at, mOwn_at, rdv_at, rds_at, rdN_at, rdC_at, sApp_at, mPop_at, appO_at, sSet_at, putO_at, sRetO_at, sNx_at, loopN_at, oOr_at, oSome_at, oNone_at, ↓q0, noIo, dSl, hc2, dEnum, ↓q]
end Law

set_option maxRecDepth 100000
set_option maxHeartbeats 1000000
set_option linter.all false
namespace Mir
open PySem L2
theorem seq_nx {a b : M Out} {e e1 : Mir.Env} (h : a e = .ok .nx e1) : sSeq a b e = b e1 := by rw [sSeq_at, h]
theorem asg_nx {m : M D} {g : D → Mir.Env → Option Mir.Env} {e e1 e2 : Mir.Env} {d : D} (h : m e = .ok d e1) (hg : g d e1 = some e2) : sAsg m g e = .ok .nx e2 := by
  rw [sAsg_at, h]
  show sDo (g d e1) e1 = _
  rw [hg]
  rfl
theorem par_nx {i j : Nat} {m : M (List Sl)} {e e1 e2 : Mir.Env} {s t : Sl} (h : m e = .ok [s, t] e1) (hp : putS [i, j] [s, t] e1 = some e2) : sPar i j m e = .ok .nx e2 := by
  unfold sPar
  rw [h]
  show sDo (putS [i, j] [s, t] e1) e1 = _
  rw [hp]
  rfl
theorem iDat_ok {m : M D} {r : M (List Sl)} {e e1 e2 : Mir.Env} {d : D} {ss : List Sl} (h : m e = .ok d e1) (hr : r e1 = .ok ss e2) : iDat m r e = .ok (.d d :: ss) e2 := by
  unfold iDat
  rw [h]
  show iDatk r d e1 = _
  unfold iDatk
  rw [hr]
theorem iNil_ok {e : Mir.Env} : iNil e = .ok [] e := rfl
theorem mF_ok {m : M (List D)} {e e1 : Mir.Env} {ds : List D} (h : m e = .ok ds e1) : mF m e = .ok (.lst ds) e1 := by rw [mF_at, aT_at, h]
theorem cons_ok {a : M D} {b : M (List D)} {e e1 e2 : Mir.Env} {x : D} {xs : List D} (ha : a e = .ok x e1) (hb : b e1 = .ok xs e2) : mCons a b e = .ok (x :: xs) e2 := by
  rw [mCons_at, aT_at, ha]
  show M.andThen b _ e1 = _
  rw [aT_at, hb]
theorem nil_ok {e : Mir.Env} : mNil e = .ok [] e := rfl
theorem lst_ok {a : M (List D)} {e e1 : Mir.Env} {xs : List D} (h : a e = .ok xs e1) (hl : xs.length ≤ 100000) : mLst a e = .ok (.lst xs) e1 := by
  have hm : mLine xs.length = true := decide_eq_true hl
  rw [mLst_at, aT_at, h]
  show M.lift (if mLine xs.length = true then some (D.lst xs) else none) e1 = _
  rw [if_pos hm]
  rfl
theorem bin_ok {f : D → D → Option D} {a b : M D} {e e1 e2 : Mir.Env} {x y r : D} (ha : a e = .ok x e1) (hb : b e1 = .ok y e2) (hf : f x y = some r) : mBin f a b e = .ok r e2 := by
  rw [mBin_at, aT_at, ha]
  show M.andThen b _ e1 = _
  rw [aT_at, hb]
  show M.lift (f x y) e2 = _
  rw [hf]
  rfl
theorem cb_ok {f : List D → Option D} {a : M (List D)} {e e1 : Mir.Env} {xs : List D} {r : D} (ha : a e = .ok xs e1) (hf : f xs = some r) : mCB f a e = .ok r e1 := by
  rw [mCB_at, aT_at, ha]
  show M.lift (f xs) e1 = _
  rw [hf]
  rfl
theorem ret_ok {m : M D} {e e1 : Mir.Env} {d : D} (h : m e = .ok d e1) : sRet m e = .ok (.rt d) e1 := by rw [sRet_at, aT_at, h]
theorem add_lst {xs ys : List D} (h : xs.length + ys.length ≤ 100000) : dAdd (.lst xs) (.lst ys) = some (.lst (xs ++ ys)) := by
  show (if mLine (xs.length + ys.length) = true then some (D.lst (xs ++ ys)) else none) = _
  rw [if_pos (show mLine _ = true from decide_eq_true h)]
theorem all_true {ys : List D} (h : ∀ y ∈ ys, y = .bl true) : dAll [.lst ys] = some (.bl true) := by
  have e : ys = ys.map fun _ => D.bl true := by
    induction ys with
    | nil => rfl
    | cons y ys ih =>
      rw [List.map_cons, ← ih fun z hz => h z (List.mem_cons_of_mem _ hz), h y List.mem_cons_self]
  have b : blsD ys = some (ys.map fun _ => true) := by
    rw [e, bls_true]
    simp
  show (blsD ys).map _ = _
  rw [b]
  simp
theorem andT_ok {a b : M D} {e e1 : Mir.Env} {r : R D} (h : a e = .ok (.bl true) e1) (hb : b e1 = r) : mAndT a b e = r := by
  rw [mAndT_at, h]
  exact hb
theorem outI_of {m : M Out} {e e' : Mir.Env} {d : D} {ys : List D} (h : m e = .ok (.rt d) e') (hy : ioAt e' = some ys) : outI (m e) = some (d, ys) := by
  rw [h]
  show (ioAt e').map _ = _
  rw [hy]
  rfl
theorem sFor_ok {w : M (List D)} {g : D → Mir.Env → Option Mir.Env} {b : M Out} {e e1 : Mir.Env} {ds : List D} {r : R Out} (hw : w e = .ok ds e1) (q : mLoop g b ds e1 = r) : sFor w g b e = r := by
  show M.andThen w (mLoop g b) e = _
  unfold M.andThen
  rw [hw]
  exact q
theorem sm62 {i : Nat} (h : i < 1000000) : small62 (i : Int) = true := by unfold small62; simp; omega
theorem rng_ok {m : M (List D)} {e e1 : Mir.Env} {i : Nat} (h : m e = .ok [.int (i : Int)] e1) (hi : i < 1000000) : wRng1 m e = .ok (intsD 0 i) e1 := by
  have hrng : dRng1 [.int (i : Int)] = some (intsD 0 i) := by
    unfold dRng1
    simp only [sm62 hi, if_true, Int.toNat_natCast]
  show M.andThen m (fun d => M.lift (dRng1 d)) e = _
  unfold M.andThen
  rw [h]
  dsimp only
  rw [hrng]
  rfl
theorem eq_ints (r k : Int) : dEq (.int r) (.int k) = some (.bl (decide (r = k))) := by
  simp [dEq, eqD, toPy, SeqAt.shaped, PyData.canLay0, PyData.depth, PyData.eqv]
  rfl
theorem vD_ok {m : M D} {e e1 : Mir.Env} {d : D} (h : m e = .ok d e1) : vD m e = .ok (.val d) e1 := by rw [vD_at, aT_at, h]
theorem or_ok {a b : M Bool} {e : Mir.Env} {x y : Bool} (ha : a e = .ok x e) (hb : b e = .ok y e) : mOr a b e = .ok (x || y) e := by
  rw [mOr_at, aT_at, ha]
  cases x
  · exact hb
  · rfl
theorem mk_ok {C : Addr} {f : Str} {m : M D} {e e1 : Mir.Env} {d : D} (h : m e = .ok d e1) : mMkE C f m e = .ok (.xc C [(f, d)]) e1 := by
  show M.andThen m (fun d => M.ret (D.xc C [(f, d)])) e = _
  unfold M.andThen
  rw [h]
theorem fld_ok {C : Addr} {cs : List Addr} {f : Str} {fs : List (Str × D)} {m : M D} {e e1 : Mir.Env} {d : D} (h : m e = .ok (.xc C fs) e1) (hc : C ∈ cs) (hf : fs.lookup f = some d) : mFld cs f m e = .ok d e1 := by
  show M.andThen m (fldK cs f) e = _
  unfold M.andThen
  rw [h]
  show fldK cs f (.xc C fs) e1 = _
  unfold fldK
  dsimp only
  rw [if_pos hc, hf]
theorem isx_ok {ys ns : List Addr} {m : M D} {e e1 : Mir.Env} {d r : D} (h : m e = .ok d e1) (hx : isX ys ns d = some r) : mIsX ys ns m e = .ok r e1 := by
  show M.andThen m (fun d => M.lift (isX ys ns d)) e = _
  unfold M.andThen
  rw [h]
  show M.lift (isX ys ns d) e1 = _
  rw [hx]
  rfl
theorem isX_yes {C : Addr} {ys ns : List Addr} {fs : List (Str × D)} (h : C ∈ ys) : isX ys ns (.xc C fs) = some (.bl true) := if_pos h
theorem isX_no {C S : Addr} {ns : List Addr} {fs : List (Str × D)} (h : C ≠ S) (h2 : C ∈ ns) : isX [S] ns (.xc C fs) = some (.bl false) := (if_neg fun z => h (List.mem_singleton.mp z)).trans (if_pos h2)
theorem nd_ne {cs : List Addr} (h : cs.Nodup) {i j : Nat} {a b : Addr} (hi : cs[i]? = some a) (hj : cs[j]? = some b) (hij : i ≠ j) : a ≠ b := fun z => by
  subst z
  obtain ⟨h1, e1⟩ := List.getElem?_eq_some_iff.mp hi
  obtain ⟨h2, e2⟩ := List.getElem?_eq_some_iff.mp hj
  have q := List.pairwise_iff_getElem.mp h
  rcases Nat.lt_or_gt_of_ne hij with z | z
  · exact q i j h1 h2 z (e1.trans e2.symm)
  · exact q j i h2 h1 z (e2.trans e1.symm)
theorem tru_ok {m : M D} {e e1 : Mir.Env} {b : Bool} (h : m e = .ok (.bl b) e1) : mTru (vD m) e = .ok b e1 := by
  rw [mTru_at, aT_at, vD_ok h]
  rfl
theorem not_ok {m : M Bool} {e e1 : Mir.Env} {b : Bool} (h : m e = .ok b e1) : mNot m e = .ok (!b) e1 := by
  rw [mNot_at, aT_at, h]
theorem if_ok {c : M Bool} {a b : M Out} {e e1 : Mir.Env} {r : R Out} {x : Bool} (h : c e = .ok x e1) (h2 : (if x = true then a e1 else b e1) = r) : sIf c a b e = r := by
  rw [sIf_at, aT_at, h]
  cases x <;> exact h2
end Mir

set_option maxRecDepth 100000
set_option maxHeartbeats 1000000
set_option linter.all false
namespace Law
open PySem L2 Mir
def flags (i : Nat) : List D := (List.range 12).map fun j => D.bl (decide (j = i))
theorem sorts_BadPair {ad : Ad} (h : Dist ad) {fs : List (Str × D)} : outD (b_l_sorts ad (startE 2 [.d (.xc ad.c_BadPair fs)])) = some (.lst (flags 0)) := by
  have q : ∃ e', b_l_sorts ad [some (.d (.xc ad.c_BadPair fs)), none] = .ok (.rt (.lst (flags 0))) e' := by
    apply Exists.intro
    unfold b_l_sorts
    refine Eq.trans (seq_nx (asg_nx (lst_ok (cons_ok (isx_ok rfl (isX_yes List.mem_cons_self)) (cons_ok (isx_ok rfl (isX_no (nd_ne h (i := 3) (j := 4) rfl rfl (by decide)) (List.mem_cons_of_mem _ (List.mem_cons_of_mem _ (List.mem_cons_of_mem _ List.mem_cons_self))))) (cons_ok (isx_ok rfl (isX_no (nd_ne h (i := 3) (j := 2) rfl rfl (by decide)) (List.mem_cons_of_mem _ (List.mem_cons_of_mem _ List.mem_cons_self)))) (nil_ok)))) (by decide)) rfl)) ?_
    refine Eq.trans (seq_nx (asg_nx (bin_ok rfl (lst_ok (cons_ok (isx_ok rfl (isX_no (nd_ne h (i := 3) (j := 9) rfl rfl (by decide)) (List.mem_cons_of_mem _ (List.mem_cons_of_mem _ (List.mem_cons_of_mem _ List.mem_cons_self))))) (cons_ok (isx_ok rfl (isX_no (nd_ne h (i := 3) (j := 11) rfl rfl (by decide)) (List.mem_cons_of_mem _ (List.mem_cons_of_mem _ (List.mem_cons_of_mem _ List.mem_cons_self))))) (nil_ok))) (by decide)) (add_lst (by decide))) rfl)) ?_
    refine Eq.trans (seq_nx (asg_nx (bin_ok rfl (lst_ok (cons_ok (isx_ok rfl (isX_no (nd_ne h (i := 3) (j := 7) rfl rfl (by decide)) (List.mem_cons_of_mem _ (List.mem_cons_of_mem _ (List.mem_cons_of_mem _ List.mem_cons_self))))) (nil_ok)) (by decide)) (add_lst (by decide))) rfl)) ?_
    refine Eq.trans (seq_nx (asg_nx (bin_ok rfl (lst_ok (cons_ok (isx_ok rfl (isX_no (nd_ne h (i := 3) (j := 0) rfl rfl (by decide)) (List.mem_cons_of_mem _ (List.mem_cons_of_mem _ List.mem_cons_self)))) (cons_ok (isx_ok rfl (isX_no (nd_ne h (i := 3) (j := 1) rfl rfl (by decide)) (List.mem_cons_of_mem _ (List.mem_cons_of_mem _ List.mem_cons_self)))) (nil_ok))) (by decide)) (add_lst (by decide))) rfl)) ?_
    refine Eq.trans (seq_nx (asg_nx (bin_ok rfl (lst_ok (cons_ok (isx_ok rfl (isX_no (nd_ne h (i := 3) (j := 10) rfl rfl (by decide)) (List.mem_cons_of_mem _ (List.mem_cons_of_mem _ (List.mem_cons_of_mem _ List.mem_cons_self))))) (nil_ok)) (by decide)) (add_lst (by decide))) rfl)) ?_
    exact ret_ok (bin_ok rfl (lst_ok (cons_ok (isx_ok rfl (isX_no (nd_ne h (i := 3) (j := 5) rfl rfl (by decide)) (List.mem_cons_of_mem _ (List.mem_cons_of_mem _ (List.mem_cons_of_mem _ List.mem_cons_self))))) (cons_ok (isx_ok rfl (isX_no (nd_ne h (i := 3) (j := 8) rfl rfl (by decide)) (List.mem_cons_of_mem _ (List.mem_cons_of_mem _ (List.mem_cons_of_mem _ List.mem_cons_self))))) (cons_ok (isx_ok rfl (isX_no (nd_ne h (i := 3) (j := 6) rfl rfl (by decide)) (List.mem_cons_of_mem _ (List.mem_cons_of_mem _ (List.mem_cons_of_mem _ List.mem_cons_self))))) (nil_ok)))) (by decide)) (add_lst (by decide)))
  obtain ⟨e', q⟩ := q
  exact congrArg outD q
theorem sorts_BadText {ad : Ad} (h : Dist ad) {fs : List (Str × D)} : outD (b_l_sorts ad (startE 2 [.d (.xc ad.c_BadText fs)])) = some (.lst (flags 1)) := by
  have q : ∃ e', b_l_sorts ad [some (.d (.xc ad.c_BadText fs)), none] = .ok (.rt (.lst (flags 1))) e' := by
    apply Exists.intro
    unfold b_l_sorts
    refine Eq.trans (seq_nx (asg_nx (lst_ok (cons_ok (isx_ok rfl (isX_no (nd_ne h (i := 4) (j := 3) rfl rfl (by decide)) (List.mem_cons_of_mem _ (List.mem_cons_of_mem _ (List.mem_cons_of_mem _ List.mem_cons_self))))) (cons_ok (isx_ok rfl (isX_yes List.mem_cons_self)) (cons_ok (isx_ok rfl (isX_no (nd_ne h (i := 4) (j := 2) rfl rfl (by decide)) (List.mem_cons_of_mem _ (List.mem_cons_of_mem _ (List.mem_cons_of_mem _ List.mem_cons_self))))) (nil_ok)))) (by decide)) rfl)) ?_
    refine Eq.trans (seq_nx (asg_nx (bin_ok rfl (lst_ok (cons_ok (isx_ok rfl (isX_no (nd_ne h (i := 4) (j := 9) rfl rfl (by decide)) (List.mem_cons_of_mem _ (List.mem_cons_of_mem _ (List.mem_cons_of_mem _ (List.mem_cons_of_mem _ List.mem_cons_self)))))) (cons_ok (isx_ok rfl (isX_no (nd_ne h (i := 4) (j := 11) rfl rfl (by decide)) (List.mem_cons_of_mem _ (List.mem_cons_of_mem _ (List.mem_cons_of_mem _ (List.mem_cons_of_mem _ List.mem_cons_self)))))) (nil_ok))) (by decide)) (add_lst (by decide))) rfl)) ?_
    refine Eq.trans (seq_nx (asg_nx (bin_ok rfl (lst_ok (cons_ok (isx_ok rfl (isX_no (nd_ne h (i := 4) (j := 7) rfl rfl (by decide)) (List.mem_cons_of_mem _ (List.mem_cons_of_mem _ (List.mem_cons_of_mem _ (List.mem_cons_of_mem _ List.mem_cons_self)))))) (nil_ok)) (by decide)) (add_lst (by decide))) rfl)) ?_
    refine Eq.trans (seq_nx (asg_nx (bin_ok rfl (lst_ok (cons_ok (isx_ok rfl (isX_no (nd_ne h (i := 4) (j := 0) rfl rfl (by decide)) (List.mem_cons_of_mem _ (List.mem_cons_of_mem _ (List.mem_cons_of_mem _ List.mem_cons_self))))) (cons_ok (isx_ok rfl (isX_no (nd_ne h (i := 4) (j := 1) rfl rfl (by decide)) (List.mem_cons_of_mem _ (List.mem_cons_of_mem _ (List.mem_cons_of_mem _ List.mem_cons_self))))) (nil_ok))) (by decide)) (add_lst (by decide))) rfl)) ?_
    refine Eq.trans (seq_nx (asg_nx (bin_ok rfl (lst_ok (cons_ok (isx_ok rfl (isX_no (nd_ne h (i := 4) (j := 10) rfl rfl (by decide)) (List.mem_cons_of_mem _ (List.mem_cons_of_mem _ (List.mem_cons_of_mem _ (List.mem_cons_of_mem _ List.mem_cons_self)))))) (nil_ok)) (by decide)) (add_lst (by decide))) rfl)) ?_
    exact ret_ok (bin_ok rfl (lst_ok (cons_ok (isx_ok rfl (isX_no (nd_ne h (i := 4) (j := 5) rfl rfl (by decide)) (List.mem_cons_of_mem _ (List.mem_cons_of_mem _ (List.mem_cons_of_mem _ (List.mem_cons_of_mem _ List.mem_cons_self)))))) (cons_ok (isx_ok rfl (isX_no (nd_ne h (i := 4) (j := 8) rfl rfl (by decide)) (List.mem_cons_of_mem _ (List.mem_cons_of_mem _ (List.mem_cons_of_mem _ (List.mem_cons_of_mem _ List.mem_cons_self)))))) (cons_ok (isx_ok rfl (isX_no (nd_ne h (i := 4) (j := 6) rfl rfl (by decide)) (List.mem_cons_of_mem _ (List.mem_cons_of_mem _ (List.mem_cons_of_mem _ (List.mem_cons_of_mem _ List.mem_cons_self)))))) (nil_ok)))) (by decide)) (add_lst (by decide)))
  obtain ⟨e', q⟩ := q
  exact congrArg outD q
theorem sorts_BadLine {ad : Ad} (h : Dist ad) {fs : List (Str × D)} : outD (b_l_sorts ad (startE 2 [.d (.xc ad.c_BadLine fs)])) = some (.lst (flags 2)) := by
  have q : ∃ e', b_l_sorts ad [some (.d (.xc ad.c_BadLine fs)), none] = .ok (.rt (.lst (flags 2))) e' := by
    apply Exists.intro
    unfold b_l_sorts
    refine Eq.trans (seq_nx (asg_nx (lst_ok (cons_ok (isx_ok rfl (isX_no (nd_ne h (i := 2) (j := 3) rfl rfl (by decide)) (List.mem_cons_of_mem _ (List.mem_cons_of_mem _ List.mem_cons_self)))) (cons_ok (isx_ok rfl (isX_no (nd_ne h (i := 2) (j := 4) rfl rfl (by decide)) (List.mem_cons_of_mem _ (List.mem_cons_of_mem _ List.mem_cons_self)))) (cons_ok (isx_ok rfl (isX_yes List.mem_cons_self)) (nil_ok)))) (by decide)) rfl)) ?_
    refine Eq.trans (seq_nx (asg_nx (bin_ok rfl (lst_ok (cons_ok (isx_ok rfl (isX_no (nd_ne h (i := 2) (j := 9) rfl rfl (by decide)) (List.mem_cons_of_mem _ (List.mem_cons_of_mem _ List.mem_cons_self)))) (cons_ok (isx_ok rfl (isX_no (nd_ne h (i := 2) (j := 11) rfl rfl (by decide)) (List.mem_cons_of_mem _ (List.mem_cons_of_mem _ List.mem_cons_self)))) (nil_ok))) (by decide)) (add_lst (by decide))) rfl)) ?_
    refine Eq.trans (seq_nx (asg_nx (bin_ok rfl (lst_ok (cons_ok (isx_ok rfl (isX_no (nd_ne h (i := 2) (j := 7) rfl rfl (by decide)) (List.mem_cons_of_mem _ (List.mem_cons_of_mem _ List.mem_cons_self)))) (nil_ok)) (by decide)) (add_lst (by decide))) rfl)) ?_
    refine Eq.trans (seq_nx (asg_nx (bin_ok rfl (lst_ok (cons_ok (isx_ok rfl (isX_no (nd_ne h (i := 2) (j := 0) rfl rfl (by decide)) (List.mem_cons_of_mem _ List.mem_cons_self))) (cons_ok (isx_ok rfl (isX_no (nd_ne h (i := 2) (j := 1) rfl rfl (by decide)) (List.mem_cons_of_mem _ List.mem_cons_self))) (nil_ok))) (by decide)) (add_lst (by decide))) rfl)) ?_
    refine Eq.trans (seq_nx (asg_nx (bin_ok rfl (lst_ok (cons_ok (isx_ok rfl (isX_no (nd_ne h (i := 2) (j := 10) rfl rfl (by decide)) (List.mem_cons_of_mem _ (List.mem_cons_of_mem _ List.mem_cons_self)))) (nil_ok)) (by decide)) (add_lst (by decide))) rfl)) ?_
    exact ret_ok (bin_ok rfl (lst_ok (cons_ok (isx_ok rfl (isX_no (nd_ne h (i := 2) (j := 5) rfl rfl (by decide)) (List.mem_cons_of_mem _ (List.mem_cons_of_mem _ List.mem_cons_self)))) (cons_ok (isx_ok rfl (isX_no (nd_ne h (i := 2) (j := 8) rfl rfl (by decide)) (List.mem_cons_of_mem _ (List.mem_cons_of_mem _ List.mem_cons_self)))) (cons_ok (isx_ok rfl (isX_no (nd_ne h (i := 2) (j := 6) rfl rfl (by decide)) (List.mem_cons_of_mem _ (List.mem_cons_of_mem _ List.mem_cons_self)))) (nil_ok)))) (by decide)) (add_lst (by decide)))
  obtain ⟨e', q⟩ := q
  exact congrArg outD q
theorem sorts_NoStep {ad : Ad} (h : Dist ad) {fs : List (Str × D)} : outD (b_l_sorts ad (startE 2 [.d (.xc ad.c_NoStep fs)])) = some (.lst (flags 3)) := by
  have q : ∃ e', b_l_sorts ad [some (.d (.xc ad.c_NoStep fs)), none] = .ok (.rt (.lst (flags 3))) e' := by
    apply Exists.intro
    unfold b_l_sorts
    refine Eq.trans (seq_nx (asg_nx (lst_ok (cons_ok (isx_ok rfl (isX_no (nd_ne h (i := 9) (j := 3) rfl rfl (by decide)) (List.mem_cons_of_mem _ (List.mem_cons_of_mem _ (List.mem_cons_of_mem _ (List.mem_cons_of_mem _ (List.mem_cons_of_mem _ (List.mem_cons_of_mem _ (List.mem_cons_of_mem _ (List.mem_cons_of_mem _ List.mem_cons_self)))))))))) (cons_ok (isx_ok rfl (isX_no (nd_ne h (i := 9) (j := 4) rfl rfl (by decide)) (List.mem_cons_of_mem _ (List.mem_cons_of_mem _ (List.mem_cons_of_mem _ (List.mem_cons_of_mem _ (List.mem_cons_of_mem _ (List.mem_cons_of_mem _ (List.mem_cons_of_mem _ (List.mem_cons_of_mem _ List.mem_cons_self)))))))))) (cons_ok (isx_ok rfl (isX_no (nd_ne h (i := 9) (j := 2) rfl rfl (by decide)) (List.mem_cons_of_mem _ (List.mem_cons_of_mem _ (List.mem_cons_of_mem _ (List.mem_cons_of_mem _ (List.mem_cons_of_mem _ (List.mem_cons_of_mem _ (List.mem_cons_of_mem _ (List.mem_cons_of_mem _ List.mem_cons_self)))))))))) (nil_ok)))) (by decide)) rfl)) ?_
    refine Eq.trans (seq_nx (asg_nx (bin_ok rfl (lst_ok (cons_ok (isx_ok rfl (isX_yes List.mem_cons_self)) (cons_ok (isx_ok rfl (isX_no (nd_ne h (i := 9) (j := 11) rfl rfl (by decide)) (List.mem_cons_of_mem _ (List.mem_cons_of_mem _ (List.mem_cons_of_mem _ (List.mem_cons_of_mem _ (List.mem_cons_of_mem _ (List.mem_cons_of_mem _ (List.mem_cons_of_mem _ (List.mem_cons_of_mem _ (List.mem_cons_of_mem _ List.mem_cons_self))))))))))) (nil_ok))) (by decide)) (add_lst (by decide))) rfl)) ?_
    refine Eq.trans (seq_nx (asg_nx (bin_ok rfl (lst_ok (cons_ok (isx_ok rfl (isX_no (nd_ne h (i := 9) (j := 7) rfl rfl (by decide)) (List.mem_cons_of_mem _ (List.mem_cons_of_mem _ (List.mem_cons_of_mem _ (List.mem_cons_of_mem _ (List.mem_cons_of_mem _ (List.mem_cons_of_mem _ (List.mem_cons_of_mem _ (List.mem_cons_of_mem _ List.mem_cons_self)))))))))) (nil_ok)) (by decide)) (add_lst (by decide))) rfl)) ?_
    refine Eq.trans (seq_nx (asg_nx (bin_ok rfl (lst_ok (cons_ok (isx_ok rfl (isX_no (nd_ne h (i := 9) (j := 0) rfl rfl (by decide)) (List.mem_cons_of_mem _ (List.mem_cons_of_mem _ (List.mem_cons_of_mem _ (List.mem_cons_of_mem _ (List.mem_cons_of_mem _ (List.mem_cons_of_mem _ (List.mem_cons_of_mem _ (List.mem_cons_of_mem _ List.mem_cons_self)))))))))) (cons_ok (isx_ok rfl (isX_no (nd_ne h (i := 9) (j := 1) rfl rfl (by decide)) (List.mem_cons_of_mem _ (List.mem_cons_of_mem _ (List.mem_cons_of_mem _ (List.mem_cons_of_mem _ (List.mem_cons_of_mem _ (List.mem_cons_of_mem _ (List.mem_cons_of_mem _ (List.mem_cons_of_mem _ List.mem_cons_self)))))))))) (nil_ok))) (by decide)) (add_lst (by decide))) rfl)) ?_
    refine Eq.trans (seq_nx (asg_nx (bin_ok rfl (lst_ok (cons_ok (isx_ok rfl (isX_no (nd_ne h (i := 9) (j := 10) rfl rfl (by decide)) (List.mem_cons_of_mem _ (List.mem_cons_of_mem _ (List.mem_cons_of_mem _ (List.mem_cons_of_mem _ (List.mem_cons_of_mem _ (List.mem_cons_of_mem _ (List.mem_cons_of_mem _ (List.mem_cons_of_mem _ (List.mem_cons_of_mem _ List.mem_cons_self))))))))))) (nil_ok)) (by decide)) (add_lst (by decide))) rfl)) ?_
    exact ret_ok (bin_ok rfl (lst_ok (cons_ok (isx_ok rfl (isX_no (nd_ne h (i := 9) (j := 5) rfl rfl (by decide)) (List.mem_cons_of_mem _ (List.mem_cons_of_mem _ (List.mem_cons_of_mem _ (List.mem_cons_of_mem _ (List.mem_cons_of_mem _ (List.mem_cons_of_mem _ (List.mem_cons_of_mem _ (List.mem_cons_of_mem _ List.mem_cons_self)))))))))) (cons_ok (isx_ok rfl (isX_no (nd_ne h (i := 9) (j := 8) rfl rfl (by decide)) (List.mem_cons_of_mem _ (List.mem_cons_of_mem _ (List.mem_cons_of_mem _ (List.mem_cons_of_mem _ (List.mem_cons_of_mem _ (List.mem_cons_of_mem _ (List.mem_cons_of_mem _ (List.mem_cons_of_mem _ List.mem_cons_self)))))))))) (cons_ok (isx_ok rfl (isX_no (nd_ne h (i := 9) (j := 6) rfl rfl (by decide)) (List.mem_cons_of_mem _ (List.mem_cons_of_mem _ (List.mem_cons_of_mem _ (List.mem_cons_of_mem _ (List.mem_cons_of_mem _ (List.mem_cons_of_mem _ (List.mem_cons_of_mem _ (List.mem_cons_of_mem _ List.mem_cons_self)))))))))) (nil_ok)))) (by decide)) (add_lst (by decide)))
  obtain ⟨e', q⟩ := q
  exact congrArg outD q
theorem sorts_OtherSteps {ad : Ad} (h : Dist ad) {fs : List (Str × D)} : outD (b_l_sorts ad (startE 2 [.d (.xc ad.c_OtherSteps fs)])) = some (.lst (flags 4)) := by
  have q : ∃ e', b_l_sorts ad [some (.d (.xc ad.c_OtherSteps fs)), none] = .ok (.rt (.lst (flags 4))) e' := by
    apply Exists.intro
    unfold b_l_sorts
    refine Eq.trans (seq_nx (asg_nx (lst_ok (cons_ok (isx_ok rfl (isX_no (nd_ne h (i := 11) (j := 3) rfl rfl (by decide)) (List.mem_cons_of_mem _ (List.mem_cons_of_mem _ (List.mem_cons_of_mem _ (List.mem_cons_of_mem _ (List.mem_cons_of_mem _ (List.mem_cons_of_mem _ (List.mem_cons_of_mem _ (List.mem_cons_of_mem _ (List.mem_cons_of_mem _ (List.mem_cons_of_mem _ List.mem_cons_self)))))))))))) (cons_ok (isx_ok rfl (isX_no (nd_ne h (i := 11) (j := 4) rfl rfl (by decide)) (List.mem_cons_of_mem _ (List.mem_cons_of_mem _ (List.mem_cons_of_mem _ (List.mem_cons_of_mem _ (List.mem_cons_of_mem _ (List.mem_cons_of_mem _ (List.mem_cons_of_mem _ (List.mem_cons_of_mem _ (List.mem_cons_of_mem _ (List.mem_cons_of_mem _ List.mem_cons_self)))))))))))) (cons_ok (isx_ok rfl (isX_no (nd_ne h (i := 11) (j := 2) rfl rfl (by decide)) (List.mem_cons_of_mem _ (List.mem_cons_of_mem _ (List.mem_cons_of_mem _ (List.mem_cons_of_mem _ (List.mem_cons_of_mem _ (List.mem_cons_of_mem _ (List.mem_cons_of_mem _ (List.mem_cons_of_mem _ (List.mem_cons_of_mem _ (List.mem_cons_of_mem _ List.mem_cons_self)))))))))))) (nil_ok)))) (by decide)) rfl)) ?_
    refine Eq.trans (seq_nx (asg_nx (bin_ok rfl (lst_ok (cons_ok (isx_ok rfl (isX_no (nd_ne h (i := 11) (j := 9) rfl rfl (by decide)) (List.mem_cons_of_mem _ (List.mem_cons_of_mem _ (List.mem_cons_of_mem _ (List.mem_cons_of_mem _ (List.mem_cons_of_mem _ (List.mem_cons_of_mem _ (List.mem_cons_of_mem _ (List.mem_cons_of_mem _ (List.mem_cons_of_mem _ (List.mem_cons_of_mem _ List.mem_cons_self)))))))))))) (cons_ok (isx_ok rfl (isX_yes List.mem_cons_self)) (nil_ok))) (by decide)) (add_lst (by decide))) rfl)) ?_
    refine Eq.trans (seq_nx (asg_nx (bin_ok rfl (lst_ok (cons_ok (isx_ok rfl (isX_no (nd_ne h (i := 11) (j := 7) rfl rfl (by decide)) (List.mem_cons_of_mem _ (List.mem_cons_of_mem _ (List.mem_cons_of_mem _ (List.mem_cons_of_mem _ (List.mem_cons_of_mem _ (List.mem_cons_of_mem _ (List.mem_cons_of_mem _ (List.mem_cons_of_mem _ (List.mem_cons_of_mem _ (List.mem_cons_of_mem _ List.mem_cons_self)))))))))))) (nil_ok)) (by decide)) (add_lst (by decide))) rfl)) ?_
    refine Eq.trans (seq_nx (asg_nx (bin_ok rfl (lst_ok (cons_ok (isx_ok rfl (isX_no (nd_ne h (i := 11) (j := 0) rfl rfl (by decide)) (List.mem_cons_of_mem _ (List.mem_cons_of_mem _ (List.mem_cons_of_mem _ (List.mem_cons_of_mem _ (List.mem_cons_of_mem _ (List.mem_cons_of_mem _ (List.mem_cons_of_mem _ (List.mem_cons_of_mem _ (List.mem_cons_of_mem _ (List.mem_cons_of_mem _ List.mem_cons_self)))))))))))) (cons_ok (isx_ok rfl (isX_no (nd_ne h (i := 11) (j := 1) rfl rfl (by decide)) (List.mem_cons_of_mem _ (List.mem_cons_of_mem _ (List.mem_cons_of_mem _ (List.mem_cons_of_mem _ (List.mem_cons_of_mem _ (List.mem_cons_of_mem _ (List.mem_cons_of_mem _ (List.mem_cons_of_mem _ (List.mem_cons_of_mem _ (List.mem_cons_of_mem _ List.mem_cons_self)))))))))))) (nil_ok))) (by decide)) (add_lst (by decide))) rfl)) ?_
    refine Eq.trans (seq_nx (asg_nx (bin_ok rfl (lst_ok (cons_ok (isx_ok rfl (isX_no (nd_ne h (i := 11) (j := 10) rfl rfl (by decide)) (List.mem_cons_of_mem _ (List.mem_cons_of_mem _ (List.mem_cons_of_mem _ (List.mem_cons_of_mem _ (List.mem_cons_of_mem _ (List.mem_cons_of_mem _ (List.mem_cons_of_mem _ (List.mem_cons_of_mem _ (List.mem_cons_of_mem _ (List.mem_cons_of_mem _ List.mem_cons_self)))))))))))) (nil_ok)) (by decide)) (add_lst (by decide))) rfl)) ?_
    exact ret_ok (bin_ok rfl (lst_ok (cons_ok (isx_ok rfl (isX_no (nd_ne h (i := 11) (j := 5) rfl rfl (by decide)) (List.mem_cons_of_mem _ (List.mem_cons_of_mem _ (List.mem_cons_of_mem _ (List.mem_cons_of_mem _ (List.mem_cons_of_mem _ (List.mem_cons_of_mem _ (List.mem_cons_of_mem _ (List.mem_cons_of_mem _ (List.mem_cons_of_mem _ (List.mem_cons_of_mem _ List.mem_cons_self)))))))))))) (cons_ok (isx_ok rfl (isX_no (nd_ne h (i := 11) (j := 8) rfl rfl (by decide)) (List.mem_cons_of_mem _ (List.mem_cons_of_mem _ (List.mem_cons_of_mem _ (List.mem_cons_of_mem _ (List.mem_cons_of_mem _ (List.mem_cons_of_mem _ (List.mem_cons_of_mem _ (List.mem_cons_of_mem _ (List.mem_cons_of_mem _ (List.mem_cons_of_mem _ List.mem_cons_self)))))))))))) (cons_ok (isx_ok rfl (isX_no (nd_ne h (i := 11) (j := 6) rfl rfl (by decide)) (List.mem_cons_of_mem _ (List.mem_cons_of_mem _ (List.mem_cons_of_mem _ (List.mem_cons_of_mem _ (List.mem_cons_of_mem _ (List.mem_cons_of_mem _ (List.mem_cons_of_mem _ (List.mem_cons_of_mem _ (List.mem_cons_of_mem _ (List.mem_cons_of_mem _ List.mem_cons_self)))))))))))) (nil_ok)))) (by decide)) (add_lst (by decide)))
  obtain ⟨e', q⟩ := q
  exact congrArg outD q
theorem sorts_NoPlace {ad : Ad} (h : Dist ad) {fs : List (Str × D)} : outD (b_l_sorts ad (startE 2 [.d (.xc ad.c_NoPlace fs)])) = some (.lst (flags 5)) := by
  have q : ∃ e', b_l_sorts ad [some (.d (.xc ad.c_NoPlace fs)), none] = .ok (.rt (.lst (flags 5))) e' := by
    apply Exists.intro
    unfold b_l_sorts
    refine Eq.trans (seq_nx (asg_nx (lst_ok (cons_ok (isx_ok rfl (isX_no (nd_ne h (i := 7) (j := 3) rfl rfl (by decide)) (List.mem_cons_of_mem _ (List.mem_cons_of_mem _ (List.mem_cons_of_mem _ (List.mem_cons_of_mem _ (List.mem_cons_of_mem _ (List.mem_cons_of_mem _ List.mem_cons_self)))))))) (cons_ok (isx_ok rfl (isX_no (nd_ne h (i := 7) (j := 4) rfl rfl (by decide)) (List.mem_cons_of_mem _ (List.mem_cons_of_mem _ (List.mem_cons_of_mem _ (List.mem_cons_of_mem _ (List.mem_cons_of_mem _ (List.mem_cons_of_mem _ List.mem_cons_self)))))))) (cons_ok (isx_ok rfl (isX_no (nd_ne h (i := 7) (j := 2) rfl rfl (by decide)) (List.mem_cons_of_mem _ (List.mem_cons_of_mem _ (List.mem_cons_of_mem _ (List.mem_cons_of_mem _ (List.mem_cons_of_mem _ (List.mem_cons_of_mem _ List.mem_cons_self)))))))) (nil_ok)))) (by decide)) rfl)) ?_
    refine Eq.trans (seq_nx (asg_nx (bin_ok rfl (lst_ok (cons_ok (isx_ok rfl (isX_no (nd_ne h (i := 7) (j := 9) rfl rfl (by decide)) (List.mem_cons_of_mem _ (List.mem_cons_of_mem _ (List.mem_cons_of_mem _ (List.mem_cons_of_mem _ (List.mem_cons_of_mem _ (List.mem_cons_of_mem _ (List.mem_cons_of_mem _ List.mem_cons_self))))))))) (cons_ok (isx_ok rfl (isX_no (nd_ne h (i := 7) (j := 11) rfl rfl (by decide)) (List.mem_cons_of_mem _ (List.mem_cons_of_mem _ (List.mem_cons_of_mem _ (List.mem_cons_of_mem _ (List.mem_cons_of_mem _ (List.mem_cons_of_mem _ (List.mem_cons_of_mem _ List.mem_cons_self))))))))) (nil_ok))) (by decide)) (add_lst (by decide))) rfl)) ?_
    refine Eq.trans (seq_nx (asg_nx (bin_ok rfl (lst_ok (cons_ok (isx_ok rfl (isX_yes List.mem_cons_self)) (nil_ok)) (by decide)) (add_lst (by decide))) rfl)) ?_
    refine Eq.trans (seq_nx (asg_nx (bin_ok rfl (lst_ok (cons_ok (isx_ok rfl (isX_no (nd_ne h (i := 7) (j := 0) rfl rfl (by decide)) (List.mem_cons_of_mem _ (List.mem_cons_of_mem _ (List.mem_cons_of_mem _ (List.mem_cons_of_mem _ (List.mem_cons_of_mem _ (List.mem_cons_of_mem _ List.mem_cons_self)))))))) (cons_ok (isx_ok rfl (isX_no (nd_ne h (i := 7) (j := 1) rfl rfl (by decide)) (List.mem_cons_of_mem _ (List.mem_cons_of_mem _ (List.mem_cons_of_mem _ (List.mem_cons_of_mem _ (List.mem_cons_of_mem _ (List.mem_cons_of_mem _ List.mem_cons_self)))))))) (nil_ok))) (by decide)) (add_lst (by decide))) rfl)) ?_
    refine Eq.trans (seq_nx (asg_nx (bin_ok rfl (lst_ok (cons_ok (isx_ok rfl (isX_no (nd_ne h (i := 7) (j := 10) rfl rfl (by decide)) (List.mem_cons_of_mem _ (List.mem_cons_of_mem _ (List.mem_cons_of_mem _ (List.mem_cons_of_mem _ (List.mem_cons_of_mem _ (List.mem_cons_of_mem _ (List.mem_cons_of_mem _ List.mem_cons_self))))))))) (nil_ok)) (by decide)) (add_lst (by decide))) rfl)) ?_
    exact ret_ok (bin_ok rfl (lst_ok (cons_ok (isx_ok rfl (isX_no (nd_ne h (i := 7) (j := 5) rfl rfl (by decide)) (List.mem_cons_of_mem _ (List.mem_cons_of_mem _ (List.mem_cons_of_mem _ (List.mem_cons_of_mem _ (List.mem_cons_of_mem _ (List.mem_cons_of_mem _ List.mem_cons_self)))))))) (cons_ok (isx_ok rfl (isX_no (nd_ne h (i := 7) (j := 8) rfl rfl (by decide)) (List.mem_cons_of_mem _ (List.mem_cons_of_mem _ (List.mem_cons_of_mem _ (List.mem_cons_of_mem _ (List.mem_cons_of_mem _ (List.mem_cons_of_mem _ (List.mem_cons_of_mem _ List.mem_cons_self))))))))) (cons_ok (isx_ok rfl (isX_no (nd_ne h (i := 7) (j := 6) rfl rfl (by decide)) (List.mem_cons_of_mem _ (List.mem_cons_of_mem _ (List.mem_cons_of_mem _ (List.mem_cons_of_mem _ (List.mem_cons_of_mem _ (List.mem_cons_of_mem _ List.mem_cons_self)))))))) (nil_ok)))) (by decide)) (add_lst (by decide)))
  obtain ⟨e', q⟩ := q
  exact congrArg outD q
theorem sorts_BadDeed {ad : Ad} (h : Dist ad) {fs : List (Str × D)} : outD (b_l_sorts ad (startE 2 [.d (.xc ad.c_BadDeed fs)])) = some (.lst (flags 6)) := by
  have q : ∃ e', b_l_sorts ad [some (.d (.xc ad.c_BadDeed fs)), none] = .ok (.rt (.lst (flags 6))) e' := by
    apply Exists.intro
    unfold b_l_sorts
    refine Eq.trans (seq_nx (asg_nx (lst_ok (cons_ok (isx_ok rfl (isX_no (nd_ne h (i := 0) (j := 3) rfl rfl (by decide)) (List.mem_cons_self))) (cons_ok (isx_ok rfl (isX_no (nd_ne h (i := 0) (j := 4) rfl rfl (by decide)) (List.mem_cons_self))) (cons_ok (isx_ok rfl (isX_no (nd_ne h (i := 0) (j := 2) rfl rfl (by decide)) (List.mem_cons_self))) (nil_ok)))) (by decide)) rfl)) ?_
    refine Eq.trans (seq_nx (asg_nx (bin_ok rfl (lst_ok (cons_ok (isx_ok rfl (isX_no (nd_ne h (i := 0) (j := 9) rfl rfl (by decide)) (List.mem_cons_self))) (cons_ok (isx_ok rfl (isX_no (nd_ne h (i := 0) (j := 11) rfl rfl (by decide)) (List.mem_cons_self))) (nil_ok))) (by decide)) (add_lst (by decide))) rfl)) ?_
    refine Eq.trans (seq_nx (asg_nx (bin_ok rfl (lst_ok (cons_ok (isx_ok rfl (isX_no (nd_ne h (i := 0) (j := 7) rfl rfl (by decide)) (List.mem_cons_self))) (nil_ok)) (by decide)) (add_lst (by decide))) rfl)) ?_
    refine Eq.trans (seq_nx (asg_nx (bin_ok rfl (lst_ok (cons_ok (isx_ok rfl (isX_yes List.mem_cons_self)) (cons_ok (isx_ok rfl (isX_no (nd_ne h (i := 0) (j := 1) rfl rfl (by decide)) (List.mem_cons_self))) (nil_ok))) (by decide)) (add_lst (by decide))) rfl)) ?_
    refine Eq.trans (seq_nx (asg_nx (bin_ok rfl (lst_ok (cons_ok (isx_ok rfl (isX_no (nd_ne h (i := 0) (j := 10) rfl rfl (by decide)) (List.mem_cons_self))) (nil_ok)) (by decide)) (add_lst (by decide))) rfl)) ?_
    exact ret_ok (bin_ok rfl (lst_ok (cons_ok (isx_ok rfl (isX_no (nd_ne h (i := 0) (j := 5) rfl rfl (by decide)) (List.mem_cons_self))) (cons_ok (isx_ok rfl (isX_no (nd_ne h (i := 0) (j := 8) rfl rfl (by decide)) (List.mem_cons_self))) (cons_ok (isx_ok rfl (isX_no (nd_ne h (i := 0) (j := 6) rfl rfl (by decide)) (List.mem_cons_self))) (nil_ok)))) (by decide)) (add_lst (by decide)))
  obtain ⟨e', q⟩ := q
  exact congrArg outD q
theorem sorts_BadLayout {ad : Ad} (h : Dist ad) {fs : List (Str × D)} : outD (b_l_sorts ad (startE 2 [.d (.xc ad.c_BadLayout fs)])) = some (.lst (flags 7)) := by
  have q : ∃ e', b_l_sorts ad [some (.d (.xc ad.c_BadLayout fs)), none] = .ok (.rt (.lst (flags 7))) e' := by
    apply Exists.intro
    unfold b_l_sorts
    refine Eq.trans (seq_nx (asg_nx (lst_ok (cons_ok (isx_ok rfl (isX_no (nd_ne h (i := 1) (j := 3) rfl rfl (by decide)) (List.mem_cons_of_mem _ List.mem_cons_self))) (cons_ok (isx_ok rfl (isX_no (nd_ne h (i := 1) (j := 4) rfl rfl (by decide)) (List.mem_cons_of_mem _ List.mem_cons_self))) (cons_ok (isx_ok rfl (isX_no (nd_ne h (i := 1) (j := 2) rfl rfl (by decide)) (List.mem_cons_of_mem _ List.mem_cons_self))) (nil_ok)))) (by decide)) rfl)) ?_
    refine Eq.trans (seq_nx (asg_nx (bin_ok rfl (lst_ok (cons_ok (isx_ok rfl (isX_no (nd_ne h (i := 1) (j := 9) rfl rfl (by decide)) (List.mem_cons_of_mem _ List.mem_cons_self))) (cons_ok (isx_ok rfl (isX_no (nd_ne h (i := 1) (j := 11) rfl rfl (by decide)) (List.mem_cons_of_mem _ List.mem_cons_self))) (nil_ok))) (by decide)) (add_lst (by decide))) rfl)) ?_
    refine Eq.trans (seq_nx (asg_nx (bin_ok rfl (lst_ok (cons_ok (isx_ok rfl (isX_no (nd_ne h (i := 1) (j := 7) rfl rfl (by decide)) (List.mem_cons_of_mem _ List.mem_cons_self))) (nil_ok)) (by decide)) (add_lst (by decide))) rfl)) ?_
    refine Eq.trans (seq_nx (asg_nx (bin_ok rfl (lst_ok (cons_ok (isx_ok rfl (isX_no (nd_ne h (i := 1) (j := 0) rfl rfl (by decide)) (List.mem_cons_self))) (cons_ok (isx_ok rfl (isX_yes List.mem_cons_self)) (nil_ok))) (by decide)) (add_lst (by decide))) rfl)) ?_
    refine Eq.trans (seq_nx (asg_nx (bin_ok rfl (lst_ok (cons_ok (isx_ok rfl (isX_no (nd_ne h (i := 1) (j := 10) rfl rfl (by decide)) (List.mem_cons_of_mem _ List.mem_cons_self))) (nil_ok)) (by decide)) (add_lst (by decide))) rfl)) ?_
    exact ret_ok (bin_ok rfl (lst_ok (cons_ok (isx_ok rfl (isX_no (nd_ne h (i := 1) (j := 5) rfl rfl (by decide)) (List.mem_cons_of_mem _ List.mem_cons_self))) (cons_ok (isx_ok rfl (isX_no (nd_ne h (i := 1) (j := 8) rfl rfl (by decide)) (List.mem_cons_of_mem _ List.mem_cons_self))) (cons_ok (isx_ok rfl (isX_no (nd_ne h (i := 1) (j := 6) rfl rfl (by decide)) (List.mem_cons_of_mem _ List.mem_cons_self))) (nil_ok)))) (by decide)) (add_lst (by decide)))
  obtain ⟨e', q⟩ := q
  exact congrArg outD q
theorem sorts_NothingDone {ad : Ad} (h : Dist ad) {fs : List (Str × D)} : outD (b_l_sorts ad (startE 2 [.d (.xc ad.c_NothingDone fs)])) = some (.lst (flags 8)) := by
  have q : ∃ e', b_l_sorts ad [some (.d (.xc ad.c_NothingDone fs)), none] = .ok (.rt (.lst (flags 8))) e' := by
    apply Exists.intro
    unfold b_l_sorts
    refine Eq.trans (seq_nx (asg_nx (lst_ok (cons_ok (isx_ok rfl (isX_no (nd_ne h (i := 10) (j := 3) rfl rfl (by decide)) (List.mem_cons_of_mem _ (List.mem_cons_of_mem _ (List.mem_cons_of_mem _ (List.mem_cons_of_mem _ (List.mem_cons_of_mem _ (List.mem_cons_of_mem _ (List.mem_cons_of_mem _ (List.mem_cons_of_mem _ (List.mem_cons_of_mem _ List.mem_cons_self))))))))))) (cons_ok (isx_ok rfl (isX_no (nd_ne h (i := 10) (j := 4) rfl rfl (by decide)) (List.mem_cons_of_mem _ (List.mem_cons_of_mem _ (List.mem_cons_of_mem _ (List.mem_cons_of_mem _ (List.mem_cons_of_mem _ (List.mem_cons_of_mem _ (List.mem_cons_of_mem _ (List.mem_cons_of_mem _ (List.mem_cons_of_mem _ List.mem_cons_self))))))))))) (cons_ok (isx_ok rfl (isX_no (nd_ne h (i := 10) (j := 2) rfl rfl (by decide)) (List.mem_cons_of_mem _ (List.mem_cons_of_mem _ (List.mem_cons_of_mem _ (List.mem_cons_of_mem _ (List.mem_cons_of_mem _ (List.mem_cons_of_mem _ (List.mem_cons_of_mem _ (List.mem_cons_of_mem _ (List.mem_cons_of_mem _ List.mem_cons_self))))))))))) (nil_ok)))) (by decide)) rfl)) ?_
    refine Eq.trans (seq_nx (asg_nx (bin_ok rfl (lst_ok (cons_ok (isx_ok rfl (isX_no (nd_ne h (i := 10) (j := 9) rfl rfl (by decide)) (List.mem_cons_of_mem _ (List.mem_cons_of_mem _ (List.mem_cons_of_mem _ (List.mem_cons_of_mem _ (List.mem_cons_of_mem _ (List.mem_cons_of_mem _ (List.mem_cons_of_mem _ (List.mem_cons_of_mem _ (List.mem_cons_of_mem _ List.mem_cons_self))))))))))) (cons_ok (isx_ok rfl (isX_no (nd_ne h (i := 10) (j := 11) rfl rfl (by decide)) (List.mem_cons_of_mem _ (List.mem_cons_of_mem _ (List.mem_cons_of_mem _ (List.mem_cons_of_mem _ (List.mem_cons_of_mem _ (List.mem_cons_of_mem _ (List.mem_cons_of_mem _ (List.mem_cons_of_mem _ (List.mem_cons_of_mem _ (List.mem_cons_of_mem _ List.mem_cons_self)))))))))))) (nil_ok))) (by decide)) (add_lst (by decide))) rfl)) ?_
    refine Eq.trans (seq_nx (asg_nx (bin_ok rfl (lst_ok (cons_ok (isx_ok rfl (isX_no (nd_ne h (i := 10) (j := 7) rfl rfl (by decide)) (List.mem_cons_of_mem _ (List.mem_cons_of_mem _ (List.mem_cons_of_mem _ (List.mem_cons_of_mem _ (List.mem_cons_of_mem _ (List.mem_cons_of_mem _ (List.mem_cons_of_mem _ (List.mem_cons_of_mem _ (List.mem_cons_of_mem _ List.mem_cons_self))))))))))) (nil_ok)) (by decide)) (add_lst (by decide))) rfl)) ?_
    refine Eq.trans (seq_nx (asg_nx (bin_ok rfl (lst_ok (cons_ok (isx_ok rfl (isX_no (nd_ne h (i := 10) (j := 0) rfl rfl (by decide)) (List.mem_cons_of_mem _ (List.mem_cons_of_mem _ (List.mem_cons_of_mem _ (List.mem_cons_of_mem _ (List.mem_cons_of_mem _ (List.mem_cons_of_mem _ (List.mem_cons_of_mem _ (List.mem_cons_of_mem _ (List.mem_cons_of_mem _ List.mem_cons_self))))))))))) (cons_ok (isx_ok rfl (isX_no (nd_ne h (i := 10) (j := 1) rfl rfl (by decide)) (List.mem_cons_of_mem _ (List.mem_cons_of_mem _ (List.mem_cons_of_mem _ (List.mem_cons_of_mem _ (List.mem_cons_of_mem _ (List.mem_cons_of_mem _ (List.mem_cons_of_mem _ (List.mem_cons_of_mem _ (List.mem_cons_of_mem _ List.mem_cons_self))))))))))) (nil_ok))) (by decide)) (add_lst (by decide))) rfl)) ?_
    refine Eq.trans (seq_nx (asg_nx (bin_ok rfl (lst_ok (cons_ok (isx_ok rfl (isX_yes List.mem_cons_self)) (nil_ok)) (by decide)) (add_lst (by decide))) rfl)) ?_
    exact ret_ok (bin_ok rfl (lst_ok (cons_ok (isx_ok rfl (isX_no (nd_ne h (i := 10) (j := 5) rfl rfl (by decide)) (List.mem_cons_of_mem _ (List.mem_cons_of_mem _ (List.mem_cons_of_mem _ (List.mem_cons_of_mem _ (List.mem_cons_of_mem _ (List.mem_cons_of_mem _ (List.mem_cons_of_mem _ (List.mem_cons_of_mem _ (List.mem_cons_of_mem _ List.mem_cons_self))))))))))) (cons_ok (isx_ok rfl (isX_no (nd_ne h (i := 10) (j := 8) rfl rfl (by decide)) (List.mem_cons_of_mem _ (List.mem_cons_of_mem _ (List.mem_cons_of_mem _ (List.mem_cons_of_mem _ (List.mem_cons_of_mem _ (List.mem_cons_of_mem _ (List.mem_cons_of_mem _ (List.mem_cons_of_mem _ (List.mem_cons_of_mem _ List.mem_cons_self))))))))))) (cons_ok (isx_ok rfl (isX_no (nd_ne h (i := 10) (j := 6) rfl rfl (by decide)) (List.mem_cons_of_mem _ (List.mem_cons_of_mem _ (List.mem_cons_of_mem _ (List.mem_cons_of_mem _ (List.mem_cons_of_mem _ (List.mem_cons_of_mem _ (List.mem_cons_of_mem _ (List.mem_cons_of_mem _ (List.mem_cons_of_mem _ List.mem_cons_self))))))))))) (nil_ok)))) (by decide)) (add_lst (by decide)))
  obtain ⟨e', q⟩ := q
  exact congrArg outD q
theorem sorts_Known {ad : Ad} (h : Dist ad) {fs : List (Str × D)} : outD (b_l_sorts ad (startE 2 [.d (.xc ad.c_Known fs)])) = some (.lst (flags 9)) := by
  have q : ∃ e', b_l_sorts ad [some (.d (.xc ad.c_Known fs)), none] = .ok (.rt (.lst (flags 9))) e' := by
    apply Exists.intro
    unfold b_l_sorts
    refine Eq.trans (seq_nx (asg_nx (lst_ok (cons_ok (isx_ok rfl (isX_no (nd_ne h (i := 5) (j := 3) rfl rfl (by decide)) (List.mem_cons_of_mem _ (List.mem_cons_of_mem _ (List.mem_cons_of_mem _ (List.mem_cons_of_mem _ List.mem_cons_self)))))) (cons_ok (isx_ok rfl (isX_no (nd_ne h (i := 5) (j := 4) rfl rfl (by decide)) (List.mem_cons_of_mem _ (List.mem_cons_of_mem _ (List.mem_cons_of_mem _ (List.mem_cons_of_mem _ List.mem_cons_self)))))) (cons_ok (isx_ok rfl (isX_no (nd_ne h (i := 5) (j := 2) rfl rfl (by decide)) (List.mem_cons_of_mem _ (List.mem_cons_of_mem _ (List.mem_cons_of_mem _ (List.mem_cons_of_mem _ List.mem_cons_self)))))) (nil_ok)))) (by decide)) rfl)) ?_
    refine Eq.trans (seq_nx (asg_nx (bin_ok rfl (lst_ok (cons_ok (isx_ok rfl (isX_no (nd_ne h (i := 5) (j := 9) rfl rfl (by decide)) (List.mem_cons_of_mem _ (List.mem_cons_of_mem _ (List.mem_cons_of_mem _ (List.mem_cons_of_mem _ (List.mem_cons_of_mem _ List.mem_cons_self))))))) (cons_ok (isx_ok rfl (isX_no (nd_ne h (i := 5) (j := 11) rfl rfl (by decide)) (List.mem_cons_of_mem _ (List.mem_cons_of_mem _ (List.mem_cons_of_mem _ (List.mem_cons_of_mem _ (List.mem_cons_of_mem _ List.mem_cons_self))))))) (nil_ok))) (by decide)) (add_lst (by decide))) rfl)) ?_
    refine Eq.trans (seq_nx (asg_nx (bin_ok rfl (lst_ok (cons_ok (isx_ok rfl (isX_no (nd_ne h (i := 5) (j := 7) rfl rfl (by decide)) (List.mem_cons_of_mem _ (List.mem_cons_of_mem _ (List.mem_cons_of_mem _ (List.mem_cons_of_mem _ (List.mem_cons_of_mem _ List.mem_cons_self))))))) (nil_ok)) (by decide)) (add_lst (by decide))) rfl)) ?_
    refine Eq.trans (seq_nx (asg_nx (bin_ok rfl (lst_ok (cons_ok (isx_ok rfl (isX_no (nd_ne h (i := 5) (j := 0) rfl rfl (by decide)) (List.mem_cons_of_mem _ (List.mem_cons_of_mem _ (List.mem_cons_of_mem _ (List.mem_cons_of_mem _ List.mem_cons_self)))))) (cons_ok (isx_ok rfl (isX_no (nd_ne h (i := 5) (j := 1) rfl rfl (by decide)) (List.mem_cons_of_mem _ (List.mem_cons_of_mem _ (List.mem_cons_of_mem _ (List.mem_cons_of_mem _ List.mem_cons_self)))))) (nil_ok))) (by decide)) (add_lst (by decide))) rfl)) ?_
    refine Eq.trans (seq_nx (asg_nx (bin_ok rfl (lst_ok (cons_ok (isx_ok rfl (isX_no (nd_ne h (i := 5) (j := 10) rfl rfl (by decide)) (List.mem_cons_of_mem _ (List.mem_cons_of_mem _ (List.mem_cons_of_mem _ (List.mem_cons_of_mem _ (List.mem_cons_of_mem _ List.mem_cons_self))))))) (nil_ok)) (by decide)) (add_lst (by decide))) rfl)) ?_
    exact ret_ok (bin_ok rfl (lst_ok (cons_ok (isx_ok rfl (isX_yes List.mem_cons_self)) (cons_ok (isx_ok rfl (isX_no (nd_ne h (i := 5) (j := 8) rfl rfl (by decide)) (List.mem_cons_of_mem _ (List.mem_cons_of_mem _ (List.mem_cons_of_mem _ (List.mem_cons_of_mem _ (List.mem_cons_of_mem _ List.mem_cons_self))))))) (cons_ok (isx_ok rfl (isX_no (nd_ne h (i := 5) (j := 6) rfl rfl (by decide)) (List.mem_cons_of_mem _ (List.mem_cons_of_mem _ (List.mem_cons_of_mem _ (List.mem_cons_of_mem _ (List.mem_cons_of_mem _ List.mem_cons_self))))))) (nil_ok)))) (by decide)) (add_lst (by decide)))
  obtain ⟨e', q⟩ := q
  exact congrArg outD q
theorem sorts_NoProgram {ad : Ad} (h : Dist ad) {fs : List (Str × D)} : outD (b_l_sorts ad (startE 2 [.d (.xc ad.c_NoProgram fs)])) = some (.lst (flags 10)) := by
  have q : ∃ e', b_l_sorts ad [some (.d (.xc ad.c_NoProgram fs)), none] = .ok (.rt (.lst (flags 10))) e' := by
    apply Exists.intro
    unfold b_l_sorts
    refine Eq.trans (seq_nx (asg_nx (lst_ok (cons_ok (isx_ok rfl (isX_no (nd_ne h (i := 8) (j := 3) rfl rfl (by decide)) (List.mem_cons_of_mem _ (List.mem_cons_of_mem _ (List.mem_cons_of_mem _ (List.mem_cons_of_mem _ (List.mem_cons_of_mem _ (List.mem_cons_of_mem _ (List.mem_cons_of_mem _ List.mem_cons_self))))))))) (cons_ok (isx_ok rfl (isX_no (nd_ne h (i := 8) (j := 4) rfl rfl (by decide)) (List.mem_cons_of_mem _ (List.mem_cons_of_mem _ (List.mem_cons_of_mem _ (List.mem_cons_of_mem _ (List.mem_cons_of_mem _ (List.mem_cons_of_mem _ (List.mem_cons_of_mem _ List.mem_cons_self))))))))) (cons_ok (isx_ok rfl (isX_no (nd_ne h (i := 8) (j := 2) rfl rfl (by decide)) (List.mem_cons_of_mem _ (List.mem_cons_of_mem _ (List.mem_cons_of_mem _ (List.mem_cons_of_mem _ (List.mem_cons_of_mem _ (List.mem_cons_of_mem _ (List.mem_cons_of_mem _ List.mem_cons_self))))))))) (nil_ok)))) (by decide)) rfl)) ?_
    refine Eq.trans (seq_nx (asg_nx (bin_ok rfl (lst_ok (cons_ok (isx_ok rfl (isX_no (nd_ne h (i := 8) (j := 9) rfl rfl (by decide)) (List.mem_cons_of_mem _ (List.mem_cons_of_mem _ (List.mem_cons_of_mem _ (List.mem_cons_of_mem _ (List.mem_cons_of_mem _ (List.mem_cons_of_mem _ (List.mem_cons_of_mem _ (List.mem_cons_of_mem _ List.mem_cons_self)))))))))) (cons_ok (isx_ok rfl (isX_no (nd_ne h (i := 8) (j := 11) rfl rfl (by decide)) (List.mem_cons_of_mem _ (List.mem_cons_of_mem _ (List.mem_cons_of_mem _ (List.mem_cons_of_mem _ (List.mem_cons_of_mem _ (List.mem_cons_of_mem _ (List.mem_cons_of_mem _ (List.mem_cons_of_mem _ List.mem_cons_self)))))))))) (nil_ok))) (by decide)) (add_lst (by decide))) rfl)) ?_
    refine Eq.trans (seq_nx (asg_nx (bin_ok rfl (lst_ok (cons_ok (isx_ok rfl (isX_no (nd_ne h (i := 8) (j := 7) rfl rfl (by decide)) (List.mem_cons_of_mem _ (List.mem_cons_of_mem _ (List.mem_cons_of_mem _ (List.mem_cons_of_mem _ (List.mem_cons_of_mem _ (List.mem_cons_of_mem _ (List.mem_cons_of_mem _ List.mem_cons_self))))))))) (nil_ok)) (by decide)) (add_lst (by decide))) rfl)) ?_
    refine Eq.trans (seq_nx (asg_nx (bin_ok rfl (lst_ok (cons_ok (isx_ok rfl (isX_no (nd_ne h (i := 8) (j := 0) rfl rfl (by decide)) (List.mem_cons_of_mem _ (List.mem_cons_of_mem _ (List.mem_cons_of_mem _ (List.mem_cons_of_mem _ (List.mem_cons_of_mem _ (List.mem_cons_of_mem _ (List.mem_cons_of_mem _ List.mem_cons_self))))))))) (cons_ok (isx_ok rfl (isX_no (nd_ne h (i := 8) (j := 1) rfl rfl (by decide)) (List.mem_cons_of_mem _ (List.mem_cons_of_mem _ (List.mem_cons_of_mem _ (List.mem_cons_of_mem _ (List.mem_cons_of_mem _ (List.mem_cons_of_mem _ (List.mem_cons_of_mem _ List.mem_cons_self))))))))) (nil_ok))) (by decide)) (add_lst (by decide))) rfl)) ?_
    refine Eq.trans (seq_nx (asg_nx (bin_ok rfl (lst_ok (cons_ok (isx_ok rfl (isX_no (nd_ne h (i := 8) (j := 10) rfl rfl (by decide)) (List.mem_cons_of_mem _ (List.mem_cons_of_mem _ (List.mem_cons_of_mem _ (List.mem_cons_of_mem _ (List.mem_cons_of_mem _ (List.mem_cons_of_mem _ (List.mem_cons_of_mem _ (List.mem_cons_of_mem _ List.mem_cons_self)))))))))) (nil_ok)) (by decide)) (add_lst (by decide))) rfl)) ?_
    exact ret_ok (bin_ok rfl (lst_ok (cons_ok (isx_ok rfl (isX_no (nd_ne h (i := 8) (j := 5) rfl rfl (by decide)) (List.mem_cons_of_mem _ (List.mem_cons_of_mem _ (List.mem_cons_of_mem _ (List.mem_cons_of_mem _ (List.mem_cons_of_mem _ (List.mem_cons_of_mem _ (List.mem_cons_of_mem _ List.mem_cons_self))))))))) (cons_ok (isx_ok rfl (isX_yes List.mem_cons_self)) (cons_ok (isx_ok rfl (isX_no (nd_ne h (i := 8) (j := 6) rfl rfl (by decide)) (List.mem_cons_of_mem _ (List.mem_cons_of_mem _ (List.mem_cons_of_mem _ (List.mem_cons_of_mem _ (List.mem_cons_of_mem _ (List.mem_cons_of_mem _ (List.mem_cons_of_mem _ List.mem_cons_self))))))))) (nil_ok)))) (by decide)) (add_lst (by decide)))
  obtain ⟨e', q⟩ := q
  exact congrArg outD q
theorem sorts_NoNumber {ad : Ad} (h : Dist ad) {fs : List (Str × D)} : outD (b_l_sorts ad (startE 2 [.d (.xc ad.c_NoNumber fs)])) = some (.lst (flags 11)) := by
  have q : ∃ e', b_l_sorts ad [some (.d (.xc ad.c_NoNumber fs)), none] = .ok (.rt (.lst (flags 11))) e' := by
    apply Exists.intro
    unfold b_l_sorts
    refine Eq.trans (seq_nx (asg_nx (lst_ok (cons_ok (isx_ok rfl (isX_no (nd_ne h (i := 6) (j := 3) rfl rfl (by decide)) (List.mem_cons_of_mem _ (List.mem_cons_of_mem _ (List.mem_cons_of_mem _ (List.mem_cons_of_mem _ (List.mem_cons_of_mem _ List.mem_cons_self))))))) (cons_ok (isx_ok rfl (isX_no (nd_ne h (i := 6) (j := 4) rfl rfl (by decide)) (List.mem_cons_of_mem _ (List.mem_cons_of_mem _ (List.mem_cons_of_mem _ (List.mem_cons_of_mem _ (List.mem_cons_of_mem _ List.mem_cons_self))))))) (cons_ok (isx_ok rfl (isX_no (nd_ne h (i := 6) (j := 2) rfl rfl (by decide)) (List.mem_cons_of_mem _ (List.mem_cons_of_mem _ (List.mem_cons_of_mem _ (List.mem_cons_of_mem _ (List.mem_cons_of_mem _ List.mem_cons_self))))))) (nil_ok)))) (by decide)) rfl)) ?_
    refine Eq.trans (seq_nx (asg_nx (bin_ok rfl (lst_ok (cons_ok (isx_ok rfl (isX_no (nd_ne h (i := 6) (j := 9) rfl rfl (by decide)) (List.mem_cons_of_mem _ (List.mem_cons_of_mem _ (List.mem_cons_of_mem _ (List.mem_cons_of_mem _ (List.mem_cons_of_mem _ (List.mem_cons_of_mem _ List.mem_cons_self)))))))) (cons_ok (isx_ok rfl (isX_no (nd_ne h (i := 6) (j := 11) rfl rfl (by decide)) (List.mem_cons_of_mem _ (List.mem_cons_of_mem _ (List.mem_cons_of_mem _ (List.mem_cons_of_mem _ (List.mem_cons_of_mem _ (List.mem_cons_of_mem _ List.mem_cons_self)))))))) (nil_ok))) (by decide)) (add_lst (by decide))) rfl)) ?_
    refine Eq.trans (seq_nx (asg_nx (bin_ok rfl (lst_ok (cons_ok (isx_ok rfl (isX_no (nd_ne h (i := 6) (j := 7) rfl rfl (by decide)) (List.mem_cons_of_mem _ (List.mem_cons_of_mem _ (List.mem_cons_of_mem _ (List.mem_cons_of_mem _ (List.mem_cons_of_mem _ (List.mem_cons_of_mem _ List.mem_cons_self)))))))) (nil_ok)) (by decide)) (add_lst (by decide))) rfl)) ?_
    refine Eq.trans (seq_nx (asg_nx (bin_ok rfl (lst_ok (cons_ok (isx_ok rfl (isX_no (nd_ne h (i := 6) (j := 0) rfl rfl (by decide)) (List.mem_cons_of_mem _ (List.mem_cons_of_mem _ (List.mem_cons_of_mem _ (List.mem_cons_of_mem _ (List.mem_cons_of_mem _ List.mem_cons_self))))))) (cons_ok (isx_ok rfl (isX_no (nd_ne h (i := 6) (j := 1) rfl rfl (by decide)) (List.mem_cons_of_mem _ (List.mem_cons_of_mem _ (List.mem_cons_of_mem _ (List.mem_cons_of_mem _ (List.mem_cons_of_mem _ List.mem_cons_self))))))) (nil_ok))) (by decide)) (add_lst (by decide))) rfl)) ?_
    refine Eq.trans (seq_nx (asg_nx (bin_ok rfl (lst_ok (cons_ok (isx_ok rfl (isX_no (nd_ne h (i := 6) (j := 10) rfl rfl (by decide)) (List.mem_cons_of_mem _ (List.mem_cons_of_mem _ (List.mem_cons_of_mem _ (List.mem_cons_of_mem _ (List.mem_cons_of_mem _ (List.mem_cons_of_mem _ List.mem_cons_self)))))))) (nil_ok)) (by decide)) (add_lst (by decide))) rfl)) ?_
    exact ret_ok (bin_ok rfl (lst_ok (cons_ok (isx_ok rfl (isX_no (nd_ne h (i := 6) (j := 5) rfl rfl (by decide)) (List.mem_cons_of_mem _ (List.mem_cons_of_mem _ (List.mem_cons_of_mem _ (List.mem_cons_of_mem _ (List.mem_cons_of_mem _ List.mem_cons_self))))))) (cons_ok (isx_ok rfl (isX_no (nd_ne h (i := 6) (j := 8) rfl rfl (by decide)) (List.mem_cons_of_mem _ (List.mem_cons_of_mem _ (List.mem_cons_of_mem _ (List.mem_cons_of_mem _ (List.mem_cons_of_mem _ (List.mem_cons_of_mem _ List.mem_cons_self)))))))) (cons_ok (isx_ok rfl (isX_yes List.mem_cons_self)) (nil_ok)))) (by decide)) (add_lst (by decide)))
  obtain ⟨e', q⟩ := q
  exact congrArg outD q
end Law

set_option maxRecDepth 100000
set_option maxHeartbeats 1000000
set_option linter.all false
namespace Law
open PySem L2 Mir
abbrev ER (l : List D) (ev go du fa ta k ow : Option D) : Mir.Env := [some (.io l), ev.map .d, go.map .d, du.map .d, fa.map .d, ta.map .d, k.map .d, ow.map .d, none]
theorem flags_len (i : Nat) : (flags i).length = 12 := by simp [flags]
theorem flags_plain (i : Nat) : plainN 8 (.lst (flags i)) = true := by
  show (decide ((flags i).length ≤ 100000) && (flags i).all (plainN 7)) = true
  rw [flags_len]
  simp only [Bool.and_eq_true]
  refine ⟨by decide, List.all_eq_true.mpr fun d hd => ?_⟩
  obtain ⟨j, _, rfl⟩ := List.mem_map.mp hd
  rfl
def fI (i : Nat) : D → D
  | .int j => .bl (decide (j = i))
  | d => d
theorem flags_lc {l : List D} {ev go du fa ta ow : Option D} {i : Nat} : mLc (wRng1 (mCons (M.ret (.int 12)) (mNil))) (gSet 8) (tYesM) (mBin dEq (mVar 8) (mVar 6)) [8] (ER l ev go du fa ta (some (.int i)) ow) = .ok (flags i) (ER l ev go du fa ta (some (.int i)) ow) := by
  have e : flags i = (intsD 0 12).map (fI i) := by
    unfold flags intsD
    rw [List.map_map]
    refine List.map_congr_left fun j _ => ?_
    show _ = D.bl (decide ((0 + (j : Int)) = (i : Int)))
    rw [Int.zero_add]
    congr 1
    exact decide_eq_decide.mpr ⟨fun z => by rw [z], fun z => Int.ofNat.inj z⟩
  rw [e]
  refine lc_map (e1 := ER l ev go du fa ta (some (.int i)) ow) (rng_ok (i := 12) (cons_ok rfl nil_ok) (by omega)) (by simp [intsD]) rfl fun d hd => ?_
  obtain ⟨j, hj, rfl⟩ := List.mem_map.mp hd
  exact ⟨_, _, rfl, bin_ok (x := .int (0 + (j : Int))) (y := .int i) rfl rfl (eq_ints _ _), rfl⟩
def bodyR (ad : Ad) : M Out := (sSeq (sIf (mNot (mTru (vD (mCall (b_l_same 8) 4 2 (mCons (mCall (b_l_sorts ad) 2 1 (mCons (mVar 7) (mNil))) (mCons (mF (mLc (wRng1 (mCons (M.ret (.int 12)) (mNil))) (gSet 8) (tYesM) (mBin dEq (mVar 8) (mVar 6)) [8])) (mNil))))))) (sRet (M.ret (.bl false))) (sNx)) (
  sIf (mOr (mNot (mTru (vD (mIsX [ad.c_BadDeed, ad.c_BadLayout, ad.c_BadLine, ad.c_BadPair, ad.c_BadText, ad.c_Known, ad.c_NoNumber, ad.c_NoPlace, ad.c_NoProgram, ad.c_NoStep, ad.c_NothingDone, ad.c_OtherSteps] [] (mVar 7))))) (mNot (mTru (vD (mIsX [ad.c_BadDeed, ad.c_BadLayout, ad.c_BadLine, ad.c_BadPair, ad.c_BadText, ad.c_Known, ad.c_NoNumber, ad.c_NoPlace, ad.c_NoProgram, ad.c_NoStep, ad.c_NothingDone, ad.c_OtherSteps] [] (mVar 7)))))) (sRet (M.ret (.bl false))) (sNx)))
theorem body_ok {ad : Ad} {l : List D} {ev go du fa ta : Option D} {i : Nat} {C : Addr} {fs : List (Str × D)} (hs : outD (b_l_sorts ad (startE 2 [.d (.xc C fs)])) = some (.lst (flags i))) (hm : C ∈ ([ad.c_BadDeed, ad.c_BadLayout, ad.c_BadLine, ad.c_BadPair, ad.c_BadText, ad.c_Known, ad.c_NoNumber, ad.c_NoPlace, ad.c_NoProgram, ad.c_NoStep, ad.c_NothingDone, ad.c_OtherSteps] : List Addr)) :
    bodyR ad (ER l ev go du fa ta (some (.int i)) (some (.xc C fs))) = .ok .nx (ER l ev go du fa ta (some (.int i)) (some (.xc C fs))) := by
  unfold bodyR
  refine Eq.trans (seq_nx (if_ok (not_ok (tru_ok (call_of (ds := [.lst (flags i), .lst (flags i)]) (cons_ok (call_of (ds := [.xc C fs]) (cons_ok rfl nil_ok) rfl hs) (cons_ok (mF_ok flags_lc) nil_ok)) rfl (same_ok 8 _ (flags_plain i))))) rfl)) ?_
  exact if_ok (or_ok (not_ok (tru_ok (isx_ok (d := .xc C fs) rfl (isX_yes hm)))) (not_ok (tru_ok (isx_ok (d := .xc C fs) rfl (isX_yes hm))))) rfl
abbrev gR : D → Mir.Env → Option Mir.Env := gTupD 2 (gsCons (gSet 6) (gsCons (gSet 7) (gsNil)))
theorem g_ok {l : List D} {ev go du fa ta a b : Option D} {x y : D} : gR (.tup [x, y]) (ER l ev go du fa ta a b) = some (ER l ev go du fa ta (some x) (some y)) := by
  cases a <;> cases b <;> rfl
theorem step_ok {ad : Ad} {l : List D} {ev go du fa ta k ow : Option D} {i : Nat} {C : Addr} {fs : List (Str × D)} {ds : List D} {r : R Out} (hs : outD (b_l_sorts ad (startE 2 [.d (.xc C fs)])) = some (.lst (flags i))) (hm : C ∈ ([ad.c_BadDeed, ad.c_BadLayout, ad.c_BadLine, ad.c_BadPair, ad.c_BadText, ad.c_Known, ad.c_NoNumber, ad.c_NoPlace, ad.c_NoProgram, ad.c_NoStep, ad.c_NothingDone, ad.c_OtherSteps] : List Addr))
    (q : mLoop gR (bodyR ad) ds (ER l ev go du fa ta (some (.int i)) (some (.xc C fs))) = r) : mLoop gR (bodyR ad) (.tup [.int i, .xc C fs] :: ds) (ER l ev go du fa ta k ow) = r := by
  rw [loopC_at g_ok (body_ok hs hm)]
  exact q
abbrev everyR (ad : Ad) (far tag : D) : List D := [.xc ad.c_BadPair [("place", far)], .xc ad.c_BadText [("piece", far)], .xc ad.c_BadLine [("number", far)], .xc ad.c_NoStep [("name", tag)], .xc ad.c_OtherSteps [], .xc ad.c_NoPlace [("number", far)], .xc ad.c_BadDeed [("place", far)], .xc ad.c_BadLayout [("place", far)], .xc ad.c_NothingDone [], .xc ad.c_Known [("name", tag)], .xc ad.c_NoProgram [("name", tag)], .xc ad.c_NoNumber [("number", far)]]
theorem loop_ok {ad : Ad} (h : Dist ad) {l : List D} {ev go du fa ta : Option D} {far tag : D} : ∃ k ow, mLoop gR (bodyR ad) (pairs 0 (everyR ad far tag)) (ER l ev go du fa ta none none) = .ok .nx (ER l ev go du fa ta k ow) := by
  apply Exists.intro
  apply Exists.intro
  refine step_ok (i := 0) (sorts_BadPair h) (List.mem_cons_of_mem _ (List.mem_cons_of_mem _ (List.mem_cons_of_mem _ (List.mem_cons_self)))) ?_
  refine step_ok (i := 1) (sorts_BadText h) (List.mem_cons_of_mem _ (List.mem_cons_of_mem _ (List.mem_cons_of_mem _ (List.mem_cons_of_mem _ (List.mem_cons_self))))) ?_
  refine step_ok (i := 2) (sorts_BadLine h) (List.mem_cons_of_mem _ (List.mem_cons_of_mem _ (List.mem_cons_self))) ?_
  refine step_ok (i := 3) (sorts_NoStep h) (List.mem_cons_of_mem _ (List.mem_cons_of_mem _ (List.mem_cons_of_mem _ (List.mem_cons_of_mem _ (List.mem_cons_of_mem _ (List.mem_cons_of_mem _ (List.mem_cons_of_mem _ (List.mem_cons_of_mem _ (List.mem_cons_of_mem _ (List.mem_cons_self)))))))))) ?_
  refine step_ok (i := 4) (sorts_OtherSteps h) (List.mem_cons_of_mem _ (List.mem_cons_of_mem _ (List.mem_cons_of_mem _ (List.mem_cons_of_mem _ (List.mem_cons_of_mem _ (List.mem_cons_of_mem _ (List.mem_cons_of_mem _ (List.mem_cons_of_mem _ (List.mem_cons_of_mem _ (List.mem_cons_of_mem _ (List.mem_cons_of_mem _ (List.mem_cons_self)))))))))))) ?_
  refine step_ok (i := 5) (sorts_NoPlace h) (List.mem_cons_of_mem _ (List.mem_cons_of_mem _ (List.mem_cons_of_mem _ (List.mem_cons_of_mem _ (List.mem_cons_of_mem _ (List.mem_cons_of_mem _ (List.mem_cons_of_mem _ (List.mem_cons_self)))))))) ?_
  refine step_ok (i := 6) (sorts_BadDeed h) (List.mem_cons_self) ?_
  refine step_ok (i := 7) (sorts_BadLayout h) (List.mem_cons_of_mem _ (List.mem_cons_self)) ?_
  refine step_ok (i := 8) (sorts_NothingDone h) (List.mem_cons_of_mem _ (List.mem_cons_of_mem _ (List.mem_cons_of_mem _ (List.mem_cons_of_mem _ (List.mem_cons_of_mem _ (List.mem_cons_of_mem _ (List.mem_cons_of_mem _ (List.mem_cons_of_mem _ (List.mem_cons_of_mem _ (List.mem_cons_of_mem _ (List.mem_cons_self))))))))))) ?_
  refine step_ok (i := 9) (sorts_Known h) (List.mem_cons_of_mem _ (List.mem_cons_of_mem _ (List.mem_cons_of_mem _ (List.mem_cons_of_mem _ (List.mem_cons_of_mem _ (List.mem_cons_self)))))) ?_
  refine step_ok (i := 10) (sorts_NoProgram h) (List.mem_cons_of_mem _ (List.mem_cons_of_mem _ (List.mem_cons_of_mem _ (List.mem_cons_of_mem _ (List.mem_cons_of_mem _ (List.mem_cons_of_mem _ (List.mem_cons_of_mem _ (List.mem_cons_of_mem _ (List.mem_cons_self))))))))) ?_
  refine step_ok (i := 11) (sorts_NoNumber h) (List.mem_cons_of_mem _ (List.mem_cons_of_mem _ (List.mem_cons_of_mem _ (List.mem_cons_of_mem _ (List.mem_cons_of_mem _ (List.mem_cons_of_mem _ (List.mem_cons_self))))))) ?_
  rfl
end Law

set_option maxRecDepth 100000
set_option maxHeartbeats 1000000
set_option linter.all false
namespace Law
open PySem L2 Mir
theorem lk {f : Str} {d : D} : [(f, d)].lookup f = some d := by simp [List.lookup]
theorem p30 : dPow (.int 10) (.int 30) = some (.int 1000000000000000000000000000000) := by simp [dPow]
theorem p9 : dPow (.int 10) (.int 9) = some (.int 1000000000) := by simp [dPow]
theorem p8 : dPow (.int 10) (.int 8) = some (.int 100000000) := by simp [dPow]
theorem m8 : dMul (.int 5) (.int 100000000) = some (.int 500000000) := rfl
def tags : List D := [.str (PySem.Str.ofString "a"), .str (PySem.Str.ofString "ants"), .str (PySem.Str.ofString "abcdefgh"), .str (PySem.Str.ofString "zz")]
theorem tag_str {d : D} (h : d ∈ tags) : ∃ s, d = .str s ∧ PyData.strOk s = true := by
  simp only [tags, List.mem_cons, List.not_mem_nil, or_false] at h
  rcases h with rfl | rfl | rfl | rfl
  all_goals exact ⟨_, rfl, by decide +kernel⟩
theorem b_ok : PyData.strOk (PySem.Str.ofString "b") = true := by decide +kernel
theorem right_ok {ad : Ad} (h : Dist ad) {l : List D} (hl : Box 1000 l) : outD (b_l_right ad (startE 9 [.io l])) = some (.bl true) := by
  obtain ⟨d, l1, ⟨r, rfl, r1, r2⟩, hb1, he1⟩ := take_ok (n := 999) (k := 1000000000) (by omega) (by omega) l hl
  obtain ⟨tag, l2, hm, hb2, he2⟩ := of_ok (n := 998) (xs := tags) (by decide) (by decide) l1 hb1
  obtain ⟨s, ht, hs⟩ := tag_str hm
  obtain ⟨far, hf⟩ : ∃ far : D, far = .int (r - 500000000) := ⟨_, rfl⟩
  have qt : mCallI b_l_take 6 2 0 (mCons (mBin dPow (M.ret (.int 10)) (M.ret (.int 9))) (mNil)) (ER l none none none none none none none) = .ok (.int r) (ER l1 none none none none none none none) :=
    callI_of (ds := [.int 1000000000]) rfl (cons_ok (bin_ok rfl rfl p9) nil_ok) rfl rfl he1
  have qo : mCallI b_l_of 2 2 0 (mCons (mLst (mCons (M.ret (.str (PySem.Str.ofString "a"))) (mCons (M.ret (.str (PySem.Str.ofString "ants"))) (mCons (M.ret (.str (PySem.Str.ofString "abcdefgh"))) (mCons (M.ret (.str (PySem.Str.ofString "zz"))) (mNil)))))) (mNil)) (ER l1 none none none none none none none) = .ok tag (ER l2 none none none none none none none) :=
    callI_of (ds := [.lst tags]) rfl (cons_ok (lst_ok (xs := tags) (cons_ok rfl (cons_ok rfl (cons_ok rfl (cons_ok rfl nil_ok)))) (by decide)) nil_ok) rfl rfl he2
  have qp : sPar 4 5 (iDat (mBin dSub (mCallI b_l_take 6 2 0 (mCons (mBin dPow (M.ret (.int 10)) (M.ret (.int 9))) (mNil))) (mBin dMul (M.ret (.int 5)) (mBin dPow (M.ret (.int 10)) (M.ret (.int 8))))) (iDat (mCallI b_l_of 2 2 0 (mCons (mLst (mCons (M.ret (.str (PySem.Str.ofString "a"))) (mCons (M.ret (.str (PySem.Str.ofString "ants"))) (mCons (M.ret (.str (PySem.Str.ofString "abcdefgh"))) (mCons (M.ret (.str (PySem.Str.ofString "zz"))) (mNil)))))) (mNil))) (iNil))) (ER l none none none none none none none) = .ok .nx (ER l2 none none none (some far) (some tag) none none) :=
    par_nx (s := .d far) (t := .d tag) (iDat_ok (bin_ok qt (bin_ok rfl (bin_ok rfl rfl p8) m8) (by rw [hf]; rfl)) (iDat_ok qo iNil_ok)) rfl
  have pl : plainN 8 (.lst [far, far, far, tag, far, far, far, tag, tag, far, far, .int 7, .int (-1), .str (PySem.Str.ofString "b"), .int 3, .int 4, .int 5, tag, tag, .int 1000000000000000000000000000000]) = true := by
    subst hf ht
    simp [plainN, hs, b_ok]
  obtain ⟨k, ow, ql⟩ := loop_ok h (l := l2) (ev := some (.lst (everyR ad far tag))) (go := none) (du := none) (fa := some far) (ta := some tag) (far := far) (tag := tag)
  have q : ∃ e', b_l_right ad (ER l none none none none none none none) = .ok (.rt (.bl true)) e' := by
    apply Exists.intro
    unfold b_l_right
    refine Eq.trans (seq_nx qp) ?_
    refine Eq.trans (seq_nx (asg_nx (e2 := ER l2 (some (.lst [.xc ad.c_BadPair [("place", far)], .xc ad.c_BadText [("piece", far)], .xc ad.c_BadLine [("number", far)], .xc ad.c_NoStep [("name", tag)]])) none none (some far) (some tag) none none) (lst_ok (cons_ok (mk_ok (rfl)) (cons_ok (mk_ok (rfl)) (cons_ok (mk_ok (rfl)) (cons_ok (mk_ok (rfl)) (nil_ok))))) (Nat.le_of_ble_eq_true rfl)) rfl)) ?_
    refine Eq.trans (seq_nx (asg_nx (e2 := ER l2 (some (.lst [.xc ad.c_BadPair [("place", far)], .xc ad.c_BadText [("piece", far)], .xc ad.c_BadLine [("number", far)], .xc ad.c_NoStep [("name", tag)], .xc ad.c_OtherSteps [], .xc ad.c_NoPlace [("number", far)], .xc ad.c_BadDeed [("place", far)]])) none none (some far) (some tag) none none) (bin_ok rfl (lst_ok (cons_ok (rfl) (cons_ok (mk_ok (rfl)) (cons_ok (mk_ok (rfl)) (nil_ok)))) (Nat.le_of_ble_eq_true rfl)) (add_lst (Nat.le_of_ble_eq_true rfl))) rfl)) ?_
    refine Eq.trans (seq_nx (asg_nx (e2 := ER l2 (some (.lst [.xc ad.c_BadPair [("place", far)], .xc ad.c_BadText [("piece", far)], .xc ad.c_BadLine [("number", far)], .xc ad.c_NoStep [("name", tag)], .xc ad.c_OtherSteps [], .xc ad.c_NoPlace [("number", far)], .xc ad.c_BadDeed [("place", far)], .xc ad.c_BadLayout [("place", far)], .xc ad.c_NothingDone [], .xc ad.c_Known [("name", tag)], .xc ad.c_NoProgram [("name", tag)], .xc ad.c_NoNumber [("number", far)]])) none none (some far) (some tag) none none) (bin_ok rfl (lst_ok (cons_ok (mk_ok (rfl)) (cons_ok (rfl) (cons_ok (mk_ok (rfl)) (cons_ok (mk_ok (rfl)) (cons_ok (mk_ok (rfl)) (nil_ok)))))) (Nat.le_of_ble_eq_true rfl)) (add_lst (Nat.le_of_ble_eq_true rfl))) rfl)) ?_
    refine Eq.trans (seq_nx (sFor_ok (ds := pairs 0 (everyR ad far tag)) rfl ql)) ?_
    refine Eq.trans (seq_nx (asg_nx (e2 := ER l2 (some (.lst [.xc ad.c_BadPair [("place", far)], .xc ad.c_BadText [("piece", far)], .xc ad.c_BadLine [("number", far)], .xc ad.c_NoStep [("name", tag)], .xc ad.c_OtherSteps [], .xc ad.c_NoPlace [("number", far)], .xc ad.c_BadDeed [("place", far)], .xc ad.c_BadLayout [("place", far)], .xc ad.c_NothingDone [], .xc ad.c_Known [("name", tag)], .xc ad.c_NoProgram [("name", tag)], .xc ad.c_NoNumber [("number", far)]])) (some (.lst [far, far, far, tag, far])) none (some far) (some tag) k ow) (lst_ok (cons_ok (fld_ok (bin_ok (y := .int 0) rfl rfl (show _ = some (D.xc ad.c_BadPair [("place", far)]) from rfl)) (List.mem_cons_of_mem _ (List.mem_cons_of_mem _ (List.mem_cons_self))) lk) (cons_ok (fld_ok (bin_ok (y := .int 1) rfl rfl (show _ = some (D.xc ad.c_BadText [("piece", far)]) from rfl)) (List.mem_cons_self) lk) (cons_ok (fld_ok (bin_ok (y := .int 2) rfl rfl (show _ = some (D.xc ad.c_BadLine [("number", far)]) from rfl)) (List.mem_cons_self) lk) (cons_ok (fld_ok (bin_ok (y := .int 3) rfl rfl (show _ = some (D.xc ad.c_NoStep [("name", tag)]) from rfl)) (List.mem_cons_of_mem _ (List.mem_cons_of_mem _ (List.mem_cons_self))) lk) (cons_ok (fld_ok (bin_ok (y := .int 5) rfl rfl (show _ = some (D.xc ad.c_NoPlace [("number", far)]) from rfl)) (List.mem_cons_of_mem _ (List.mem_cons_of_mem _ (List.mem_cons_self))) lk) (nil_ok)))))) (Nat.le_of_ble_eq_true rfl)) rfl)) ?_
    refine Eq.trans (seq_nx (asg_nx (e2 := ER l2 (some (.lst [.xc ad.c_BadPair [("place", far)], .xc ad.c_BadText [("piece", far)], .xc ad.c_BadLine [("number", far)], .xc ad.c_NoStep [("name", tag)], .xc ad.c_OtherSteps [], .xc ad.c_NoPlace [("number", far)], .xc ad.c_BadDeed [("place", far)], .xc ad.c_BadLayout [("place", far)], .xc ad.c_NothingDone [], .xc ad.c_Known [("name", tag)], .xc ad.c_NoProgram [("name", tag)], .xc ad.c_NoNumber [("number", far)]])) (some (.lst [far, far, far, tag, far, far, far, tag])) none (some far) (some tag) k ow) (bin_ok rfl (lst_ok (cons_ok (fld_ok (bin_ok (y := .int 6) rfl rfl (show _ = some (D.xc ad.c_BadDeed [("place", far)]) from rfl)) (List.mem_cons_self) lk) (cons_ok (fld_ok (bin_ok (y := .int 7) rfl rfl (show _ = some (D.xc ad.c_BadLayout [("place", far)]) from rfl)) (List.mem_cons_of_mem _ (List.mem_cons_self)) lk) (cons_ok (fld_ok (bin_ok (y := .int 9) rfl rfl (show _ = some (D.xc ad.c_Known [("name", tag)]) from rfl)) (List.mem_cons_self) lk) (nil_ok)))) (Nat.le_of_ble_eq_true rfl)) (add_lst (Nat.le_of_ble_eq_true rfl))) rfl)) ?_
    refine Eq.trans (seq_nx (asg_nx (e2 := ER l2 (some (.lst [.xc ad.c_BadPair [("place", far)], .xc ad.c_BadText [("piece", far)], .xc ad.c_BadLine [("number", far)], .xc ad.c_NoStep [("name", tag)], .xc ad.c_OtherSteps [], .xc ad.c_NoPlace [("number", far)], .xc ad.c_BadDeed [("place", far)], .xc ad.c_BadLayout [("place", far)], .xc ad.c_NothingDone [], .xc ad.c_Known [("name", tag)], .xc ad.c_NoProgram [("name", tag)], .xc ad.c_NoNumber [("number", far)]])) (some (.lst [far, far, far, tag, far, far, far, tag, tag, far])) none (some far) (some tag) k ow) (bin_ok rfl (lst_ok (cons_ok (fld_ok (bin_ok (y := .int 10) rfl rfl (show _ = some (D.xc ad.c_NoProgram [("name", tag)]) from rfl)) (List.mem_cons_of_mem _ (List.mem_cons_self)) lk) (cons_ok (fld_ok (bin_ok (y := .int 11) rfl rfl (show _ = some (D.xc ad.c_NoNumber [("number", far)]) from rfl)) (List.mem_cons_of_mem _ (List.mem_cons_self)) lk) (nil_ok))) (Nat.le_of_ble_eq_true rfl)) (add_lst (Nat.le_of_ble_eq_true rfl))) rfl)) ?_
    refine Eq.trans (seq_nx (asg_nx (e2 := ER l2 (some (.lst [.xc ad.c_BadPair [("place", far)], .xc ad.c_BadText [("piece", far)], .xc ad.c_BadLine [("number", far)], .xc ad.c_NoStep [("name", tag)], .xc ad.c_OtherSteps [], .xc ad.c_NoPlace [("number", far)], .xc ad.c_BadDeed [("place", far)], .xc ad.c_BadLayout [("place", far)], .xc ad.c_NothingDone [], .xc ad.c_Known [("name", tag)], .xc ad.c_NoProgram [("name", tag)], .xc ad.c_NoNumber [("number", far)]])) (some (.lst [far, far, far, tag, far, far, far, tag, tag, far])) (some (.lst [far, far, far, tag, far, far, far, tag, tag, far])) (some far) (some tag) k ow) (lst_ok (cons_ok (rfl) (cons_ok (rfl) (cons_ok (rfl) (cons_ok (rfl) (cons_ok (rfl) (cons_ok (rfl) (cons_ok (rfl) (cons_ok (rfl) (cons_ok (rfl) (cons_ok (rfl) (nil_ok))))))))))) (Nat.le_of_ble_eq_true rfl)) rfl)) ?_
    refine Eq.trans (seq_nx (asg_nx (e2 := ER l2 (some (.lst [.xc ad.c_BadPair [("place", far)], .xc ad.c_BadText [("piece", far)], .xc ad.c_BadLine [("number", far)], .xc ad.c_NoStep [("name", tag)], .xc ad.c_OtherSteps [], .xc ad.c_NoPlace [("number", far)], .xc ad.c_BadDeed [("place", far)], .xc ad.c_BadLayout [("place", far)], .xc ad.c_NothingDone [], .xc ad.c_Known [("name", tag)], .xc ad.c_NoProgram [("name", tag)], .xc ad.c_NoNumber [("number", far)]])) (some (.lst [far, far, far, tag, far, far, far, tag, tag, far, far, .int 7])) (some (.lst [far, far, far, tag, far, far, far, tag, tag, far])) (some far) (some tag) k ow) (bin_ok rfl (lst_ok (cons_ok (fld_ok (mk_ok (C := ad.c_BadPair) (f := "place") (d := far) (rfl)) (List.mem_cons_of_mem _ (List.mem_cons_of_mem _ (List.mem_cons_self))) lk) (cons_ok (fld_ok (mk_ok (C := ad.c_BadText) (f := "piece") (d := .int 7) (rfl)) (List.mem_cons_self) lk) (nil_ok))) (Nat.le_of_ble_eq_true rfl)) (add_lst (Nat.le_of_ble_eq_true rfl))) rfl)) ?_
    refine Eq.trans (seq_nx (asg_nx (e2 := ER l2 (some (.lst [.xc ad.c_BadPair [("place", far)], .xc ad.c_BadText [("piece", far)], .xc ad.c_BadLine [("number", far)], .xc ad.c_NoStep [("name", tag)], .xc ad.c_OtherSteps [], .xc ad.c_NoPlace [("number", far)], .xc ad.c_BadDeed [("place", far)], .xc ad.c_BadLayout [("place", far)], .xc ad.c_NothingDone [], .xc ad.c_Known [("name", tag)], .xc ad.c_NoProgram [("name", tag)], .xc ad.c_NoNumber [("number", far)]])) (some (.lst [far, far, far, tag, far, far, far, tag, tag, far, far, .int 7, .int (-1), .str (PySem.Str.ofString "b")])) (some (.lst [far, far, far, tag, far, far, far, tag, tag, far])) (some far) (some tag) k ow) (bin_ok rfl (lst_ok (cons_ok (fld_ok (mk_ok (C := ad.c_BadLine) (f := "number") (d := .int (-1)) (rfl)) (List.mem_cons_self) lk) (cons_ok (fld_ok (mk_ok (C := ad.c_NoStep) (f := "name") (d := .str (PySem.Str.ofString "b")) (rfl)) (List.mem_cons_of_mem _ (List.mem_cons_of_mem _ (List.mem_cons_self))) lk) (nil_ok))) (Nat.le_of_ble_eq_true rfl)) (add_lst (Nat.le_of_ble_eq_true rfl))) rfl)) ?_
    refine Eq.trans (seq_nx (asg_nx (e2 := ER l2 (some (.lst [.xc ad.c_BadPair [("place", far)], .xc ad.c_BadText [("piece", far)], .xc ad.c_BadLine [("number", far)], .xc ad.c_NoStep [("name", tag)], .xc ad.c_OtherSteps [], .xc ad.c_NoPlace [("number", far)], .xc ad.c_BadDeed [("place", far)], .xc ad.c_BadLayout [("place", far)], .xc ad.c_NothingDone [], .xc ad.c_Known [("name", tag)], .xc ad.c_NoProgram [("name", tag)], .xc ad.c_NoNumber [("number", far)]])) (some (.lst [far, far, far, tag, far, far, far, tag, tag, far, far, .int 7, .int (-1), .str (PySem.Str.ofString "b")])) (some (.lst [far, far, far, tag, far, far, far, tag, tag, far, far, .int 7, .int (-1), .str (PySem.Str.ofString "b")])) (some far) (some tag) k ow) (bin_ok rfl (lst_ok (cons_ok (rfl) (cons_ok (rfl) (cons_ok (rfl) (cons_ok (rfl) (nil_ok))))) (Nat.le_of_ble_eq_true rfl)) (add_lst (Nat.le_of_ble_eq_true rfl))) rfl)) ?_
    refine Eq.trans (seq_nx (asg_nx (e2 := ER l2 (some (.lst [.xc ad.c_BadPair [("place", far)], .xc ad.c_BadText [("piece", far)], .xc ad.c_BadLine [("number", far)], .xc ad.c_NoStep [("name", tag)], .xc ad.c_OtherSteps [], .xc ad.c_NoPlace [("number", far)], .xc ad.c_BadDeed [("place", far)], .xc ad.c_BadLayout [("place", far)], .xc ad.c_NothingDone [], .xc ad.c_Known [("name", tag)], .xc ad.c_NoProgram [("name", tag)], .xc ad.c_NoNumber [("number", far)]])) (some (.lst [far, far, far, tag, far, far, far, tag, tag, far, far, .int 7, .int (-1), .str (PySem.Str.ofString "b"), .int 3, .int 4])) (some (.lst [far, far, far, tag, far, far, far, tag, tag, far, far, .int 7, .int (-1), .str (PySem.Str.ofString "b")])) (some far) (some tag) k ow) (bin_ok rfl (lst_ok (cons_ok (fld_ok (mk_ok (C := ad.c_NoPlace) (f := "number") (d := .int 3) (rfl)) (List.mem_cons_of_mem _ (List.mem_cons_of_mem _ (List.mem_cons_self))) lk) (cons_ok (fld_ok (mk_ok (C := ad.c_BadDeed) (f := "place") (d := .int 4) (rfl)) (List.mem_cons_self) lk) (nil_ok))) (Nat.le_of_ble_eq_true rfl)) (add_lst (Nat.le_of_ble_eq_true rfl))) rfl)) ?_
    refine Eq.trans (seq_nx (asg_nx (e2 := ER l2 (some (.lst [.xc ad.c_BadPair [("place", far)], .xc ad.c_BadText [("piece", far)], .xc ad.c_BadLine [("number", far)], .xc ad.c_NoStep [("name", tag)], .xc ad.c_OtherSteps [], .xc ad.c_NoPlace [("number", far)], .xc ad.c_BadDeed [("place", far)], .xc ad.c_BadLayout [("place", far)], .xc ad.c_NothingDone [], .xc ad.c_Known [("name", tag)], .xc ad.c_NoProgram [("name", tag)], .xc ad.c_NoNumber [("number", far)]])) (some (.lst [far, far, far, tag, far, far, far, tag, tag, far, far, .int 7, .int (-1), .str (PySem.Str.ofString "b"), .int 3, .int 4, .int 5, tag])) (some (.lst [far, far, far, tag, far, far, far, tag, tag, far, far, .int 7, .int (-1), .str (PySem.Str.ofString "b")])) (some far) (some tag) k ow) (bin_ok rfl (lst_ok (cons_ok (fld_ok (mk_ok (C := ad.c_BadLayout) (f := "place") (d := .int 5) (rfl)) (List.mem_cons_of_mem _ (List.mem_cons_self)) lk) (cons_ok (fld_ok (mk_ok (C := ad.c_Known) (f := "name") (d := tag) (rfl)) (List.mem_cons_self) lk) (nil_ok))) (Nat.le_of_ble_eq_true rfl)) (add_lst (Nat.le_of_ble_eq_true rfl))) rfl)) ?_
    refine Eq.trans (seq_nx (asg_nx (e2 := ER l2 (some (.lst [.xc ad.c_BadPair [("place", far)], .xc ad.c_BadText [("piece", far)], .xc ad.c_BadLine [("number", far)], .xc ad.c_NoStep [("name", tag)], .xc ad.c_OtherSteps [], .xc ad.c_NoPlace [("number", far)], .xc ad.c_BadDeed [("place", far)], .xc ad.c_BadLayout [("place", far)], .xc ad.c_NothingDone [], .xc ad.c_Known [("name", tag)], .xc ad.c_NoProgram [("name", tag)], .xc ad.c_NoNumber [("number", far)]])) (some (.lst [far, far, far, tag, far, far, far, tag, tag, far, far, .int 7, .int (-1), .str (PySem.Str.ofString "b"), .int 3, .int 4, .int 5, tag, tag, .int 1000000000000000000000000000000])) (some (.lst [far, far, far, tag, far, far, far, tag, tag, far, far, .int 7, .int (-1), .str (PySem.Str.ofString "b")])) (some far) (some tag) k ow) (bin_ok rfl (lst_ok (cons_ok (fld_ok (mk_ok (C := ad.c_NoProgram) (f := "name") (d := tag) (rfl)) (List.mem_cons_of_mem _ (List.mem_cons_self)) lk) (cons_ok (fld_ok (mk_ok (C := ad.c_NoNumber) (f := "number") (d := .int 1000000000000000000000000000000) (bin_ok rfl rfl p30)) (List.mem_cons_of_mem _ (List.mem_cons_self)) lk) (nil_ok))) (Nat.le_of_ble_eq_true rfl)) (add_lst (Nat.le_of_ble_eq_true rfl))) rfl)) ?_
    exact ret_ok (call_of (ds := [.lst [far, far, far, tag, far, far, far, tag, tag, far, far, .int 7, .int (-1), .str (PySem.Str.ofString "b"), .int 3, .int 4, .int 5, tag, tag, .int 1000000000000000000000000000000], .lst [far, far, far, tag, far, far, far, tag, tag, far, far, .int 7, .int (-1), .str (PySem.Str.ofString "b"), .int 3, .int 4, .int 5, tag, tag, .int 1000000000000000000000000000000]]) (cons_ok rfl (cons_ok (bin_ok rfl (lst_ok (cons_ok (rfl) (cons_ok (rfl) (cons_ok (rfl) (cons_ok (rfl) (cons_ok (rfl) (cons_ok (bin_ok rfl rfl p30) (nil_ok))))))) (Nat.le_of_ble_eq_true rfl)) (add_lst (Nat.le_of_ble_eq_true rfl))) nil_ok)) rfl (same_ok 8 _ pl))
  obtain ⟨e', q⟩ := q
  exact congrArg outD q
end Law

set_option maxRecDepth 100000
set_option maxHeartbeats 1000000
set_option linter.all false
namespace Law
open PySem L2 Mir TL
theorem law_true (ad : Ad) (hdist : Dist ad) (ns : List Int) (h : ns.length ≤ 63) : ∃ e', b_law ad (startE N_law.length [.d (.fz (ns.map D.int))]) = .ok (.rt (.bl true)) e' := by
  obtain ⟨cs, hc, c1, c2, ci⟩ := cells_ok (xs := ns.map D.int) (fun d hd => by
    obtain ⟨i, _, rfl⟩ := List.mem_map.mp hd
    exact ⟨i, rfl⟩) (by simpa using h)
  have q1 : mCall b_l_cells 6 2 (mCons (mVar 0) (mCons (M.ret (.int 3)) (mNil))) [some (.d (.fz (ns.map D.int))), none, none] = .ok (.lst cs) [some (.d (.fz (ns.map D.int))), none, none] :=
    call_of (ds := [.fz (ns.map D.int), .int 3]) rfl rfl hc
  have qw : wRng1 (mCons (mCB dLen (mCons (mVar 1) (mNil))) (mNil)) [some (.d (.fz (ns.map D.int))), some (.d (.lst cs)), none] = .ok (intsD 0 cs.length) [some (.d (.fz (ns.map D.int))), some (.d (.lst cs)), none] :=
    rng_ok (cons_ok (cb_ok (cons_ok (x := .lst cs) rfl nil_ok) (r := .int cs.length) (by simp [dLen])) nil_ok) (by omega)
  have ql : mLc (wRng1 (mCons (mCB dLen (mCons (mVar 1) (mNil))) (mNil))) (gSet 2) (tYesM) (mCallF (b_l_right ad) 9 1 (oCall b_l_box 3 2 (mCons (mVar 1) (mCons (mVar 2) (mNil))))) [2] [some (.d (.fz (ns.map D.int))), some (.d (.lst cs)), none] = .ok ((intsD 0 cs.length).map fun _ => .bl true) [some (.d (.fz (ns.map D.int))), some (.d (.lst cs)), none] := by
    refine lc_map (e1 := [some (.d (.fz (ns.map D.int))), some (.d (.lst cs)), none]) (f := fun _ => .bl true) qw (by simp [intsD]; omega) rfl fun d hd => ?_
    obtain ⟨j, hj, rfl⟩ := List.mem_map.mp hd
    have hj : j < cs.length := List.mem_range.mp hj
    rw [Int.zero_add]
    obtain ⟨l, hl, hb⟩ := box_ok (xs := cs) (k := j) ci hj (by omega)
    exact ⟨_, _, rfl, callF_of (e1 := [some (.d (.fz (ns.map D.int))), some (.d (.lst cs)), some (.d (.int j))]) (oCall_of (ds := [.lst cs, .int j]) rfl rfl hl) (right_ok hdist (hb.mono (by omega))), rfl⟩
  refine ⟨[some (.d (.fz (ns.map D.int))), some (.d (.lst cs)), none], ?_⟩
  show b_law ad [some (.d (.fz (ns.map D.int))), none, none] = _
  unfold b_law
  refine Eq.trans (seq_nx (asg_nx q1 rfl)) ?_
  refine ret_ok ?_
  exact cb_ok (cons_ok (mF_ok ql) nil_ok) (all_true fun y hy => by
    obtain ⟨_, _, rfl⟩ := List.mem_map.mp hy
    rfl)
end Law

namespace Law
open PySem L2 Mir
set_option maxHeartbeats 4000000
section
variable {P : Program} {w : World} {K : PySem.W.Frag} {mg : Str → Option Value}
def mkT {h : Heap} (X : K.In h) (G : h.Ns mainGlobals mg)
    {a_l_box : Addr} {od_l_box an_l_box : Option Addr} {sl_l_box : Array (Option Value)} {oc_l_box kV_l_box dc_l_box pm_l_box cd_l_box ct_l_box : Value}
    (a1_l_box : PySem.W.nsIn K mainGlobals "_law_box" = some (some (.ref a_l_box))) (l1_l_box : K.lookup a_l_box = some ⟨oc_l_box, od_l_box, .func (PySem.W.fnOf "_law_box" "_law_box" (defArgs s_l_box) (defBody s_l_box) (defScope s_l_box) .none kV_l_box dc_l_box pm_l_box an_l_box cd_l_box ct_l_box), sl_l_box⟩) (c1_l_box : PySem.W.codeIn K cd_l_box "_law_box" = true) (k1_l_box : PySem.W.keepIn K (.ref a_l_box) = true)
    {a_l_take : Addr} {od_l_take an_l_take : Option Addr} {sl_l_take : Array (Option Value)} {oc_l_take kV_l_take dc_l_take pm_l_take cd_l_take ct_l_take : Value}
    (a1_l_take : PySem.W.nsIn K mainGlobals "_law_take" = some (some (.ref a_l_take))) (l1_l_take : K.lookup a_l_take = some ⟨oc_l_take, od_l_take, .func (PySem.W.fnOf "_law_take" "_law_take" (defArgs s_l_take) (defBody s_l_take) (defScope s_l_take) .none kV_l_take dc_l_take pm_l_take an_l_take cd_l_take ct_l_take), sl_l_take⟩) (c1_l_take : PySem.W.codeIn K cd_l_take "_law_take" = true) (k1_l_take : PySem.W.keepIn K (.ref a_l_take) = true)
    {a_l_cells : Addr} {od_l_cells an_l_cells : Option Addr} {sl_l_cells : Array (Option Value)} {oc_l_cells kV_l_cells dc_l_cells pm_l_cells cd_l_cells ct_l_cells : Value}
    (a1_l_cells : PySem.W.nsIn K mainGlobals "_law_cells" = some (some (.ref a_l_cells))) (l1_l_cells : K.lookup a_l_cells = some ⟨oc_l_cells, od_l_cells, .func (PySem.W.fnOf "_law_cells" "_law_cells" (defArgs s_l_cells) (defBody s_l_cells) (defScope s_l_cells) .none kV_l_cells dc_l_cells pm_l_cells an_l_cells cd_l_cells ct_l_cells), sl_l_cells⟩) (c1_l_cells : PySem.W.codeIn K cd_l_cells "_law_cells" = true) (k1_l_cells : PySem.W.keepIn K (.ref a_l_cells) = true)
    {a_l_of : Addr} {od_l_of an_l_of : Option Addr} {sl_l_of : Array (Option Value)} {oc_l_of kV_l_of dc_l_of pm_l_of cd_l_of ct_l_of : Value}
    (a1_l_of : PySem.W.nsIn K mainGlobals "_law_of" = some (some (.ref a_l_of))) (l1_l_of : K.lookup a_l_of = some ⟨oc_l_of, od_l_of, .func (PySem.W.fnOf "_law_of" "_law_of" (defArgs s_l_of) (defBody s_l_of) (defScope s_l_of) .none kV_l_of dc_l_of pm_l_of an_l_of cd_l_of ct_l_of), sl_l_of⟩) (c1_l_of : PySem.W.codeIn K cd_l_of "_law_of" = true) (k1_l_of : PySem.W.keepIn K (.ref a_l_of) = true)
    {a_l_same : Addr} {od_l_same an_l_same : Option Addr} {sl_l_same : Array (Option Value)} {oc_l_same kV_l_same dc_l_same pm_l_same cd_l_same ct_l_same : Value}
    (a1_l_same : PySem.W.nsIn K mainGlobals "_law_same" = some (some (.ref a_l_same))) (l1_l_same : K.lookup a_l_same = some ⟨oc_l_same, od_l_same, .func (PySem.W.fnOf "_law_same" "_law_same" (defArgs s_l_same) (defBody s_l_same) (defScope s_l_same) .none kV_l_same dc_l_same pm_l_same an_l_same cd_l_same ct_l_same), sl_l_same⟩) (c1_l_same : PySem.W.codeIn K cd_l_same "_law_same" = true) (k1_l_same : PySem.W.keepIn K (.ref a_l_same) = true)
    {a_l_sorts : Addr} {od_l_sorts an_l_sorts : Option Addr} {sl_l_sorts : Array (Option Value)} {oc_l_sorts kV_l_sorts dc_l_sorts pm_l_sorts cd_l_sorts ct_l_sorts : Value}
    (a1_l_sorts : PySem.W.nsIn K mainGlobals "_law_sorts" = some (some (.ref a_l_sorts))) (l1_l_sorts : K.lookup a_l_sorts = some ⟨oc_l_sorts, od_l_sorts, .func (PySem.W.fnOf "_law_sorts" "_law_sorts" (defArgs s_l_sorts) (defBody s_l_sorts) (defScope s_l_sorts) .none kV_l_sorts dc_l_sorts pm_l_sorts an_l_sorts cd_l_sorts ct_l_sorts), sl_l_sorts⟩) (c1_l_sorts : PySem.W.codeIn K cd_l_sorts "_law_sorts" = true) (k1_l_sorts : PySem.W.keepIn K (.ref a_l_sorts) = true)
    {a_l_right : Addr} {od_l_right an_l_right : Option Addr} {sl_l_right : Array (Option Value)} {oc_l_right kV_l_right dc_l_right pm_l_right cd_l_right ct_l_right : Value}
    (a1_l_right : PySem.W.nsIn K mainGlobals "_law_right" = some (some (.ref a_l_right))) (l1_l_right : K.lookup a_l_right = some ⟨oc_l_right, od_l_right, .func (PySem.W.fnOf "_law_right" "_law_right" (defArgs s_l_right) (defBody s_l_right) (defScope s_l_right) .none kV_l_right dc_l_right pm_l_right an_l_right cd_l_right ct_l_right), sl_l_right⟩) (c1_l_right : PySem.W.codeIn K cd_l_right "_law_right" = true) (k1_l_right : PySem.W.keepIn K (.ref a_l_right) = true)
    {a_law : Addr} {od_law an_law : Option Addr} {sl_law : Array (Option Value)} {oc_law kV_law dc_law pm_law cd_law ct_law : Value}
    (a1_law : PySem.W.nsIn K mainGlobals "law" = some (some (.ref a_law))) (l1_law : K.lookup a_law = some ⟨oc_law, od_law, .func (PySem.W.fnOf "law" "law" (defArgs s_law) (defBody s_law) (defScope s_law) .none kV_law dc_law pm_law an_law cd_law ct_law), sl_law⟩) (c1_law : PySem.W.codeIn K cd_law "law" = true) (k1_law : PySem.W.keepIn K (.ref a_law) = true)
    {c_BadDeed : Addr} (xa_BadDeed : PySem.W.nsIn K mainGlobals "BadDeed" = some (some (.ref c_BadDeed))) (xi_BadDeed : PySem.W.isClsIn K c_BadDeed = true) (xt_BadDeed : PySem.W.typeIn K (.ref c_BadDeed) = some (.type "type")) (xs_BadDeed : PySem.W.subIn K (.ref c_BadDeed) (.ref c_BadDeed) = some true)
    {c_BadLayout : Addr} (xa_BadLayout : PySem.W.nsIn K mainGlobals "BadLayout" = some (some (.ref c_BadLayout))) (xi_BadLayout : PySem.W.isClsIn K c_BadLayout = true) (xt_BadLayout : PySem.W.typeIn K (.ref c_BadLayout) = some (.type "type")) (xs_BadLayout : PySem.W.subIn K (.ref c_BadLayout) (.ref c_BadLayout) = some true)
    {c_BadLine : Addr} (xa_BadLine : PySem.W.nsIn K mainGlobals "BadLine" = some (some (.ref c_BadLine))) (xi_BadLine : PySem.W.isClsIn K c_BadLine = true) (xt_BadLine : PySem.W.typeIn K (.ref c_BadLine) = some (.type "type")) (xs_BadLine : PySem.W.subIn K (.ref c_BadLine) (.ref c_BadLine) = some true)
    {c_BadPair : Addr} (xa_BadPair : PySem.W.nsIn K mainGlobals "BadPair" = some (some (.ref c_BadPair))) (xi_BadPair : PySem.W.isClsIn K c_BadPair = true) (xt_BadPair : PySem.W.typeIn K (.ref c_BadPair) = some (.type "type")) (xs_BadPair : PySem.W.subIn K (.ref c_BadPair) (.ref c_BadPair) = some true)
    {c_BadText : Addr} (xa_BadText : PySem.W.nsIn K mainGlobals "BadText" = some (some (.ref c_BadText))) (xi_BadText : PySem.W.isClsIn K c_BadText = true) (xt_BadText : PySem.W.typeIn K (.ref c_BadText) = some (.type "type")) (xs_BadText : PySem.W.subIn K (.ref c_BadText) (.ref c_BadText) = some true)
    {c_Known : Addr} (xa_Known : PySem.W.nsIn K mainGlobals "Known" = some (some (.ref c_Known))) (xi_Known : PySem.W.isClsIn K c_Known = true) (xt_Known : PySem.W.typeIn K (.ref c_Known) = some (.type "type")) (xs_Known : PySem.W.subIn K (.ref c_Known) (.ref c_Known) = some true)
    {c_NoNumber : Addr} (xa_NoNumber : PySem.W.nsIn K mainGlobals "NoNumber" = some (some (.ref c_NoNumber))) (xi_NoNumber : PySem.W.isClsIn K c_NoNumber = true) (xt_NoNumber : PySem.W.typeIn K (.ref c_NoNumber) = some (.type "type")) (xs_NoNumber : PySem.W.subIn K (.ref c_NoNumber) (.ref c_NoNumber) = some true)
    {c_NoPlace : Addr} (xa_NoPlace : PySem.W.nsIn K mainGlobals "NoPlace" = some (some (.ref c_NoPlace))) (xi_NoPlace : PySem.W.isClsIn K c_NoPlace = true) (xt_NoPlace : PySem.W.typeIn K (.ref c_NoPlace) = some (.type "type")) (xs_NoPlace : PySem.W.subIn K (.ref c_NoPlace) (.ref c_NoPlace) = some true)
    {c_NoProgram : Addr} (xa_NoProgram : PySem.W.nsIn K mainGlobals "NoProgram" = some (some (.ref c_NoProgram))) (xi_NoProgram : PySem.W.isClsIn K c_NoProgram = true) (xt_NoProgram : PySem.W.typeIn K (.ref c_NoProgram) = some (.type "type")) (xs_NoProgram : PySem.W.subIn K (.ref c_NoProgram) (.ref c_NoProgram) = some true)
    {c_NoStep : Addr} (xa_NoStep : PySem.W.nsIn K mainGlobals "NoStep" = some (some (.ref c_NoStep))) (xi_NoStep : PySem.W.isClsIn K c_NoStep = true) (xt_NoStep : PySem.W.typeIn K (.ref c_NoStep) = some (.type "type")) (xs_NoStep : PySem.W.subIn K (.ref c_NoStep) (.ref c_NoStep) = some true)
    {c_NothingDone : Addr} (xa_NothingDone : PySem.W.nsIn K mainGlobals "NothingDone" = some (some (.ref c_NothingDone))) (xi_NothingDone : PySem.W.isClsIn K c_NothingDone = true) (xt_NothingDone : PySem.W.typeIn K (.ref c_NothingDone) = some (.type "type")) (xs_NothingDone : PySem.W.subIn K (.ref c_NothingDone) (.ref c_NothingDone) = some true)
    {c_OtherSteps : Addr} (xa_OtherSteps : PySem.W.nsIn K mainGlobals "OtherSteps" = some (some (.ref c_OtherSteps))) (xi_OtherSteps : PySem.W.isClsIn K c_OtherSteps = true) (xt_OtherSteps : PySem.W.typeIn K (.ref c_OtherSteps) = some (.type "type")) (xs_OtherSteps : PySem.W.subIn K (.ref c_OtherSteps) (.ref c_OtherSteps) = some true)
    {c_SeatError : Addr} (xa_SeatError : PySem.W.nsIn K mainGlobals "SeatError" = some (some (.ref c_SeatError))) (xi_SeatError : PySem.W.isClsIn K c_SeatError = true) (xt_SeatError : PySem.W.typeIn K (.ref c_SeatError) = some (.type "type")) (xs_SeatError : PySem.W.subIn K (.ref c_SeatError) (.ref c_SeatError) = some true)
    {fi_BadDeed : Addr} {fdi_BadDeed : FuncData} (XM_BadDeed : XMake K "BadDeed.__init__" si_BadDeed ["self", "place"] c_BadDeed fi_BadDeed fdi_BadDeed)
    (noN_BadDeed : PySem.W.findIn K (.ref c_BadDeed) "place" = some none)
    (VE_BadDeed : PySem.W.subIn K (.ref c_BadDeed) (.type "ValueError") = some true)
    {fi_BadLayout : Addr} {fdi_BadLayout : FuncData} (XM_BadLayout : XMake K "BadLayout.__init__" si_BadLayout ["self", "place"] c_BadLayout fi_BadLayout fdi_BadLayout)
    (noN_BadLayout : PySem.W.findIn K (.ref c_BadLayout) "place" = some none)
    (VE_BadLayout : PySem.W.subIn K (.ref c_BadLayout) (.type "ValueError") = some true)
    {fi_BadLine : Addr} {fdi_BadLine : FuncData} (XM_BadLine : XMake K "BadLine.__init__" si_BadLine ["self", "number"] c_BadLine fi_BadLine fdi_BadLine)
    (noN_BadLine : PySem.W.findIn K (.ref c_BadLine) "number" = some none)
    (VE_BadLine : PySem.W.subIn K (.ref c_BadLine) (.type "ValueError") = some true)
    {fi_BadPair : Addr} {fdi_BadPair : FuncData} (XM_BadPair : XMake K "BadPair.__init__" si_BadPair ["self", "place"] c_BadPair fi_BadPair fdi_BadPair)
    (noN_BadPair : PySem.W.findIn K (.ref c_BadPair) "place" = some none)
    (VE_BadPair : PySem.W.subIn K (.ref c_BadPair) (.type "ValueError") = some true)
    {fi_BadText : Addr} {fdi_BadText : FuncData} (XM_BadText : XMake K "BadText.__init__" si_BadText ["self", "piece"] c_BadText fi_BadText fdi_BadText)
    (noN_BadText : PySem.W.findIn K (.ref c_BadText) "piece" = some none)
    (VE_BadText : PySem.W.subIn K (.ref c_BadText) (.type "ValueError") = some true)
    {fi_Known : Addr} {fdi_Known : FuncData} (XM_Known : XMake K "Known.__init__" si_Known ["self", "name"] c_Known fi_Known fdi_Known)
    (noN_Known : PySem.W.findIn K (.ref c_Known) "name" = some none)
    (VE_Known : PySem.W.subIn K (.ref c_Known) (.type "ValueError") = some true)
    {fi_NoNumber : Addr} {fdi_NoNumber : FuncData} (XM_NoNumber : XMake K "NoNumber.__init__" si_NoNumber ["self", "number"] c_NoNumber fi_NoNumber fdi_NoNumber)
    (noN_NoNumber : PySem.W.findIn K (.ref c_NoNumber) "number" = some none)
    (VE_NoNumber : PySem.W.subIn K (.ref c_NoNumber) (.type "ValueError") = some true)
    {fi_NoPlace : Addr} {fdi_NoPlace : FuncData} (XM_NoPlace : XMake K "NoPlace.__init__" si_NoPlace ["self", "number"] c_NoPlace fi_NoPlace fdi_NoPlace)
    (noN_NoPlace : PySem.W.findIn K (.ref c_NoPlace) "number" = some none)
    (VE_NoPlace : PySem.W.subIn K (.ref c_NoPlace) (.type "ValueError") = some true)
    {fi_NoProgram : Addr} {fdi_NoProgram : FuncData} (XM_NoProgram : XMake K "NoProgram.__init__" si_NoProgram ["self", "name"] c_NoProgram fi_NoProgram fdi_NoProgram)
    (noN_NoProgram : PySem.W.findIn K (.ref c_NoProgram) "name" = some none)
    (VE_NoProgram : PySem.W.subIn K (.ref c_NoProgram) (.type "ValueError") = some true)
    {fi_NoStep : Addr} {fdi_NoStep : FuncData} (XM_NoStep : XMake K "NoStep.__init__" si_NoStep ["self", "name"] c_NoStep fi_NoStep fdi_NoStep)
    (noN_NoStep : PySem.W.findIn K (.ref c_NoStep) "name" = some none)
    (VE_NoStep : PySem.W.subIn K (.ref c_NoStep) (.type "ValueError") = some true)
    {fi_NothingDone : Addr} {fdi_NothingDone : FuncData} (XM_NothingDone : XMake K "NothingDone.__init__" si_NothingDone ["self"] c_NothingDone fi_NothingDone fdi_NothingDone)
    (VE_NothingDone : PySem.W.subIn K (.ref c_NothingDone) (.type "ValueError") = some true)
    {fi_OtherSteps : Addr} {fdi_OtherSteps : FuncData} (XM_OtherSteps : XMake K "OtherSteps.__init__" si_OtherSteps ["self"] c_OtherSteps fi_OtherSteps fdi_OtherSteps)
    (VE_OtherSteps : PySem.W.subIn K (.ref c_OtherSteps) (.type "ValueError") = some true)
    (SB_BadDeed_BadLayout : PySem.W.subIn K (.ref c_BadDeed) (.ref c_BadLayout) = some false)
    (SB_BadDeed_BadLine : PySem.W.subIn K (.ref c_BadDeed) (.ref c_BadLine) = some false)
    (SB_BadDeed_BadPair : PySem.W.subIn K (.ref c_BadDeed) (.ref c_BadPair) = some false)
    (SB_BadDeed_BadText : PySem.W.subIn K (.ref c_BadDeed) (.ref c_BadText) = some false)
    (SB_BadDeed_Known : PySem.W.subIn K (.ref c_BadDeed) (.ref c_Known) = some false)
    (SB_BadDeed_NoNumber : PySem.W.subIn K (.ref c_BadDeed) (.ref c_NoNumber) = some false)
    (SB_BadDeed_NoPlace : PySem.W.subIn K (.ref c_BadDeed) (.ref c_NoPlace) = some false)
    (SB_BadDeed_NoProgram : PySem.W.subIn K (.ref c_BadDeed) (.ref c_NoProgram) = some false)
    (SB_BadDeed_NoStep : PySem.W.subIn K (.ref c_BadDeed) (.ref c_NoStep) = some false)
    (SB_BadDeed_NothingDone : PySem.W.subIn K (.ref c_BadDeed) (.ref c_NothingDone) = some false)
    (SB_BadDeed_OtherSteps : PySem.W.subIn K (.ref c_BadDeed) (.ref c_OtherSteps) = some false)
    (SB_BadDeed_SeatError : PySem.W.subIn K (.ref c_BadDeed) (.ref c_SeatError) = some true)
    (SB_BadLayout_BadDeed : PySem.W.subIn K (.ref c_BadLayout) (.ref c_BadDeed) = some false)
    (SB_BadLayout_BadLine : PySem.W.subIn K (.ref c_BadLayout) (.ref c_BadLine) = some false)
    (SB_BadLayout_BadPair : PySem.W.subIn K (.ref c_BadLayout) (.ref c_BadPair) = some false)
    (SB_BadLayout_BadText : PySem.W.subIn K (.ref c_BadLayout) (.ref c_BadText) = some false)
    (SB_BadLayout_Known : PySem.W.subIn K (.ref c_BadLayout) (.ref c_Known) = some false)
    (SB_BadLayout_NoNumber : PySem.W.subIn K (.ref c_BadLayout) (.ref c_NoNumber) = some false)
    (SB_BadLayout_NoPlace : PySem.W.subIn K (.ref c_BadLayout) (.ref c_NoPlace) = some false)
    (SB_BadLayout_NoProgram : PySem.W.subIn K (.ref c_BadLayout) (.ref c_NoProgram) = some false)
    (SB_BadLayout_NoStep : PySem.W.subIn K (.ref c_BadLayout) (.ref c_NoStep) = some false)
    (SB_BadLayout_NothingDone : PySem.W.subIn K (.ref c_BadLayout) (.ref c_NothingDone) = some false)
    (SB_BadLayout_OtherSteps : PySem.W.subIn K (.ref c_BadLayout) (.ref c_OtherSteps) = some false)
    (SB_BadLayout_SeatError : PySem.W.subIn K (.ref c_BadLayout) (.ref c_SeatError) = some true)
    (SB_BadLine_BadDeed : PySem.W.subIn K (.ref c_BadLine) (.ref c_BadDeed) = some false)
    (SB_BadLine_BadLayout : PySem.W.subIn K (.ref c_BadLine) (.ref c_BadLayout) = some false)
    (SB_BadLine_BadPair : PySem.W.subIn K (.ref c_BadLine) (.ref c_BadPair) = some false)
    (SB_BadLine_BadText : PySem.W.subIn K (.ref c_BadLine) (.ref c_BadText) = some false)
    (SB_BadLine_Known : PySem.W.subIn K (.ref c_BadLine) (.ref c_Known) = some false)
    (SB_BadLine_NoNumber : PySem.W.subIn K (.ref c_BadLine) (.ref c_NoNumber) = some false)
    (SB_BadLine_NoPlace : PySem.W.subIn K (.ref c_BadLine) (.ref c_NoPlace) = some false)
    (SB_BadLine_NoProgram : PySem.W.subIn K (.ref c_BadLine) (.ref c_NoProgram) = some false)
    (SB_BadLine_NoStep : PySem.W.subIn K (.ref c_BadLine) (.ref c_NoStep) = some false)
    (SB_BadLine_NothingDone : PySem.W.subIn K (.ref c_BadLine) (.ref c_NothingDone) = some false)
    (SB_BadLine_OtherSteps : PySem.W.subIn K (.ref c_BadLine) (.ref c_OtherSteps) = some false)
    (SB_BadLine_SeatError : PySem.W.subIn K (.ref c_BadLine) (.ref c_SeatError) = some true)
    (SB_BadPair_BadDeed : PySem.W.subIn K (.ref c_BadPair) (.ref c_BadDeed) = some false)
    (SB_BadPair_BadLayout : PySem.W.subIn K (.ref c_BadPair) (.ref c_BadLayout) = some false)
    (SB_BadPair_BadLine : PySem.W.subIn K (.ref c_BadPair) (.ref c_BadLine) = some false)
    (SB_BadPair_BadText : PySem.W.subIn K (.ref c_BadPair) (.ref c_BadText) = some false)
    (SB_BadPair_Known : PySem.W.subIn K (.ref c_BadPair) (.ref c_Known) = some false)
    (SB_BadPair_NoNumber : PySem.W.subIn K (.ref c_BadPair) (.ref c_NoNumber) = some false)
    (SB_BadPair_NoPlace : PySem.W.subIn K (.ref c_BadPair) (.ref c_NoPlace) = some false)
    (SB_BadPair_NoProgram : PySem.W.subIn K (.ref c_BadPair) (.ref c_NoProgram) = some false)
    (SB_BadPair_NoStep : PySem.W.subIn K (.ref c_BadPair) (.ref c_NoStep) = some false)
    (SB_BadPair_NothingDone : PySem.W.subIn K (.ref c_BadPair) (.ref c_NothingDone) = some false)
    (SB_BadPair_OtherSteps : PySem.W.subIn K (.ref c_BadPair) (.ref c_OtherSteps) = some false)
    (SB_BadPair_SeatError : PySem.W.subIn K (.ref c_BadPair) (.ref c_SeatError) = some true)
    (SB_BadText_BadDeed : PySem.W.subIn K (.ref c_BadText) (.ref c_BadDeed) = some false)
    (SB_BadText_BadLayout : PySem.W.subIn K (.ref c_BadText) (.ref c_BadLayout) = some false)
    (SB_BadText_BadLine : PySem.W.subIn K (.ref c_BadText) (.ref c_BadLine) = some false)
    (SB_BadText_BadPair : PySem.W.subIn K (.ref c_BadText) (.ref c_BadPair) = some false)
    (SB_BadText_Known : PySem.W.subIn K (.ref c_BadText) (.ref c_Known) = some false)
    (SB_BadText_NoNumber : PySem.W.subIn K (.ref c_BadText) (.ref c_NoNumber) = some false)
    (SB_BadText_NoPlace : PySem.W.subIn K (.ref c_BadText) (.ref c_NoPlace) = some false)
    (SB_BadText_NoProgram : PySem.W.subIn K (.ref c_BadText) (.ref c_NoProgram) = some false)
    (SB_BadText_NoStep : PySem.W.subIn K (.ref c_BadText) (.ref c_NoStep) = some false)
    (SB_BadText_NothingDone : PySem.W.subIn K (.ref c_BadText) (.ref c_NothingDone) = some false)
    (SB_BadText_OtherSteps : PySem.W.subIn K (.ref c_BadText) (.ref c_OtherSteps) = some false)
    (SB_BadText_SeatError : PySem.W.subIn K (.ref c_BadText) (.ref c_SeatError) = some true)
    (SB_Known_BadDeed : PySem.W.subIn K (.ref c_Known) (.ref c_BadDeed) = some false)
    (SB_Known_BadLayout : PySem.W.subIn K (.ref c_Known) (.ref c_BadLayout) = some false)
    (SB_Known_BadLine : PySem.W.subIn K (.ref c_Known) (.ref c_BadLine) = some false)
    (SB_Known_BadPair : PySem.W.subIn K (.ref c_Known) (.ref c_BadPair) = some false)
    (SB_Known_BadText : PySem.W.subIn K (.ref c_Known) (.ref c_BadText) = some false)
    (SB_Known_NoNumber : PySem.W.subIn K (.ref c_Known) (.ref c_NoNumber) = some false)
    (SB_Known_NoPlace : PySem.W.subIn K (.ref c_Known) (.ref c_NoPlace) = some false)
    (SB_Known_NoProgram : PySem.W.subIn K (.ref c_Known) (.ref c_NoProgram) = some false)
    (SB_Known_NoStep : PySem.W.subIn K (.ref c_Known) (.ref c_NoStep) = some false)
    (SB_Known_NothingDone : PySem.W.subIn K (.ref c_Known) (.ref c_NothingDone) = some false)
    (SB_Known_OtherSteps : PySem.W.subIn K (.ref c_Known) (.ref c_OtherSteps) = some false)
    (SB_Known_SeatError : PySem.W.subIn K (.ref c_Known) (.ref c_SeatError) = some true)
    (SB_NoNumber_BadDeed : PySem.W.subIn K (.ref c_NoNumber) (.ref c_BadDeed) = some false)
    (SB_NoNumber_BadLayout : PySem.W.subIn K (.ref c_NoNumber) (.ref c_BadLayout) = some false)
    (SB_NoNumber_BadLine : PySem.W.subIn K (.ref c_NoNumber) (.ref c_BadLine) = some false)
    (SB_NoNumber_BadPair : PySem.W.subIn K (.ref c_NoNumber) (.ref c_BadPair) = some false)
    (SB_NoNumber_BadText : PySem.W.subIn K (.ref c_NoNumber) (.ref c_BadText) = some false)
    (SB_NoNumber_Known : PySem.W.subIn K (.ref c_NoNumber) (.ref c_Known) = some false)
    (SB_NoNumber_NoPlace : PySem.W.subIn K (.ref c_NoNumber) (.ref c_NoPlace) = some false)
    (SB_NoNumber_NoProgram : PySem.W.subIn K (.ref c_NoNumber) (.ref c_NoProgram) = some false)
    (SB_NoNumber_NoStep : PySem.W.subIn K (.ref c_NoNumber) (.ref c_NoStep) = some false)
    (SB_NoNumber_NothingDone : PySem.W.subIn K (.ref c_NoNumber) (.ref c_NothingDone) = some false)
    (SB_NoNumber_OtherSteps : PySem.W.subIn K (.ref c_NoNumber) (.ref c_OtherSteps) = some false)
    (SB_NoNumber_SeatError : PySem.W.subIn K (.ref c_NoNumber) (.ref c_SeatError) = some true)
    (SB_NoPlace_BadDeed : PySem.W.subIn K (.ref c_NoPlace) (.ref c_BadDeed) = some false)
    (SB_NoPlace_BadLayout : PySem.W.subIn K (.ref c_NoPlace) (.ref c_BadLayout) = some false)
    (SB_NoPlace_BadLine : PySem.W.subIn K (.ref c_NoPlace) (.ref c_BadLine) = some false)
    (SB_NoPlace_BadPair : PySem.W.subIn K (.ref c_NoPlace) (.ref c_BadPair) = some false)
    (SB_NoPlace_BadText : PySem.W.subIn K (.ref c_NoPlace) (.ref c_BadText) = some false)
    (SB_NoPlace_Known : PySem.W.subIn K (.ref c_NoPlace) (.ref c_Known) = some false)
    (SB_NoPlace_NoNumber : PySem.W.subIn K (.ref c_NoPlace) (.ref c_NoNumber) = some false)
    (SB_NoPlace_NoProgram : PySem.W.subIn K (.ref c_NoPlace) (.ref c_NoProgram) = some false)
    (SB_NoPlace_NoStep : PySem.W.subIn K (.ref c_NoPlace) (.ref c_NoStep) = some false)
    (SB_NoPlace_NothingDone : PySem.W.subIn K (.ref c_NoPlace) (.ref c_NothingDone) = some false)
    (SB_NoPlace_OtherSteps : PySem.W.subIn K (.ref c_NoPlace) (.ref c_OtherSteps) = some false)
    (SB_NoPlace_SeatError : PySem.W.subIn K (.ref c_NoPlace) (.ref c_SeatError) = some true)
    (SB_NoProgram_BadDeed : PySem.W.subIn K (.ref c_NoProgram) (.ref c_BadDeed) = some false)
    (SB_NoProgram_BadLayout : PySem.W.subIn K (.ref c_NoProgram) (.ref c_BadLayout) = some false)
    (SB_NoProgram_BadLine : PySem.W.subIn K (.ref c_NoProgram) (.ref c_BadLine) = some false)
    (SB_NoProgram_BadPair : PySem.W.subIn K (.ref c_NoProgram) (.ref c_BadPair) = some false)
    (SB_NoProgram_BadText : PySem.W.subIn K (.ref c_NoProgram) (.ref c_BadText) = some false)
    (SB_NoProgram_Known : PySem.W.subIn K (.ref c_NoProgram) (.ref c_Known) = some false)
    (SB_NoProgram_NoNumber : PySem.W.subIn K (.ref c_NoProgram) (.ref c_NoNumber) = some false)
    (SB_NoProgram_NoPlace : PySem.W.subIn K (.ref c_NoProgram) (.ref c_NoPlace) = some false)
    (SB_NoProgram_NoStep : PySem.W.subIn K (.ref c_NoProgram) (.ref c_NoStep) = some false)
    (SB_NoProgram_NothingDone : PySem.W.subIn K (.ref c_NoProgram) (.ref c_NothingDone) = some false)
    (SB_NoProgram_OtherSteps : PySem.W.subIn K (.ref c_NoProgram) (.ref c_OtherSteps) = some false)
    (SB_NoProgram_SeatError : PySem.W.subIn K (.ref c_NoProgram) (.ref c_SeatError) = some true)
    (SB_NoStep_BadDeed : PySem.W.subIn K (.ref c_NoStep) (.ref c_BadDeed) = some false)
    (SB_NoStep_BadLayout : PySem.W.subIn K (.ref c_NoStep) (.ref c_BadLayout) = some false)
    (SB_NoStep_BadLine : PySem.W.subIn K (.ref c_NoStep) (.ref c_BadLine) = some false)
    (SB_NoStep_BadPair : PySem.W.subIn K (.ref c_NoStep) (.ref c_BadPair) = some false)
    (SB_NoStep_BadText : PySem.W.subIn K (.ref c_NoStep) (.ref c_BadText) = some false)
    (SB_NoStep_Known : PySem.W.subIn K (.ref c_NoStep) (.ref c_Known) = some false)
    (SB_NoStep_NoNumber : PySem.W.subIn K (.ref c_NoStep) (.ref c_NoNumber) = some false)
    (SB_NoStep_NoPlace : PySem.W.subIn K (.ref c_NoStep) (.ref c_NoPlace) = some false)
    (SB_NoStep_NoProgram : PySem.W.subIn K (.ref c_NoStep) (.ref c_NoProgram) = some false)
    (SB_NoStep_NothingDone : PySem.W.subIn K (.ref c_NoStep) (.ref c_NothingDone) = some false)
    (SB_NoStep_OtherSteps : PySem.W.subIn K (.ref c_NoStep) (.ref c_OtherSteps) = some false)
    (SB_NoStep_SeatError : PySem.W.subIn K (.ref c_NoStep) (.ref c_SeatError) = some true)
    (SB_NothingDone_BadDeed : PySem.W.subIn K (.ref c_NothingDone) (.ref c_BadDeed) = some false)
    (SB_NothingDone_BadLayout : PySem.W.subIn K (.ref c_NothingDone) (.ref c_BadLayout) = some false)
    (SB_NothingDone_BadLine : PySem.W.subIn K (.ref c_NothingDone) (.ref c_BadLine) = some false)
    (SB_NothingDone_BadPair : PySem.W.subIn K (.ref c_NothingDone) (.ref c_BadPair) = some false)
    (SB_NothingDone_BadText : PySem.W.subIn K (.ref c_NothingDone) (.ref c_BadText) = some false)
    (SB_NothingDone_Known : PySem.W.subIn K (.ref c_NothingDone) (.ref c_Known) = some false)
    (SB_NothingDone_NoNumber : PySem.W.subIn K (.ref c_NothingDone) (.ref c_NoNumber) = some false)
    (SB_NothingDone_NoPlace : PySem.W.subIn K (.ref c_NothingDone) (.ref c_NoPlace) = some false)
    (SB_NothingDone_NoProgram : PySem.W.subIn K (.ref c_NothingDone) (.ref c_NoProgram) = some false)
    (SB_NothingDone_NoStep : PySem.W.subIn K (.ref c_NothingDone) (.ref c_NoStep) = some false)
    (SB_NothingDone_OtherSteps : PySem.W.subIn K (.ref c_NothingDone) (.ref c_OtherSteps) = some false)
    (SB_NothingDone_SeatError : PySem.W.subIn K (.ref c_NothingDone) (.ref c_SeatError) = some true)
    (SB_OtherSteps_BadDeed : PySem.W.subIn K (.ref c_OtherSteps) (.ref c_BadDeed) = some false)
    (SB_OtherSteps_BadLayout : PySem.W.subIn K (.ref c_OtherSteps) (.ref c_BadLayout) = some false)
    (SB_OtherSteps_BadLine : PySem.W.subIn K (.ref c_OtherSteps) (.ref c_BadLine) = some false)
    (SB_OtherSteps_BadPair : PySem.W.subIn K (.ref c_OtherSteps) (.ref c_BadPair) = some false)
    (SB_OtherSteps_BadText : PySem.W.subIn K (.ref c_OtherSteps) (.ref c_BadText) = some false)
    (SB_OtherSteps_Known : PySem.W.subIn K (.ref c_OtherSteps) (.ref c_Known) = some false)
    (SB_OtherSteps_NoNumber : PySem.W.subIn K (.ref c_OtherSteps) (.ref c_NoNumber) = some false)
    (SB_OtherSteps_NoPlace : PySem.W.subIn K (.ref c_OtherSteps) (.ref c_NoPlace) = some false)
    (SB_OtherSteps_NoProgram : PySem.W.subIn K (.ref c_OtherSteps) (.ref c_NoProgram) = some false)
    (SB_OtherSteps_NoStep : PySem.W.subIn K (.ref c_OtherSteps) (.ref c_NoStep) = some false)
    (SB_OtherSteps_NothingDone : PySem.W.subIn K (.ref c_OtherSteps) (.ref c_NothingDone) = some false)
    (SB_OtherSteps_SeatError : PySem.W.subIn K (.ref c_OtherSteps) (.ref c_SeatError) = some true)
    (z_ValueError : PySem.W.nsIn K mainGlobals "ValueError" = some none)
    (z_abs : PySem.W.nsIn K mainGlobals "abs" = some none)
    (z_all : PySem.W.nsIn K mainGlobals "all" = some none)
    (z_bool : PySem.W.nsIn K mainGlobals "bool" = some none)
    (z_enumerate : PySem.W.nsIn K mainGlobals "enumerate" = some none)
    (z_int : PySem.W.nsIn K mainGlobals "int" = some none)
    (z_isinstance : PySem.W.nsIn K mainGlobals "isinstance" = some none)
    (z_len : PySem.W.nsIn K mainGlobals "len" = some none)
    (z_list : PySem.W.nsIn K mainGlobals "list" = some none)
    (z_range : PySem.W.nsIn K mainGlobals "range" = some none)
    (z_str : PySem.W.nsIn K mainGlobals "str" = some none)
    (z_tuple : PySem.W.nsIn K mainGlobals "tuple" = some none)
    (z_zip : PySem.W.nsIn K mainGlobals "zip" = some none) : Tx K mg w where
  a_l_box := a_l_box
  fd_l_box := _
  F_l_box := fun_mk (st := s_l_box) l1_l_box c1_l_box k1_l_box
  B_l_box := (fun_mk (st := s_l_box) l1_l_box c1_l_box k1_l_box).binds fun _ _ _ _ _ _ us hl => match us, hl with | [_, _], _ => rfl
  m_l_box := PySem.W.mg_of X G a1_l_box
  a_l_take := a_l_take
  fd_l_take := _
  F_l_take := fun_mk (st := s_l_take) l1_l_take c1_l_take k1_l_take
  B_l_take := (fun_mk (st := s_l_take) l1_l_take c1_l_take k1_l_take).binds fun _ _ _ _ _ _ us hl => match us, hl with | [_, _], _ => rfl
  m_l_take := PySem.W.mg_of X G a1_l_take
  a_l_cells := a_l_cells
  fd_l_cells := _
  F_l_cells := fun_mk (st := s_l_cells) l1_l_cells c1_l_cells k1_l_cells
  B_l_cells := (fun_mk (st := s_l_cells) l1_l_cells c1_l_cells k1_l_cells).binds fun _ _ _ _ _ _ us hl => match us, hl with | [_, _], _ => rfl
  m_l_cells := PySem.W.mg_of X G a1_l_cells
  a_l_of := a_l_of
  fd_l_of := _
  F_l_of := fun_mk (st := s_l_of) l1_l_of c1_l_of k1_l_of
  B_l_of := (fun_mk (st := s_l_of) l1_l_of c1_l_of k1_l_of).binds fun _ _ _ _ _ _ us hl => match us, hl with | [_, _], _ => rfl
  m_l_of := PySem.W.mg_of X G a1_l_of
  a_l_same := a_l_same
  fd_l_same := _
  F_l_same := fun_mk (st := s_l_same) l1_l_same c1_l_same k1_l_same
  B_l_same := (fun_mk (st := s_l_same) l1_l_same c1_l_same k1_l_same).binds fun _ _ _ _ _ _ us hl => match us, hl with | [_, _], _ => rfl
  m_l_same := PySem.W.mg_of X G a1_l_same
  a_l_sorts := a_l_sorts
  fd_l_sorts := _
  F_l_sorts := fun_mk (st := s_l_sorts) l1_l_sorts c1_l_sorts k1_l_sorts
  B_l_sorts := (fun_mk (st := s_l_sorts) l1_l_sorts c1_l_sorts k1_l_sorts).binds fun _ _ _ _ _ _ us hl => match us, hl with | [_], _ => rfl
  m_l_sorts := PySem.W.mg_of X G a1_l_sorts
  a_l_right := a_l_right
  fd_l_right := _
  F_l_right := fun_mk (st := s_l_right) l1_l_right c1_l_right k1_l_right
  B_l_right := (fun_mk (st := s_l_right) l1_l_right c1_l_right k1_l_right).binds fun _ _ _ _ _ _ us hl => match us, hl with | [_], _ => rfl
  m_l_right := PySem.W.mg_of X G a1_l_right
  a_law := a_law
  fd_law := _
  F_law := fun_mk (st := s_law) l1_law c1_law k1_law
  B_law := (fun_mk (st := s_law) l1_law c1_law k1_law).binds fun _ _ _ _ _ _ us hl => match us, hl with | [_], _ => rfl
  m_law := PySem.W.mg_of X G a1_law
  n_ValueError := PySem.W.mg_none_of X G z_ValueError
  n_abs := PySem.W.mg_none_of X G z_abs
  n_all := PySem.W.mg_none_of X G z_all
  n_bool := PySem.W.mg_none_of X G z_bool
  n_enumerate := PySem.W.mg_none_of X G z_enumerate
  n_int := PySem.W.mg_none_of X G z_int
  n_isinstance := PySem.W.mg_none_of X G z_isinstance
  n_len := PySem.W.mg_none_of X G z_len
  n_list := PySem.W.mg_none_of X G z_list
  n_range := PySem.W.mg_none_of X G z_range
  n_str := PySem.W.mg_none_of X G z_str
  n_tuple := PySem.W.mg_none_of X G z_tuple
  n_zip := PySem.W.mg_none_of X G z_zip
  c_BadDeed := c_BadDeed
  XB_BadDeed := ⟨PySem.W.mg_of X G xa_BadDeed, xi_BadDeed, xt_BadDeed, xs_BadDeed⟩
  c_BadLayout := c_BadLayout
  XB_BadLayout := ⟨PySem.W.mg_of X G xa_BadLayout, xi_BadLayout, xt_BadLayout, xs_BadLayout⟩
  c_BadLine := c_BadLine
  XB_BadLine := ⟨PySem.W.mg_of X G xa_BadLine, xi_BadLine, xt_BadLine, xs_BadLine⟩
  c_BadPair := c_BadPair
  XB_BadPair := ⟨PySem.W.mg_of X G xa_BadPair, xi_BadPair, xt_BadPair, xs_BadPair⟩
  c_BadText := c_BadText
  XB_BadText := ⟨PySem.W.mg_of X G xa_BadText, xi_BadText, xt_BadText, xs_BadText⟩
  c_Known := c_Known
  XB_Known := ⟨PySem.W.mg_of X G xa_Known, xi_Known, xt_Known, xs_Known⟩
  c_NoNumber := c_NoNumber
  XB_NoNumber := ⟨PySem.W.mg_of X G xa_NoNumber, xi_NoNumber, xt_NoNumber, xs_NoNumber⟩
  c_NoPlace := c_NoPlace
  XB_NoPlace := ⟨PySem.W.mg_of X G xa_NoPlace, xi_NoPlace, xt_NoPlace, xs_NoPlace⟩
  c_NoProgram := c_NoProgram
  XB_NoProgram := ⟨PySem.W.mg_of X G xa_NoProgram, xi_NoProgram, xt_NoProgram, xs_NoProgram⟩
  c_NoStep := c_NoStep
  XB_NoStep := ⟨PySem.W.mg_of X G xa_NoStep, xi_NoStep, xt_NoStep, xs_NoStep⟩
  c_NothingDone := c_NothingDone
  XB_NothingDone := ⟨PySem.W.mg_of X G xa_NothingDone, xi_NothingDone, xt_NothingDone, xs_NothingDone⟩
  c_OtherSteps := c_OtherSteps
  XB_OtherSteps := ⟨PySem.W.mg_of X G xa_OtherSteps, xi_OtherSteps, xt_OtherSteps, xs_OtherSteps⟩
  c_SeatError := c_SeatError
  XB_SeatError := ⟨PySem.W.mg_of X G xa_SeatError, xi_SeatError, xt_SeatError, xs_SeatError⟩
  fi_BadDeed := fi_BadDeed
  fdi_BadDeed := _
  XM_BadDeed := XM_BadDeed
  noN_BadDeed := noN_BadDeed
  VE_BadDeed := VE_BadDeed
  fi_BadLayout := fi_BadLayout
  fdi_BadLayout := _
  XM_BadLayout := XM_BadLayout
  noN_BadLayout := noN_BadLayout
  VE_BadLayout := VE_BadLayout
  fi_BadLine := fi_BadLine
  fdi_BadLine := _
  XM_BadLine := XM_BadLine
  noN_BadLine := noN_BadLine
  VE_BadLine := VE_BadLine
  fi_BadPair := fi_BadPair
  fdi_BadPair := _
  XM_BadPair := XM_BadPair
  noN_BadPair := noN_BadPair
  VE_BadPair := VE_BadPair
  fi_BadText := fi_BadText
  fdi_BadText := _
  XM_BadText := XM_BadText
  noN_BadText := noN_BadText
  VE_BadText := VE_BadText
  fi_Known := fi_Known
  fdi_Known := _
  XM_Known := XM_Known
  noN_Known := noN_Known
  VE_Known := VE_Known
  fi_NoNumber := fi_NoNumber
  fdi_NoNumber := _
  XM_NoNumber := XM_NoNumber
  noN_NoNumber := noN_NoNumber
  VE_NoNumber := VE_NoNumber
  fi_NoPlace := fi_NoPlace
  fdi_NoPlace := _
  XM_NoPlace := XM_NoPlace
  noN_NoPlace := noN_NoPlace
  VE_NoPlace := VE_NoPlace
  fi_NoProgram := fi_NoProgram
  fdi_NoProgram := _
  XM_NoProgram := XM_NoProgram
  noN_NoProgram := noN_NoProgram
  VE_NoProgram := VE_NoProgram
  fi_NoStep := fi_NoStep
  fdi_NoStep := _
  XM_NoStep := XM_NoStep
  noN_NoStep := noN_NoStep
  VE_NoStep := VE_NoStep
  fi_NothingDone := fi_NothingDone
  fdi_NothingDone := _
  XM_NothingDone := XM_NothingDone
  VE_NothingDone := VE_NothingDone
  fi_OtherSteps := fi_OtherSteps
  fdi_OtherSteps := _
  XM_OtherSteps := XM_OtherSteps
  VE_OtherSteps := VE_OtherSteps
  SB_BadDeed_BadLayout := SB_BadDeed_BadLayout
  SB_BadDeed_BadLine := SB_BadDeed_BadLine
  SB_BadDeed_BadPair := SB_BadDeed_BadPair
  SB_BadDeed_BadText := SB_BadDeed_BadText
  SB_BadDeed_Known := SB_BadDeed_Known
  SB_BadDeed_NoNumber := SB_BadDeed_NoNumber
  SB_BadDeed_NoPlace := SB_BadDeed_NoPlace
  SB_BadDeed_NoProgram := SB_BadDeed_NoProgram
  SB_BadDeed_NoStep := SB_BadDeed_NoStep
  SB_BadDeed_NothingDone := SB_BadDeed_NothingDone
  SB_BadDeed_OtherSteps := SB_BadDeed_OtherSteps
  SB_BadDeed_SeatError := SB_BadDeed_SeatError
  SB_BadLayout_BadDeed := SB_BadLayout_BadDeed
  SB_BadLayout_BadLine := SB_BadLayout_BadLine
  SB_BadLayout_BadPair := SB_BadLayout_BadPair
  SB_BadLayout_BadText := SB_BadLayout_BadText
  SB_BadLayout_Known := SB_BadLayout_Known
  SB_BadLayout_NoNumber := SB_BadLayout_NoNumber
  SB_BadLayout_NoPlace := SB_BadLayout_NoPlace
  SB_BadLayout_NoProgram := SB_BadLayout_NoProgram
  SB_BadLayout_NoStep := SB_BadLayout_NoStep
  SB_BadLayout_NothingDone := SB_BadLayout_NothingDone
  SB_BadLayout_OtherSteps := SB_BadLayout_OtherSteps
  SB_BadLayout_SeatError := SB_BadLayout_SeatError
  SB_BadLine_BadDeed := SB_BadLine_BadDeed
  SB_BadLine_BadLayout := SB_BadLine_BadLayout
  SB_BadLine_BadPair := SB_BadLine_BadPair
  SB_BadLine_BadText := SB_BadLine_BadText
  SB_BadLine_Known := SB_BadLine_Known
  SB_BadLine_NoNumber := SB_BadLine_NoNumber
  SB_BadLine_NoPlace := SB_BadLine_NoPlace
  SB_BadLine_NoProgram := SB_BadLine_NoProgram
  SB_BadLine_NoStep := SB_BadLine_NoStep
  SB_BadLine_NothingDone := SB_BadLine_NothingDone
  SB_BadLine_OtherSteps := SB_BadLine_OtherSteps
  SB_BadLine_SeatError := SB_BadLine_SeatError
  SB_BadPair_BadDeed := SB_BadPair_BadDeed
  SB_BadPair_BadLayout := SB_BadPair_BadLayout
  SB_BadPair_BadLine := SB_BadPair_BadLine
  SB_BadPair_BadText := SB_BadPair_BadText
  SB_BadPair_Known := SB_BadPair_Known
  SB_BadPair_NoNumber := SB_BadPair_NoNumber
  SB_BadPair_NoPlace := SB_BadPair_NoPlace
  SB_BadPair_NoProgram := SB_BadPair_NoProgram
  SB_BadPair_NoStep := SB_BadPair_NoStep
  SB_BadPair_NothingDone := SB_BadPair_NothingDone
  SB_BadPair_OtherSteps := SB_BadPair_OtherSteps
  SB_BadPair_SeatError := SB_BadPair_SeatError
  SB_BadText_BadDeed := SB_BadText_BadDeed
  SB_BadText_BadLayout := SB_BadText_BadLayout
  SB_BadText_BadLine := SB_BadText_BadLine
  SB_BadText_BadPair := SB_BadText_BadPair
  SB_BadText_Known := SB_BadText_Known
  SB_BadText_NoNumber := SB_BadText_NoNumber
  SB_BadText_NoPlace := SB_BadText_NoPlace
  SB_BadText_NoProgram := SB_BadText_NoProgram
  SB_BadText_NoStep := SB_BadText_NoStep
  SB_BadText_NothingDone := SB_BadText_NothingDone
  SB_BadText_OtherSteps := SB_BadText_OtherSteps
  SB_BadText_SeatError := SB_BadText_SeatError
  SB_Known_BadDeed := SB_Known_BadDeed
  SB_Known_BadLayout := SB_Known_BadLayout
  SB_Known_BadLine := SB_Known_BadLine
  SB_Known_BadPair := SB_Known_BadPair
  SB_Known_BadText := SB_Known_BadText
  SB_Known_NoNumber := SB_Known_NoNumber
  SB_Known_NoPlace := SB_Known_NoPlace
  SB_Known_NoProgram := SB_Known_NoProgram
  SB_Known_NoStep := SB_Known_NoStep
  SB_Known_NothingDone := SB_Known_NothingDone
  SB_Known_OtherSteps := SB_Known_OtherSteps
  SB_Known_SeatError := SB_Known_SeatError
  SB_NoNumber_BadDeed := SB_NoNumber_BadDeed
  SB_NoNumber_BadLayout := SB_NoNumber_BadLayout
  SB_NoNumber_BadLine := SB_NoNumber_BadLine
  SB_NoNumber_BadPair := SB_NoNumber_BadPair
  SB_NoNumber_BadText := SB_NoNumber_BadText
  SB_NoNumber_Known := SB_NoNumber_Known
  SB_NoNumber_NoPlace := SB_NoNumber_NoPlace
  SB_NoNumber_NoProgram := SB_NoNumber_NoProgram
  SB_NoNumber_NoStep := SB_NoNumber_NoStep
  SB_NoNumber_NothingDone := SB_NoNumber_NothingDone
  SB_NoNumber_OtherSteps := SB_NoNumber_OtherSteps
  SB_NoNumber_SeatError := SB_NoNumber_SeatError
  SB_NoPlace_BadDeed := SB_NoPlace_BadDeed
  SB_NoPlace_BadLayout := SB_NoPlace_BadLayout
  SB_NoPlace_BadLine := SB_NoPlace_BadLine
  SB_NoPlace_BadPair := SB_NoPlace_BadPair
  SB_NoPlace_BadText := SB_NoPlace_BadText
  SB_NoPlace_Known := SB_NoPlace_Known
  SB_NoPlace_NoNumber := SB_NoPlace_NoNumber
  SB_NoPlace_NoProgram := SB_NoPlace_NoProgram
  SB_NoPlace_NoStep := SB_NoPlace_NoStep
  SB_NoPlace_NothingDone := SB_NoPlace_NothingDone
  SB_NoPlace_OtherSteps := SB_NoPlace_OtherSteps
  SB_NoPlace_SeatError := SB_NoPlace_SeatError
  SB_NoProgram_BadDeed := SB_NoProgram_BadDeed
  SB_NoProgram_BadLayout := SB_NoProgram_BadLayout
  SB_NoProgram_BadLine := SB_NoProgram_BadLine
  SB_NoProgram_BadPair := SB_NoProgram_BadPair
  SB_NoProgram_BadText := SB_NoProgram_BadText
  SB_NoProgram_Known := SB_NoProgram_Known
  SB_NoProgram_NoNumber := SB_NoProgram_NoNumber
  SB_NoProgram_NoPlace := SB_NoProgram_NoPlace
  SB_NoProgram_NoStep := SB_NoProgram_NoStep
  SB_NoProgram_NothingDone := SB_NoProgram_NothingDone
  SB_NoProgram_OtherSteps := SB_NoProgram_OtherSteps
  SB_NoProgram_SeatError := SB_NoProgram_SeatError
  SB_NoStep_BadDeed := SB_NoStep_BadDeed
  SB_NoStep_BadLayout := SB_NoStep_BadLayout
  SB_NoStep_BadLine := SB_NoStep_BadLine
  SB_NoStep_BadPair := SB_NoStep_BadPair
  SB_NoStep_BadText := SB_NoStep_BadText
  SB_NoStep_Known := SB_NoStep_Known
  SB_NoStep_NoNumber := SB_NoStep_NoNumber
  SB_NoStep_NoPlace := SB_NoStep_NoPlace
  SB_NoStep_NoProgram := SB_NoStep_NoProgram
  SB_NoStep_NothingDone := SB_NoStep_NothingDone
  SB_NoStep_OtherSteps := SB_NoStep_OtherSteps
  SB_NoStep_SeatError := SB_NoStep_SeatError
  SB_NothingDone_BadDeed := SB_NothingDone_BadDeed
  SB_NothingDone_BadLayout := SB_NothingDone_BadLayout
  SB_NothingDone_BadLine := SB_NothingDone_BadLine
  SB_NothingDone_BadPair := SB_NothingDone_BadPair
  SB_NothingDone_BadText := SB_NothingDone_BadText
  SB_NothingDone_Known := SB_NothingDone_Known
  SB_NothingDone_NoNumber := SB_NothingDone_NoNumber
  SB_NothingDone_NoPlace := SB_NothingDone_NoPlace
  SB_NothingDone_NoProgram := SB_NothingDone_NoProgram
  SB_NothingDone_NoStep := SB_NothingDone_NoStep
  SB_NothingDone_OtherSteps := SB_NothingDone_OtherSteps
  SB_NothingDone_SeatError := SB_NothingDone_SeatError
  SB_OtherSteps_BadDeed := SB_OtherSteps_BadDeed
  SB_OtherSteps_BadLayout := SB_OtherSteps_BadLayout
  SB_OtherSteps_BadLine := SB_OtherSteps_BadLine
  SB_OtherSteps_BadPair := SB_OtherSteps_BadPair
  SB_OtherSteps_BadText := SB_OtherSteps_BadText
  SB_OtherSteps_Known := SB_OtherSteps_Known
  SB_OtherSteps_NoNumber := SB_OtherSteps_NoNumber
  SB_OtherSteps_NoPlace := SB_OtherSteps_NoPlace
  SB_OtherSteps_NoProgram := SB_OtherSteps_NoProgram
  SB_OtherSteps_NoStep := SB_OtherSteps_NoStep
  SB_OtherSteps_NothingDone := SB_OtherSteps_NothingDone
  SB_OtherSteps_SeatError := SB_OtherSteps_SeatError
end
theorem walk {l : PySem.W.OpenLaw} {q : Program} {loose : List Str} {XP : (Str → Option Value) → Heap → Prop} {YP : World → Heap → Prop} {d : DefRec} {K : Params → PySem.W.Frag} (hn : l.most = some 63) (hdf : d.params.defaults = [])
    (hY : ∀ (w : World) (h : Heap), YP w h → (K w.params).In h) (hd : d.name = "law")
    (F : ∀ (w : World) (mg : Str → Option Value) (h : Heap), (K w.params).In h → h.Ns mainGlobals mg → Nonempty (Tx (K w.params) mg w)) :
    PySem.W.WalkO q loose XP YP l.row.toRowW d [] (fun f vs => PySem.call f vs) :=
  L2.walk_of (n := 63) (k := 11) (x := "_law_script") (CX := fun _ => CX0) (sp := fun w => spLaw (K w.params)) hn (by decide) hdf ⟨rfl, by decide, by decide⟩ hY (fun w mg fa h KX G hmg => by
    obtain ⟨T⟩ := F w mg h KX G
    rw [hd] at hmg
    have e := hmg.symm.trans T.m_law
    cases e
    exact ⟨T.fd_law, fun s v => bind_one T.F_law (fun _ _ _ _ _ _ _ => rfl) s v, fun base _ _ => law_sp (G_law T) (law_true T.ad (dist T))⟩) (fun _ _ a ns hl _ hS => ⟨a, ns, rfl, hS, hl, fun _ => rfl⟩) fun _ _ _ _ _ z => z
end Law
open PySem PySem.W PyProof.Rows in
set_option maxRecDepth 100000 in
set_option maxHeartbeats 0 in
theorem PySem.Challenge.cw_seatsahead_k00_errors_holds : PySem.Challenge.rw_seatsahead_k00_errors.Holds := by
  w_on; o_law; k_head; (case hw => w_witness2)
  k_fill
  refine Law.walk (l := PySem.Challenge.rw_seatsahead_k00_errors) rfl rfl (fun w h Y => PySem.W.kIn_of Y) rfl ?F
  case F =>
    intro w mg h KX G
    refine ⟨?_⟩
    refine' Law.mkT KX G ?a1_l_box ?l1_l_box ?c1_l_box ?k1_l_box ?a1_l_take ?l1_l_take ?c1_l_take ?k1_l_take ?a1_l_cells ?l1_l_cells ?c1_l_cells ?k1_l_cells ?a1_l_of ?l1_l_of ?c1_l_of ?k1_l_of ?a1_l_same ?l1_l_same ?c1_l_same ?k1_l_same ?a1_l_sorts ?l1_l_sorts ?c1_l_sorts ?k1_l_sorts ?a1_l_right ?l1_l_right ?c1_l_right ?k1_l_right ?a1_law ?l1_law ?c1_law ?k1_law ?xa_BadDeed ?xi_BadDeed ?xt_BadDeed ?xs_BadDeed ?xa_BadLayout ?xi_BadLayout ?xt_BadLayout ?xs_BadLayout ?xa_BadLine ?xi_BadLine ?xt_BadLine ?xs_BadLine ?xa_BadPair ?xi_BadPair ?xt_BadPair ?xs_BadPair ?xa_BadText ?xi_BadText ?xt_BadText ?xs_BadText ?xa_Known ?xi_Known ?xt_Known ?xs_Known ?xa_NoNumber ?xi_NoNumber ?xt_NoNumber ?xs_NoNumber ?xa_NoPlace ?xi_NoPlace ?xt_NoPlace ?xs_NoPlace ?xa_NoProgram ?xi_NoProgram ?xt_NoProgram ?xs_NoProgram ?xa_NoStep ?xi_NoStep ?xt_NoStep ?xs_NoStep ?xa_NothingDone ?xi_NothingDone ?xt_NothingDone ?xs_NothingDone ?xa_OtherSteps ?xi_OtherSteps ?xt_OtherSteps ?xs_OtherSteps ?xa_SeatError ?xi_SeatError ?xt_SeatError ?xs_SeatError ?XM_BadDeed ?noN_BadDeed ?VE_BadDeed ?XM_BadLayout ?noN_BadLayout ?VE_BadLayout ?XM_BadLine ?noN_BadLine ?VE_BadLine ?XM_BadPair ?noN_BadPair ?VE_BadPair ?XM_BadText ?noN_BadText ?VE_BadText ?XM_Known ?noN_Known ?VE_Known ?XM_NoNumber ?noN_NoNumber ?VE_NoNumber ?XM_NoPlace ?noN_NoPlace ?VE_NoPlace ?XM_NoProgram ?noN_NoProgram ?VE_NoProgram ?XM_NoStep ?noN_NoStep ?VE_NoStep ?XM_NothingDone ?VE_NothingDone ?XM_OtherSteps ?VE_OtherSteps ?SB_BadDeed_BadLayout ?SB_BadDeed_BadLine ?SB_BadDeed_BadPair ?SB_BadDeed_BadText ?SB_BadDeed_Known ?SB_BadDeed_NoNumber ?SB_BadDeed_NoPlace ?SB_BadDeed_NoProgram ?SB_BadDeed_NoStep ?SB_BadDeed_NothingDone ?SB_BadDeed_OtherSteps ?SB_BadDeed_SeatError ?SB_BadLayout_BadDeed ?SB_BadLayout_BadLine ?SB_BadLayout_BadPair ?SB_BadLayout_BadText ?SB_BadLayout_Known ?SB_BadLayout_NoNumber ?SB_BadLayout_NoPlace ?SB_BadLayout_NoProgram ?SB_BadLayout_NoStep ?SB_BadLayout_NothingDone ?SB_BadLayout_OtherSteps ?SB_BadLayout_SeatError ?SB_BadLine_BadDeed ?SB_BadLine_BadLayout ?SB_BadLine_BadPair ?SB_BadLine_BadText ?SB_BadLine_Known ?SB_BadLine_NoNumber ?SB_BadLine_NoPlace ?SB_BadLine_NoProgram ?SB_BadLine_NoStep ?SB_BadLine_NothingDone ?SB_BadLine_OtherSteps ?SB_BadLine_SeatError ?SB_BadPair_BadDeed ?SB_BadPair_BadLayout ?SB_BadPair_BadLine ?SB_BadPair_BadText ?SB_BadPair_Known ?SB_BadPair_NoNumber ?SB_BadPair_NoPlace ?SB_BadPair_NoProgram ?SB_BadPair_NoStep ?SB_BadPair_NothingDone ?SB_BadPair_OtherSteps ?SB_BadPair_SeatError ?SB_BadText_BadDeed ?SB_BadText_BadLayout ?SB_BadText_BadLine ?SB_BadText_BadPair ?SB_BadText_Known ?SB_BadText_NoNumber ?SB_BadText_NoPlace ?SB_BadText_NoProgram ?SB_BadText_NoStep ?SB_BadText_NothingDone ?SB_BadText_OtherSteps ?SB_BadText_SeatError ?SB_Known_BadDeed ?SB_Known_BadLayout ?SB_Known_BadLine ?SB_Known_BadPair ?SB_Known_BadText ?SB_Known_NoNumber ?SB_Known_NoPlace ?SB_Known_NoProgram ?SB_Known_NoStep ?SB_Known_NothingDone ?SB_Known_OtherSteps ?SB_Known_SeatError ?SB_NoNumber_BadDeed ?SB_NoNumber_BadLayout ?SB_NoNumber_BadLine ?SB_NoNumber_BadPair ?SB_NoNumber_BadText ?SB_NoNumber_Known ?SB_NoNumber_NoPlace ?SB_NoNumber_NoProgram ?SB_NoNumber_NoStep ?SB_NoNumber_NothingDone ?SB_NoNumber_OtherSteps ?SB_NoNumber_SeatError ?SB_NoPlace_BadDeed ?SB_NoPlace_BadLayout ?SB_NoPlace_BadLine ?SB_NoPlace_BadPair ?SB_NoPlace_BadText ?SB_NoPlace_Known ?SB_NoPlace_NoNumber ?SB_NoPlace_NoProgram ?SB_NoPlace_NoStep ?SB_NoPlace_NothingDone ?SB_NoPlace_OtherSteps ?SB_NoPlace_SeatError ?SB_NoProgram_BadDeed ?SB_NoProgram_BadLayout ?SB_NoProgram_BadLine ?SB_NoProgram_BadPair ?SB_NoProgram_BadText ?SB_NoProgram_Known ?SB_NoProgram_NoNumber ?SB_NoProgram_NoPlace ?SB_NoProgram_NoStep ?SB_NoProgram_NothingDone ?SB_NoProgram_OtherSteps ?SB_NoProgram_SeatError ?SB_NoStep_BadDeed ?SB_NoStep_BadLayout ?SB_NoStep_BadLine ?SB_NoStep_BadPair ?SB_NoStep_BadText ?SB_NoStep_Known ?SB_NoStep_NoNumber ?SB_NoStep_NoPlace ?SB_NoStep_NoProgram ?SB_NoStep_NothingDone ?SB_NoStep_OtherSteps ?SB_NoStep_SeatError ?SB_NothingDone_BadDeed ?SB_NothingDone_BadLayout ?SB_NothingDone_BadLine ?SB_NothingDone_BadPair ?SB_NothingDone_BadText ?SB_NothingDone_Known ?SB_NothingDone_NoNumber ?SB_NothingDone_NoPlace ?SB_NothingDone_NoProgram ?SB_NothingDone_NoStep ?SB_NothingDone_OtherSteps ?SB_NothingDone_SeatError ?SB_OtherSteps_BadDeed ?SB_OtherSteps_BadLayout ?SB_OtherSteps_BadLine ?SB_OtherSteps_BadPair ?SB_OtherSteps_BadText ?SB_OtherSteps_Known ?SB_OtherSteps_NoNumber ?SB_OtherSteps_NoPlace ?SB_OtherSteps_NoProgram ?SB_OtherSteps_NoStep ?SB_OtherSteps_NothingDone ?SB_OtherSteps_SeatError ?z_ValueError ?z_abs ?z_all ?z_bool ?z_enumerate ?z_int ?z_isinstance ?z_len ?z_list ?z_range ?z_str ?z_tuple ?z_zip
    (case a1_l_box => k_is)
    (case l1_l_box => k_is)
    (case c1_l_box => k_is)
    (case k1_l_box => k_is)
    (case a1_l_take => k_is)
    (case l1_l_take => k_is)
    (case c1_l_take => k_is)
    (case k1_l_take => k_is)
    (case a1_l_cells => k_is)
    (case l1_l_cells => k_is)
    (case c1_l_cells => k_is)
    (case k1_l_cells => k_is)
    (case a1_l_of => k_is)
    (case l1_l_of => k_is)
    (case c1_l_of => k_is)
    (case k1_l_of => k_is)
    (case a1_l_same => k_is)
    (case l1_l_same => k_is)
    (case c1_l_same => k_is)
    (case k1_l_same => k_is)
    (case a1_l_sorts => k_is)
    (case l1_l_sorts => k_is)
    (case c1_l_sorts => k_is)
    (case k1_l_sorts => k_is)
    (case a1_l_right => k_is)
    (case l1_l_right => k_is)
    (case c1_l_right => k_is)
    (case k1_l_right => k_is)
    (case a1_law => k_is)
    (case l1_law => k_is)
    (case c1_law => k_is)
    (case k1_law => k_is)
    (case xa_BadDeed => k_is)
    (case xi_BadDeed => k_is)
    (case xt_BadDeed => k_is)
    (case xs_BadDeed => k_is)
    (case xa_BadLayout => k_is)
    (case xi_BadLayout => k_is)
    (case xt_BadLayout => k_is)
    (case xs_BadLayout => k_is)
    (case xa_BadLine => k_is)
    (case xi_BadLine => k_is)
    (case xt_BadLine => k_is)
    (case xs_BadLine => k_is)
    (case xa_BadPair => k_is)
    (case xi_BadPair => k_is)
    (case xt_BadPair => k_is)
    (case xs_BadPair => k_is)
    (case xa_BadText => k_is)
    (case xi_BadText => k_is)
    (case xt_BadText => k_is)
    (case xs_BadText => k_is)
    (case xa_Known => k_is)
    (case xi_Known => k_is)
    (case xt_Known => k_is)
    (case xs_Known => k_is)
    (case xa_NoNumber => k_is)
    (case xi_NoNumber => k_is)
    (case xt_NoNumber => k_is)
    (case xs_NoNumber => k_is)
    (case xa_NoPlace => k_is)
    (case xi_NoPlace => k_is)
    (case xt_NoPlace => k_is)
    (case xs_NoPlace => k_is)
    (case xa_NoProgram => k_is)
    (case xi_NoProgram => k_is)
    (case xt_NoProgram => k_is)
    (case xs_NoProgram => k_is)
    (case xa_NoStep => k_is)
    (case xi_NoStep => k_is)
    (case xt_NoStep => k_is)
    (case xs_NoStep => k_is)
    (case xa_NothingDone => k_is)
    (case xi_NothingDone => k_is)
    (case xt_NothingDone => k_is)
    (case xs_NothingDone => k_is)
    (case xa_OtherSteps => k_is)
    (case xi_OtherSteps => k_is)
    (case xt_OtherSteps => k_is)
    (case xs_OtherSteps => k_is)
    (case xa_SeatError => k_is)
    (case xi_SeatError => k_is)
    (case xt_SeatError => k_is)
    (case xs_SeatError => k_is)
    (case XM_BadDeed =>
      refine' Mir.XMake.mk1 ?xL ?sa ?ga ?gg ?a1 ?t1 ?l1 ?c1 ?k1 ?kC ?eC ?tC ?hC ?ha ?hn ?ht ?hm ?hB
      (case xL => k_is)
      (case sa => k_is)
      (case ga => k_is)
      (case gg => k_is)
      (case a1 => k_is)
      (case t1 => k_is)
      (case l1 => k_is)
      (case c1 => k_is)
      (case k1 => k_is)
      (case kC => k_is)
      (case eC => k_is)
      (case tC => k_is)
      (case hC => k_is)
      (case ha => k_is)
      (case hn => k_is)
      (case ht => k_is)
      (case hm => k_is)
      (case hB => exact fun us hl => match us, hl with | [_, _], _ => rfl))
    (case noN_BadDeed => k_is)
    (case VE_BadDeed => k_is)
    (case XM_BadLayout =>
      refine' Mir.XMake.mk1 ?xL ?sa ?ga ?gg ?a1 ?t1 ?l1 ?c1 ?k1 ?kC ?eC ?tC ?hC ?ha ?hn ?ht ?hm ?hB
      (case xL => k_is)
      (case sa => k_is)
      (case ga => k_is)
      (case gg => k_is)
      (case a1 => k_is)
      (case t1 => k_is)
      (case l1 => k_is)
      (case c1 => k_is)
      (case k1 => k_is)
      (case kC => k_is)
      (case eC => k_is)
      (case tC => k_is)
      (case hC => k_is)
      (case ha => k_is)
      (case hn => k_is)
      (case ht => k_is)
      (case hm => k_is)
      (case hB => exact fun us hl => match us, hl with | [_, _], _ => rfl))
    (case noN_BadLayout => k_is)
    (case VE_BadLayout => k_is)
    (case XM_BadLine =>
      refine' Mir.XMake.mk1 ?xL ?sa ?ga ?gg ?a1 ?t1 ?l1 ?c1 ?k1 ?kC ?eC ?tC ?hC ?ha ?hn ?ht ?hm ?hB
      (case xL => k_is)
      (case sa => k_is)
      (case ga => k_is)
      (case gg => k_is)
      (case a1 => k_is)
      (case t1 => k_is)
      (case l1 => k_is)
      (case c1 => k_is)
      (case k1 => k_is)
      (case kC => k_is)
      (case eC => k_is)
      (case tC => k_is)
      (case hC => k_is)
      (case ha => k_is)
      (case hn => k_is)
      (case ht => k_is)
      (case hm => k_is)
      (case hB => exact fun us hl => match us, hl with | [_, _], _ => rfl))
    (case noN_BadLine => k_is)
    (case VE_BadLine => k_is)
    (case XM_BadPair =>
      refine' Mir.XMake.mk1 ?xL ?sa ?ga ?gg ?a1 ?t1 ?l1 ?c1 ?k1 ?kC ?eC ?tC ?hC ?ha ?hn ?ht ?hm ?hB
      (case xL => k_is)
      (case sa => k_is)
      (case ga => k_is)
      (case gg => k_is)
      (case a1 => k_is)
      (case t1 => k_is)
      (case l1 => k_is)
      (case c1 => k_is)
      (case k1 => k_is)
      (case kC => k_is)
      (case eC => k_is)
      (case tC => k_is)
      (case hC => k_is)
      (case ha => k_is)
      (case hn => k_is)
      (case ht => k_is)
      (case hm => k_is)
      (case hB => exact fun us hl => match us, hl with | [_, _], _ => rfl))
    (case noN_BadPair => k_is)
    (case VE_BadPair => k_is)
    (case XM_BadText =>
      refine' Mir.XMake.mk1 ?xL ?sa ?ga ?gg ?a1 ?t1 ?l1 ?c1 ?k1 ?kC ?eC ?tC ?hC ?ha ?hn ?ht ?hm ?hB
      (case xL => k_is)
      (case sa => k_is)
      (case ga => k_is)
      (case gg => k_is)
      (case a1 => k_is)
      (case t1 => k_is)
      (case l1 => k_is)
      (case c1 => k_is)
      (case k1 => k_is)
      (case kC => k_is)
      (case eC => k_is)
      (case tC => k_is)
      (case hC => k_is)
      (case ha => k_is)
      (case hn => k_is)
      (case ht => k_is)
      (case hm => k_is)
      (case hB => exact fun us hl => match us, hl with | [_, _], _ => rfl))
    (case noN_BadText => k_is)
    (case VE_BadText => k_is)
    (case XM_Known =>
      refine' Mir.XMake.mk1 ?xL ?sa ?ga ?gg ?a1 ?t1 ?l1 ?c1 ?k1 ?kC ?eC ?tC ?hC ?ha ?hn ?ht ?hm ?hB
      (case xL => k_is)
      (case sa => k_is)
      (case ga => k_is)
      (case gg => k_is)
      (case a1 => k_is)
      (case t1 => k_is)
      (case l1 => k_is)
      (case c1 => k_is)
      (case k1 => k_is)
      (case kC => k_is)
      (case eC => k_is)
      (case tC => k_is)
      (case hC => k_is)
      (case ha => k_is)
      (case hn => k_is)
      (case ht => k_is)
      (case hm => k_is)
      (case hB => exact fun us hl => match us, hl with | [_, _], _ => rfl))
    (case noN_Known => k_is)
    (case VE_Known => k_is)
    (case XM_NoNumber =>
      refine' Mir.XMake.mk1 ?xL ?sa ?ga ?gg ?a1 ?t1 ?l1 ?c1 ?k1 ?kC ?eC ?tC ?hC ?ha ?hn ?ht ?hm ?hB
      (case xL => k_is)
      (case sa => k_is)
      (case ga => k_is)
      (case gg => k_is)
      (case a1 => k_is)
      (case t1 => k_is)
      (case l1 => k_is)
      (case c1 => k_is)
      (case k1 => k_is)
      (case kC => k_is)
      (case eC => k_is)
      (case tC => k_is)
      (case hC => k_is)
      (case ha => k_is)
      (case hn => k_is)
      (case ht => k_is)
      (case hm => k_is)
      (case hB => exact fun us hl => match us, hl with | [_, _], _ => rfl))
    (case noN_NoNumber => k_is)
    (case VE_NoNumber => k_is)
    (case XM_NoPlace =>
      refine' Mir.XMake.mk1 ?xL ?sa ?ga ?gg ?a1 ?t1 ?l1 ?c1 ?k1 ?kC ?eC ?tC ?hC ?ha ?hn ?ht ?hm ?hB
      (case xL => k_is)
      (case sa => k_is)
      (case ga => k_is)
      (case gg => k_is)
      (case a1 => k_is)
      (case t1 => k_is)
      (case l1 => k_is)
      (case c1 => k_is)
      (case k1 => k_is)
      (case kC => k_is)
      (case eC => k_is)
      (case tC => k_is)
      (case hC => k_is)
      (case ha => k_is)
      (case hn => k_is)
      (case ht => k_is)
      (case hm => k_is)
      (case hB => exact fun us hl => match us, hl with | [_, _], _ => rfl))
    (case noN_NoPlace => k_is)
    (case VE_NoPlace => k_is)
    (case XM_NoProgram =>
      refine' Mir.XMake.mk1 ?xL ?sa ?ga ?gg ?a1 ?t1 ?l1 ?c1 ?k1 ?kC ?eC ?tC ?hC ?ha ?hn ?ht ?hm ?hB
      (case xL => k_is)
      (case sa => k_is)
      (case ga => k_is)
      (case gg => k_is)
      (case a1 => k_is)
      (case t1 => k_is)
      (case l1 => k_is)
      (case c1 => k_is)
      (case k1 => k_is)
      (case kC => k_is)
      (case eC => k_is)
      (case tC => k_is)
      (case hC => k_is)
      (case ha => k_is)
      (case hn => k_is)
      (case ht => k_is)
      (case hm => k_is)
      (case hB => exact fun us hl => match us, hl with | [_, _], _ => rfl))
    (case noN_NoProgram => k_is)
    (case VE_NoProgram => k_is)
    (case XM_NoStep =>
      refine' Mir.XMake.mk1 ?xL ?sa ?ga ?gg ?a1 ?t1 ?l1 ?c1 ?k1 ?kC ?eC ?tC ?hC ?ha ?hn ?ht ?hm ?hB
      (case xL => k_is)
      (case sa => k_is)
      (case ga => k_is)
      (case gg => k_is)
      (case a1 => k_is)
      (case t1 => k_is)
      (case l1 => k_is)
      (case c1 => k_is)
      (case k1 => k_is)
      (case kC => k_is)
      (case eC => k_is)
      (case tC => k_is)
      (case hC => k_is)
      (case ha => k_is)
      (case hn => k_is)
      (case ht => k_is)
      (case hm => k_is)
      (case hB => exact fun us hl => match us, hl with | [_, _], _ => rfl))
    (case noN_NoStep => k_is)
    (case VE_NoStep => k_is)
    (case XM_NothingDone =>
      refine' Mir.XMake.mk1 ?xL ?sa ?ga ?gg ?a1 ?t1 ?l1 ?c1 ?k1 ?kC ?eC ?tC ?hC ?ha ?hn ?ht ?hm ?hB
      (case xL => k_is)
      (case sa => k_is)
      (case ga => k_is)
      (case gg => k_is)
      (case a1 => k_is)
      (case t1 => k_is)
      (case l1 => k_is)
      (case c1 => k_is)
      (case k1 => k_is)
      (case kC => k_is)
      (case eC => k_is)
      (case tC => k_is)
      (case hC => k_is)
      (case ha => k_is)
      (case hn => k_is)
      (case ht => k_is)
      (case hm => k_is)
      (case hB => exact fun us hl => match us, hl with | [_], _ => rfl))
    (case VE_NothingDone => k_is)
    (case XM_OtherSteps =>
      refine' Mir.XMake.mk1 ?xL ?sa ?ga ?gg ?a1 ?t1 ?l1 ?c1 ?k1 ?kC ?eC ?tC ?hC ?ha ?hn ?ht ?hm ?hB
      (case xL => k_is)
      (case sa => k_is)
      (case ga => k_is)
      (case gg => k_is)
      (case a1 => k_is)
      (case t1 => k_is)
      (case l1 => k_is)
      (case c1 => k_is)
      (case k1 => k_is)
      (case kC => k_is)
      (case eC => k_is)
      (case tC => k_is)
      (case hC => k_is)
      (case ha => k_is)
      (case hn => k_is)
      (case ht => k_is)
      (case hm => k_is)
      (case hB => exact fun us hl => match us, hl with | [_], _ => rfl))
    (case VE_OtherSteps => k_is)
    (case SB_BadDeed_BadLayout => k_is)
    (case SB_BadDeed_BadLine => k_is)
    (case SB_BadDeed_BadPair => k_is)
    (case SB_BadDeed_BadText => k_is)
    (case SB_BadDeed_Known => k_is)
    (case SB_BadDeed_NoNumber => k_is)
    (case SB_BadDeed_NoPlace => k_is)
    (case SB_BadDeed_NoProgram => k_is)
    (case SB_BadDeed_NoStep => k_is)
    (case SB_BadDeed_NothingDone => k_is)
    (case SB_BadDeed_OtherSteps => k_is)
    (case SB_BadDeed_SeatError => k_is)
    (case SB_BadLayout_BadDeed => k_is)
    (case SB_BadLayout_BadLine => k_is)
    (case SB_BadLayout_BadPair => k_is)
    (case SB_BadLayout_BadText => k_is)
    (case SB_BadLayout_Known => k_is)
    (case SB_BadLayout_NoNumber => k_is)
    (case SB_BadLayout_NoPlace => k_is)
    (case SB_BadLayout_NoProgram => k_is)
    (case SB_BadLayout_NoStep => k_is)
    (case SB_BadLayout_NothingDone => k_is)
    (case SB_BadLayout_OtherSteps => k_is)
    (case SB_BadLayout_SeatError => k_is)
    (case SB_BadLine_BadDeed => k_is)
    (case SB_BadLine_BadLayout => k_is)
    (case SB_BadLine_BadPair => k_is)
    (case SB_BadLine_BadText => k_is)
    (case SB_BadLine_Known => k_is)
    (case SB_BadLine_NoNumber => k_is)
    (case SB_BadLine_NoPlace => k_is)
    (case SB_BadLine_NoProgram => k_is)
    (case SB_BadLine_NoStep => k_is)
    (case SB_BadLine_NothingDone => k_is)
    (case SB_BadLine_OtherSteps => k_is)
    (case SB_BadLine_SeatError => k_is)
    (case SB_BadPair_BadDeed => k_is)
    (case SB_BadPair_BadLayout => k_is)
    (case SB_BadPair_BadLine => k_is)
    (case SB_BadPair_BadText => k_is)
    (case SB_BadPair_Known => k_is)
    (case SB_BadPair_NoNumber => k_is)
    (case SB_BadPair_NoPlace => k_is)
    (case SB_BadPair_NoProgram => k_is)
    (case SB_BadPair_NoStep => k_is)
    (case SB_BadPair_NothingDone => k_is)
    (case SB_BadPair_OtherSteps => k_is)
    (case SB_BadPair_SeatError => k_is)
    (case SB_BadText_BadDeed => k_is)
    (case SB_BadText_BadLayout => k_is)
    (case SB_BadText_BadLine => k_is)
    (case SB_BadText_BadPair => k_is)
    (case SB_BadText_Known => k_is)
    (case SB_BadText_NoNumber => k_is)
    (case SB_BadText_NoPlace => k_is)
    (case SB_BadText_NoProgram => k_is)
    (case SB_BadText_NoStep => k_is)
    (case SB_BadText_NothingDone => k_is)
    (case SB_BadText_OtherSteps => k_is)
    (case SB_BadText_SeatError => k_is)
    (case SB_Known_BadDeed => k_is)
    (case SB_Known_BadLayout => k_is)
    (case SB_Known_BadLine => k_is)
    (case SB_Known_BadPair => k_is)
    (case SB_Known_BadText => k_is)
    (case SB_Known_NoNumber => k_is)
    (case SB_Known_NoPlace => k_is)
    (case SB_Known_NoProgram => k_is)
    (case SB_Known_NoStep => k_is)
    (case SB_Known_NothingDone => k_is)
    (case SB_Known_OtherSteps => k_is)
    (case SB_Known_SeatError => k_is)
    (case SB_NoNumber_BadDeed => k_is)
    (case SB_NoNumber_BadLayout => k_is)
    (case SB_NoNumber_BadLine => k_is)
    (case SB_NoNumber_BadPair => k_is)
    (case SB_NoNumber_BadText => k_is)
    (case SB_NoNumber_Known => k_is)
    (case SB_NoNumber_NoPlace => k_is)
    (case SB_NoNumber_NoProgram => k_is)
    (case SB_NoNumber_NoStep => k_is)
    (case SB_NoNumber_NothingDone => k_is)
    (case SB_NoNumber_OtherSteps => k_is)
    (case SB_NoNumber_SeatError => k_is)
    (case SB_NoPlace_BadDeed => k_is)
    (case SB_NoPlace_BadLayout => k_is)
    (case SB_NoPlace_BadLine => k_is)
    (case SB_NoPlace_BadPair => k_is)
    (case SB_NoPlace_BadText => k_is)
    (case SB_NoPlace_Known => k_is)
    (case SB_NoPlace_NoNumber => k_is)
    (case SB_NoPlace_NoProgram => k_is)
    (case SB_NoPlace_NoStep => k_is)
    (case SB_NoPlace_NothingDone => k_is)
    (case SB_NoPlace_OtherSteps => k_is)
    (case SB_NoPlace_SeatError => k_is)
    (case SB_NoProgram_BadDeed => k_is)
    (case SB_NoProgram_BadLayout => k_is)
    (case SB_NoProgram_BadLine => k_is)
    (case SB_NoProgram_BadPair => k_is)
    (case SB_NoProgram_BadText => k_is)
    (case SB_NoProgram_Known => k_is)
    (case SB_NoProgram_NoNumber => k_is)
    (case SB_NoProgram_NoPlace => k_is)
    (case SB_NoProgram_NoStep => k_is)
    (case SB_NoProgram_NothingDone => k_is)
    (case SB_NoProgram_OtherSteps => k_is)
    (case SB_NoProgram_SeatError => k_is)
    (case SB_NoStep_BadDeed => k_is)
    (case SB_NoStep_BadLayout => k_is)
    (case SB_NoStep_BadLine => k_is)
    (case SB_NoStep_BadPair => k_is)
    (case SB_NoStep_BadText => k_is)
    (case SB_NoStep_Known => k_is)
    (case SB_NoStep_NoNumber => k_is)
    (case SB_NoStep_NoPlace => k_is)
    (case SB_NoStep_NoProgram => k_is)
    (case SB_NoStep_NothingDone => k_is)
    (case SB_NoStep_OtherSteps => k_is)
    (case SB_NoStep_SeatError => k_is)
    (case SB_NothingDone_BadDeed => k_is)
    (case SB_NothingDone_BadLayout => k_is)
    (case SB_NothingDone_BadLine => k_is)
    (case SB_NothingDone_BadPair => k_is)
    (case SB_NothingDone_BadText => k_is)
    (case SB_NothingDone_Known => k_is)
    (case SB_NothingDone_NoNumber => k_is)
    (case SB_NothingDone_NoPlace => k_is)
    (case SB_NothingDone_NoProgram => k_is)
    (case SB_NothingDone_NoStep => k_is)
    (case SB_NothingDone_OtherSteps => k_is)
    (case SB_NothingDone_SeatError => k_is)
    (case SB_OtherSteps_BadDeed => k_is)
    (case SB_OtherSteps_BadLayout => k_is)
    (case SB_OtherSteps_BadLine => k_is)
    (case SB_OtherSteps_BadPair => k_is)
    (case SB_OtherSteps_BadText => k_is)
    (case SB_OtherSteps_Known => k_is)
    (case SB_OtherSteps_NoNumber => k_is)
    (case SB_OtherSteps_NoPlace => k_is)
    (case SB_OtherSteps_NoProgram => k_is)
    (case SB_OtherSteps_NoStep => k_is)
    (case SB_OtherSteps_NothingDone => k_is)
    (case SB_OtherSteps_SeatError => k_is)
    (case z_ValueError => k_is)
    (case z_abs => k_is)
    (case z_all => k_is)
    (case z_bool => k_is)
    (case z_enumerate => k_is)
    (case z_int => k_is)
    (case z_isinstance => k_is)
    (case z_len => k_is)
    (case z_list => k_is)
    (case z_range => k_is)
    (case z_str => k_is)
    (case z_tuple => k_is)
    (case z_zip => k_is)

