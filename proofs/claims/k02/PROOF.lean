import PyProof.Rows.All
import Wide.All
import OpenK.AllK
import Wide.FinOn
import HandS.ForMost
import HandS.Flow
import HandS.Evl
import HandS.ExcInit
import HandS.ExcIs
import HandS.ExcField
import HandS.TupAny
import HandS.IsInst
import HandS.NoneIn
import HandS.FStr
import HandS.Style
import KE.SortData
import HandS.Zip
import HandS.CallLocal
import HandS.TupLe
import PyProof.TupleOfStr
import HandS.More
import HandS.ExcOwn
import HandS.WordsExc
import HandS.Text
import PySem.Challenge.RW_seatsahead_k02_wrong_texts
set_option Elab.async false
set_option linter.all false
set_option maxRecDepth 100000
set_option maxHeartbeats 4000000
namespace Mir
open PySem L2

abbrev Ex := Evl.Ex
/-- data at any depth -/
inductive D where
  | non | bl (b : Bool) | int (i : Int) | str (s : Str) | lst (xs : List D) | tup (xs : List D)
  | dct (kvs : List (Key × D)) | ins (c : Addr) (fs : List (Str × D)) | fn (f : Addr)
  /-- a list that is only read -/
  | fz (xs : List D)
  /-- a kept exception -/
  | xc (c : Addr) (fs : List (Str × D))
  deriving Inhabited
/-- a kept exception of the class at C, its dict at dx -/
def exv (C dx a : Addr) : HO := .ext fun h => ∃ (oe : Obj) (vs : Array Value), h.get? a = some oe ∧ Zc (.ref C) (some dx) oe ∧ oe.data = .fields vs
mutual
inductive DD (K : PySem.W.Frag) (H : Hp) : V → D → Prop
  | non : DD K H .non .non
  | bl (b : Bool) : DD K H (.bl b) (.bl b)
  | int (i : Int) : DD K H (.int i) (.int i)
  | str (x : Str) : DD K H (.str x) (.str x)
  | lst {a : Addr} {vs : List V} {ds : List D} : H a = some (.lst vs) → DDs K H vs ds → DD K H (.ref a) (.lst ds)
  | tup {a : Addr} {vs : List V} {ds : List D} : SqT K H a vs → DDs K H vs ds → DD K H (.ref a) (.tup ds)
  | dct {a : Addr} {kvs : List (Key × V)} {es : List (Key × D)} : Rd H a (.dK kvs) → DDk K H kvs es → DD K H (.ref a) (.dct es)
  | ins {a C dx : Addr} {fs : List (Str × V)} {es : List (Str × D)} : H a = some (.ins C dx fs) → DDf K H fs es → DD K H (.ref a) (.ins C es)
  | exc {a C dx : Addr} {fs : List (Str × V)} {es : List (Str × D)} : H a = some (exv C dx a) → H dx = some (.xd fs) → DDf K H fs es → DD K H (.ref a) (.xc C es)
  | fn (f : Addr) : DD K H (.ref f) (.fn f)
  | fz {a : Addr} {vs : List V} {ds : List D} : SqL K H a vs → DDs K H vs ds → DD K H (.ref a) (.fz ds)
inductive DDs (K : PySem.W.Frag) (H : Hp) : List V → List D → Prop
  | nil : DDs K H [] []
  | cons {v : V} {vs : List V} {d : D} {ds : List D} : DD K H v d → DDs K H vs ds → DDs K H (v :: vs) (d :: ds)
inductive DDk (K : PySem.W.Frag) (H : Hp) : List (Key × V) → List (Key × D) → Prop
  | nil : DDk K H [] []
  | cons {k : Key} {v : V} {vs : List (Key × V)} {d : D} {ds : List (Key × D)} : DD K H v d → DDk K H vs ds → DDk K H ((k, v) :: vs) ((k, d) :: ds)
inductive DDf (K : PySem.W.Frag) (H : Hp) : List (Str × V) → List (Str × D) → Prop
  | nil : DDf K H [] []
  | cons {k : Str} {v : V} {vs : List (Str × V)} {d : D} {ds : List (Str × D)} : DD K H v d → DDf K H vs ds → DDf K H ((k, v) :: vs) ((k, d) :: ds)
end
section
variable {K : PySem.W.Frag} {H H' : Hp}
mutual
theorem DD.mono (e : Ex H H') : ∀ {d : D} {v : V}, DD K H v d → DD K H' v d
  | .non, _, h => by cases h; exact .non
  | .bl _, _, h => by cases h; exact .bl _
  | .int _, _, h => by cases h; exact .int _
  | .str _, _, h => by cases h; exact .str _
  | .lst _, _, h => by cases h with | lst a b => exact .lst (e _ _ a) (DDs.mono e b)
  | .tup _, _, h => by cases h with | tup a b => exact .tup (Evl.ex_t e a) (DDs.mono e b)
  | .dct _, _, h => by cases h with | dct a b => exact .dct (Evl.ex_rd e a) (DDk.mono e b)
  | .ins _ _, _, h => by cases h with | ins a b => exact .ins (e _ _ a) (DDf.mono e b)
  | .xc _ _, _, h => by cases h with | exc a b c => exact .exc (e _ _ a) (e _ _ b) (DDf.mono e c)
  | .fn _, _, h => by cases h; exact .fn _
  | .fz _, _, h => by cases h with | fz a b => exact .fz (Evl.ex_l e a) (DDs.mono e b)
theorem DDs.mono (e : Ex H H') : ∀ {ds : List D} {vs : List V}, DDs K H vs ds → DDs K H' vs ds
  | [], _, h => by cases h; exact .nil
  | _ :: _, _, h => by cases h with | cons a b => exact .cons (DD.mono e a) (DDs.mono e b)
theorem DDk.mono (e : Ex H H') : ∀ {ds : List (Key × D)} {vs : List (Key × V)}, DDk K H vs ds → DDk K H' vs ds
  | [], _, h => by cases h; exact .nil
  | (_, _) :: _, _, h => by cases h with | cons a b => exact .cons (DD.mono e a) (DDk.mono e b)
theorem DDf.mono (e : Ex H H') : ∀ {ds : List (Str × D)} {vs : List (Str × V)}, DDf K H vs ds → DDf K H' vs ds
  | [], _, h => by cases h; exact .nil
  | (_, _) :: _, _, h => by cases h with | cons a b => exact .cons (DD.mono e a) (DDf.mono e b)
end
theorem DDs.length : ∀ {vs : List V} {ds : List D}, DDs K H vs ds → vs.length = ds.length
  | _, _, .nil => rfl
  | _, _, .cons _ h => congrArg (· + 1) h.length
theorem DDs.get : ∀ {vs : List V} {ds : List D} {i : Nat} {d : D}, DDs K H vs ds → ds[i]? = some d → ∃ v, vs[i]? = some v ∧ DD K H v d
  | _, _, _, _, .nil, e => by simp at e
  | _, _, 0, _, .cons a _, e => by simp at e; subst e; exact ⟨_, rfl, a⟩
  | _, _, i + 1, d, .cons _ h, e => by
    obtain ⟨v, h1, h2⟩ := DDs.get (i := i) (d := d) h (by simpa using e)
    exact ⟨v, by simpa using h1, h2⟩
theorem DDs.getV : ∀ {vs : List V} {ds : List D} {i : Nat} {v : V}, DDs K H vs ds → vs[i]? = some v → ∃ d, ds[i]? = some d ∧ DD K H v d
  | _, _, _, _, .nil, e => by simp at e
  | _, _, 0, _, .cons a _, e => by simp at e; subst e; exact ⟨_, rfl, a⟩
  | _, _, i + 1, v, .cons _ h, e => by
    obtain ⟨d, h1, h2⟩ := DDs.getV (i := i) (v := v) h (by simpa using e)
    exact ⟨d, by simpa using h1, h2⟩
theorem DDs.append : ∀ {vs ws : List V} {ds es : List D}, DDs K H vs ds → DDs K H ws es → DDs K H (vs ++ ws) (ds ++ es)
  | _, _, _, _, .nil, h => h
  | _, _, _, _, .cons a b, h => .cons a (DDs.append b h)
theorem DDs.take : ∀ {vs : List V} {ds : List D} (n : Nat), DDs K H vs ds → DDs K H (vs.take n) (ds.take n)
  | _, _, 0, _ => .nil
  | _, _, _ + 1, .nil => .nil
  | _, _, n + 1, .cons a h => .cons a (DDs.take n h)
theorem DDs.drop : ∀ {vs : List V} {ds : List D} (n : Nat), DDs K H vs ds → DDs K H (vs.drop n) (ds.drop n)
  | _, _, 0, h => h
  | _, _, _ + 1, .nil => .nil
  | _, _, n + 1, .cons _ h => DDs.drop n h
theorem DDs.set {v : V} {d : D} (a : DD K H v d) : ∀ {vs : List V} {ds : List D} (i : Nat), DDs K H vs ds → DDs K H (vs.set i v) (ds.set i d)
  | _, _, _, .nil => .nil
  | _, _, 0, .cons _ t => .cons a t
  | _, _, i + 1, .cons q t => .cons q (DDs.set a i t)
theorem DDs.eraseIdx : ∀ {vs : List V} {ds : List D} (i : Nat), DDs K H vs ds → DDs K H (vs.eraseIdx i) (ds.eraseIdx i)
  | _, _, _, .nil => .nil
  | _, _, 0, .cons _ t => t
  | _, _, i + 1, .cons q t => .cons q (DDs.eraseIdx i t)
theorem DDs.dropLast : ∀ {vs : List V} {ds : List D}, DDs K H vs ds → DDs K H vs.dropLast ds.dropLast
  | _, _, .nil => .nil
  | _, _, .cons _ .nil => .nil
  | _, _, .cons q (.cons r t) => .cons q (DDs.dropLast (.cons r t))
theorem DDs.rev : ∀ {vs : List V} {ds : List D}, DDs K H vs ds → DDs K H vs.reverse ds.reverse
  | _, _, .nil => .nil
  | _, _, .cons q t => by
    rw [List.reverse_cons, List.reverse_cons]
    exact (DDs.rev t).append (.cons q .nil)
theorem DDs.ints : ∀ (ns : List Int), DDs K H (ns.map V.int) (ns.map D.int)
  | [] => .nil
  | n :: ns => .cons (.int n) (DDs.ints ns)
end

def msk (O : List Addr) (H : Hp) : Hp := fun a => if a ∈ O then none else H a
theorem msk_in {O : List Addr} {H : Hp} {a : Addr} (h : a ∈ O) : msk O H a = none := if_pos h
theorem msk_out {O : List Addr} {H : Hp} {a : Addr} (h : a ∉ O) : msk O H a = H a := if_neg h
theorem msk_ex {O : List Addr} {H : Hp} : Ex (msk O H) H := fun a o e => by
  by_cases h : a ∈ O
  · rw [msk_in h] at e; cases e
  · rwa [msk_out h] at e
theorem msk_mono {O : List Addr} {H H' : Hp} (e : Ex H H') : Ex (msk O H) (msk O H') := fun a o h => by
  by_cases q : a ∈ O
  · rw [msk_in q] at h; cases h
  · rw [msk_out q] at h ⊢; exact e a o h
theorem msk_upd {O : List Addr} {H : Hp} {p : Addr} {o : HO} (h : p ∈ O) : msk O (upd H p o) = msk O H := by
  funext a
  by_cases q : a ∈ O
  · rw [msk_in q, msk_in q]
  · rw [msk_out q, msk_out q, upd_ne (fun z => q (by rw [z]; exact h))]
theorem msk_sub {O O' : List Addr} {H : Hp} (h : ∀ q ∈ O, q ∈ O') : Ex (msk O' H) (msk O H) := fun a o e => by
  by_cases q : a ∈ O'
  · rw [msk_in q] at e; cases e
  · rw [msk_out q] at e; rw [msk_out fun z => q (h _ z)]; exact e
/-- hiding a fresh address more loses nothing of what stood before -/
theorem msk_cons_ex {O : List Addr} {H H' : Hp} {p : Addr} (hn : msk O H p = none) (e : Ex (msk O H) (msk O H')) : Ex (msk O H) (msk (p :: O) H') := fun a o h => by
  have hp : a ≠ p := fun z => by rw [z, hn] at h; cases h
  have hO : a ∉ O := fun z => by rw [msk_in z] at h; cases h
  have q := e a o h
  rw [msk_out hO] at q
  rw [msk_out (by simp only [List.mem_cons, not_or]; exact ⟨hp, hO⟩)]
  exact q

inductive Sl where
  | d (x : D) | ol (xs : List D) | io (xs : List D)
  /-- a value that is known as it stands (a def) -/
  | st (v : V)
  deriving Inhabited
abbrev Env := List (Option Sl)
inductive R (α : Type) where
  | ok (a : α) (e : Env) | ex (x : D) (e : Env) | bad
  deriving Inhabited
def M (α : Type) := Env → R α
@[reducible] def M.ret {α : Type} (a : α) : M α := fun e => .ok a e
def M.andThen {α β : Type} (m : M α) (f : α → M β) : M β := fun e => match m e with
  | .ok a e' => f a e'
  | .ex x e' => .ex x e'
  | .bad => .bad
instance : Monad M where
  pure := M.ret
  bind := M.andThen
def M.lift {α : Type} (o : Option α) : M α := fun e => match o with
  | some a => .ok a e
  | none => .bad

/-- ghosts of a frame: what outer frames own and no one here changes; all that outer frames own; where the given mutable lists stand -/
structure Gh where
  hp : Hp
  B : List Addr
  A : Nat → Addr

def SlR (K : PySem.W.Frag) (γ : Gh) (O : List Addr) (H : Hp) (i : Nat) (v : V) : Sl → Prop
  | .d x => DD K (msk O H) v x
  | .ol xs => ∃ p vs, v = .ref p ∧ p ∈ O ∧ p ∉ γ.B ∧ H p = some (.lst vs) ∧ DDs K (msk O H) vs xs
  | .io xs => ∃ vs, v = .ref (γ.A i) ∧ γ.A i ∈ γ.B ∧ γ.hp (γ.A i) = none ∧ H (γ.A i) = some (.lst vs) ∧ DDs K (msk O H) vs xs
  | .st u => v = u
structure Rel (K : PySem.W.Frag) (γ : Gh) (O : List Addr) (H : Hp) (σ : L2.St) (e : Env) : Prop where
  bo : ∀ q ∈ γ.B, q ∈ O
  live : ∀ q ∈ O, H q ≠ none
  gs : ∀ q o, γ.hp q = some o → q ∈ γ.B ∧ H q = some o
  len : σ.length = e.length
  sl : ∀ (i : Nat) (s : Sl), e[i]? = some (some s) → ∃ v, σ[i]? = some (some v) ∧ SlR K γ O H i v s
  dj : ∀ (i j : Nat) (xs ys : List D) (v : V), e[i]? = some (some (Sl.ol xs)) → e[j]? = some (some (Sl.ol ys)) → σ[i]? = some (some v) → σ[j]? = some (some v) → i = j
  ij : ∀ (i j : Nat) (xs ys : List D), e[i]? = some (some (Sl.io xs)) → e[j]? = some (some (Sl.io ys)) → γ.A i = γ.A j → i = j
section
variable {K : PySem.W.Frag} {γ : Gh} {O : List Addr} {H H' : Hp} {σ : L2.St} {e : Env}
theorem SlR.ext {i : Nat} {v : V} (x : Ex H H') : ∀ {s : Sl}, SlR K γ O H i v s → SlR K γ O H' i v s
  | .d _, h => DD.mono (msk_mono x) h
  | .ol _, ⟨p, vs, h1, h2, h3, h4, h5⟩ => ⟨p, vs, h1, h2, h3, x _ _ h4, h5.mono (msk_mono x)⟩
  | .io _, ⟨vs, h1, h2, h3, h4, h5⟩ => ⟨vs, h1, h2, h3, x _ _ h4, h5.mono (msk_mono x)⟩
  | .st _, h => h
theorem Rel.ext (r : Rel K γ O H σ e) (x : Ex H H') : Rel K γ O H' σ e where
  bo := r.bo
  live := fun q hq z => by
    cases h : H q with
    | none => exact r.live q hq h
    | some o => rw [x _ _ h] at z; cases z
  gs := fun q o h => ⟨(r.gs q o h).1, x _ _ (r.gs q o h).2⟩
  len := r.len
  sl := fun i s h => by
    obtain ⟨v, h1, h2⟩ := r.sl i s h
    exact ⟨v, h1, h2.ext x⟩
  dj := r.dj
  ij := r.ij
theorem Rel.out (r : Rel K γ O H σ e) {p : Addr} (h : H p = none) : p ∉ O := fun z => r.live p z h
end
/-- what a step of the frame may do to the rest -/
def Fr (O : List Addr) (H H' : Hp) : Prop := Ex (msk O H) (msk O H')
theorem Fr.refl (O : List Addr) (H : Hp) : Fr O H H := fun _ _ h => h
theorem Fr.trans {O : List Addr} {H H1 H2 : Hp} (a : Fr O H H1) (b : Fr O H1 H2) : Fr O H H2 := fun x o h => b x o (a x o h)
theorem Fr.ext {O : List Addr} {H H' : Hp} (x : Ex H H') : Fr O H H' := msk_mono x

/-- values that may be borrowed: data, or a slot's own list (looked up when it is used) -/
inductive Dv where
  | val (d : D) | slot (i : Nat)
  deriving Inhabited
def DvR (K : PySem.W.Frag) (O : List Addr) (H : Hp) (σ : L2.St) (v : V) : Dv → Prop
  | .val d => DD K (msk O H) v d
  | .slot i => σ[i]? = some (some v)
theorem DvR.fr {K : PySem.W.Frag} {O : List Addr} {H H' : Hp} {σ : L2.St} {v : V} (x : Fr O H H') : ∀ {d : Dv}, DvR K O H σ v d → DvR K O H' σ v d
  | .val _, h => DD.mono x h
  | .slot _, h => h
def rd : Dv → M D
  | .val d => M.ret d
  | .slot i => fun e => match e[i]? with
    | some (some (.d x)) => .ok x e
    | some (some (Sl.ol xs)) => .ok (.lst xs) e
    | some (some (Sl.io xs)) => .ok (.lst xs) e
    | _ => .bad
/-- readable data: data, or an owned list -/
inductive DB (K : PySem.W.Frag) (O : List Addr) (H : Hp) (v : V) : D → Prop
  | dd {d : D} : DD K (msk O H) v d → DB K O H v d
  | ow {p : Addr} {vs : List V} {ds : List D} : v = .ref p → H p = some (.lst vs) → DDs K (msk O H) vs ds → DB K O H v (.lst ds)
theorem DB.lst {K : PySem.W.Frag} {O : List Addr} {H : Hp} {v : V} {ds : List D} (h : DB K O H v (.lst ds)) : ∃ a vs, v = .ref a ∧ H a = some (.lst vs) ∧ DDs K (msk O H) vs ds := by
  cases h with
  | dd h => cases h with | lst a b => exact ⟨_, _, rfl, msk_ex _ _ a, b⟩
  | ow a b c => exact ⟨_, _, a, b, c⟩
theorem DB.any {K : PySem.W.Frag} {O : List Addr} {H : Hp} {v : V} {d : D} (h : DB K O H v d) (n : ∀ ds, d ≠ .lst ds) : DD K (msk O H) v d := by
  cases h with
  | dd h => exact h
  | ow a b c => exact absurd rfl (n _)
theorem DB.tup {K : PySem.W.Frag} {O : List Addr} {H : Hp} {v : V} {ds : List D} (h : DB K O H v (.tup ds)) : ∃ a vs, v = .ref a ∧ SqT K H a vs ∧ DDs K (msk O H) vs ds := by
  cases h.any (by intro _ z; cases z) with | tup a b => exact ⟨_, _, rfl, Evl.ex_t msk_ex a, b⟩
theorem DB.int {K : PySem.W.Frag} {O : List Addr} {H : Hp} {v : V} {i : Int} (h : DB K O H v (.int i)) : v = .int i := by
  cases h.any (by intro _ z; cases z); rfl
theorem DB.str {K : PySem.W.Frag} {O : List Addr} {H : Hp} {v : V} {i : Str} (h : DB K O H v (.str i)) : v = .str i := by
  cases h.any (by intro _ z; cases z); rfl
theorem DB.bl {K : PySem.W.Frag} {O : List Addr} {H : Hp} {v : V} {i : Bool} (h : DB K O H v (.bl i)) : v = .bl i := by
  cases h.any (by intro _ z; cases z); rfl
theorem DB.non {K : PySem.W.Frag} {O : List Addr} {H : Hp} {v : V} (h : DB K O H v .non) : v = .non := by
  cases h.any (by intro _ z; cases z); rfl
theorem rd_ok {K : PySem.W.Frag} {γ : Gh} {O : List Addr} {H : Hp} {σ : L2.St} {e e' : Env} {v : V} {dv : Dv} {d : D} (r : Rel K γ O H σ e) (h : DvR K O H σ v dv) (q : rd dv e = .ok d e') : e' = e ∧ DB K O H v d := by
  cases dv with
  | val x => cases q; exact ⟨rfl, .dd h⟩
  | slot i =>
    unfold rd at q
    dsimp only at q
    split at q
    · rename_i x hx; cases q
      obtain ⟨w, h1, h2⟩ := r.sl _ _ hx
      have hw : σ[i]? = some (some v) := h
      rw [h1] at hw; cases hw
      exact ⟨rfl, .dd h2⟩
    · rename_i x hx; cases q
      obtain ⟨w, h1, p, vs, h2, _, _, h3, h4⟩ := r.sl _ _ hx
      have hw : σ[i]? = some (some v) := h
      rw [h1] at hw; cases hw
      exact ⟨rfl, .ow h2 h3 h4⟩
    · rename_i x hx; cases q
      obtain ⟨w, h1, vs, h2, _, _, h3, h4⟩ := r.sl _ _ hx
      have hw : σ[i]? = some (some v) := h
      rw [h1] at hw; cases hw
      exact ⟨rfl, .ow h2 h3 h4⟩
    · cases q

abbrev XS := L2.St → XK
/-- what an exception's way wants -/
def GoodX (K : PySem.W.Frag) (γ : Gh) (O : List Addr) (H : Hp) (σ : L2.St) (E : XS) (x : D) (e' : Env) : Prop := match x with
  | .ins C fs => ∀ dx fv H', Rel K γ O H' σ e' → Fr O H H' → msk O H' dx = some (.xd fv) → DDf K (msk O H') fv fs → E σ (.ref C) (some dx) H'
  | _ => False
/-- a result r: what is wanted behind it, T telling how the value stands for it -/
def Good {α β : Type} (K : PySem.W.Frag) (γ : Gh) (O : List Addr) (H : Hp) (σ : L2.St) (E : XS) (T : Hp → β → α → Prop) (Q : β → Hp → Prop) : R α → Prop
  | .ok d e' => ∀ v H', Rel K γ O H' σ e' → Fr O H H' → T H' v d → Q v H'
  | .ex x e' => GoodX K γ O H σ E x e'
  | .bad => False
/-- general judgement -/
def J {α β : Type} (K : PySem.W.Frag) (E : XS) (T : List Addr → Hp → L2.St → β → α → Prop) (te : L2.St → Hp → (β → Hp → Prop) → Prop) (m : M α) : Prop :=
  ∀ γ O H σ e Q, Rel K γ O H σ e → Good K γ O H σ E (fun H' => T O H' σ) Q (m e) → te σ H Q
abbrev TDv (K : PySem.W.Frag) : List Addr → Hp → L2.St → V → Dv → Prop := fun O H σ v d => DvR K O H σ v d
abbrev TD (K : PySem.W.Frag) : List Addr → Hp → L2.St → V → D → Prop := fun O H _ v d => DD K (msk O H) v d
abbrev TDs (K : PySem.W.Frag) : List Addr → Hp → L2.St → List V → List D → Prop := fun O H _ v d => DDs K (msk O H) v d
inductive DvRs (K : PySem.W.Frag) (O : List Addr) (H : Hp) (σ : L2.St) : List V → List Dv → Prop
  | nil : DvRs K O H σ [] []
  | cons {v : V} {vs : List V} {d : Dv} {ds : List Dv} : DvR K O H σ v d → DvRs K O H σ vs ds → DvRs K O H σ (v :: vs) (d :: ds)
abbrev TB : List Addr → Hp → L2.St → Bool → Bool → Prop := fun _ _ _ v d => v = d
/-- expressions whose value may be kept; may be borrowed; tests; arguments -/
abbrev EX (K : PySem.W.Frag) (E : XS) (te : TE) (m : M D) : Prop := J K E (TD K) te m
abbrev EV (K : PySem.W.Frag) (E : XS) (te : TE) (m : M Dv) : Prop := J K E (TDv K) te m
abbrev ET (K : PySem.W.Frag) (E : XS) (te : TT) (m : M Bool) : Prop := J K E TB te m
abbrev EA (K : PySem.W.Frag) (E : XS) (te : TA) (m : M (List D)) : Prop := J K E (TDs K) te m
abbrev EW (K : PySem.W.Frag) (E : XS) (te : TA) (m : M (List Dv)) : Prop := J K E (fun O H σ v d => DvRs K O H σ v d) te m

section
variable {α β α' β' : Type} {K : PySem.W.Frag} {E : XS}
theorem GoodX.fr {γ : Gh} {O : List Addr} {H H1 : Hp} {σ : L2.St} {x : D} {e' : Env} (f : Fr O H H1) (g : GoodX K γ O H σ E x e') : GoodX K γ O H1 σ E x e' := by
  unfold GoodX at g ⊢
  split at g
  · intro dx fv H' r q
    exact g dx fv H' r (f.trans q)
  · exact g
theorem Good.fr {T : Hp → β → α → Prop} {γ : Gh} {O : List Addr} {H H1 : Hp} {σ : L2.St} {Q : β → Hp → Prop} {r : R α} (f : Fr O H H1) (g : Good K γ O H σ E T Q r) : Good K γ O H1 σ E T Q r := by
  cases r with
  | ok d e' => exact fun v H' r q t => g v H' r (f.trans q) t
  | ex x e1 => exact GoodX.fr (γ := γ) (e' := e1) f g
  | bad => exact g
/-- one behind another -/
theorem J.bind {T : List Addr → Hp → L2.St → β → α → Prop} {T' : List Addr → Hp → L2.St → β' → α' → Prop} {te : L2.St → Hp → (β → Hp → Prop) → Prop} {m : M α} {f : α → M α'}
    (h : J K E T te m) {γ : Gh} {O : List Addr} {H : Hp} {σ : L2.St} {e : Env} {Q : β → Hp → Prop} {Q' : β' → Hp → Prop} (r : Rel K γ O H σ e) (g : Good K γ O H σ E (fun H' => T' O H' σ) Q' ((m >>= f) e))
    (k : ∀ a e' v H', Rel K γ O H' σ e' → Fr O H H' → T O H' σ v a → Good K γ O H' σ E (fun H' => T' O H' σ) Q' (f a e') → Q v H') : te σ H Q := by
  refine h γ O H σ e Q r ?_
  have g' : Good K γ O H σ E (fun H' => T' O H' σ) Q' (M.andThen m f e) := g
  unfold M.andThen at g'
  cases q : m e with
  | ok a e' =>
    rw [q] at g'
    exact fun v H' r1 f1 t => k a e' v H' r1 f1 t (Good.fr f1 g')
  | ex x e' =>
    rw [q] at g'
    exact g'
  | bad =>
    rw [q] at g'
    exact g'
end
end Mir

set_option Elab.async false
set_option linter.all false
set_option maxRecDepth 100000
set_option maxHeartbeats 4000000
namespace Mir
open PySem L2

/-- at a heap whose owned things are hidden; the answer extends the heap -/
def OP2 (K : PySem.W.Frag) (r : R2) (f : D → D → Option D) : Prop :=
  ∀ (O : List Addr) (H : Hp) (x y : V) (dx dy d : D) (Q : VK), (∀ q ∈ O, H q ≠ none) → DB K O H x dx → DB K O H y dy → f dx dy = some d → (∀ v H', Ex H H' → DD K (msk O H') v d → Q v H') → r x y H Q
def OP1 (K : PySem.W.Frag) (r : V → Hp → VK → Prop) (f : D → Option D) : Prop :=
  ∀ (O : List Addr) (H : Hp) (x : V) (dx d : D) (Q : VK), (∀ q ∈ O, H q ≠ none) → DB K O H x dx → f dx = some d → (∀ v H', Ex H H' → DD K (msk O H') v d → Q v H') → r x H Q
inductive DBs (K : PySem.W.Frag) (O : List Addr) (H : Hp) : List V → List D → Prop
  | nil : DBs K O H [] []
  | cons {v : V} {vs : List V} {d : D} {ds : List D} : DB K O H v d → DBs K O H vs ds → DBs K O H (v :: vs) (d :: ds)
def OPn (K : PySem.W.Frag) (r : List V → Hp → VK → Prop) (f : List D → Option D) : Prop :=
  ∀ (O : List Addr) (H : Hp) (xs : List V) (ds : List D) (d : D) (Q : VK), (∀ q ∈ O, H q ≠ none) → DBs K O H xs ds → f ds = some d → (∀ v H', Ex H H' → DD K (msk O H') v d → Q v H') → r xs H Q
/-- answers that are new lists of one's own: xs stands at a fresh address -/
def OFn (K : PySem.W.Frag) (r : List V → Hp → VK → Prop) (f : List D → Option (List D)) : Prop :=
  ∀ (O : List Addr) (H : Hp) (xs : List V) (ds : List D) (d : List D) (Q : VK), (∀ q ∈ O, H q ≠ none) → DBs K O H xs ds → f ds = some d →
    (∀ p vs H', H p = none → Ex H H' → H' p = some (.lst vs) → DDs K (msk (p :: O) H') vs d → Q (.ref p) H') → r xs H Q

theorem DB.ext {K : PySem.W.Frag} {O : List Addr} {H H' : Hp} {v : V} {d : D} (x : Ex H H') (h : DB K O H v d) : DB K O H' v d := by
  cases h with
  | dd h => exact .dd (h.mono (msk_mono x))
  | ow a b c => exact .ow a (x _ _ b) (c.mono (msk_mono x))

section
variable {K : PySem.W.Frag} {E : XS} {γ : Gh} {O : List Addr} {H H' : Hp} {σ : L2.St} {e e' : Env}
theorem Good.ok {α β : Type} {T : Hp → β → α → Prop} {Q : β → Hp → Prop} {a : α} {b : β} (g : Good K γ O H σ E T Q (.ok a e)) (r : Rel K γ O H' σ e) (f : Fr O H H') (t : T H' b a) : Q b H' := g b H' r f t

/-- kept data may be borrowed -/
theorem EX.v {te : TE} {m : M D} (h : EX K E te m) : EV K E te (m >>= fun d => M.ret (.val d)) := fun γ O H σ e Q r g =>
  J.bind (T' := TDv K) h r g fun a e' v H' r1 f1 t g1 => g1 v H' r1 (Fr.refl _ _) t
theorem DvRs.fr {K : PySem.W.Frag} {O : List Addr} {H H' : Hp} {σ : L2.St} (x : Fr O H H') : ∀ {vs : List V} {ds : List Dv}, DvRs K O H σ vs ds → DvRs K O H' σ vs ds
  | _, _, .nil => .nil
  | _, _, .cons a b => .cons (a.fr x) (DvRs.fr x b)

def mVar (i : Nat) : M D := fun e => match e[i]? with
  | some (some (.d x)) => .ok x e
  | _ => .bad
def mOwn (i : Nat) : M Dv := fun e => match e[i]? with
  | some (some _) => .ok (.slot i) e
  | _ => .bad
theorem ex_var {i : Nat} : EX K E (tVar i) (mVar i) := fun γ O H σ e Q r g => by
  unfold mVar at g
  try dsimp only at g
  split at g
  · rename_i x hx
    obtain ⟨v, h1, h2⟩ := r.sl _ _ hx
    exact ⟨v, h1, g v H r (Fr.refl _ _) h2⟩
  · exact g.elim
theorem ev_own {i : Nat} : EV K E (tVar i) (mOwn i) := fun γ O H σ e Q r g => by
  unfold mOwn at g
  try dsimp only at g
  split at g
  · rename_i x hx
    obtain ⟨v, h1, h2⟩ := r.sl _ _ hx
    exact ⟨v, h1, g v H r (Fr.refl _ _) h1⟩
  · exact g.elim
theorem ex_c {v : V} {d : D} (h : ∀ H, DD K H v d) : EX K E (tC v) (M.ret d) := fun γ O H σ e Q r g => g v H r (Fr.refl _ _) (h _)
theorem ex_int {i : Int} : EX K E (tC (.int i)) (M.ret (.int i)) := ex_c fun _ => .int i
theorem ex_str {i : Str} : EX K E (tC (.str i)) (M.ret (.str i)) := ex_c fun _ => .str i
theorem ex_bl {i : Bool} : EX K E (tC (.bl i)) (M.ret (.bl i)) := ex_c fun _ => .bl i
theorem ex_non : EX K E (tC .non) (M.ret .non) := ex_c fun _ => .non

def mRd1 (m : M Dv) (f : D → Option D) : M D := m >>= fun a => rd a >>= fun x => M.lift (f x)
def mBin (f : D → D → Option D) (a b : M D) : M D := a >>= fun x => b >>= fun y => M.lift (f x y)
def mBinV (f : D → D → Option D) (a b : M Dv) : M D := a >>= fun x => b >>= fun y => rd x >>= fun dx => rd y >>= fun dy => M.lift (f dx dy)
theorem bind_eq {α β : Type} (m : M α) (f : α → M β) (e : Env) : (m >>= f) e = match m e with
  | .ok a e' => f a e'
  | .ex x e' => .ex x e'
  | .bad => .bad := rfl
theorem lift_some {α : Type} {o : Option α} {e : Env} {α' : Type} (h : M.lift o e ≠ .bad) : ∃ a, o = some a := by
  cases o with
  | none => exact absurd rfl h
  | some a => exact ⟨a, rfl⟩
theorem ex_op {r : R2} {f : D → D → Option D} {ta tb : TE} {a b : M D} (ho : OP2 K r f) (ha : EX K E ta a) (hb : EX K E tb b) : EX K E (tOp r ta tb) (mBin f a b) := fun γ O H σ e Q r0 g =>
  J.bind (T' := TD K) ha r0 g fun dx e1 x H1 r1 f1 t1 g1 => J.bind (T' := TD K) hb r1 g1 fun dy e2 y H2 r2 f2 t2 g2 => by
    unfold M.lift at g2
    try dsimp only at g2
    split at g2
    · rename_i d hd
      exact ho O H2 x y dx dy d Q r2.live (.dd (t1.mono f2)) (.dd t2) hd fun v H' xx dd => g2 v H' (r2.ext xx) (Fr.ext xx) dd
    · exact g2.elim
theorem ex_opV {r : R2} {f : D → D → Option D} {ta tb : TE} {a b : M Dv} (ho : OP2 K r f) (ha : EV K E ta a) (hb : EV K E tb b) : EX K E (tOp r ta tb) (mBinV f a b) := fun γ O H σ e Q r0 g =>
  J.bind (T' := TD K) ha r0 g fun dx e1 x H1 r1 f1 t1 g1 => J.bind (T' := TD K) hb r1 g1 fun dy e2 y H2 r2 f2 t2 g2 => by
    rw [bind_eq] at g2
    cases q1 : rd dx e2 with
    | bad => rw [q1] at g2; exact g2.elim
    | ex xx ee => 
      exfalso
      cases dx with
      | val d => cases q1
      | slot i => unfold rd at q1; dsimp only at q1; split at q1 <;> cases q1
    | ok d1 e3 =>
      rw [q1] at g2
      obtain ⟨rfl, b1⟩ := rd_ok r2 (t1.fr f2) q1
      try dsimp only at g2
      rw [bind_eq] at g2
      cases q2 : rd dy e3 with
      | bad => rw [q2] at g2; exact g2.elim
      | ex xx ee => 
        exfalso
        cases dy with
        | val d => cases q2
        | slot i => unfold rd at q2; dsimp only at q2; split at q2 <;> cases q2
      | ok d2 e4 =>
        rw [q2] at g2
        obtain ⟨rfl, b2⟩ := rd_ok r2 t2 q2
        try dsimp only at g2
        unfold M.lift at g2
        try dsimp only at g2
        split at g2
        · rename_i d hd
          exact ho O H2 x y d1 d2 d Q r2.live b1 b2 hd fun v H' xx dd => g2 v H' (r2.ext xx) (Fr.ext xx) dd
        · exact g2.elim
theorem ex_un {r : V → Hp → VK → Prop} {f : D → Option D} {ta : TE} {a : M D} (ho : OP1 K r f) (ha : EX K E ta a) : EX K E (tUn r ta) (a >>= fun x => M.lift (f x)) := fun γ O H σ e Q r0 g =>
  J.bind (T' := TD K) ha r0 g fun dx e1 x H1 r1 f1 t1 g1 => by
    unfold M.lift at g1
    try dsimp only at g1
    split at g1
    · rename_i d hd
      exact ho O H1 x dx d Q r1.live (.dd t1) hd fun v H' xx dd => g1 v H' (r1.ext xx) (Fr.ext xx) dd
    · exact g1.elim
def mNil : M (List D) := M.ret []
def mCons (a : M D) (b : M (List D)) : M (List D) := a >>= fun x => b >>= fun xs => M.ret (x :: xs)
theorem ea_nil : EA K E tNil mNil := fun γ O H σ e Q r g => g [] H r (Fr.refl _ _) .nil
theorem ea_cons {ta : TE} {tr : TA} {a : M D} {b : M (List D)} (ha : EX K E ta a) (hb : EA K E tr b) : EA K E (tCons ta tr) (mCons a b) := fun γ O H σ e Q r0 g =>
  J.bind (T' := TDs K) ha r0 g fun dx e1 x H1 r1 f1 t1 g1 => J.bind (T' := TDs K) hb r1 g1 fun dy e2 y H2 r2 f2 t2 g2 =>
    g2 (x :: y) H2 r2 (Fr.refl _ _) (.cons (t1.mono f2) t2)
def wNil : M (List Dv) := M.ret []
def wCons (a : M Dv) (b : M (List Dv)) : M (List Dv) := a >>= fun x => b >>= fun xs => M.ret (x :: xs)
theorem ew_nil : EW K E tNil wNil := fun γ O H σ e Q r g => g [] H r (Fr.refl _ _) .nil
theorem ew_cons {ta : TE} {tr : TA} {a : M Dv} {b : M (List Dv)} (ha : EV K E ta a) (hb : EW K E tr b) : EW K E (tCons ta tr) (wCons a b) := fun γ O H σ e Q r0 g =>
  J.bind (T' := fun O H σ v d => DvRs K O H σ v d) ha r0 g fun dx e1 x H1 r1 f1 t1 g1 => J.bind (T' := fun O H σ v d => DvRs K O H σ v d) hb r1 g1 fun dy e2 y H2 r2 f2 t2 g2 =>
    g2 (x :: y) H2 r2 (Fr.refl _ _) (.cons (t1.fr f2) t2)
def rds : List Dv → M (List D)
  | [] => M.ret []
  | a :: r => rd a >>= fun x => rds r >>= fun xs => M.ret (x :: xs)
theorem rd_noex {dv : Dv} {e e' : Env} {x : D} : rd dv e ≠ .ex x e' := fun q => by
  cases dv with
  | val d => cases q
  | slot i => unfold rd at q; try dsimp only at q; split at q <;> cases q
theorem rds_noex : ∀ {dvs : List Dv} {e e' : Env} {x : D}, rds dvs e ≠ .ex x e'
  | [], _, _, _, q => by cases q
  | a :: r, e, e', x, q => by
    unfold rds at q
    rw [bind_eq] at q
    cases q1 : rd a e with
    | bad => rw [q1] at q; cases q
    | ex _ _ => exact rd_noex q1
    | ok d e1 =>
      rw [q1] at q
      try dsimp only at q
      rw [bind_eq] at q
      cases q2 : rds r e1 with
      | bad => rw [q2] at q; cases q
      | ex _ _ => exact rds_noex q2
      | ok d e1 => rw [q2] at q; cases q
theorem rds_ok (r : Rel K γ O H σ e) : ∀ {vs : List V} {dvs : List Dv} {ds : List D} {e1 : Env}, DvRs K O H σ vs dvs → rds dvs e = .ok ds e1 → e1 = e ∧ DBs K O H vs ds := by
  intro vs dvs ds e1 h q
  induction h generalizing ds e1 with
  | nil => cases q; exact ⟨rfl, .nil⟩
  | @cons v vs dv dvs a b ih =>
    unfold rds at q
    rw [bind_eq] at q
    cases q1 : rd dv e with
    | bad => rw [q1] at q; cases q
    | ex _ _ => exact absurd q1 rd_noex
    | ok d e2 =>
      rw [q1] at q
      obtain ⟨z, h1⟩ := rd_ok r a q1
      rw [z] at q
      try dsimp only at q
      rw [bind_eq] at q
      cases q2 : rds dvs e with
      | bad => rw [q2] at q; cases q
      | ex _ _ => exact absurd q2 rds_noex
      | ok ds e3 =>
        rw [q2] at q
        obtain ⟨z2, h2⟩ := ih q2
        cases q
        exact ⟨z2, .cons h1 h2⟩
theorem DBs.of : ∀ {vs : List V} {ds : List D}, DDs K (msk O H) vs ds → DBs K O H vs ds
  | _, _, .nil => .nil
  | _, _, .cons a b => .cons (.dd a) (DBs.of b)
def mCB (f : List D → Option D) (a : M (List D)) : M D := a >>= fun xs => M.lift (f xs)
def mCW (f : List D → Option D) (a : M (List Dv)) : M D := a >>= fun vs => rds vs >>= fun xs => M.lift (f xs)
theorem ex_cb {r : List V → Hp → VK → Prop} {f : List D → Option D} {ta : TA} {a : M (List D)} (ho : OPn K r f) (ha : EA K E ta a) : EX K E (tCB r ta) (mCB f a) := fun γ O H σ e Q r0 g =>
  J.bind (T' := TD K) ha r0 g fun ds e1 xs H1 r1 f1 t1 g1 => by
    unfold M.lift at g1
    try dsimp only at g1
    split at g1
    · rename_i d hd
      exact ho O H1 xs ds d Q r1.live (.of t1) hd fun v H' xx dd => g1 v H' (r1.ext xx) (Fr.ext xx) dd
    · exact g1.elim
theorem ex_cw {r : List V → Hp → VK → Prop} {f : List D → Option D} {ta : TA} {a : M (List Dv)} (ho : OPn K r f) (ha : EW K E ta a) : EX K E (tCB r ta) (mCW f a) := fun γ O H σ e Q r0 g =>
  J.bind (T' := TD K) ha r0 g fun ds e1 xs H1 r1 f1 t1 g1 => by
    rw [bind_eq] at g1
    cases q1 : rds ds e1 with
    | bad => rw [q1] at g1; exact g1.elim
    | ex _ _ => exact absurd q1 rds_noex
    | ok d1 e3 =>
      rw [q1] at g1
      obtain ⟨rfl, b1⟩ := rds_ok r1 t1 q1
      unfold M.lift at g1
      try dsimp only at g1
      split at g1
      · rename_i d hd
        exact ho O H1 xs d1 d Q r1.live b1 hd fun v H' xx dd => g1 v H' (r1.ext xx) (Fr.ext xx) dd
      · exact g1.elim
def mLine (n : Nat) : Bool := decide (n ≤ 100000)
theorem mLine_ok {n : Nat} (h : mLine n = true) : n ≤ sizeLine := Evl.sz_of (of_decide_eq_true h)
theorem DD.new_tup {vs : List V} {ds : List D} {p : Addr} (h : H p = none) (hO : p ∉ O) (t : DDs K (msk O H) vs ds) : DD K (msk O (upd H p (.tup vs))) (.ref p) (.tup ds) :=
  .tup (.inl (.inl (by rw [msk_out hO]; exact upd_same))) (t.mono (msk_mono (Evl.Ex.new h)))
theorem DD.new_lst {vs : List V} {ds : List D} {p : Addr} (h : H p = none) (hO : p ∉ O) (t : DDs K (msk O H) vs ds) : DD K (msk O (upd H p (.lst vs))) (.ref p) (.lst ds) :=
  .lst (by rw [msk_out hO]; exact upd_same) (t.mono (msk_mono (Evl.Ex.new h)))
def mTup (a : M (List D)) : M D := a >>= fun xs => M.lift (if mLine xs.length = true then some (.tup xs) else none)
def mLst (a : M (List D)) : M D := a >>= fun xs => M.lift (if mLine xs.length = true then some (.lst xs) else none)
theorem ex_tup {ta : TA} {a : M (List D)} (ha : EA K E ta a) : EX K E (tTup ta) (mTup a) := fun γ O H σ e Q r0 g =>
  J.bind (T' := TD K) ha r0 g fun ds e1 xs H1 r1 f1 t1 g1 => by
    by_cases hl : mLine ds.length = true
    · rw [if_pos hl] at g1
      refine ⟨by rw [t1.length]; exact mLine_ok hl, fun p hp => ?_⟩
      exact g1 (.ref p) _ (r1.ext (Evl.Ex.new hp)) (Fr.ext (Evl.Ex.new hp)) (DD.new_tup hp (r1.out hp) t1)
    · rw [if_neg hl] at g1
      exact g1.elim
theorem ex_lst {ta : TA} {a : M (List D)} (ha : EA K E ta a) : EX K E (tLst ta) (mLst a) := fun γ O H σ e Q r0 g =>
  J.bind (T' := TD K) ha r0 g fun ds e1 xs H1 r1 f1 t1 g1 => by
    by_cases hl : mLine ds.length = true
    · rw [if_pos hl] at g1
      refine ⟨by rw [t1.length]; exact mLine_ok hl, fun p hp => ?_⟩
      exact g1 (.ref p) _ (r1.ext (Evl.Ex.new hp)) (Fr.ext (Evl.Ex.new hp)) (DD.new_lst hp (r1.out hp) t1)
    · rw [if_neg hl] at g1
      exact g1.elim
def mB (m : M D) : M Bool := m >>= fun d => match d with
  | .bl b => M.ret b
  | _ => fun _ => .bad
theorem et_B {te : TE} {m : M D} (h : EX K E te m) : ET K E (tB te) (mB m) := fun γ O H σ e Q r0 g =>
  J.bind (T' := TB) h r0 g fun d e1 v H1 r1 f1 t1 g1 => by
    cases d with
    | bl b => cases t1; exact ⟨b, rfl, g1 b H1 r1 (Fr.refl _ _) rfl⟩
    | _ => exact g1.elim
theorem et_test {te : TE} {m : M D} (h : EX K E te m) : ET K E (tTest te) (mB m) := et_B h
def mNot (m : M Bool) : M Bool := m >>= fun b => M.ret (!b)
def mAnd (m n : M Bool) : M Bool := m >>= fun b => if b = true then n else M.ret false
def mOr (m n : M Bool) : M Bool := m >>= fun b => if b = true then M.ret true else n
def mIf {α : Type} (c : M Bool) (m n : M α) : M α := c >>= fun b => if b = true then m else n
theorem et_not {t : TT} {m : M Bool} (h : ET K E t m) : ET K E (tNot t) (mNot m) := fun γ O H σ e Q r0 g =>
  J.bind (T' := TB) h r0 g fun d e1 v H1 r1 f1 t1 g1 => by
    cases t1
    exact g1 _ H1 r1 (Fr.refl _ _) rfl
theorem et_and {t u : TT} {m n : M Bool} (h : ET K E t m) (h2 : ET K E u n) : ET K E (tAnd t u) (mAnd m n) := fun γ O H σ e Q r0 g =>
  J.bind (T' := TB) h r0 g fun d e1 v H1 r1 f1 t1 g1 => by
    cases t1
    try dsimp only at g1 ⊢
    cases d with
    | true => exact h2 γ O H1 σ e1 Q r1 g1
    | false => exact g1 _ H1 r1 (Fr.refl _ _) rfl
theorem et_or {t u : TT} {m n : M Bool} (h : ET K E t m) (h2 : ET K E u n) : ET K E (tOr t u) (mOr m n) := fun γ O H σ e Q r0 g =>
  J.bind (T' := TB) h r0 g fun d e1 v H1 r1 f1 t1 g1 => by
    cases t1
    try dsimp only at g1 ⊢
    cases d with
    | false => exact h2 γ O H1 σ e1 Q r1 g1
    | true => exact g1 _ H1 r1 (Fr.refl _ _) rfl
theorem j_if {α β : Type} {T : List Addr → Hp → L2.St → β → α → Prop} {t : TT} {ta tb : L2.St → Hp → (β → Hp → Prop) → Prop} {c : M Bool} {m n : M α} (h : ET K E t c) (h1 : J K E T ta m) (h2 : J K E T tb n) :
    J K E T (fun σ H Q => t σ H fun c H1 => if c = true then ta σ H1 Q else tb σ H1 Q) (mIf c m n) := fun γ O H σ e Q r0 g =>
  J.bind (T' := T) h r0 g fun d e1 v H1 r1 f1 t1 g1 => by
    cases t1
    try dsimp only at g1 ⊢
    cases d with
    | true => exact h1 γ O H1 σ e1 Q r1 g1
    | false => exact h2 γ O H1 σ e1 Q r1 g1
theorem ex_if {t : TT} {ta tb : TE} {c : M Bool} {m n : M D} (h : ET K E t c) (h1 : EX K E ta m) (h2 : EX K E tb n) : EX K E (tIf t ta tb) (mIf c m n) := j_if h h1 h2
def mBl (m : M Bool) : M D := m >>= fun b => M.ret (.bl b)
/-- a and b, a or b, not a as values, all True or False -/
def mAndV (m n : M D) : M D := mB m >>= fun b => if b = true then n else M.ret (.bl false)
def mOrV (m n : M D) : M D := mB m >>= fun b => if b = true then M.ret (.bl true) else n
def mNotV (m : M D) : M D := mB m >>= fun b => M.ret (.bl (!b))
theorem ex_andV {ta tb : TE} {m n : M D} (h : EX K E ta m) (h2 : EX K E tb n) : EX K E (tAndV ta tb) (mAndV m n) := fun γ O H σ e Q r0 g =>
  J.bind (T' := TD K) (et_B h) r0 g fun d e1 v H1 r1 f1 t1 g1 => by
    cases t1
    try dsimp only at g1 ⊢
    cases d with
    | true => exact h2 γ O H1 σ e1 Q r1 g1
    | false => exact g1 _ H1 r1 (Fr.refl _ _) (.bl _)
theorem ex_orV {ta tb : TE} {m n : M D} (h : EX K E ta m) (h2 : EX K E tb n) : EX K E (tOrV ta tb) (mOrV m n) := fun γ O H σ e Q r0 g =>
  J.bind (T' := TD K) (et_B h) r0 g fun d e1 v H1 r1 f1 t1 g1 => by
    cases t1
    try dsimp only at g1 ⊢
    cases d with
    | false => exact h2 γ O H1 σ e1 Q r1 g1
    | true => exact g1 _ H1 r1 (Fr.refl _ _) (.bl _)
theorem ex_notV {ta : TE} {m : M D} (h : EX K E ta m) : EX K E (tNotV ta) (mNotV m) := fun γ O H σ e Q r0 g =>
  J.bind (T' := TD K) (et_B h) r0 g fun d e1 v H1 r1 f1 t1 g1 => by
    cases t1
    exact g1 _ H1 r1 (Fr.refl _ _) (.bl _)
end
end Mir

set_option Elab.async false
set_option linter.all false
set_option maxRecDepth 100000
set_option maxHeartbeats 4000000
namespace Mir
open PySem L2

def rOr (r r' : R2) : R2 := fun x y H Q => r x y H Q ∨ r' x y H Q
def rOrC (r r' : List V → Hp → VK → Prop) : List V → Hp → VK → Prop := fun x H Q => r x H Q ∨ r' x H Q
section
variable {X : Cx}
theorem OpR.or {f : Value → Value → Sem Value} {r r' : R2} (h : OpR X f r) (h' : OpR X f r') : OpR X f (rOr r r') := by
  intro pins s σ H x y v u Q I rx ry q
  rcases q with q | q
  · exact h pins s σ H x y v u Q I rx ry q
  · exact h' pins s σ H x y v u Q I rx ry q
theorem CallR.or {f : Value} {r r' : List V → Hp → VK → Prop} (h : CallR X f r) (h' : CallR X f r') : CallR X f (rOrC r r') := by
  intro pins s σ H xs us Q I rx q
  rcases q with q | q
  · exact h pins s σ H xs us Q I rx q
  · exact h' pins s σ H xs us Q I rx q
end
abbrev rStrAdd : R2 := fun x y H Q => ∃ i j, x = .str i ∧ y = .str j ∧ i.length + j.length ≤ sizeLine ∧ Q (.str (i ++ j)) H
abbrev rIntAdd : R2 := rI0 fun i j => .int (i + j)
abbrev rAddA (K : PySem.W.Frag) : R2 := rOr rIntAdd (rOr rStrAdd (rOr rCat (rCatA K)))
theorem opAddA {X : Cx} : OpR X (binaryOp .Add) (rAddA X.K) := op_add.or (op_add_str.or (op_cat.or op_catA))
abbrev rSubA : R2 := rI0 fun i j => .int (i - j)
theorem opSubA {X : Cx} : OpR X (binaryOp .Sub) rSubA := op_sub
abbrev rMulA : R2 := rOr (rI CMul fun i j => .int (i * j)) rRep
theorem opMulA {X : Cx} : OpR X (binaryOp .Mult) rMulA := op_mul.or op_rep
abbrev rModA : R2 := rI (fun _ j => j ≠ 0) fun i j => .int (i.fmod j)
abbrev rDivA : R2 := rI CDivN fun i j => .int (i.fdiv j)
abbrev rPowA : R2 := rI CPow fun i j => .int (i ^ j.toNat)
abbrev rLtI : R2 := rI0 fun i j => .bl (decide (i < j))

def dAdd : D → D → Option D
  | .int i, .int j => some (.int (i + j))
  | .str s, .str t => if mLine (s.length + t.length) = true then some (.str (s ++ t)) else none
  | .lst xs, .lst ys => if mLine (xs.length + ys.length) = true then some (.lst (xs ++ ys)) else none
  | .tup xs, .tup ys => if mLine (xs.length + ys.length) = true then some (.tup (xs ++ ys)) else none
  | _, _ => none
def dSub : D → D → Option D
  | .int i, .int j => some (.int (i - j))
  | _, _ => none
def small64 (i : Int) : Bool := decide (-(2 ^ 64) < i) && decide (i < 2 ^ 64)
def repD (n : Nat) (xs : List D) : List D := (List.replicate n xs).flatten
def dMul : D → D → Option D
  | .int i, .int j => if (small64 i || small64 j) = true then some (.int (i * j)) else none
  | .lst xs, .int k => if (decide (-1000000 ≤ k) && decide (k ≤ 1000000) && mLine (xs.length * k.toNat)) = true then some (.lst (repD k.toNat xs)) else none
  | _, _ => none
def dMod : D → D → Option D
  | .int i, .int j => if j = 0 then none else some (.int (i.fmod j))
  | _, _ => none
def dDiv : D → D → Option D
  | .int i, .int j => if j = 0 ∨ ¬ j.natAbs < 1073741824 then none else some (.int (i.fdiv j))
  | _, _ => none
def dPow : D → D → Option D
  | .int i, .int j => if (decide (0 ≤ j) && decide (j ≤ 1000000) && decide (i.natAbs < 2 ^ 64)) = true then some (.int (i ^ j.toNat)) else none
  | _, _ => none

section
variable {K : PySem.W.Frag}
theorem live_out {O : List Addr} {H : Hp} (l : ∀ q ∈ O, H q ≠ none) {p : Addr} (h : H p = none) : p ∉ O := fun z => l p z h
theorem op_addD : OP2 K (rAddA K) dAdd := fun O H x y dx dy d Q l hx hy h k => by
  unfold dAdd at h
  split at h
  · cases h; cases hx.int; cases hy.int
    exact .inl ⟨_, _, rfl, rfl, k _ H (Evl.Ex.refl H) (.int _)⟩
  · split at h
    · rename_i s t hl; cases h; cases hx.str; cases hy.str
      exact .inr (.inl ⟨_, _, rfl, rfl, mLine_ok hl, k _ H (Evl.Ex.refl H) (.str _)⟩)
    · cases h
  · split at h
    · rename_i s t hl; cases h
      obtain ⟨a, vs, rfl, ha, ra⟩ := hx.lst
      obtain ⟨b, ws, rfl, hb, rb⟩ := hy.lst
      refine .inr (.inr (.inl ⟨a, b, vs, ws, rfl, rfl, ha, hb, by rw [ra.length, rb.length]; exact mLine_ok hl, fun p hp => ?_⟩))
      exact k _ _ (Evl.Ex.new hp) (DD.new_lst hp (live_out l hp) (ra.append rb))
    · cases h
  · split at h
    · rename_i s t hl; cases h
      obtain ⟨a, vs, rfl, ha, ra⟩ := hx.tup
      obtain ⟨b, ws, rfl, hb, rb⟩ := hy.tup
      have ra0 := ra
      refine .inr (.inr (.inr ⟨a, b, vs, ws, rfl, rfl, ha, hb, by rw [ra.length, rb.length]; exact mLine_ok hl, fun e => ?_, fun _ e => ?_, fun _ _ p hp => ?_⟩))
      · subst e; cases ra
        exact k _ H (Evl.Ex.refl H) (hy.any (by intro _ z; cases z))
      · subst e; cases rb
        rw [List.append_nil] at k
        exact k _ H (Evl.Ex.refl H) (hx.any (by intro _ z; cases z))
      · exact k _ _ (Evl.Ex.new hp) (DD.new_tup hp (live_out l hp) (ra.append rb))
    · cases h
  · cases h
theorem op_subD : OP2 K rSubA dSub := fun O H x y dx dy d Q l hx hy h k => by
  unfold dSub at h
  split at h
  · cases h; cases hx.int; cases hy.int
    exact ⟨_, _, rfl, rfl, k _ H (Evl.Ex.refl H) (.int _)⟩
  · cases h
theorem DDs.rep {H : Hp} {vs : List V} {ds : List D} (h : DDs K H vs ds) : ∀ n : Nat, DDs K H (List.replicate n vs).flatten (repD n ds)
  | 0 => .nil
  | n + 1 => by
    have := h.append (DDs.rep h n)
    unfold repD at this ⊢
    rw [List.replicate_succ, List.replicate_succ, List.flatten_cons, List.flatten_cons]
    exact this
theorem op_mulD : OP2 K rMulA dMul := fun O H x y dx dy d Q l hx hy h k => by
  unfold dMul at h
  split at h
  · split at h
    · rename_i i j hs; cases h; cases hx.int; cases hy.int
      refine .inl ⟨_, _, rfl, rfl, ?_, k _ H (Evl.Ex.refl H) (.int _)⟩
      unfold small64 at hs
      simp only [Bool.or_eq_true, Bool.and_eq_true, decide_eq_true_eq] at hs
      exact hs
    · cases h
  · split at h
    · rename_i i j hs; cases h; cases hy.int
      obtain ⟨a, vs, rfl, ha, ra⟩ := hx.lst
      simp only [Bool.and_eq_true, decide_eq_true_eq] at hs
      refine .inr ⟨a, _, vs, rfl, rfl, ha, by omega, by omega, by rw [ra.length]; exact mLine_ok hs.2, fun p hp => ?_⟩
      exact k _ _ (Evl.Ex.new hp) (DD.new_lst hp (live_out l hp) (ra.rep _))
    · cases h
  · cases h
theorem op_modD : OP2 K rModA dMod := fun O H x y dx dy d Q l hx hy h k => by
  unfold dMod at h
  split at h
  · split at h
    · cases h
    · rename_i i j hs; cases h; cases hx.int; cases hy.int
      exact ⟨_, _, rfl, rfl, hs, k _ H (Evl.Ex.refl H) (.int _)⟩
  · cases h
theorem op_divD : OP2 K rDivA dDiv := fun O H x y dx dy d Q l hx hy h k => by
  unfold dDiv at h
  split at h
  · split at h
    · cases h
    · rename_i i j hs; cases h; cases hx.int; cases hy.int
      exact ⟨_, _, rfl, rfl, ⟨fun z => hs (.inl z), Decidable.byContradiction fun z => hs (.inr z)⟩, k _ H (Evl.Ex.refl H) (.int _)⟩
  · cases h
theorem op_powD : OP2 K rPowA dPow := fun O H x y dx dy d Q l hx hy h k => by
  unfold dPow at h
  split at h
  · split at h
    · rename_i i j hs; cases h; cases hx.int; cases hy.int
      simp only [Bool.and_eq_true, decide_eq_true_eq] at hs
      exact ⟨_, _, rfl, rfl, ⟨hs.1.1, hs.1.2, hs.2⟩, k _ H (Evl.Ex.refl H) (.int _)⟩
    · cases h
  · cases h
end

mutual
def toPy : D → Option PyData
  | .non => some .none
  | .bl b => some (.bool b)
  | .int i => some (.int i)
  | .str s => some (.str s)
  | .lst xs => (toPys xs).map .list
  | .tup xs => (toPys xs).map .tuple
  | .dct _ => none
  | .ins _ _ => none
  | .fn _ => none
  | .fz _ => none
  | .xc _ _ => none
def toPys : List D → Option (List PyData)
  | [] => some []
  | x :: xs => match toPy x, toPys xs with
    | some a, some b => some (a :: b)
    | _, _ => none
end
section
variable {K : PySem.W.Frag} {H : Hp}
mutual
theorem DD.dp : ∀ {d : D} {v : V} {p : PyData}, DD K H v d → toPy d = some p → Dp K H v p
  | .non, _, _, h, e => by cases h; cases e; exact .non
  | .bl _, _, _, h, e => by cases h; cases e; exact .bl _
  | .int _, _, _, h, e => by cases h; cases e; exact .int _
  | .str _, _, _, h, e => by cases h; cases e; exact .str _
  | .lst xs, _, _, h, e => by
    cases h with
    | lst a b =>
      unfold toPy at e
      cases q : toPys xs with
      | none => rw [q] at e; cases e
      | some ps => rw [q] at e; cases e; exact .lst (SqL.of a) (DDs.dp b q)
  | .tup xs, _, _, h, e => by
    cases h with
    | tup a b =>
      unfold toPy at e
      cases q : toPys xs with
      | none => rw [q] at e; cases e
      | some ps => rw [q] at e; cases e; exact .tup a (DDs.dp b q)
  | .dct _, _, _, _, e => by cases e
  | .ins _ _, _, _, _, e => by cases e
  | .fn _, _, _, _, e => by cases e
  | .fz _, _, _, _, e => by cases e
  | .xc _ _, _, _, _, e => by cases e
theorem DDs.dp : ∀ {ds : List D} {vs : List V} {ps : List PyData}, DDs K H vs ds → toPys ds = some ps → DpAll K H vs ps
  | [], _, _, h, e => by cases h; cases e; exact .nil
  | x :: xs, _, _, h, e => by
    cases h with
    | cons a b =>
      unfold toPys at e
      cases q : toPy x with
      | none => rw [q] at e; cases e
      | some p =>
        cases q2 : toPys xs with
        | none => rw [q, q2] at e; cases e
        | some ps => rw [q, q2] at e; cases e; exact .cons (DD.dp a q) (DDs.dp b q2)
end
end
theorem DB.dp {K : PySem.W.Frag} {O : List Addr} {H : Hp} {v : V} {d : D} {p : PyData} (h : DB K O H v d) (e : toPy d = some p) : Dp K H v p := by
  cases h with
  | dd h => exact (DD.mono msk_ex h).dp e
  | ow a b c => subst a; exact (DD.lst b (DDs.mono msk_ex c)).dp e
def eqD (a b : D) : Option Bool := match toPy a, toPy b with
  | some x, some y => if (SeqAt.shaped x && SeqAt.shaped y) = true then some (PyData.eqv x y) else none
  | _, _ => none
def dEq (a b : D) : Option D := (eqD a b).map .bl
def dNe (a b : D) : Option D := (eqD a b).map fun r => .bl (!r)
def ltStr (s t : Str) : Bool := decide (s.cps.toList < t.cps.toList)
abbrev rLtA : R2 := rOr (rI0 fun i j => .bl (decide (i < j))) (fun x y H Q => ∃ i j, x = .str i ∧ y = .str j ∧ Q (.bl (decide (i.cps.toList < j.cps.toList))) H)
abbrev rLeA : R2 := rOr (rI0 fun i j => .bl (decide (i ≤ j))) (fun x y H Q => ∃ i j, x = .str i ∧ y = .str j ∧ Q (.bl (!decide (j.cps.toList < i.cps.toList))) H)
abbrev rGtA : R2 := rOr (rI0 fun i j => .bl (decide (j < i))) (fun x y H Q => ∃ i j, x = .str i ∧ y = .str j ∧ Q (.bl (decide (j.cps.toList < i.cps.toList))) H)
abbrev rGeA : R2 := rOr (rI0 fun i j => .bl (decide (j ≤ i))) (fun x y H Q => ∃ i j, x = .str i ∧ y = .str j ∧ Q (.bl (!decide (i.cps.toList < j.cps.toList))) H)
def dLt : D → D → Option D
  | .int i, .int j => some (.bl (decide (i < j)))
  | .str s, .str t => some (.bl (ltStr s t))
  | _, _ => none
def dLe : D → D → Option D
  | .int i, .int j => some (.bl (decide (i ≤ j)))
  | .str s, .str t => some (.bl (!ltStr t s))
  | _, _ => none
def dGt : D → D → Option D
  | .int i, .int j => some (.bl (decide (j < i)))
  | .str s, .str t => some (.bl (ltStr t s))
  | _, _ => none
def dGe : D → D → Option D
  | .int i, .int j => some (.bl (decide (j ≤ i)))
  | .str s, .str t => some (.bl (!ltStr s t))
  | _, _ => none
section
variable {K : PySem.W.Frag}
theorem op_eqD' : OP2 K (rEqD K) dEq := fun O H x y dx dy d Q l hx hy h k => by
  unfold dEq eqD at h
  cases q1 : toPy dx with
  | none => rw [q1] at h; cases h
  | some a =>
    cases q2 : toPy dy with
    | none => rw [q1, q2] at h; cases h
    | some b =>
      rw [q1, q2] at h
      dsimp only at h
      split at h
      · rename_i hs
        cases h
        rw [Bool.and_eq_true] at hs
        exact ⟨a, b, hx.dp q1, hy.dp q2, hs.1, hs.2, k _ H (Evl.Ex.refl H) (.bl _)⟩
      · cases h
theorem op_neD' : OP2 K (rNeD K) dNe := fun O H x y dx dy d Q l hx hy h k => by
  unfold dNe eqD at h
  cases q1 : toPy dx with
  | none => rw [q1] at h; cases h
  | some a =>
    cases q2 : toPy dy with
    | none => rw [q1, q2] at h; cases h
    | some b =>
      rw [q1, q2] at h
      dsimp only at h
      split at h
      · rename_i hs
        cases h
        rw [Bool.and_eq_true] at hs
        exact ⟨a, b, hx.dp q1, hy.dp q2, hs.1, hs.2, k _ H (Evl.Ex.refl H) (.bl _)⟩
      · cases h
theorem op_ltD : OP2 K rLtA dLt := fun O H x y dx dy d Q l hx hy h k => by
  unfold dLt at h
  split at h
  · cases h; cases hx.int; cases hy.int
    exact .inl ⟨_, _, rfl, rfl, k _ H (Evl.Ex.refl H) (.bl _)⟩
  · cases h; cases hx.str; cases hy.str
    exact .inr ⟨_, _, rfl, rfl, k _ H (Evl.Ex.refl H) (.bl _)⟩
  · cases h
theorem op_leD : OP2 K rLeA dLe := fun O H x y dx dy d Q l hx hy h k => by
  unfold dLe at h
  split at h
  · cases h; cases hx.int; cases hy.int
    exact .inl ⟨_, _, rfl, rfl, k _ H (Evl.Ex.refl H) (.bl _)⟩
  · cases h; cases hx.str; cases hy.str
    exact .inr ⟨_, _, rfl, rfl, k _ H (Evl.Ex.refl H) (.bl _)⟩
  · cases h
theorem op_gtD : OP2 K rGtA dGt := fun O H x y dx dy d Q l hx hy h k => by
  unfold dGt at h
  split at h
  · cases h; cases hx.int; cases hy.int
    exact .inl ⟨_, _, rfl, rfl, k _ H (Evl.Ex.refl H) (.bl _)⟩
  · cases h; cases hx.str; cases hy.str
    exact .inr ⟨_, _, rfl, rfl, k _ H (Evl.Ex.refl H) (.bl _)⟩
  · cases h
theorem op_geD : OP2 K rGeA dGe := fun O H x y dx dy d Q l hx hy h k => by
  unfold dGe at h
  split at h
  · cases h; cases hx.int; cases hy.int
    exact .inl ⟨_, _, rfl, rfl, k _ H (Evl.Ex.refl H) (.bl _)⟩
  · cases h; cases hx.str; cases hy.str
    exact .inr ⟨_, _, rfl, rfl, k _ H (Evl.Ex.refl H) (.bl _)⟩
  · cases h
end
section
variable {X : Cx}
theorem opLtA : OpR X (compareOp .Lt) rLtA := op_lt.or op_lt_str
theorem opLeA : OpR X (compareOp .LtE) rLeA := op_le.or op_le_str
theorem opGtA : OpR X (compareOp .Gt) rGtA := op_gt.or op_gt_str
theorem opGeA : OpR X (compareOp .GtE) rGeA := op_ge.or op_ge_str
end
section
variable {K : PySem.W.Frag} {E : XS}
def isNon : D → Bool
  | .non => true
  | _ => false
end

section
variable {K : PySem.W.Frag}
abbrev rLenA (K : PySem.W.Frag) : List V → Hp → VK → Prop := fun xs H Q => ∃ x n, xs = [x] ∧ LenV K x H n ∧ Q (.int n) H
def dLen : List D → Option D
  | [.str s] => if mLine s.length = true then some (.int s.length) else none
  | [.lst xs] => some (.int xs.length)
  | [.tup xs] => some (.int xs.length)
  | _ => none
theorem DBs.one {O : List Addr} {H : Hp} {xs : List V} {d : D} (h : DBs K O H xs [d]) : ∃ x, xs = [x] ∧ DB K O H x d := by
  cases h with
  | cons a b => cases b; exact ⟨_, rfl, a⟩
theorem DBs.two {O : List Addr} {H : Hp} {xs : List V} {d e : D} (h : DBs K O H xs [d, e]) : ∃ x y, xs = [x, y] ∧ DB K O H x d ∧ DB K O H y e := by
  cases h with
  | cons a b => obtain ⟨y, rfl, hy⟩ := b.one; exact ⟨_, _, rfl, a, hy⟩
theorem len_D : OPn K (rLenA K) dLen := fun O H xs ds d Q l hz h k => by
  unfold dLen at h
  split at h
  · split at h
    · rename_i s hl; cases h
      obtain ⟨x, rfl, hx⟩ := hz.one
      cases hx.str
      exact ⟨_, _, rfl, ⟨mLine_ok hl, rfl⟩, k _ H (Evl.Ex.refl H) (.int _)⟩
    · cases h
  · cases h
    obtain ⟨x, rfl, hx⟩ := hz.one
    obtain ⟨a, vs, rfl, ha, ra⟩ := hx.lst
    exact ⟨_, _, rfl, .inl ⟨vs, SqL.of ha, rfl⟩, by rw [ra.length]; exact k _ H (Evl.Ex.refl H) (.int _)⟩
  · cases h
    obtain ⟨x, rfl, hx⟩ := hz.one
    obtain ⟨a, vs, rfl, ha, ra⟩ := hx.tup
    exact ⟨_, _, rfl, .inr ⟨vs, ha, rfl⟩, by rw [ra.length]; exact k _ H (Evl.Ex.refl H) (.int _)⟩
  · cases h
abbrev rIntA : List V → Hp → VK → Prop := rOrC (fun xs H Q => (∃ i, xs = [.int i] ∧ Q (.int i) H) ∨ ∃ k, xs = [.bl k] ∧ Q (.int (if k then 1 else 0)) H)
  (fun xs H Q => ∃ a n, xs = [.str a] ∧ PySem.intText? a = some n ∧ a.length ≤ 640 ∧ Q (.int n) H)
def dInt : List D → Option D
  | [.int i] => some (.int i)
  | [.bl b] => some (.int (if b = true then 1 else 0))
  | [.str s] => if s.length ≤ 640 then (PySem.intText? s).map .int else none
  | _ => none
theorem int_D : OPn K rIntA dInt := fun O H xs ds d Q l hz h k => by
  unfold dInt at h
  split at h
  · cases h
    obtain ⟨x, rfl, hx⟩ := hz.one
    cases hx.int
    exact .inl (.inl ⟨_, rfl, k _ H (Evl.Ex.refl H) (.int _)⟩)
  · cases h
    obtain ⟨x, rfl, hx⟩ := hz.one
    cases hx.bl
    exact .inl (.inr ⟨_, rfl, k _ H (Evl.Ex.refl H) (.int _)⟩)
  · split at h
    · rename_i s hl
      obtain ⟨x, rfl, hx⟩ := hz.one
      cases hx.str
      cases q : PySem.intText? s with
      | none => rw [q] at h; cases h
      | some n => rw [q] at h; cases h; exact .inr ⟨_, _, rfl, q, hl, k _ H (Evl.Ex.refl H) (.int _)⟩
    · cases h
  · cases h
theorem callIntA {X : Cx} : CallR X (.type "int") rIntA := call_int1.or call_int_str
abbrev rAbsA : List V → Hp → VK → Prop := fun xs H Q => ∃ i, xs = [.int i] ∧ Q (.int (if i < 0 then -i else i)) H
def dAbs : List D → Option D
  | [.int i] => some (.int (if i < 0 then -i else i))
  | _ => none
theorem abs_D : OPn K rAbsA dAbs := fun O H xs ds d Q l hz h k => by
  unfold dAbs at h
  split at h
  · cases h
    obtain ⟨x, rfl, hx⟩ := hz.one
    cases hx.int
    exact ⟨_, rfl, k _ H (Evl.Ex.refl H) (.int _)⟩
  · cases h
abbrev rMin2A : List V → Hp → VK → Prop := fun xs H Q => ∃ i j, xs = [.int i, .int j] ∧ Q (.int (if j < i then j else i)) H
def dMin2 : List D → Option D
  | [.int i, .int j] => some (.int (if j < i then j else i))
  | _ => none
theorem min2_D : OPn K rMin2A dMin2 := fun O H xs ds d Q l hz h k => by
  unfold dMin2 at h
  split at h
  · cases h
    obtain ⟨x, y, rfl, hx, hy⟩ := hz.two
    cases hx.int; cases hy.int
    exact ⟨_, _, rfl, k _ H (Evl.Ex.refl H) (.int _)⟩
  · cases h
abbrev rListA (K : PySem.W.Frag) : List V → Hp → VK → Prop := fun xs H Q => ∃ p ys, xs = [.ref p] ∧ (SqL K H p ys ∨ SqT K H p ys) ∧ ∀ l, H l = none → Q (.ref l) (upd H l (.lst ys))
def dList : List D → Option (List D)
  | [.lst xs] => some xs
  | [.tup xs] => some xs
  | _ => none
theorem list_F : OFn K (rListA K) dList := fun O H xs ds d Q l hz h k => by
  have fin : ∀ (p : Addr) (vs : List V), DDs K (msk O H) vs d → ∀ q, H q = none → Q (.ref q) (upd H q (.lst vs)) := fun p vs r q hq => by
    refine k q vs _ hq (Evl.Ex.new hq) upd_same ?_
    rw [msk_upd List.mem_cons_self]
    refine r.mono fun a o e => ?_
    have ha : a ≠ q := fun z => by
      have := msk_ex a o e
      rw [z, hq] at this
      cases this
    have hO : a ∉ O := fun z => by rw [msk_in z] at e; cases e
    rw [msk_out (by simp only [List.mem_cons, not_or]; exact ⟨ha, hO⟩)]
    rwa [msk_out hO] at e
  unfold dList at h
  split at h
  · cases h
    obtain ⟨x, rfl, hx⟩ := hz.one
    obtain ⟨a, vs, rfl, ha, ra⟩ := hx.lst
    exact ⟨a, vs, rfl, .inl (SqL.of ha), fin a vs ra⟩
  · cases h
    obtain ⟨x, rfl, hx⟩ := hz.one
    obtain ⟨a, vs, rfl, ha, ra⟩ := hx.tup
    exact ⟨a, vs, rfl, .inr ha, fin a vs ra⟩
  · cases h
/-- an answer of one's own may be kept as data -/
theorem OFn.dd {r : List V → Hp → VK → Prop} {f : List D → Option (List D)} (h : OFn K r f) : OPn K r (fun ds => (f ds).map .lst) := fun O H xs ds d Q l hx hf k => by
  replace hf : (f ds).map D.lst = some d := hf
  cases q : f ds with
  | none => rw [q] at hf; cases hf
  | some es =>
    rw [q] at hf
    cases hf
    refine h O H xs ds es Q l hx q fun p vs H' hp e h1 h2 => k _ H' e (.lst ?_ (h2.mono (msk_sub fun q hq => List.mem_cons_of_mem _ hq)))
    rw [msk_out (live_out l hp)]
    exact h1
abbrev rTupleA (K : PySem.W.Frag) : List V → Hp → VK → Prop := fun xs H Q => ∃ p ys, xs = [.ref p] ∧ ((SqL K H p ys ∧ ∀ l, H l = none → Q (.ref l) (upd H l (.tup ys))) ∨ (SqT K H p ys ∧ Q (.ref p) H))
def dTuple : List D → Option D
  | [.lst xs] => some (.tup xs)
  | [.tup xs] => some (.tup xs)
  | _ => none
theorem tuple_D : OPn K (rTupleA K) dTuple := fun O H xs ds d Q l hz h k => by
  unfold dTuple at h
  split at h
  · cases h
    obtain ⟨x, rfl, hx⟩ := hz.one
    obtain ⟨a, vs, rfl, ha, ra⟩ := hx.lst
    exact ⟨a, vs, rfl, .inl ⟨SqL.of ha, fun p hp => k _ _ (Evl.Ex.new hp) (DD.new_tup hp (live_out l hp) ra)⟩⟩
  · cases h
    obtain ⟨x, rfl, hx⟩ := hz.one
    have h2 := hx.any (by intro _ z; cases z)
    obtain ⟨a, vs, rfl, ha, ra⟩ := hx.tup
    exact ⟨a, vs, rfl, .inr ⟨ha, k _ H (Evl.Ex.refl H) h2⟩⟩
  · cases h
end
end Mir

set_option Elab.async false
set_option linter.all false
set_option maxRecDepth 100000
set_option maxHeartbeats 4000000
namespace Mir
open PySem L2

section
variable {K : PySem.W.Frag} {γ : Gh} {O : List Addr} {H H' : Hp} {σ : L2.St} {e : Env} {i : Nat} {v : V} {d : D}
def noIo (e : Env) (i : Nat) : Bool := match e[i]? with
  | some (some (.io _)) => false
  | some _ => true
  | none => false
theorem noIo_lt (h : noIo e i = true) : i < e.length := by
  unfold noIo at h
  split at h
  · cases h
  · rename_i hx; exact (List.getElem?_eq_some_iff.mp hx).1
  · cases h
theorem Rel.setD (r : Rel K γ O H σ e) (hi : i < e.length) (t : DD K (msk O H) v d) : Rel K γ O H (σ.set i (some v)) (e.set i (some (.d d))) where
  bo := r.bo
  live := r.live
  gs := r.gs
  len := by rw [List.length_set, List.length_set]; exact r.len
  sl := fun j s h => by
    by_cases hj : i = j
    · subst hj
      rw [List.getElem?_set_self hi] at h
      cases h
      exact ⟨v, List.getElem?_set_self (by rw [r.len]; exact hi), t⟩
    · rw [List.getElem?_set_ne hj] at h
      obtain ⟨w, h1, h2⟩ := r.sl j s h
      exact ⟨w, by rw [List.getElem?_set_ne hj]; exact h1, h2⟩
  dj := fun a b xs ys w ha hb va vb => by
    by_cases h1 : i = a
    · subst h1; rw [List.getElem?_set_self hi] at ha; cases ha
    · by_cases h2 : i = b
      · subst h2; rw [List.getElem?_set_self hi] at hb; cases hb
      · rw [List.getElem?_set_ne h1] at ha va
        rw [List.getElem?_set_ne h2] at hb vb
        exact r.dj a b xs ys w ha hb va vb
  ij := fun a b xs ys ha hb => by
    by_cases h1 : i = a
    · subst h1; rw [List.getElem?_set_self hi] at ha; cases ha
    · by_cases h2 : i = b
      · subst h2; rw [List.getElem?_set_self hi] at hb; cases hb
      · rw [List.getElem?_set_ne h1] at ha
        rw [List.getElem?_set_ne h2] at hb
        exact r.ij a b xs ys ha hb
/-- a slot forgotten -/
theorem Rel.drop (r : Rel K γ O H σ e) (x : Option V) : Rel K γ O H (σ.set i x) (e.set i none) where
  bo := r.bo
  live := r.live
  gs := r.gs
  len := by rw [List.length_set, List.length_set]; exact r.len
  sl := fun j s h => by
    by_cases hj : i = j
    · subst hj
      by_cases hi : i < e.length
      · rw [List.getElem?_set_self hi] at h; cases h
      · rw [List.getElem?_eq_none (by rw [List.length_set]; omega)] at h; cases h
    · rw [List.getElem?_set_ne hj] at h
      obtain ⟨w, h1, h2⟩ := r.sl j s h
      exact ⟨w, by rw [List.getElem?_set_ne hj]; exact h1, h2⟩
  dj := fun a b xs ys w ha hb va vb => by
    have no : ∀ (zs : List D), (e.set i none)[i]? ≠ some (some (Sl.ol zs)) := fun zs z => by
      by_cases hi : i < e.length
      · rw [List.getElem?_set_self hi] at z; cases z
      · rw [List.getElem?_eq_none (by rw [List.length_set]; omega)] at z; cases z
    by_cases h1 : i = a
    · subst h1; exact absurd ha (no _)
    · by_cases h2 : i = b
      · subst h2; exact absurd hb (no _)
      · rw [List.getElem?_set_ne h1] at ha va
        rw [List.getElem?_set_ne h2] at hb vb
        exact r.dj a b xs ys w ha hb va vb
  ij := fun a b xs ys ha hb => by
    have no : ∀ (zs : List D), (e.set i none)[i]? ≠ some (some (Sl.io zs)) := fun zs z => by
      by_cases hi : i < e.length
      · rw [List.getElem?_set_self hi] at z; cases z
      · rw [List.getElem?_eq_none (by rw [List.length_set]; omega)] at z; cases z
    by_cases h1 : i = a
    · subst h1; exact absurd ha (no _)
    · by_cases h2 : i = b
      · subst h2; exact absurd hb (no _)
      · rw [List.getElem?_set_ne h1] at ha
        rw [List.getElem?_set_ne h2] at hb
        exact r.ij a b xs ys ha hb
/-- a new list of one's own comes into a slot -/
theorem Rel.setO {p : Addr} {vs : List V} {xs : List D} (r0 : Rel K γ O H σ e) (hO : p ∉ O) (r : Rel K γ (p :: O) H σ e) (hi : i < e.length) (hp : H p = some (.lst vs)) (t : DDs K (msk (p :: O) H) vs xs) :
    Rel K γ (p :: O) H (σ.set i (some (.ref p))) (e.set i (some (.ol xs))) where
  bo := r.bo
  live := r.live
  gs := r.gs
  len := by rw [List.length_set, List.length_set]; exact r.len
  sl := fun j s h => by
    by_cases hj : i = j
    · subst hj
      rw [List.getElem?_set_self hi] at h
      cases h
      exact ⟨_, List.getElem?_set_self (by rw [r.len]; exact hi), p, vs, rfl, List.mem_cons_self, fun z => hO (r0.bo _ z), hp, t⟩
    · rw [List.getElem?_set_ne hj] at h
      obtain ⟨w, h1, h2⟩ := r.sl j s h
      exact ⟨w, by rw [List.getElem?_set_ne hj]; exact h1, h2⟩
  dj := fun a b xs ys w ha hb va vb => by
    have far : ∀ (c : Nat) (zs : List D), i ≠ c → e[c]? = some (some (Sl.ol zs)) → σ[c]? ≠ some (some (.ref p)) := fun c zs hc hz z => by
      obtain ⟨w, h1, q, us, h2, h3, _⟩ := r0.sl _ _ hz
      rw [z] at h1; cases h1
      cases h2
      exact hO h3
    by_cases h1 : i = a
    · subst h1
      rw [List.getElem?_set_self (by rw [r.len]; exact hi)] at va
      cases va
      by_cases h2 : i = b
      · exact h2
      · rw [List.getElem?_set_ne h2] at hb vb
        exact absurd vb (far b _ h2 hb)
    · by_cases h2 : i = b
      · subst h2
        rw [List.getElem?_set_self (by rw [r.len]; exact hi)] at vb
        cases vb
        rw [List.getElem?_set_ne h1] at ha va
        exact absurd va (far a _ h1 ha)
      · rw [List.getElem?_set_ne h1] at ha va
        rw [List.getElem?_set_ne h2] at hb vb
        exact r.dj a b _ _ w ha hb va vb
  ij := fun a b xs ys ha hb => by
    by_cases h1 : i = a
    · subst h1; rw [List.getElem?_set_self hi] at ha; cases ha
    · by_cases h2 : i = b
      · subst h2; rw [List.getElem?_set_self hi] at hb; cases hb
      · rw [List.getElem?_set_ne h1] at ha
        rw [List.getElem?_set_ne h2] at hb
        exact r.ij a b _ _ ha hb
/-- one's own list changes -/
theorem Rel.updO {p : Addr} {vs : List V} {xs ys : List D} (r : Rel K γ O H σ e) (hx : e[i]? = some (some (Sl.ol xs))) (hv : σ[i]? = some (some (.ref p))) (t : DDs K (msk O H) vs ys) :
    Rel K γ O (upd H p (.lst vs)) σ (e.set i (some (.ol ys))) ∧ Fr O H (upd H p (.lst vs)) := by
  have hi : i < e.length := (List.getElem?_eq_some_iff.mp hx).1
  obtain ⟨w, w1, p', us, e1, pO, pB, hp, _⟩ := r.sl _ _ hx
  rw [hv] at w1; cases w1; cases e1
  have mk : msk O (upd H p (.lst vs)) = msk O H := msk_upd pO
  refine ⟨⟨r.bo, fun q hq => ?_, fun q o h => ?_, by rw [List.length_set]; exact r.len, fun j s h => ?_, fun a b zs ws w ha hb va vb => ?_, fun a b zs ws ha hb => ?_⟩, fun a o h => by rw [mk]; exact h⟩
  · by_cases z : q = p
    · rw [z, upd_same]; intro x; cases x
    · rw [upd_ne z]; exact r.live q hq
  · obtain ⟨h1, h2⟩ := r.gs q o h
    refine ⟨h1, ?_⟩
    rw [upd_ne (fun z => pB (by rw [← z]; exact h1))]
    exact h2
  · by_cases hj : i = j
    · subst hj
      rw [List.getElem?_set_self hi] at h
      cases h
      exact ⟨_, hv, p, vs, rfl, pO, pB, upd_same, by rw [mk]; exact t⟩
    · rw [List.getElem?_set_ne hj] at h
      obtain ⟨w, h1, h2⟩ := r.sl j s h
      refine ⟨w, h1, ?_⟩
      cases s with
      | st u => exact h2
      | d x => show DD K (msk O _) w x; rw [mk]; exact h2
      | ol zs =>
        obtain ⟨q, qs, g1, g2, g3, g4, g5⟩ := h2
        refine ⟨q, qs, g1, g2, g3, ?_, by rw [mk]; exact g5⟩
        rw [upd_ne]
        · exact g4
        · intro z
          subst z; subst g1
          exact hj (r.dj i j _ _ _ hx h hv h1)
      | io zs =>
        obtain ⟨qs, g1, g2, g3, g4, g5⟩ := h2
        refine ⟨qs, g1, g2, g3, ?_, by rw [mk]; exact g5⟩
        rw [upd_ne]
        · exact g4
        · intro z
          exact pB (by rw [← z]; exact g2)
  · have cv : ∀ (c : Nat) (zs : List D), (e.set i (some (.ol ys)))[c]? = some (some (Sl.ol zs)) → ∃ us, e[c]? = some (some (Sl.ol us)) := fun c zs h => by
      by_cases hj : i = c
      · subst hj; exact ⟨_, hx⟩
      · rw [List.getElem?_set_ne hj] at h; exact ⟨_, h⟩
    obtain ⟨_, ha'⟩ := cv a _ ha
    obtain ⟨_, hb'⟩ := cv b _ hb
    exact r.dj a b _ _ w ha' hb' va vb
  · have cv : ∀ (c : Nat) (zs : List D), (e.set i (some (.ol ys)))[c]? = some (some (Sl.io zs)) → e[c]? = some (some (Sl.io zs)) := fun c zs h => by
      by_cases hj : i = c
      · subst hj; rw [List.getElem?_set_self hi] at h; cases h
      · rw [List.getElem?_set_ne hj] at h; exact h
    exact r.ij a b _ _ (cv a _ ha) (cv b _ hb)
/-- a given list changes -/
theorem Rel.updI {p : Addr} {vs : List V} {xs ys : List D} (r : Rel K γ O H σ e) (hx : e[i]? = some (some (Sl.io xs))) (hv : σ[i]? = some (some (.ref p))) (t : DDs K (msk O H) vs ys) :
    Rel K γ O (upd H p (.lst vs)) σ (e.set i (some (.io ys))) ∧ Fr O H (upd H p (.lst vs)) := by
  have hi : i < e.length := (List.getElem?_eq_some_iff.mp hx).1
  obtain ⟨w, w1, us, e1, pB, pn, hp, _⟩ := r.sl _ _ hx
  rw [hv] at w1; cases w1; cases e1
  have pO := r.bo _ pB
  have mk : msk O (upd H (γ.A i) (.lst vs)) = msk O H := msk_upd pO
  refine ⟨⟨r.bo, fun q hq => ?_, fun q o h => ?_, by rw [List.length_set]; exact r.len, fun j s h => ?_, fun a b zs ws w ha hb va vb => ?_, fun a b zs ws ha hb => ?_⟩, fun a o h => by rw [mk]; exact h⟩
  · by_cases z : q = γ.A i
    · rw [z, upd_same]; intro x; cases x
    · rw [upd_ne z]; exact r.live q hq
  · obtain ⟨h1, h2⟩ := r.gs q o h
    refine ⟨h1, ?_⟩
    rw [upd_ne (fun z => by rw [z, pn] at h; cases h)]
    exact h2
  · by_cases hj : i = j
    · subst hj
      rw [List.getElem?_set_self hi] at h
      cases h
      exact ⟨_, hv, vs, rfl, pB, pn, upd_same, by rw [mk]; exact t⟩
    · rw [List.getElem?_set_ne hj] at h
      obtain ⟨w, h1, h2⟩ := r.sl j s h
      refine ⟨w, h1, ?_⟩
      cases s with
      | st u => exact h2
      | d x => show DD K (msk O _) w x; rw [mk]; exact h2
      | ol zs =>
        obtain ⟨q, qs, g1, g2, g3, g4, g5⟩ := h2
        refine ⟨q, qs, g1, g2, g3, ?_, by rw [mk]; exact g5⟩
        rw [upd_ne (fun z => g3 (by rw [z]; exact pB))]
        exact g4
      | io zs =>
        obtain ⟨qs, g1, g2, g3, g4, g5⟩ := h2
        refine ⟨qs, g1, g2, g3, ?_, by rw [mk]; exact g5⟩
        rw [upd_ne]
        · exact g4
        · intro z
          exact hj (r.ij i j _ _ hx h z.symm)
  · have cv : ∀ (c : Nat) (zs : List D), (e.set i (some (.io ys)))[c]? = some (some (Sl.ol zs)) → e[c]? = some (some (Sl.ol zs)) := fun c zs h => by
      by_cases hj : i = c
      · subst hj; rw [List.getElem?_set_self hi] at h; cases h
      · rw [List.getElem?_set_ne hj] at h; exact h
    exact r.dj a b _ _ w (cv a _ ha) (cv b _ hb) va vb
  · have cv : ∀ (c : Nat) (zs : List D), (e.set i (some (.io ys)))[c]? = some (some (Sl.io zs)) → ∃ us, e[c]? = some (some (Sl.io us)) := fun c zs h => by
      by_cases hj : i = c
      · subst hj; exact ⟨_, hx⟩
      · rw [List.getElem?_set_ne hj] at h; exact ⟨_, h⟩
    obtain ⟨_, ha'⟩ := cv a _ ha
    obtain ⟨_, hb'⟩ := cv b _ hb
    exact r.ij a b _ _ ha' hb'
/-- a new owned address that no slot has -/
theorem Rel.more {p : Addr} {H' : Hp} {e' : Env} (r : Rel K γ O H σ e) (hp : H p = none) (x : Ex H H') (live : H' p ≠ none) : Rel K γ (p :: O) H' σ e where
  bo := fun q hq => List.mem_cons_of_mem _ (r.bo q hq)
  live := fun q hq => by
    rcases List.mem_cons.mp hq with z | z
    · rw [z]; exact live
    · exact (r.ext x).live q z
  gs := (r.ext x).gs
  len := r.len
  sl := fun i s h => by
    obtain ⟨w, h1, h2⟩ := r.sl i s h
    have mm : Ex (msk O H) (msk (p :: O) H') := msk_cons_ex (by by_cases z : p ∈ O; exact msk_in z; rw [msk_out z]; exact hp) (msk_mono x)
    refine ⟨w, h1, ?_⟩
    cases s with
    | st u => exact h2
    | d x => exact DD.mono mm h2
    | ol zs =>
      obtain ⟨q, qs, g1, g2, g3, g4, g5⟩ := h2
      exact ⟨q, qs, g1, List.mem_cons_of_mem _ g2, g3, x _ _ g4, g5.mono mm⟩
    | io zs =>
      obtain ⟨qs, g1, g2, g3, g4, g5⟩ := h2
      exact ⟨qs, g1, g2, g3, x _ _ g4, g5.mono mm⟩
  dj := r.dj
  ij := r.ij
end

inductive Out where
  | nx | rt (d : D) | rf (xs : List D) | bk | ct
  deriving Inhabited
def FrS (O : List Addr) (H : Hp) (O' : List Addr) (H' : Hp) : Prop := Ex (msk O H) (msk O' H')
theorem FrS.refl {O : List Addr} {H : Hp} : FrS O H O H := fun _ _ h => h
theorem FrS.trans {O O1 O2 : List Addr} {H H1 H2 : Hp} (a : FrS O H O1 H1) (b : FrS O1 H1 O2 H2) : FrS O H O2 H2 := fun x o h => b x o (a x o h)
def GoodS (K : PySem.W.Frag) (γ : Gh) (O : List Addr) (H : Hp) (E : XS) (D : Ends) : R Out → Prop
  | .ok .nx e' => ∀ O' σ' H', Rel K γ O' H' σ' e' → FrS O H O' H' → D.nx σ' H'
  | .ok .bk e' => ∀ O' σ' H', Rel K γ O' H' σ' e' → FrS O H O' H' → D.bk σ' H'
  | .ok .ct e' => ∀ O' σ' H', Rel K γ O' H' σ' e' → FrS O H O' H' → D.ct σ' H'
  | .ok (.rt d) e' => ∀ O' σ' v H', Rel K γ O' H' σ' e' → FrS O H O' H' → DD K (msk O' H') v d → D.rt v H'
  | .ok (.rf xs) e' => ∀ O' σ' p vs H', Rel K γ O' H' σ' e' → FrS O H O' H' → p ∈ O' → p ∉ γ.B → H' p = some (.lst vs) → DDs K (msk O' H') vs xs → D.rt (.ref p) H'
  | .ex (.ins C fs) e' => ∀ O' σ' dx fv H', Rel K γ O' H' σ' e' → FrS O H O' H' → msk O' H' dx = some (.xd fv) → DDf K (msk O' H') fv fs → E σ' (.ref C) (some dx) H'
  | .ex _ _ => False
  | .bad => False
def SX (K : PySem.W.Frag) (E : XS) (ts : TS) (m : M Out) : Prop := ∀ γ O H σ e D, Rel K γ O H σ e → GoodS K γ O H E D (m e) → ts D σ H
theorem GoodS.fr {K : PySem.W.Frag} {γ : Gh} {O O1 : List Addr} {H H1 : Hp} {E : XS} {D : Ends} {r : R Out} (f : FrS O H O1 H1) (g : GoodS K γ O H E D r) : GoodS K γ O1 H1 E D r := by
  cases r with
  | ok o e =>
    cases o with
    | nx => exact fun O' σ' H' r q => g O' σ' H' r (f.trans q)
    | bk => exact fun O' σ' H' r q => g O' σ' H' r (f.trans q)
    | ct => exact fun O' σ' H' r q => g O' σ' H' r (f.trans q)
    | rt d => exact fun O' σ' v H' r q => g O' σ' v H' r (f.trans q)
    | rf xs => exact fun O' σ' p vs H' r q => g O' σ' p vs H' r (f.trans q)
  | ex x e =>
    cases x with
    | ins C fs => exact fun O' σ' dx fv H' r q => g O' σ' dx fv H' r (f.trans q)
    | _ => exact g
  | bad => exact g
theorem Fr.s {O : List Addr} {H H' : Hp} (f : Fr O H H') : FrS O H O H' := f
section
variable {α β : Type} {K : PySem.W.Frag} {E : XS} {γ : Gh} {O : List Addr} {H : Hp} {σ : L2.St} {e : Env} {Dn : Ends}
/-- an expression, then the rest of the statement -/
theorem J.stmt {T : List Addr → Hp → L2.St → β → α → Prop} {te : L2.St → Hp → (β → Hp → Prop) → Prop} {m : M α} {f : α → M Out} {Q : β → Hp → Prop} (h : J K E T te m) (r : Rel K γ O H σ e)
    (g : GoodS K γ O H E Dn ((m >>= f) e)) (k : ∀ a e' v H', Rel K γ O H' σ e' → Fr O H H' → T O H' σ v a → GoodS K γ O H' E Dn (f a e') → Q v H') : te σ H Q := by
  refine h γ O H σ e Q r ?_
  rw [bind_eq] at g
  cases q : m e with
  | ok a e' =>
    rw [q] at g
    exact fun v H' r1 f1 t => k a e' v H' r1 f1 t (GoodS.fr f1.s g)
  | ex x e' =>
    rw [q] at g
    cases x with
    | ins C fs => exact fun dx fv H' r1 f1 q1 q2 => g O σ dx fv H' r1 f1.s q1 q2
    | _ => exact g
  | bad =>
    rw [q] at g
    exact g
def sNx : M Out := M.ret .nx
def sSeq (a b : M Out) : M Out := a >>= fun o => match o with
  | .nx => b
  | o => M.ret o
theorem sx_next : SX K E tNext sNx := fun γ O H σ e D r g => g O σ H r FrS.refl
theorem sx_seq {t u : TS} {a b : M Out} (h1 : SX K E t a) (h2 : SX K E u b) : SX K E (tSeq t u) (sSeq a b) := fun γ O H σ e D r g => by
  refine h1 γ O H σ e { D with nx := u D } r ?_
  unfold sSeq at g
  rw [bind_eq] at g
  cases q : a e with
  | ok o e' =>
    rw [q] at g
    cases o with
    | nx => exact fun O' σ' H' r1 f1 => h2 γ O' H' σ' e' D r1 (GoodS.fr f1 g)
    | bk => exact fun O' σ' H' r1 f1 => g O' σ' H' r1 f1
    | ct => exact fun O' σ' H' r1 f1 => g O' σ' H' r1 f1
    | rt d => exact fun O' σ' v H' r1 f1 => g O' σ' v H' r1 f1
    | rf xs => exact fun O' σ' p vs H' r1 f1 => g O' σ' p vs H' r1 f1
  | ex x e' =>
    rw [q] at g
    cases x with
    | ins C fs => exact g
    | _ => exact g
  | bad => rw [q] at g; exact g
def sRet (m : M D) : M Out := m >>= fun d => M.ret (.rt d)
theorem sx_ret {te : TE} {m : M D} (h : EX K E te m) : SX K E (tRet te) (sRet m) := fun γ O H σ e D r g =>
  J.stmt h r g fun d e' v H' r1 f1 t g1 => g1 O σ v H' r1 FrS.refl t
def sRetN : M Out := M.ret (.rt .non)
theorem sx_retN : SX K E tRetN sRetN := fun γ O H σ e D r g => g O σ .non H r FrS.refl .non
/-- return x, x a slot's own list -/
def sRetO (i : Nat) : M Out := fun e => match e[i]? with
  | some (some (.ol xs)) => .ok (.rf xs) e
  | _ => .bad
theorem sx_retO {i : Nat} : SX K E (tRet (tVar i)) (sRetO i) := fun γ O H σ e D r g => by
  unfold sRetO at g
  try dsimp only at g
  split at g
  · rename_i xs hx
    obtain ⟨w, h1, p, vs, e1, pO, pB, hp, t⟩ := r.sl _ _ hx
    subst e1
    exact ⟨_, h1, g O σ p vs H r FrS.refl pO pB hp t⟩
  · exact g.elim
def sExpr (m : M D) : M Out := m >>= fun _ => M.ret .nx
theorem sx_expr {te : TE} {m : M D} (h : EX K E te m) : SX K E (tDrop te) (sExpr m) := fun γ O H σ e D r g =>
  J.stmt h r g fun d e' v H' r1 f1 t g1 => g1 O σ H' r1 FrS.refl
def sBk : M Out := M.ret .bk
def sCt : M Out := M.ret .ct
theorem sx_bk : SX K E tBreak sBk := fun γ O H σ e D r g => g O σ H r FrS.refl
theorem sx_ct : SX K E tCont sCt := fun γ O H σ e D r g => g O σ H r FrS.refl
def sIf (c : M Bool) (a b : M Out) : M Out := c >>= fun r => if r = true then a else b
theorem sx_if {c : TT} {t u : TS} {m : M Bool} {a b : M Out} (h : ET K E c m) (h1 : SX K E t a) (h2 : SX K E u b) : SX K E (tIfS c t u) (sIf m a b) := fun γ O H σ e D r g =>
  J.stmt h r g fun d e' v H' r1 f1 t g1 => by
    cases t
    cases d with
    | true => exact h1 γ O H' σ e' D r1 g1
    | false => exact h2 γ O H' σ e' D r1 g1
def GX (K : PySem.W.Frag) (g : TG) (L : List Nat) (s : D → Env → Option Env) : Prop := ∀ γ O H σ e v d e' (k : L2.St → Hp → Prop), Rel K γ O H σ e → DD K (msk O H) v d → s d e = some e' →
  (∀ σ', Rel K γ O H σ' e' → (∀ vs : List Nat, (∀ i ∈ L, i ∈ vs) → wipe σ' vs = wipe σ vs) → k σ' H) → g v σ H k
def gSet (i : Nat) (d : D) : Env → Option Env := fun e => if noIo e i = true then some (e.set i (some (.d d))) else none
theorem wipe_out_set {σ : L2.St} {i : Nat} {x : Option V} : ∀ us : List Nat, i ∉ us → wipe (σ.set i x) us = (wipe σ us).set i x := by
  intro us
  induction us with
  | nil => intro _; rfl
  | cons u us ih =>
    intro hu
    simp only [List.mem_cons, not_or] at hu
    unfold wipe
    rw [ih hu.2, List.set_comm _ _ hu.1]
theorem wipe_in {σ : L2.St} {i : Nat} {x : Option V} : ∀ {vs : List Nat}, i ∈ vs → wipe (σ.set i x) vs = wipe σ vs
  | [], h => by simp at h
  | v :: vs, h => by
    unfold wipe
    by_cases hv : i ∈ vs
    · rw [wipe_in hv]
    · have e : i = v := by
        rcases List.mem_cons.mp h with z | z
        · exact z
        · exact absurd z hv
      subst e
      rw [wipe_out_set vs hv, List.set_set]
theorem gx_name {i : Nat} : GX K (gName i) [i] (gSet i) := fun γ O H σ e v d e' k r t h kk => by
  unfold gSet at h
  by_cases q : noIo e i = true
  · rw [if_pos q] at h
    cases h
    exact kk _ (r.setD (noIo_lt q) t) fun vs hv => wipe_in (hv i List.mem_cons_self)
  · rw [if_neg q] at h
    cases h
def GXs (K : PySem.W.Frag) (g : TGs) (n : Nat) (L : List Nat) (s : List D → Env → Option Env) : Prop := ∀ γ O H σ e vs ds e' (k : L2.St → Hp → Prop), ds.length = n → Rel K γ O H σ e → DDs K (msk O H) vs ds → s ds e = some e' →
  (∀ σ', Rel K γ O H σ' e' → (∀ vs : List Nat, (∀ i ∈ L, i ∈ vs) → wipe σ' vs = wipe σ vs) → k σ' H) → g vs σ H k
def gsNil (_ : List D) : Env → Option Env := some
def gsCons (a : D → Env → Option Env) (b : List D → Env → Option Env) : List D → Env → Option Env
  | d :: ds => fun e => (a d e).bind (b ds)
  | [] => fun _ => none
theorem gxs_nil : GXs K gNil 0 [] gsNil := fun γ O H σ e vs ds e' k hn r t h kk => by
  cases t with
  | nil => cases h; exact ⟨rfl, kk σ r fun _ _ => rfl⟩
  | cons _ _ => cases hn
theorem gxs_cons {g : TG} {gs : TGs} {n : Nat} {L L' : List Nat} {a : D → Env → Option Env} {b : List D → Env → Option Env} (h1 : GX K g L a) (h2 : GXs K gs n L' b) : GXs K (gCons g gs) (n + 1) (L ++ L') (gsCons a b) := fun γ O H σ e vs ds e' k hn r t h kk => by
  cases t with
  | nil => cases hn
  | @cons v vs d ds t1 t2 =>
    have h' : (a d e).bind (b ds) = some e' := h
    cases q : a d e with
    | none => rw [q] at h'; cases h'
    | some e1 =>
      rw [q] at h'
      exact ⟨v, vs, rfl, h1 γ O H σ e v d e1 _ r t1 q fun σ1 r1 w1 => h2 γ O H σ1 e1 vs ds e' k (Nat.succ.inj hn) r1 t2 h' fun σ2 r2 w2 =>
        kk σ2 r2 fun us hu => (w2 us fun i hi => hu i (List.mem_append_right _ hi)).trans (w1 us fun i hi => hu i (List.mem_append_left _ hi))⟩
def gTupD (n : Nat) (s : List D → Env → Option Env) : D → Env → Option Env
  | .tup ds => fun e => if ds.length = n then s ds e else none
  | .lst ds => fun e => if ds.length = n then s ds e else none
  | _ => fun _ => none
def gTupU (K : PySem.W.Frag) (n : Nat) (gs : TGs) : TG := fun v σ H Q => gTup K n gs v σ H Q ∨ gUnl K n gs v σ H Q
theorem pg_tupU {X : Cx} {pos : Pos} {es : List Expr} {k : Nat} {t : TGs} {n : Nat} (hc : X.calm = true) (h : PGs X es t)
    (hn : (assignEach es X.env).length = n := by rfl) (hst : (assignEach es X.env).findIdx? (·.1) = none := by rfl) : PG X (.Tuple es k pos) (gTupU X.K n t) :=
  ⟨fun pins s σ H v u Q I r hw => hw.elim ((pg_tup hc h hn hst).run pins s σ H v u Q I r) ((pg_unl hc h hn hst).run pins s σ H v u Q I r)⟩
theorem gx_tup {gs : TGs} {n : Nat} {L : List Nat} {s : List D → Env → Option Env} (h1 : GXs K gs n L s) : GX K (gTupU K n gs) L (gTupD n s) := fun γ O H σ e v d e' k r t h kk => by
  cases d with
  | tup ds =>
    have h' : (if ds.length = n then s ds e else none) = some e' := h
    by_cases hn : ds.length = n
    · rw [if_pos hn] at h'
      cases t with
      | tup a b => exact .inl ⟨_, _, rfl, Evl.ex_t msk_ex a, by rw [b.length]; exact hn, h1 γ O H σ e _ ds e' k hn r b h' kk⟩
    · rw [if_neg hn] at h'
      cases h'
  | lst ds =>
    have h' : (if ds.length = n then s ds e else none) = some e' := h
    by_cases hn : ds.length = n
    · rw [if_pos hn] at h'
      cases t with
      | lst a b => exact .inr ⟨_, _, rfl, SqL.of (msk_ex _ _ a), by rw [b.length]; exact hn, h1 γ O H σ e _ ds e' k hn r b h' kk⟩
    · rw [if_neg hn] at h'
      cases h'
  | _ => cases h
def sDo (o : Option Env) (e0 : Env) : R Out := match o with
  | some e => .ok .nx e
  | none => .bad
def sAsg (m : M D) (s : D → Env → Option Env) : M Out := m >>= fun d => fun e => sDo (s d e) e
theorem sx_asg {te : TE} {g : TG} {L : List Nat} {m : M D} {s : D → Env → Option Env} (h : EX K E te m) (hg : GX K g L s) : SX K E (tAsg te g) (sAsg m s) := fun γ O H σ e Dn r gd =>
  J.stmt h r gd fun d e' v H' r1 f1 t g1 => by
    cases q : s d e' with
    | none => rw [q] at g1; exact g1.elim
    | some e2 =>
      rw [q] at g1
      exact hg γ O H' σ e' v d e2 Dn.nx r1 t q fun σ' r2 _ => g1 O σ' H' r2 FrS.refl
def GoodF (K : PySem.W.Frag) (γ : Gh) (O : List Addr) (H : Hp) (σ : L2.St) (E : XS) (Q : VK) : R (List D) → Prop
  | .ok ds e' => ∀ p vs H', p ∉ O → Rel K γ O H' σ e' → Rel K γ (p :: O) H' σ e' → FrS O H (p :: O) H' → Fr O H H' → H' p = some (.lst vs) → DDs K (msk (p :: O) H') vs ds → Q (.ref p) H'
  | .ex x e' => GoodX K γ O H σ E x e'
  | .bad => False
def EF (K : PySem.W.Frag) (E : XS) (te : TE) (m : M (List D)) : Prop := ∀ γ O H σ e Q, Rel K γ O H σ e → GoodF K γ O H σ E Q (m e) → te σ H Q
def mF (m : M (List D)) : M D := m >>= fun ds => M.ret (.lst ds)
theorem EF.x {te : TE} {m : M (List D)} (h : EF K E te m) : EX K E te (mF m) := fun γ O H σ e Q r g => by
  refine h γ O H σ e Q r ?_
  unfold mF at g
  rw [bind_eq] at g
  cases q : m e with
  | ok ds e' =>
    rw [q] at g
    exact fun p vs H' hp r1 r2 f1 f2 h1 t => g (.ref p) H' r1 f2 (.lst (by rw [msk_out hp]; exact h1) (t.mono (msk_sub fun q hq => List.mem_cons_of_mem _ hq)))
  | ex x e' => rw [q] at g; exact g
  | bad => rw [q] at g; exact g
def putO (i : Nat) (ds : List D) : M Out := fun e => if noIo e i = true then .ok .nx (e.set i (some (.ol ds))) else .bad
def sOwn (i : Nat) (m : M (List D)) : M Out := m >>= putO i
theorem sx_own {te : TE} {i : Nat} {m : M (List D)} (h : EF K E te m) : SX K E (tAsg te (gName i)) (sOwn i m) := fun γ O H σ e Dn r g => by
  refine h γ O H σ e _ r ?_
  unfold sOwn at g
  rw [bind_eq] at g
  cases q : m e with
  | ok ds e' =>
    rw [q] at g
    intro p vs H' hp r1 r2 f1 f2 h1 t
    unfold putO at g
    try dsimp only at g
    by_cases z : noIo e' i = true
    · rw [if_pos z] at g
      exact g (p :: O) _ H' (Rel.setO r1 hp r2 (noIo_lt z) h1 t) f1
    · rw [if_neg z] at g
      exact g.elim
  | ex x e' =>
    rw [q] at g
    cases x with
    | ins C fs => exact fun dx fv H' r1 f1 q1 q2 => g O σ dx fv H' r1 f1.s q1 q2
    | _ => exact g
  | bad => rw [q] at g; exact g
/-- a new list laid at p -/
theorem ef_new {vs : List V} {ds : List D} {p : Addr} {Q : VK} {e' : Env} (r : Rel K γ O H σ e') (t : DDs K (msk O H) vs ds) (hp : H p = none)
    (g : GoodF K γ O H σ E Q (.ok ds e')) : Q (.ref p) (upd H p (.lst vs)) := by
  have hO := r.out hp
  have hm : msk O H p = none := by rw [msk_out hO]; exact hp
  have f : FrS O H (p :: O) (upd H p (.lst vs)) := msk_cons_ex hm (msk_mono (Evl.Ex.new hp))
  exact g p vs _ hO (r.ext (Evl.Ex.new hp)) (r.more (e' := e') hp (Evl.Ex.new hp) (by rw [upd_same]; intro z; cases z)) f (Fr.ext (Evl.Ex.new hp)) upd_same (t.mono f)
theorem GoodF.fr {H1 : Hp} {Q : VK} {r : R (List D)} (f : Fr O H H1) (g : GoodF K γ O H σ E Q r) : GoodF K γ O H1 σ E Q r := by
  cases r with
  | ok ds e' => exact fun p vs H' h1 h2 h3 h4 h5 => g p vs H' h1 h2 h3 (FrS.trans f.s h4) (f.trans h5)
  | ex x e' => exact GoodX.fr f g
  | bad => exact g
/-- an expression, then a new list -/
theorem J.own {T : List Addr → Hp → L2.St → β → α → Prop} {te : L2.St → Hp → (β → Hp → Prop) → Prop} {m : M α} {f : α → M (List D)} {Q' : VK} {Q : β → Hp → Prop} (h : J K E T te m) (r : Rel K γ O H σ e)
    (g : GoodF K γ O H σ E Q' ((m >>= f) e))
    (k : ∀ a e' v H', Rel K γ O H' σ e' → Fr O H H' → T O H' σ v a → GoodF K γ O H' σ E Q' (f a e') → Q v H') : te σ H Q := by
  refine h γ O H σ e Q r ?_
  rw [bind_eq] at g
  cases q : m e with
  | ok a e' =>
    rw [q] at g
    exact fun v H' r1 f1 t => k a e' v H' r1 f1 t (GoodF.fr (E := E) f1 g)
  | ex x e' => rw [q] at g; exact g
  | bad => rw [q] at g; exact g
def oLst (m : M (List D)) : M (List D) := m >>= fun ds => M.lift (if mLine ds.length = true then some ds else none)
theorem ef_lst {ta : TA} {m : M (List D)} (h : EA K E ta m) : EF K E (tLst ta) (oLst m) := fun γ O H σ e Q r g =>
  J.own (te := ta) (T := TDs K) (Q' := Q) h r g fun ds e' vs H' r1 f1 t g1 => by
    by_cases hl : mLine ds.length = true
    · rw [if_pos hl] at g1
      exact ⟨by rw [t.length]; exact mLine_ok hl, fun p hp => ef_new r1 t hp g1⟩
    · rw [if_neg hl] at g1
      exact g1.elim
end
end Mir

set_option Elab.async false
set_option linter.all false
set_option maxRecDepth 100000
set_option maxHeartbeats 4000000
namespace Mir
open PySem L2

/-- J yields the data ds, one behind another, whatever the frame does meanwhile -/
def ItD (K : PySem.W.Frag) (J : It) (O : List Addr) (H : Hp) (ds : List D) : Prop := ∃ S : List Addr → Hp → Prop, S O H ∧
  (∀ O H O' H', FrS O H O' H' → S O H → S O' H') ∧
  (∀ (O : List Addr) (H : Hp) (i : Nat) (d : D), (∀ q ∈ O, H q ≠ none) → S O H → ds[i]? = some d → J.go i H ∧ ∀ x H', J.yld i H x H' → Ex H H' ∧ DD K (msk O H') x d) ∧
  (∀ O H, S O H → J.stop ds.length H)
def GoodW (K : PySem.W.Frag) (γ : Gh) (O : List Addr) (H : Hp) (σ : L2.St) (E : XS) (Rr : It → Hp → Prop) : R (List D) → Prop
  | .ok ds e' => ∀ J H', Rel K γ O H' σ e' → Fr O H H' → ItD K J O H' ds → Rr J H'
  | .ex x e' => GoodX K γ O H σ E x e'
  | .bad => False
def JW (K : PySem.W.Frag) (E : XS) (wi : TI) (m : M (List D)) : Prop := ∀ γ O H σ e Rr, Rel K γ O H σ e → GoodW K γ O H σ E Rr (m e) → wi σ H Rr
theorem GoodW.fr {K : PySem.W.Frag} {γ : Gh} {O : List Addr} {H H1 : Hp} {σ : L2.St} {E : XS} {Rr : It → Hp → Prop} {r : R (List D)} (f : Fr O H H1) (g : GoodW K γ O H σ E Rr r) : GoodW K γ O H1 σ E Rr r := by
  cases r with
  | ok ds e' => exact fun J H' h1 h2 => g J H' h1 (f.trans h2)
  | ex x e' => exact GoodX.fr f g
  | bad => exact g
section
variable {α β : Type} {K : PySem.W.Frag} {E : XS} {γ : Gh} {O : List Addr} {H : Hp} {σ : L2.St} {e : Env} {Dn : Ends}
theorem J.walk {T : List Addr → Hp → L2.St → β → α → Prop} {te : L2.St → Hp → (β → Hp → Prop) → Prop} {m : M α} {f : α → M (List D)} {Rr : It → Hp → Prop} {Q : β → Hp → Prop} (h : J K E T te m) (r : Rel K γ O H σ e)
    (g : GoodW K γ O H σ E Rr ((m >>= f) e))
    (k : ∀ a e' v H', Rel K γ O H' σ e' → Fr O H H' → T O H' σ v a → GoodW K γ O H' σ E Rr (f a e') → Q v H') : te σ H Q := by
  refine h γ O H σ e Q r ?_
  rw [bind_eq] at g
  cases q : m e with
  | ok a e' =>
    rw [q] at g
    exact fun v H' r1 f1 t => k a e' v H' r1 f1 t (GoodW.fr (E := E) f1 g)
  | ex x e' => rw [q] at g; exact g
  | bad => rw [q] at g; exact g
def iAny (K : PySem.W.Frag) (tl : TE) : TI := fun σ H R => iList K tl σ H R ∨ iTup K tl σ H R ∨ iStr tl σ H R
theorem pi_any {X : Cx} {tg l : Expr} {tl : TE} (hl : PE X l tl) : PI X tg l (iAny X.K tl) := ⟨fun pins s σ H R I h => by
  rcases h with h | h | h
  · exact (pi_list hl).run pins s σ H R I h
  · exact (pi_tup hl).run pins s σ H R I h
  · exact (pi_str hl).run pins s σ H R I h⟩
def signs (z : Str) : List D := z.cps.toList.map fun c => .str ⟨#[c]⟩
def dSeq : D → Option (List D)
  | .lst xs => some xs
  | .tup xs => some xs
  | .str z => some (signs z)
  | _ => none
theorem itD_list {a : Addr} {vs : List V} {ds : List D} (ha : msk O H a = some (.lst vs)) (t : DDs K (msk O H) vs ds) : ItD K (Itl K a) O H ds := by
  refine ⟨fun O H => msk O H a = some (.lst vs) ∧ DDs K (msk O H) vs ds, ⟨ha, t⟩, fun O H O' H' f h => ⟨f _ _ h.1, h.2.mono f⟩, fun O H i d l h hd => ?_, fun O H h => ?_⟩
  · obtain ⟨v, hv, td⟩ := h.2.get hd
    have sq : SqL K H a vs := SqL.of (msk_ex _ _ h.1)
    refine ⟨⟨vs, v, sq, hv⟩, fun x H' y => ?_⟩
    obtain ⟨rfl, y⟩ := y
    have := y vs sq
    rw [hv] at this; cases this
    exact ⟨Evl.Ex.refl _, td⟩
  · exact ⟨vs, SqL.of (msk_ex _ _ h.1), by rw [h.2.length]; exact Nat.le_refl _⟩
theorem itD_tup {a : Addr} {vs : List V} {ds : List D} (ha : SqT K (msk O H) a vs) (t : DDs K (msk O H) vs ds) : ItD K (Itt K a) O H ds := by
  refine ⟨fun O H => SqT K (msk O H) a vs ∧ DDs K (msk O H) vs ds, ⟨ha, t⟩, fun O H O' H' f h => ⟨Evl.ex_t f h.1, h.2.mono f⟩, fun O H i d l h hd => ?_, fun O H h => ?_⟩
  · obtain ⟨v, hv, td⟩ := h.2.get hd
    have sq : SqT K H a vs := Evl.ex_t msk_ex h.1
    refine ⟨⟨vs, v, sq, hv⟩, fun x H' y => ?_⟩
    obtain ⟨rfl, y⟩ := y
    have := y vs sq
    rw [hv] at this; cases this
    exact ⟨Evl.Ex.refl _, td⟩
  · exact ⟨vs, Evl.ex_t msk_ex h.1, by rw [h.2.length]; exact Nat.le_refl _⟩
theorem itD_str {z : Str} : ItD K (Its z) O H (signs z) := by
  refine ⟨fun _ _ => True, trivial, fun _ _ _ _ _ _ => trivial, fun O H i d l h hd => ?_, fun O H h => ?_⟩
  · unfold signs at hd
    rw [List.getElem?_map] at hd
    cases q : z.cps.toList[i]? with
    | none => rw [q] at hd; cases hd
    | some c =>
      rw [q] at hd; cases hd
      have q' : z.cps[i]? = some c := by simpa using q
      refine ⟨(Array.getElem?_eq_some_iff.mp q').1, fun x H' y => ?_⟩
      obtain ⟨rfl, c', y1, y2⟩ := y
      rw [q'] at y1; cases y1; subst y2
      exact ⟨Evl.Ex.refl _, .str _⟩
  · show z.cps.size ≤ (signs z).length
    unfold signs
    simp
def wAny (m : M D) : M (List D) := m >>= fun d => M.lift (dSeq d)
theorem jw_any {tl : TE} {m : M D} (h : EX K E tl m) : JW K E (iAny K tl) (wAny m) := fun γ O H σ e Rr r g => by
  unfold wAny at g
  rw [bind_eq] at g
  cases q : m e with
  | bad => rw [q] at g; exact g.elim
  | ex x e' => rw [q] at g; exact .inl (h γ O H σ e _ r (by rw [q]; exact g))
  | ok d e' =>
    rw [q] at g
    cases d with
    | lst ds => exact .inl (h γ O H σ e _ r (by
        rw [q]
        intro v H' r1 f1 t
        cases t with
        | lst a b => exact ⟨_, rfl, ⟨_, SqL.of (msk_ex _ _ a)⟩, g _ H' r1 f1 (itD_list a b)⟩))
    | tup ds => exact .inr (.inl (h γ O H σ e _ r (by
        rw [q]
        intro v H' r1 f1 t
        cases t with
        | tup a b => exact ⟨_, rfl, ⟨_, Evl.ex_t msk_ex a⟩, g _ H' r1 f1 (itD_tup a b)⟩)))
    | str z => exact .inr (.inr (h γ O H σ e _ r (by
        rw [q]
        intro v H' r1 f1 t
        cases t
        exact ⟨z, rfl, g _ H' r1 f1 itD_str⟩)))
    | _ => exact g.elim
def intsD (lo : Int) (n : Nat) : List D := (List.range n).map fun (i : Nat) => D.int (lo + (i : Int))
theorem itD_range {lo : Int} {n : Nat} : ItD K (Itr lo n) O H (intsD lo n) := by
  refine ⟨fun _ _ => True, trivial, fun _ _ _ _ _ _ => trivial, fun O H i d l h hd => ?_, fun O H h => ?_⟩
  · unfold intsD at hd
    rw [List.getElem?_map] at hd
    by_cases hi : i < n
    · rw [List.getElem?_range hi] at hd; cases hd
      refine ⟨hi, fun x H' y => ?_⟩
      obtain ⟨rfl, rfl⟩ := y
      exact ⟨Evl.Ex.refl _, .int _⟩
    · rw [List.getElem?_eq_none (by simp; omega)] at hd; cases hd
  · show n ≤ (intsD lo n).length
    unfold intsD; simp
def small62 (i : Int) : Bool := decide (-(2 ^ 62) ≤ i) && decide (i < 2 ^ 62)
theorem small62_ok {i : Int} (h : small62 i = true) : -(2 ^ 62) ≤ i ∧ i < 2 ^ 62 := by
  unfold small62 at h
  simpa using h
def dRng1 : List D → Option (List D)
  | [.int j] => if small62 j = true then some (intsD 0 j.toNat) else none
  | _ => none
def dRng2 : List D → Option (List D)
  | [.int i, .int j] => if (small62 i && small62 j) = true then some (intsD i (j - i).toNat) else none
  | _ => none
def wRng1 (m : M (List D)) : M (List D) := m >>= fun ds => M.lift (dRng1 ds)
def wRng2 (m : M (List D)) : M (List D) := m >>= fun ds => M.lift (dRng2 ds)
theorem jw_rng1 {ta : TA} {m : M (List D)} (h : EA K E ta m) : JW K E (iRng1 ta) (wRng1 m) := fun γ O H σ e Rr r g =>
  J.walk (te := ta) (T := TDs K) h r g fun ds e' vs H' r1 f1 t g1 => by
    unfold dRng1 at g1
    split at g1
    · rename_i j
      cases t with
      | cons a b =>
        cases b; cases a
        by_cases q : small62 j = true
        · rw [if_pos q] at g1
          obtain ⟨q1, q2⟩ := small62_ok q
          exact ⟨j, rfl, q1, q2, g1 _ H' r1 (Fr.refl _ _) itD_range⟩
        · rw [if_neg q] at g1; exact g1.elim
    all_goals exact g1.elim
theorem jw_rng2 {ta : TA} {m : M (List D)} (h : EA K E ta m) : JW K E (iRng2 ta) (wRng2 m) := fun γ O H σ e Rr r g =>
  J.walk (te := ta) (T := TDs K) h r g fun ds e' vs H' r1 f1 t g1 => by
    unfold dRng2 at g1
    split at g1
    · rename_i i j
      cases t with
      | cons a b =>
        cases b with
        | cons c d =>
          cases d; cases a; cases c
          by_cases q : (small62 i && small62 j) = true
          · rw [if_pos q] at g1
            rw [Bool.and_eq_true] at q
            obtain ⟨q1, q2⟩ := small62_ok q.1
            obtain ⟨q3, q4⟩ := small62_ok q.2
            exact ⟨i, j, rfl, ⟨q1, q2, q3, q4⟩, g1 _ H' r1 (Fr.refl _ _) itD_range⟩
          · rw [if_neg q] at g1; exact g1.elim
    all_goals exact g1.elim
def pairs : Nat → List D → List D
  | _, [] => []
  | n, d :: ds => .tup [.int n, d] :: pairs (n + 1) ds
theorem pairs_get : ∀ {ds : List D} {n i : Nat} {d : D}, (pairs n ds)[i]? = some d → ∃ x, ds[i]? = some x ∧ d = .tup [.int ((n + i : Nat) : Int), x]
  | [], n, i, d, h => by simp [pairs] at h
  | x :: xs, n, 0, d, h => by simp [pairs] at h; exact ⟨x, rfl, by rw [← h]; rfl⟩
  | x :: xs, n, i + 1, d, h => by
    have h' : (pairs (n + 1) xs)[i]? = some d := by simpa [pairs] using h
    obtain ⟨y, h1, h2⟩ := pairs_get h'
    exact ⟨y, by simpa using h1, by rw [h2, show n + 1 + i = n + (i + 1) by omega]⟩
theorem pairs_len : ∀ {ds : List D} {n : Nat}, (pairs n ds).length = ds.length
  | [], _ => rfl
  | _ :: xs, n => by show (pairs (n + 1) xs).length + 1 = xs.length + 1; rw [pairs_len]
theorem itD_enum {a : Addr} {vs : List V} {ds : List D} (ha : msk O H a = some (.lst vs)) (t : DDs K (msk O H) vs ds) : ItD K (Ite K a) O H (pairs 0 ds) := by
  refine ⟨fun O H => msk O H a = some (.lst vs) ∧ DDs K (msk O H) vs ds, ⟨ha, t⟩, fun O H O' H' f h => ⟨f _ _ h.1, h.2.mono f⟩, fun O H i d l h hd => ?_, fun O H h => ?_⟩
  · obtain ⟨x, hx, rfl⟩ := pairs_get hd
    obtain ⟨v, hv, td⟩ := h.2.get hx
    have sq : SqL K H a vs := SqL.of (msk_ex _ _ h.1)
    refine ⟨⟨vs, v, sq, hv⟩, fun y H' q => ?_⟩
    obtain ⟨T, w, rfl, hT, rfl, hw⟩ := q
    have := hw vs sq
    rw [hv] at this; cases this
    rw [Nat.zero_add]
    exact ⟨Evl.Ex.new hT, DD.new_tup hT (live_out l hT) (.cons (.int _) (.cons td .nil))⟩
  · exact ⟨vs, SqL.of (msk_ex _ _ h.1), by rw [pairs_len, h.2.length]; exact Nat.le_refl _⟩
def dEnum : List D → Option (List D)
  | [.lst ds] => some (pairs 0 ds)
  | _ => none
def wEnum (m : M (List D)) : M (List D) := m >>= fun ds => M.lift (dEnum ds)
theorem jw_enum {ta : TA} {m : M (List D)} (h : EA K E ta m) : JW K E (iEnum K ta) (wEnum m) := fun γ O H σ e Rr r g =>
  J.walk (te := ta) (T := TDs K) h r g fun ds e' vs H' r1 f1 t g1 => by
    unfold dEnum at g1
    split at g1
    · cases t with
      | cons a b =>
        cases b
        cases a with
        | lst a b => exact ⟨_, _, rfl, SqL.of (msk_ex _ _ a), g1 _ H' r1 (Fr.refl _ _) (itD_enum a b)⟩
    all_goals exact g1.elim
def mLoop (g : D → Env → Option Env) (b : M Out) : List D → M Out
  | [] => sNx
  | d :: ds => fun e => match g d e with
    | none => .bad
    | some e1 => match b e1 with
      | .ok .nx e2 => mLoop g b ds e2
      | .ok .ct e2 => mLoop g b ds e2
      | .ok .bk e2 => .ok .nx e2
      | r => r
def sFor (w : M (List D)) (g : D → Env → Option Env) (b : M Out) : M Out := w >>= mLoop g b
theorem sx_for {wi : TI} {g : TG} {tb : TS} {w : M (List D)} {L : List Nat} {s : D → Env → Option Env} {b : M Out} (hw : JW K E wi w) (hg : GX K g L s) (hb : SX K E tb b) : SX K E (tFor wi g tb) (sFor w s b) := fun γ O H σ e Dn r gd => by
  refine hw γ O H σ e _ r ?_
  unfold sFor at gd
  rw [bind_eq] at gd
  cases q : w e with
  | bad => rw [q] at gd; exact gd
  | ex x e' =>
    rw [q] at gd
    cases x with
    | ins C fs => exact fun dx fv H' r1 f1 q1 q2 => gd O σ dx fv H' r1 f1.s q1 q2
    | _ => exact gd
  | ok ds e1 =>
    rw [q] at gd
    intro Jt H1 r1 f1 it
    obtain ⟨S, S0, Sf, Sgo, Sst⟩ := it
    refine ⟨fun i m σ H => m = ds.length - i ∧ i ≤ ds.length ∧ ∃ O' e', Rel K γ O' H σ e' ∧ S O' H ∧ GoodS K γ O' H E Dn (mLoop s b (ds.drop i) e'), ⟨ds.length, by simp, Nat.zero_le _, O, e1, r1, S0, GoodS.fr f1.s (by rw [List.drop_zero]; exact gd)⟩, ?_⟩
    rintro i m σ2 H2 ⟨rfl, hi, O', e', r2, S2, g2⟩
    by_cases hlt : i < ds.length
    · have hd : ds[i]? = some ds[i] := List.getElem?_eq_getElem hlt
      obtain ⟨go, yl⟩ := Sgo O' H2 i _ r2.live S2 hd
      refine .inr ⟨go, fun σ' H' => ∃ O'' e'', Rel K γ O'' H' σ' e'' ∧ S O'' H' ∧ GoodS K γ O'' H' E Dn (mLoop s b (ds.drop (i + 1)) e''), fun σ' H' ⟨O'', e'', a1, a2, a3⟩ => ⟨ds.length - (i + 1), by omega, rfl, hlt, O'', e'', a1, a2, a3⟩, fun x H' y => ?_⟩
      obtain ⟨ex, td⟩ := yl x H' y
      rw [List.drop_eq_getElem_cons hlt] at g2
      unfold mLoop at g2
      try dsimp only at g2
      cases qs : s ds[i] e' with
      | none => rw [qs] at g2; exact g2.elim
      | some e2 =>
        rw [qs] at g2
        refine hg γ O' H' σ2 e' x _ e2 _ (r2.ext ex) td qs fun σ3 r3 _ => ?_
        refine hb γ O' H' σ3 e2 _ r3 ?_
        have fx : FrS O' H2 O' H' := msk_mono ex
        try dsimp only at g2
        cases qb : b e2 with
        | bad => rw [qb] at g2; exact g2
        | ex x3 e3 =>
          rw [qb] at g2
          cases x3 with
          | ins C fs => exact fun O3 σ4 dx fv H3 r4 f4 => g2 O3 σ4 dx fv H3 r4 (fx.trans f4)
          | _ => exact g2
        | ok o e3 =>
          rw [qb] at g2
          cases o with
          | nx => exact fun O3 σ4 H3 r4 f4 => ⟨O3, e3, r4, Sf _ _ _ _ (fx.trans f4) S2, GoodS.fr (fx.trans f4) g2⟩
          | ct => exact fun O3 σ4 H3 r4 f4 => ⟨O3, e3, r4, Sf _ _ _ _ (fx.trans f4) S2, GoodS.fr (fx.trans f4) g2⟩
          | bk => exact fun O3 σ4 H3 r4 f4 => g2 O3 σ4 H3 r4 (fx.trans f4)
          | rt d => exact fun O3 σ4 v H3 r4 f4 => g2 O3 σ4 v H3 r4 (fx.trans f4)
          | rf xs => exact fun O3 σ4 p vs H3 r4 f4 => g2 O3 σ4 p vs H3 r4 (fx.trans f4)
    · have ei : i = ds.length := by omega
      subst ei
      rw [List.drop_length] at g2
      exact .inl ⟨Sst O' H2 S2, g2 O' σ2 H2 r2 FrS.refl⟩
def mWhile (c : M Bool) (b : M Out) : Nat → M Out
  | 0 => fun _ => .bad
  | n + 1 => fun e => match c e with
    | .ok false e1 => .ok .nx e1
    | .ok true e1 => match b e1 with
      | .ok .nx e2 => mWhile c b n e2
      | .ok .ct e2 => mWhile c b n e2
      | .ok .bk e2 => .ok .nx e2
      | r => r
    | .ex x e1 => .ex x e1
    | .bad => .bad
theorem sx_while {tc : TT} {tb : TS} {c : M Bool} {b : M Out} (n : Nat) (hc : ET K E tc c) (hb : SX K E tb b) : SX K E (tWhile tc tb) (mWhile c b n) := fun γ O H σ e Dn r gd => by
  refine ⟨fun m σ H => ∃ O' e', Rel K γ O' H σ e' ∧ GoodS K γ O' H E Dn (mWhile c b m e'), ⟨n, O, e, r, gd⟩, ?_⟩
  rintro m σ2 H2 ⟨O', e', r2, g2⟩
  cases m with
  | zero => exact g2.elim
  | succ m =>
    unfold mWhile at g2
    try dsimp only at g2
    refine hc γ O' H2 σ2 e' _ r2 ?_
    cases qc : c e' with
    | bad => rw [qc] at g2; exact g2
    | ex x e1 =>
      rw [qc] at g2
      cases x with
      | ins C fs => exact fun dx fv H' r1 f1 q1 q2 => g2 O' σ2 dx fv H' r1 f1.s q1 q2
      | _ => exact g2
    | ok k e1 =>
      rw [qc] at g2
      intro k' H3 r3 f3 ek
      have ek : k' = k := ek
      subst ek
      cases k' with
      | false => exact g2 O' σ2 H3 r3 f3.s
      | true =>
        refine ⟨fun σ' H' => ∃ O'' e'', Rel K γ O'' H' σ' e'' ∧ GoodS K γ O'' H' E Dn (mWhile c b m e''), fun σ' H' ⟨O'', e'', a1, a2⟩ => ⟨m, Nat.lt_succ_self _, O'', e'', a1, a2⟩, ?_⟩
        refine hb γ O' H3 σ2 e1 _ r3 ?_
        try dsimp only at g2
        cases qb : b e1 with
        | bad => rw [qb] at g2; exact g2
        | ex x3 e3 =>
          rw [qb] at g2
          cases x3 with
          | ins C fs => exact fun O3 σ4 dx fv H3 r4 f4 => g2 O3 σ4 dx fv H3 r4 (f3.s.trans f4)
          | _ => exact g2
        | ok o e3 =>
          rw [qb] at g2
          cases o with
          | nx => exact fun O3 σ4 H3 r4 f4 => ⟨O3, e3, r4, GoodS.fr (f3.s.trans f4) g2⟩
          | ct => exact fun O3 σ4 H3 r4 f4 => ⟨O3, e3, r4, GoodS.fr (f3.s.trans f4) g2⟩
          | bk => exact fun O3 σ4 H3 r4 f4 => g2 O3 σ4 H3 r4 (f3.s.trans f4)
          | rt d => exact fun O3 σ4 v H3 r4 f4 => g2 O3 σ4 v H3 r4 (f3.s.trans f4)
          | rf xs => exact fun O3 σ4 p vs H3 r4 f4 => g2 O3 σ4 p vs H3 r4 (f3.s.trans f4)
end
end Mir

set_option Elab.async false
set_option linter.all false
set_option maxRecDepth 100000
set_option maxHeartbeats 4000000
namespace Mir
open PySem L2

def ewipe (e : Env) : List Nat → Env
  | [] => e
  | v :: vs => (ewipe e vs).set v none
/-- the ghosts while a list is being made at Dd -/
def Gh.at (γ : Gh) (Dd : Addr) (vs : List V) : Gh := ⟨fun q => if q = Dd then some (.lst vs) else γ.hp q, Dd :: γ.B, γ.A⟩
section
variable {K : PySem.W.Frag} {E : XS} {γ : Gh} {O : List Addr} {H : Hp} {σ : L2.St} {e : Env} {Dd : Addr} {accV : List V}
theorem Rel.wipe (r : Rel K γ O H σ e) : ∀ vs : List Nat, Rel K γ O H (L2.wipe σ vs) (ewipe e vs)
  | [] => r
  | v :: vs => (Rel.wipe r vs).drop none
theorem ewipe_out {e : Env} : ∀ {vs : List Nat} {i : Nat} {s : Sl}, (ewipe e vs)[i]? = some (some s) → e[i]? = some (some s) ∧ i ∉ vs
  | [], i, s, h => ⟨h, by simp⟩
  | v :: vs, i, s, h => by
    unfold ewipe at h
    by_cases hv : v = i
    · subst hv
      by_cases hl : v < (ewipe e vs).length
      · rw [List.getElem?_set_self hl] at h; cases h
      · rw [List.getElem?_eq_none (by rw [List.length_set]; omega)] at h; cases h
    · rw [List.getElem?_set_ne hv] at h
      obtain ⟨h1, h2⟩ := ewipe_out h
      exact ⟨h1, by simp only [List.mem_cons, not_or]; exact ⟨fun z => hv z.symm, h2⟩⟩
theorem Rel.unwipe {vs : List Nat} (r : Rel K γ O H (L2.wipe σ vs) e) : Rel K γ O H σ e where
  bo := r.bo
  live := r.live
  gs := r.gs
  len := by rw [← r.len, wipe_length]
  sl := fun i s h => by
    obtain ⟨v, h1, h2⟩ := r.sl i s h
    exact ⟨v, (wipe_some h1).1, h2⟩
  dj := fun a b xs ys v ha hb va vb => by
    obtain ⟨v1, h1, _⟩ := r.sl _ _ ha
    obtain ⟨v2, h2, _⟩ := r.sl _ _ hb
    have z1 := (wipe_some h1).1
    have z2 := (wipe_some h2).1
    rw [va] at z1; rw [vb] at z2
    cases z1; cases z2
    exact r.dj a b xs ys v ha hb h1 h2
  ij := r.ij
theorem wipe_wipe : ∀ vs : List Nat, L2.wipe (L2.wipe σ vs) vs = L2.wipe σ vs := by
  have key : ∀ us vs : List Nat, (∀ i ∈ us, i ∈ vs) → L2.wipe (L2.wipe σ us) vs = L2.wipe σ vs := by
    intro us
    induction us with
    | nil => intro vs _; rfl
    | cons u us ih =>
      intro vs h
      show L2.wipe ((L2.wipe σ us).set u none) vs = _
      rw [wipe_in (h u List.mem_cons_self), ih vs fun i hi => h i (List.mem_cons_of_mem _ hi)]
  exact fun vs => key vs vs fun i hi => hi
theorem Rel.watch (r0 : Rel K γ O H σ e) {H' : Hp} (hO : Dd ∉ O) (r : Rel K γ (Dd :: O) H' σ e) (hD : H' Dd = some (.lst accV)) : Rel K (γ.at Dd accV) (Dd :: O) H' σ e where
  bo := fun q hq => by
    rcases List.mem_cons.mp hq with z | z
    · rw [z]; exact List.mem_cons_self
    · exact List.mem_cons_of_mem _ (r0.bo q z)
  live := r.live
  gs := fun q o h => by
    have h : (if q = Dd then some (HO.lst accV) else γ.hp q) = some o := h
    by_cases z : q = Dd
    · rw [if_pos z] at h; cases h; rw [z]; exact ⟨List.mem_cons_self, hD⟩
    · rw [if_neg z] at h
      obtain ⟨h1, h2⟩ := r.gs q o h
      exact ⟨List.mem_cons_of_mem _ h1, h2⟩
  len := r.len
  sl := fun i s h => by
    obtain ⟨v, h1, h2⟩ := r.sl i s h
    refine ⟨v, h1, ?_⟩
    cases s with
    | st u => exact h2
    | d x => exact h2
    | ol xs =>
      obtain ⟨p, vs, g1, g2, g3, g4, g5⟩ := h2
      obtain ⟨v', h1', p', vs', k1, k2, k3, _⟩ := r0.sl i _ h
      rw [h1] at h1'; cases h1'; subst g1; cases k1
      exact ⟨p, vs, rfl, g2, by show p ∉ Dd :: γ.B; simp only [List.mem_cons, not_or]; exact ⟨fun z => hO (by rw [← z]; exact k2), g3⟩, g4, g5⟩
    | io xs =>
      obtain ⟨vs, g1, g2, g3, g4, g5⟩ := h2
      refine ⟨vs, g1, List.mem_cons_of_mem _ g2, ?_, g4, g5⟩
      show (if γ.A i = Dd then some (HO.lst accV) else γ.hp (γ.A i)) = none
      rw [if_neg (fun z => hO (by rw [← z]; exact r0.bo _ g2))]
      exact g3
  dj := r.dj
  ij := r.ij
theorem Rel.rewatch {vs : List V} (r : Rel K (γ.at Dd accV) (Dd :: O) H σ e) : Rel K (γ.at Dd vs) (Dd :: O) (upd H Dd (.lst vs)) σ e where
  bo := r.bo
  live := fun q hq => by
    by_cases z : q = Dd
    · rw [z, upd_same]; intro x; cases x
    · rw [upd_ne z]; exact r.live q hq
  gs := fun q o h => by
    have h : (if q = Dd then some (HO.lst vs) else γ.hp q) = some o := h
    by_cases z : q = Dd
    · rw [if_pos z] at h; cases h; rw [z]; exact ⟨List.mem_cons_self, upd_same⟩
    · rw [if_neg z] at h
      obtain ⟨h1, h2⟩ := r.gs q o (show (if q = Dd then some (HO.lst accV) else γ.hp q) = some o by rw [if_neg z]; exact h)
      exact ⟨h1, by rw [upd_ne z]; exact h2⟩
  len := r.len
  sl := fun i s h => by
    obtain ⟨v, h1, h2⟩ := r.sl i s h
    have mk : msk (Dd :: O) (upd H Dd (.lst vs)) = msk (Dd :: O) H := msk_upd List.mem_cons_self
    refine ⟨v, h1, ?_⟩
    cases s with
    | st u => exact h2
    | d x => show DD K (msk _ _) v x; rw [mk]; exact h2
    | ol xs =>
      obtain ⟨p, us, g1, g2, g3, g4, g5⟩ := h2
      have g3' : p ∉ Dd :: γ.B := g3
      simp only [List.mem_cons, not_or] at g3'
      exact ⟨p, us, g1, g2, g3, by rw [upd_ne g3'.1]; exact g4, by rw [mk]; exact g5⟩
    | io xs =>
      obtain ⟨us, g1, g2, g3, g4, g5⟩ := h2
      have g3' : (if γ.A i = Dd then some (HO.lst accV) else γ.hp (γ.A i)) = none := g3
      have ne : γ.A i ≠ Dd := fun z => by rw [if_pos z] at g3'; cases g3'
      rw [if_neg ne] at g3'
      refine ⟨us, g1, g2, ?_, by show upd H Dd _ (γ.A i) = _; rw [upd_ne ne]; exact g4, by rw [mk]; exact g5⟩
      show (if γ.A i = Dd then some (HO.lst vs) else γ.hp (γ.A i)) = none
      rw [if_neg ne]; exact g3'
  dj := r.dj
  ij := r.ij
theorem Rel.unwatch (hO : Dd ∉ O) (b0 : ∀ q ∈ γ.B, q ∈ O) (g0 : ∀ q o, γ.hp q = some o → q ∈ γ.B) (r : Rel K (γ.at Dd accV) (Dd :: O) H σ e) : Rel K γ (Dd :: O) H σ e ∧ Rel K γ O H σ e := by
  have hpD : ∀ q o, γ.hp q = some o → q ≠ Dd := fun q o h z => hO (by rw [← z]; exact b0 q (g0 q o h))
  have gs : ∀ q o, γ.hp q = some o → q ∈ γ.B ∧ H q = some o := fun q o h =>
    ⟨g0 q o h, (r.gs q o (show (if q = Dd then some (HO.lst accV) else γ.hp q) = some o by rw [if_neg (hpD q o h)]; exact h)).2⟩
  have io : ∀ i, (if γ.A i = Dd then some (HO.lst accV) else γ.hp (γ.A i)) = none → γ.A i ≠ Dd ∧ γ.hp (γ.A i) = none := fun i h => by
    by_cases z : γ.A i = Dd
    · rw [if_pos z] at h; cases h
    · rw [if_neg z] at h; exact ⟨z, h⟩
  have sub : Ex (msk (Dd :: O) H) (msk O H) := msk_sub fun q hq => List.mem_cons_of_mem _ hq
  refine ⟨⟨fun q hq => List.mem_cons_of_mem _ (b0 q hq), r.live, gs, r.len, fun i s h => ?_, r.dj, r.ij⟩, ⟨b0, fun q hq => r.live q (List.mem_cons_of_mem _ hq), gs, r.len, fun i s h => ?_, r.dj, r.ij⟩⟩
  all_goals
    obtain ⟨v, h1, h2⟩ := r.sl i s h
    refine ⟨v, h1, ?_⟩
  · cases s with
    | st u => exact h2
    | d x => exact h2
    | ol xs =>
      obtain ⟨p, us, g1, g2, g3, g4, g5⟩ := h2
      exact ⟨p, us, g1, g2, fun z => g3 (List.mem_cons_of_mem _ z), g4, g5⟩
    | io xs =>
      obtain ⟨us, g1, g2, g3, g4, g5⟩ := h2
      obtain ⟨n1, n2⟩ := io i g3
      exact ⟨us, g1, (List.mem_cons.mp g2).resolve_left n1, n2, g4, g5⟩
  · cases s with
    | st u => exact h2
    | d x => exact DD.mono sub h2
    | ol xs =>
      obtain ⟨p, us, g1, g2, g3, g4, g5⟩ := h2
      have ne : p ≠ Dd := fun z => g3 (by rw [z]; exact List.mem_cons_self)
      exact ⟨p, us, g1, (List.mem_cons.mp g2).resolve_left ne, fun z => g3 (List.mem_cons_of_mem _ z), g4, g5.mono sub⟩
    | io xs =>
      obtain ⟨us, g1, g2, g3, g4, g5⟩ := h2
      obtain ⟨n1, n2⟩ := io i g3
      exact ⟨us, g1, (List.mem_cons.mp g2).resolve_left n1, n2, g4, g5.mono sub⟩

abbrev E0S : XS := fun _ => E0
def tYesM : M Bool := M.ret true
theorem et_yes {E : XS} : ET K E tYes tYesM := fun γ O H σ e Q r g => g true H r (Fr.refl _ _) rfl
def mComp (s : D → Env → Option Env) (t : M Bool) (x : M D) (vs : List Nat) : List D → List D → M (List D)
  | acc, [] => M.ret acc
  | acc, d :: ds => fun e => match s d e with
    | none => .bad
    | some e1 => match t e1 with
      | .ok false e2 => mComp s t x vs acc ds (ewipe e2 vs)
      | .ok true e2 => match x e2 with
        | .ok y e3 => if mLine (acc.length + 1) = true then mComp s t x vs (acc ++ [y]) ds (ewipe e3 vs) else .bad
        | _ => .bad
      | _ => .bad
def mLc (w : M (List D)) (s : D → Env → Option Env) (t : M Bool) (x : M D) (vs : List Nat) : M (List D) := w >>= fun ds => fun e => mComp s t x vs [] ds (ewipe e vs)
theorem ef_lc {wi : TI} {g : TG} {tt : TT} {te : TE} {vs L : List Nat} {w : M (List D)} {s : D → Env → Option Env} {t : M Bool} {x : M D} (hw : JW K E wi w) (hg : GX K g L s) (hL : ∀ i ∈ L, i ∈ vs) (ht : ET K E0S tt t) (hx : EX K E0S te x) :
    EF K E (tLc wi g tt te vs) (mLc w s t x vs) := fun γ O H σ e Q r gd => by
  refine hw γ O H σ e _ r ?_
  unfold mLc at gd
  change GoodF K γ O H σ E Q (M.andThen w (fun ds => fun e => mComp s t x vs [] ds (ewipe e vs)) e) at gd
  unfold M.andThen at gd
  cases q : w e with
  | bad => rw [q] at gd; exact gd
  | ex x e' => rw [q] at gd; exact gd
  | ok ds e1 =>
    rw [q] at gd
    intro Jt H1 r1 f1 it Dd hDd
    obtain ⟨S, S0, Sf, Sgo, Sst⟩ := it
    have hO : Dd ∉ O := r1.out hDd
    have hm : msk O H1 Dd = none := by rw [msk_out hO]; exact hDd
    have nex : Ex H1 (upd H1 Dd (.lst [])) := Evl.Ex.new hDd
    have fs0 : FrS O H1 (Dd :: O) (upd H1 Dd (.lst [])) := msk_cons_ex hm (msk_mono nex)
    have rm : Rel K γ (Dd :: O) (upd H1 Dd (.lst [])) σ e1 := r1.more (e' := e1) hDd nex (by rw [upd_same]; intro z; cases z)
    have rw0 : Rel K (γ.at Dd []) (Dd :: O) (upd H1 Dd (.lst [])) (L2.wipe σ vs) (ewipe e1 vs) := (r1.watch hO rm upd_same).wipe vs
    refine ⟨fun i m H => m = ds.length - i ∧ i ≤ ds.length ∧ ∃ e' accV acc, Rel K (γ.at Dd accV) (Dd :: O) H (L2.wipe σ vs) e' ∧ DDs K (msk (Dd :: O) H) accV acc ∧ S (Dd :: O) H ∧ FrS O H1 (Dd :: O) H ∧ GoodF K γ O H1 σ E Q (mComp s t x vs acc (ds.drop i) e'),
      ⟨ds.length, by simp, Nat.zero_le _, ewipe e1 vs, [], [], rw0, .nil, Sf _ _ _ _ fs0 S0, fs0, GoodF.fr f1 (by rw [List.drop_zero]; exact gd)⟩, ?_⟩
    rintro i m H2 ⟨rfl, hi, e2, accV, acc, r2, ra, S2, fs, g2⟩
    by_cases hlt : i < ds.length
    · have hd : ds[i]? = some ds[i] := List.getElem?_eq_getElem hlt
      obtain ⟨go, yl⟩ := Sgo (Dd :: O) H2 i _ r2.live S2 hd
      refine .inr ⟨go, fun H' => ∃ e' accV acc, Rel K (γ.at Dd accV) (Dd :: O) H' (L2.wipe σ vs) e' ∧ DDs K (msk (Dd :: O) H') accV acc ∧ S (Dd :: O) H' ∧ FrS O H1 (Dd :: O) H' ∧ GoodF K γ O H1 σ E Q (mComp s t x vs acc (ds.drop (i + 1)) e'),
        fun H' ⟨e', accV, acc, a⟩ => ⟨ds.length - (i + 1), by omega, rfl, hlt, e', accV, acc, a⟩, fun v H' y => ?_⟩
      obtain ⟨ex, td⟩ := yl v H' y
      rw [List.drop_eq_getElem_cons hlt] at g2
      unfold mComp at g2
      try dsimp only at g2
      have fx : FrS (Dd :: O) H2 (Dd :: O) H' := msk_mono ex
      cases qs : s ds[i] e2 with
      | none => rw [qs] at g2; exact g2.elim
      | some e3 =>
        rw [qs] at g2
        try dsimp only at g2
        refine hg (γ.at Dd accV) (Dd :: O) H' (L2.wipe σ vs) e2 v _ e3 _ (r2.ext ex) td qs fun σ3 r3 w3 => ?_
        have hw3 : L2.wipe σ3 vs = L2.wipe σ vs := (w3 vs hL).trans (wipe_wipe vs)
        refine ⟨hw3, ht (γ.at Dd accV) (Dd :: O) H' σ3 e3 _ r3 ?_⟩
        cases qt : t e3 with
        | bad => rw [qt] at g2; exact g2.elim
        | ex _ _ => rw [qt] at g2; exact g2.elim
        | ok b e4 =>
          rw [qt] at g2
          try dsimp only at g2
          intro b' H3 r4 f4 eb
          have eb : b' = b := eb
          subst eb
          cases b' with
          | false =>
            refine ⟨ewipe e4 vs, accV, acc, ?_, ra.mono (fx.trans f4.s), Sf _ _ _ _ (fx.trans f4.s) S2, fs.trans (fx.trans f4.s), g2⟩
            rw [← hw3]; exact r4.wipe vs
          | true =>
            refine hx (γ.at Dd accV) (Dd :: O) H3 σ3 e4 _ r4 ?_
            try dsimp only at g2
            cases qx : x e4 with
            | bad => rw [qx] at g2; exact g2.elim
            | ex _ _ => rw [qx] at g2; exact g2.elim
            | ok yd e5 =>
              rw [qx] at g2
              try dsimp only at g2
              by_cases hl : mLine (acc.length + 1) = true
              · rw [if_pos hl] at g2
                intro y H4 r5 f5 ty
                have hD4 : H4 Dd = some (.lst accV) := (r5.gs Dd _ (show (if Dd = Dd then some (HO.lst accV) else γ.hp Dd) = _ from if_pos rfl)).2
                have al : FrS (Dd :: O) H2 (Dd :: O) H4 := (fx.trans f4.s).trans f5.s
                have mk : msk (Dd :: O) (upd H4 Dd (.lst (accV ++ [y]))) = msk (Dd :: O) H4 := msk_upd List.mem_cons_self
                have fz : FrS (Dd :: O) H4 (Dd :: O) (upd H4 Dd (.lst (accV ++ [y]))) := fun a o h => by rw [mk]; exact h
                have ra4 : DDs K (msk (Dd :: O) H4) (accV ++ [y]) (acc ++ [yd]) := (ra.mono al).append (.cons ty .nil)
                refine ⟨accV, hD4, ?_, ewipe e5 vs, accV ++ [y], acc ++ [yd], ?_, by rw [mk]; exact ra4, Sf _ _ _ _ (al.trans fz) S2, fs.trans (al.trans fz), g2⟩
                · have := mLine_ok hl
                  rw [← ra.length] at this
                  omega
                · have r6 := r5.wipe vs
                  rw [hw3] at r6
                  exact r6.rewatch
              · rw [if_neg hl] at g2; exact g2.elim
    · have ei : i = ds.length := by omega
      subst ei
      rw [List.drop_length] at g2
      have hD2 : H2 Dd = some (.lst accV) := (r2.gs Dd _ (show (if Dd = Dd then some (HO.lst accV) else γ.hp Dd) = _ from if_pos rfl)).2
      obtain ⟨u1, u2⟩ := Rel.unwatch hO r1.bo (fun q o h => (r1.gs q o h).1) r2
      exact .inl ⟨Sst _ H2 S2, g2 Dd accV H2 hO u2.unwipe u1.unwipe fs (fs.trans (msk_sub fun q hq => List.mem_cons_of_mem _ hq)) hD2 ra⟩
end

def startE (n : Nat) (as : List Sl) : Env := as.map some ++ List.replicate (n - as.length) none
/-- a def's promise, by its body b as a function of environments; n names in all -/
def spM (K : PySem.W.Frag) (N : List Str) (np : Nat) (b : M Out) : Sp := fun vs H Q E => ∃ γ O as, vs.length = np ∧ vs.length = as.length ∧ γ.B = O ∧ Rel K γ O H (start N vs) (startE N.length as) ∧
  GoodS K γ O H (fun _ => E) { nx := fun _ H' => Q .non H', rt := Q } (b (startE N.length as))
theorem spM_len {K : PySem.W.Frag} {N ps : List Str} {b : M Out} (vs : List V) (H : Hp) (Q : VK) (E : XK) (h : spM K N ps.length b vs H Q E) : vs.length = ps.length := by
  obtain ⟨γ, O, as, h1, _⟩ := h
  exact h1
section
variable {K : PySem.W.Frag} {E : XS} {γ : Gh} {O : List Addr} {H : Hp} {σ : L2.St} {e : Env}
/-- what a caller gets of a callee's end -/
def runD (b : M Out) (n : Nat) (as : List Sl) : R D := match b (startE n as) with
  | .ok .nx e => .ok .non e
  | .ok (.rt d) e => .ok d e
  | .ok (.rf xs) e => .ok (.lst xs) e
  | .ex x e => .ex x e
  | _ => .bad
def back (e : Env) : R D → R D
  | .ok d _ => .ok d e
  | .ex x _ => .ex x e
  | .bad => .bad
def mCall (b : M Out) (n np : Nat) (a : M (List D)) : M D := a >>= fun ds => fun e => if ds.length = np then back e (runD b n (ds.map .d)) else .bad
theorem start_get {N : List Str} {vs : List V} {i : Nat} {v : V} (h : vs[i]? = some v) : (start N vs)[i]? = some (some v) := by
  unfold L2.start
  have hi : i < vs.length := (List.getElem?_eq_some_iff.mp h).1
  rw [List.getElem?_append_left (by rw [List.length_map]; exact hi), List.getElem?_map, h]
  rfl
theorem startE_get {n : Nat} {as : List Sl} {i : Nat} {s : Sl} (h : (startE n as)[i]? = some (some s)) : as[i]? = some s := by
  unfold startE at h
  by_cases hi : i < as.length
  · rw [List.getElem?_append_left (by rw [List.length_map]; exact hi), List.getElem?_map] at h
    cases q : as[i]? with
    | none => rw [q] at h; cases h
    | some x => rw [q] at h; cases h; rfl
  · rw [List.getElem?_append_right (by rw [List.length_map]; omega), List.getElem?_replicate] at h
    split at h <;> cases h
theorem start_len {N : List Str} {vs : List V} {as : List Sl} (h : vs.length = as.length) : (start N vs).length = (startE N.length as).length := by
  unfold L2.start startE
  rw [List.length_append, List.length_append, List.length_map, List.length_map, List.length_replicate, List.length_replicate, h]
/-- the callee's start, all its arguments data -/
theorem Rel.callee {N : List Str} {vs : List V} {ds : List D} (r : Rel K γ O H σ e) (t : DDs K (msk O H) vs ds) :
    Rel K ⟨fun q => if q ∈ O then H q else none, O, fun _ => 0⟩ O H (start N vs) (startE N.length (ds.map .d)) where
  bo := fun q h => h
  live := r.live
  gs := fun q o h => by
    have h : (if q ∈ O then H q else none) = some o := h
    by_cases z : q ∈ O
    · rw [if_pos z] at h; exact ⟨z, h⟩
    · rw [if_neg z] at h; cases h
  len := start_len (by rw [List.length_map]; exact t.length)
  sl := fun i s h => by
    have h := startE_get h
    rw [List.getElem?_map] at h
    cases q : ds[i]? with
    | none => rw [q] at h; cases h
    | some d =>
      rw [q] at h; cases h
      obtain ⟨v, hv, td⟩ := t.get q
      exact ⟨v, start_get hv, td⟩
  dj := fun a b xs ys v ha hb _ _ => by
    have h := startE_get ha
    rw [List.getElem?_map] at h
    cases q : ds[a]? with
    | none => rw [q] at h; cases h
    | some d => rw [q] at h; cases h
  ij := fun a b xs ys ha hb _ => by
    have h := startE_get ha
    rw [List.getElem?_map] at h
    cases q : ds[a]? with
    | none => rw [q] at h; cases h
    | some d => rw [q] at h; cases h
/-- behind a call that touches nothing of the caller's own -/
theorem Rel.after {H2 : Hp} (r : Rel K γ O H σ e) (k : ∀ q ∈ O, H2 q = H q) (f : Fr O H H2) : Rel K γ O H2 σ e where
  bo := r.bo
  live := fun q hq => by rw [k q hq]; exact r.live q hq
  gs := fun q o h => ⟨(r.gs q o h).1, by rw [k q (r.bo q (r.gs q o h).1)]; exact (r.gs q o h).2⟩
  len := r.len
  sl := fun i s h => by
    obtain ⟨v, h1, h2⟩ := r.sl i s h
    refine ⟨v, h1, ?_⟩
    cases s with
    | st u => exact h2
    | d x => exact DD.mono f h2
    | ol xs =>
      obtain ⟨p, us, g1, g2, g3, g4, g5⟩ := h2
      exact ⟨p, us, g1, g2, g3, by rw [k p g2]; exact g4, g5.mono f⟩
    | io xs =>
      obtain ⟨us, g1, g2, g3, g4, g5⟩ := h2
      exact ⟨us, g1, g2, g3, by rw [k _ (r.bo _ g2)]; exact g4, g5.mono f⟩
  dj := r.dj
  ij := r.ij
/-- the callee's end as the caller sees it -/
theorem callee_end {γ' : Gh} {O' : List Addr} {H' : Hp} {σ' : L2.St} {e' : Env} (hB : γ'.B = O) (hg : ∀ q ∈ O, γ'.hp q = H q) (l : ∀ q ∈ O, H q ≠ none) (r : Rel K γ' O' H' σ' e') (f : FrS O H O' H') : (∀ q ∈ O, H' q = H q) ∧ Fr O H H' ∧ Ex (msk O' H') (msk O H') := by
  have sub : ∀ q ∈ O, q ∈ O' := fun q hq => r.bo q (by rw [hB]; exact hq)
  have sx : Ex (msk O' H') (msk O H') := msk_sub sub
  refine ⟨fun q hq => ?_, fun a o h => sx a o (f a o h), sx⟩
  cases z : H q with
  | none => exact absurd z (l q hq)
  | some o => exact (r.gs q o (by rw [hg q hq]; exact z)).2
theorem ex_call {N : List Str} {np : Nat} {b : M Out} {Ek : XK} {ta : TA} {a : M (List D)} (hE : ∀ σ, E σ = Ek) (h : EA K E ta a) : EX K E (tCall (spM K N np b) [] Ek ta) (mCall b N.length np a) := fun γ O H σ e Q r g => by
  refine h γ O H σ e _ r ?_
  unfold mCall at g
  change Good K γ O H σ E _ Q (M.andThen a _ e) at g
  unfold M.andThen at g
  cases q : a e with
  | bad => rw [q] at g; exact g
  | ex x e' => rw [q] at g; exact g
  | ok ds e1 =>
    rw [q] at g
    intro vs H1 r1 f1 t
    rw [List.append_nil]
    try dsimp only at g
    by_cases nl : ds.length = np
    · rw [if_pos nl] at g
      refine ⟨_, O, ds.map .d, by rw [t.length]; exact nl, by rw [List.length_map]; exact t.length, rfl, r1.callee t, ?_⟩
      unfold runD at g
      have fin := fun {O' : List Addr} {H' : Hp} {σ' : L2.St} {e' : Env} (rr : Rel K ⟨fun q => if q ∈ O then H1 q else none, O, fun _ => 0⟩ O' H' σ' e') (ff : FrS O H1 O' H') => callee_end (O := O) (H := H1) rfl (fun q hq => if_pos hq) r1.live rr ff
      cases qb : b (startE N.length (ds.map .d)) with
      | bad => rw [qb] at g; exact g.elim
      | ex x e2 =>
        rw [qb] at g
        cases x with
        | ins C fs =>
          intro O' σ' dx fv H' rr ff hx tf
          obtain ⟨k1, k2, k3⟩ := fin rr ff
          have := g dx fv H' (r1.after k1 k2) (f1.trans k2) (k3 _ _ hx) (tf.mono k3)
          rw [hE] at this
          exact this
        | _ => exact g.elim
      | ok o e2 =>
        rw [qb] at g
        cases o with
        | nx =>
          intro O' σ' H' rr ff
          obtain ⟨k1, k2, k3⟩ := fin rr ff
          exact g .non H' (r1.after k1 k2) (f1.trans k2) .non
        | rt d =>
          intro O' σ' v H' rr ff td
          obtain ⟨k1, k2, k3⟩ := fin rr ff
          exact g v H' (r1.after k1 k2) (f1.trans k2) (td.mono k3)
        | rf xs =>
          intro O' σ' p vs' H' rr ff pO pB hp td
          obtain ⟨k1, k2, k3⟩ := fin rr ff
          have pO' : p ∉ O := pB
          exact g (.ref p) H' (r1.after k1 k2) (f1.trans k2) (.lst (by rw [msk_out pO']; exact hp) (td.mono k3))
        | bk => exact g.elim
        | ct => exact g.elim
    · rw [if_neg nl] at g; exact g.elim
/-- a slot's own list, behind a call that was given it -/
theorem Rel.after_io {H2 : Hp} {i : Nat} {p : Addr} {vs' : List V} {xs ys : List D} (r : Rel K γ O H σ e) (hv : σ[i]? = some (some (.ref p))) (k : ∀ q ∈ O, q ≠ p → H2 q = H q) (f : Fr O H H2) (hp : H2 p = some (.lst vs')) (t : DDs K (msk O H2) vs' ys) :
    (e[i]? = some (some (Sl.ol xs)) → Rel K γ O H2 σ (e.set i (some (.ol ys)))) ∧ (e[i]? = some (some (Sl.io xs)) → Rel K γ O H2 σ (e.set i (some (.io ys)))) := by
  have main : ∀ us, p ∈ O → H p = some (.lst us) → Rel K γ O (upd H2 p (.lst us)) σ e := fun us pO h0 => by
    refine r.after (fun q hq => ?_) fun a o h => ?_
    · by_cases z : q = p
      · rw [z, upd_same, h0]
      · rw [upd_ne z]; exact k q hq z
    · rw [msk_upd pO]; exact f a o h
  have mk2 : ∀ us : List V, upd (upd H2 p (.lst us)) p (.lst vs') = H2 := fun us => by
    funext a
    by_cases z : a = p
    · rw [z, upd_same, hp]
    · rw [upd_ne z, upd_ne z]
  refine ⟨fun hx => ?_, fun hx => ?_⟩
  · obtain ⟨w, w1, p', us, e1, pO, pB, h0, _⟩ := r.sl _ _ hx
    rw [hv] at w1; cases w1; cases e1
    have := (Rel.updO (vs := vs') (ys := ys) (main us pO h0) hx hv (by rw [msk_upd pO]; exact t)).1
    rwa [mk2] at this
  · obtain ⟨w, w1, us, e1, pB, pn, h0, _⟩ := r.sl _ _ hx
    rw [hv] at w1; cases w1
    cases e1
    have pO := r.bo _ pB
    have := (Rel.updI (vs := vs') (ys := ys) (main us pO h0) hx hv (by rw [msk_upd pO]; exact t)).1
    rwa [mk2] at this
/-- the callee's start, its first argument a given list -/
theorem Rel.callee_io {N : List Str} {vs us : List V} {ds xs : List D} {p : Addr} {G : Hp} (bl : ∀ q ∈ O, H q ≠ none) (pO : p ∈ O) (hp : H p = some (.lst us)) (tx : DDs K (msk O H) us xs) (t : DDs K (msk O H) vs ds)
    (hG : ∀ q o, G q = some o → q ∈ O ∧ H q = some o) (hGp : G p = none) : Rel K ⟨G, O, fun _ => p⟩ O H (start N (.ref p :: vs)) (startE N.length (.io xs :: ds.map .d)) where
  bo := fun q h => h
  live := bl
  gs := hG
  len := start_len (by rw [List.length_cons, List.length_cons, List.length_map]; exact congrArg (· + 1) t.length)
  sl := fun i s h => by
    have h := startE_get h
    cases i with
    | zero =>
      simp at h; subst h
      exact ⟨.ref p, start_get rfl, us, rfl, pO, hGp, hp, tx⟩
    | succ i =>
      have h : (ds.map Sl.d)[i]? = some s := by simpa using h
      rw [List.getElem?_map] at h
      cases q : ds[i]? with
      | none => rw [q] at h; cases h
      | some d =>
        rw [q] at h; cases h
        obtain ⟨v, hv, td⟩ := t.get q
        exact ⟨v, start_get (by simpa using hv), td⟩
  dj := fun a b ys zs v ha hb _ _ => by
    have h := startE_get ha
    cases a with
    | zero => simp at h
    | succ i =>
      have h : (ds.map Sl.d)[i]? = some (.ol ys) := by simpa using h
      rw [List.getElem?_map] at h
      cases q : ds[i]? with
      | none => rw [q] at h; cases h
      | some d => rw [q] at h; cases h
  ij := fun a b ys zs ha hb _ => by
    have key : ∀ (c : Nat) (us : List D), (startE N.length (.io xs :: ds.map .d))[c]? = some (some (Sl.io us)) → c = 0 := fun c us hc => by
      have h := startE_get hc
      cases c with
      | zero => rfl
      | succ i =>
        have h : (ds.map Sl.d)[i]? = some (.io us) := by simpa using h
        rw [List.getElem?_map] at h
        cases q : ds[i]? with
        | none => rw [q] at h; cases h
        | some d => rw [q] at h; cases h
    rw [key a _ ha, key b _ hb]
def setSame (e : Env) (j : Nat) (ys : List D) : Env := match e[j]? with
  | some (some (.ol _)) => e.set j (some (.ol ys))
  | some (some (.io _)) => e.set j (some (.io ys))
  | _ => e
def ownAt (e : Env) (j : Nat) : Option (List D) := match e[j]? with
  | some (some (.ol xs)) => some xs
  | some (some (.io xs)) => some xs
  | _ => none
def ioAt (e : Env) : Option (List D) := match e[0]? with
  | some (some (Sl.io xs)) => some xs
  | _ => none
/-- what comes back, the given list changed -/
def backI (e : Env) (j : Nat) : R D → R D
  | .ok d e2 => match ioAt e2 with
    | some ys => .ok d (setSame e j ys)
    | none => .bad
  | .ex x e2 => match ioAt e2 with
    | some ys => .ex x (setSame e j ys)
    | none => .bad
  | .bad => .bad
def callI (b : M Out) (n np j : Nat) (ds : List D) : M D := fun e => match ownAt e j with
  | some xs => if ds.length + 1 = np then backI e j (runD b n (.io xs :: ds.map .d)) else .bad
  | none => .bad
def mCallI (b : M Out) (n np j : Nat) (a : M (List D)) : M D := fun e => match ownAt e j with
  | some _ => (a >>= callI b n np j) e
  | none => .bad
theorem ownAt_ok {j : Nat} {xs : List D} (r : Rel K γ O H σ e) (h : ownAt e j = some xs) : ∃ p us, σ[j]? = some (some (.ref p)) ∧ p ∈ O ∧ γ.hp p = none ∧ H p = some (.lst us) ∧ DDs K (msk O H) us xs ∧
    (e[j]? = some (some (Sl.ol xs)) ∨ e[j]? = some (some (Sl.io xs))) := by
  unfold ownAt at h
  split at h
  · rename_i hx; cases h
    obtain ⟨w, w1, p', us, e1, pO, pB, h0, t⟩ := r.sl _ _ hx
    subst e1
    refine ⟨p', us, w1, pO, ?_, h0, t, .inl hx⟩
    cases z : γ.hp p' with
    | none => rfl
    | some o => exact absurd (r.gs _ _ z).1 pB
  · rename_i hx; cases h
    obtain ⟨w, w1, us, e1, pB, pn, h0, t⟩ := r.sl _ _ hx
    subst e1
    exact ⟨_, us, w1, r.bo _ pB, pn, h0, t, .inr hx⟩
  · cases h
theorem setSame_ol {j : Nat} {xs ys : List D} (h : e[j]? = some (some (Sl.ol xs))) : setSame e j ys = e.set j (some (.ol ys)) := by
  unfold setSame; rw [h]
theorem setSame_io {j : Nat} {xs ys : List D} (h : e[j]? = some (some (Sl.io xs))) : setSame e j ys = e.set j (some (.io ys)) := by
  unfold setSame; rw [h]
theorem ioAt_ok {γ' : Gh} {p : Addr} {O' : List Addr} {H' : Hp} {σ' : L2.St} {e' : Env} {ys : List D} (hA : γ'.A = fun _ => p) (r : Rel K γ' O' H' σ' e') (h : ioAt e' = some ys) : ∃ us, H' p = some (.lst us) ∧ DDs K (msk O' H') us ys := by
  unfold ioAt at h
  split at h
  · rename_i hx; cases h
    obtain ⟨w, w1, us, e1, pB, pn, h0, t⟩ := r.sl _ _ hx
    rw [hA] at h0
    exact ⟨us, h0, t⟩
  · cases h
theorem ex_callI {N : List Str} {np j : Nat} {b : M Out} {Ek : XK} {ta : TA} {a : M (List D)} (hE : ∀ σ, E σ = Ek) (h : EA K E ta a) : EX K E (tCall (spM K N np b) [] Ek (tCons (tVar j) ta)) (mCallI b N.length np j a) := fun γ O H σ e Q r g => by
  unfold mCallI at g
  try dsimp only at g
  cases q0 : ownAt e j with
  | none => rw [q0] at g; exact g.elim
  | some xs0 =>
    rw [q0] at g
    obtain ⟨p, us0, hv, pO, pn, hp0, tx0, _⟩ := ownAt_ok r q0
    refine ⟨.ref p, hv, ?_⟩
    refine J.bind (te := ta) (T := TDs K) (T' := TD K) h r g fun ds e1 vs H1 r1 f1 t g1 => ?_
    show spM K N np b (.ref p :: vs ++ []) H1 Q Ek
    rw [List.append_nil]
    unfold callI at g1
    cases q1 : ownAt e1 j with
    | none => rw [q1] at g1; exact g1.elim
    | some xs =>
      rw [q1] at g1
      obtain ⟨p1, us, hv1, pO1, pn1, hp, tx, hk⟩ := ownAt_ok r1 q1
      rw [hv] at hv1
      obtain rfl : p = p1 := by cases hv1; rfl
      try dsimp only at g1
      by_cases nl : ds.length + 1 = np
      · rw [if_pos nl] at g1
        refine ⟨⟨fun q => if q ∈ O ∧ q ≠ p then H1 q else none, O, fun _ => p⟩, O, .io xs :: ds.map .d, by rw [List.length_cons, t.length]; exact nl, by rw [List.length_cons, List.length_cons, List.length_map, t.length], rfl,
          Rel.callee_io r1.live pO hp tx t (fun q o hq => ?_) (if_neg fun z => z.2 rfl), ?_⟩
        · by_cases z : q ∈ O ∧ q ≠ p
          · rw [if_pos z] at hq; exact ⟨z.1, hq⟩
          · rw [if_neg z] at hq; cases hq
        · unfold runD at g1
          have fin : ∀ {O' : List Addr} {H' : Hp} {σ' : L2.St} {e' : Env} {ys : List D}, Rel K ⟨fun q => if q ∈ O ∧ q ≠ p then H1 q else none, O, fun _ => p⟩ O' H' σ' e' → FrS O H1 O' H' → ioAt e' = some ys →
              Rel K γ O H' σ (setSame e1 j ys) ∧ Fr O H1 H' ∧ Ex (msk O' H') (msk O H') := fun {O' H' σ' e' ys} rr ff hy => by
            obtain ⟨vs', hpe, te⟩ := ioAt_ok rfl rr hy
            have sx : Ex (msk O' H') (msk O H') := msk_sub fun q hq => rr.bo q hq
            have fr : Fr O H1 H' := fun a o h => sx a o (ff a o h)
            have kk : ∀ q ∈ O, q ≠ p → H' q = H1 q := fun q hq hne => by
              cases z : H1 q with
              | none => exact absurd z (r1.live q hq)
              | some o => exact (rr.gs q o (by show (if q ∈ O ∧ q ≠ p then H1 q else none) = some o; rw [if_pos ⟨hq, hne⟩]; exact z)).2
            obtain ⟨w1, w2⟩ := Rel.after_io (xs := xs) (ys := ys) r1 hv kk fr hpe (te.mono sx)
            refine ⟨?_, fr, sx⟩
            rcases hk with hk | hk
            · rw [setSame_ol hk]; exact w1 hk
            · rw [setSame_io hk]; exact w2 hk
          cases qb : b (startE N.length (.io xs :: ds.map .d)) with
          | bad => rw [qb] at g1; exact g1.elim
          | ex x e2 =>
            rw [qb] at g1
            unfold backI at g1
            try dsimp only at g1
            cases qi : ioAt e2 with
            | none => rw [qi] at g1; exact g1.elim
            | some ys =>
              rw [qi] at g1
              cases x with
              | ins C fs =>
                intro O' σ' dx fv H' rr ff hx tf
                obtain ⟨k1, k2, k3⟩ := fin rr ff qi
                have := g1 dx fv H' k1 k2 (k3 _ _ hx) (tf.mono k3)
                rw [hE] at this
                exact this
              | _ => exact g1.elim
          | ok o e2 =>
            rw [qb] at g1
            cases o with
            | nx =>
              unfold backI at g1
              try dsimp only at g1
              cases qi : ioAt e2 with
              | none => rw [qi] at g1; exact g1.elim
              | some ys =>
                rw [qi] at g1
                intro O' σ' H' rr ff
                obtain ⟨k1, k2, k3⟩ := fin rr ff qi
                exact g1 .non H' k1 k2 .non
            | rt d =>
              unfold backI at g1
              try dsimp only at g1
              cases qi : ioAt e2 with
              | none => rw [qi] at g1; exact g1.elim
              | some ys =>
                rw [qi] at g1
                intro O' σ' v H' rr ff td
                obtain ⟨k1, k2, k3⟩ := fin rr ff qi
                exact g1 v H' k1 k2 (td.mono k3)
            | rf zs =>
              unfold backI at g1
              try dsimp only at g1
              cases qi : ioAt e2 with
              | none => rw [qi] at g1; exact g1.elim
              | some ys =>
                rw [qi] at g1
                intro O' σ' p' vs' H' rr ff pO' pB' hp' td
                obtain ⟨k1, k2, k3⟩ := fin rr ff qi
                have pOn : p' ∉ O := pB'
                exact g1 (.ref p') H' k1 k2 (.lst (by rw [msk_out pOn]; exact hp') (td.mono k3))
            | bk => exact g1.elim
            | ct => exact g1.elim
      · rw [if_neg nl] at g1; exact g1.elim
theorem Rel.after2 {p : Addr} {H2 : Hp} (hO : p ∉ O) (r0 : Rel K γ O H σ e) (r : Rel K γ (p :: O) H σ e) (k : ∀ q ∈ O, H2 q = H q) (f : Ex (msk (p :: O) H) (msk O H2)) : Rel K γ O H2 σ e where
  bo := r0.bo
  live := fun q hq => by rw [k q hq]; exact r0.live q hq
  gs := fun q o h => ⟨(r0.gs q o h).1, by rw [k q (r0.bo q (r0.gs q o h).1)]; exact (r0.gs q o h).2⟩
  len := r0.len
  sl := fun i s h => by
    obtain ⟨v, h1, h2⟩ := r.sl i s h
    obtain ⟨v', h1', h2'⟩ := r0.sl i s h
    rw [h1] at h1'; cases h1'
    refine ⟨v, h1, ?_⟩
    cases s with
    | st u => exact h2
    | d x => exact DD.mono f h2
    | ol xs =>
      obtain ⟨q, us, g1, g2, g3, g4, g5⟩ := h2
      obtain ⟨q', us', g1', g2', _⟩ := h2'
      subst g1; cases g1'
      exact ⟨q, us, rfl, g2', g3, by rw [k q g2']; exact g4, g5.mono f⟩
    | io xs =>
      obtain ⟨us, g1, g2, g3, g4, g5⟩ := h2
      exact ⟨us, g1, g2, g3, by rw [k _ (r0.bo _ g2)]; exact g4, g5.mono f⟩
  dj := r0.dj
  ij := r0.ij
def callF (b : M Out) (n np : Nat) (xs : List D) : M D := fun e => if 1 = np then back e (runD b n [.io xs]) else .bad
def mCallF (b : M Out) (n np : Nat) (m : M (List D)) : M D := m >>= callF b n np
theorem ex_callF {N : List Str} {np : Nat} {b : M Out} {Ek : XK} {te : TE} {m : M (List D)} (hE : ∀ σ, E σ = Ek) (h : EF K E te m) : EX K E (tCall (spM K N np b) [] Ek (tCons te tNil)) (mCallF b N.length np m) := fun γ O H σ e Q r g => by
  refine h γ O H σ e _ r ?_
  unfold mCallF at g
  rw [bind_eq] at g
  cases q : m e with
  | bad => rw [q] at g; exact g
  | ex x e' => rw [q] at g; exact g
  | ok xs e1 =>
    rw [q] at g
    intro p us H1 hO r0 r1 fs fr hp tx
    show spM K N np b ([.ref p] ++ []) H1 Q Ek
    rw [List.append_nil]
    unfold callF at g
    try dsimp only at g
    by_cases nl : 1 = np
    · rw [if_pos nl] at g
      refine ⟨⟨fun q => if q ∈ p :: O ∧ q ≠ p then H1 q else none, p :: O, fun _ => p⟩, p :: O, [.io xs], nl, rfl, rfl, Rel.callee_io (ds := []) (vs := []) r1.live List.mem_cons_self hp tx .nil (fun q o hq => ?_) (if_neg fun z => z.2 rfl), ?_⟩
      · by_cases z : q ∈ p :: O ∧ q ≠ p
        · rw [if_pos z] at hq; exact ⟨z.1, hq⟩
        · rw [if_neg z] at hq; cases hq
      · unfold runD at g
        have fin : ∀ {O' : List Addr} {H' : Hp} {σ' : L2.St} {e' : Env}, Rel K ⟨fun q => if q ∈ p :: O ∧ q ≠ p then H1 q else none, p :: O, fun _ => p⟩ O' H' σ' e' → FrS (p :: O) H1 O' H' →
            Rel K γ O H' σ e1 ∧ Fr O H H' ∧ Ex (msk O' H') (msk O H') := fun {O' H' σ' e'} rr ff => by
          have sx : Ex (msk O' H') (msk O H') := msk_sub fun q hq => rr.bo q (List.mem_cons_of_mem _ hq)
          have kk : ∀ q ∈ O, H' q = H1 q := fun q hq => by
            have hne : q ≠ p := fun z => hO (by rw [← z]; exact hq)
            cases z : H1 q with
            | none => exact absurd z (r0.live q hq)
            | some o => exact (rr.gs q o (by show (if q ∈ p :: O ∧ q ≠ p then H1 q else none) = some o; rw [if_pos ⟨List.mem_cons_of_mem _ hq, hne⟩]; exact z)).2
          have fx : Ex (msk (p :: O) H1) (msk O H') := fun a o h => sx a o (ff a o h)
          exact ⟨Rel.after2 hO r0 r1 kk fx, fun a o h => fx a o (fs a o h), sx⟩
        cases qb : b (startE N.length [.io xs]) with
        | bad => rw [qb] at g; exact g.elim
        | ex x e2 =>
          rw [qb] at g
          cases x with
          | ins C fs' =>
            intro O' σ' dx fv H' rr ff hx tf
            obtain ⟨k1, k2, k3⟩ := fin rr ff
            have := g dx fv H' k1 k2 (k3 _ _ hx) (tf.mono k3)
            rw [hE] at this
            exact this
          | _ => exact g.elim
        | ok o e2 =>
          rw [qb] at g
          cases o with
          | nx =>
            intro O' σ' H' rr ff
            obtain ⟨k1, k2, k3⟩ := fin rr ff
            exact g .non H' k1 k2 .non
          | rt d =>
            intro O' σ' v H' rr ff td
            obtain ⟨k1, k2, k3⟩ := fin rr ff
            exact g v H' k1 k2 (td.mono k3)
          | rf zs =>
            intro O' σ' p' vs' H' rr ff pO' pB' hp' td
            obtain ⟨k1, k2, k3⟩ := fin rr ff
            have pOn : p' ∉ O := fun z => pB' (List.mem_cons_of_mem _ z)
            exact g (.ref p') H' k1 k2 (.lst (by rw [msk_out pOn]; exact hp') (td.mono k3))
          | bk => exact g.elim
          | ct => exact g.elim
    · rw [if_neg nl] at g; exact g.elim
end
end Mir

set_option Elab.async false
set_option linter.all false
set_option maxRecDepth 100000
set_option maxHeartbeats 4000000
namespace Mir
open PySem L2

section
variable {K : PySem.W.Frag} {E : XS} {γ : Gh} {O : List Addr} {H : Hp} {σ : L2.St} {e : Env}
def dIx : D → D → Option D
  | .lst xs, .int i => atI xs i
  | .tup xs, .int i => atI xs i
  | .str z, .int i => if mLine z.length = true then (atI z.cps.toList i).map fun c => .str ⟨#[c]⟩ else none
  | _, _ => none
theorem atI_rel {H : Hp} {vs : List V} {ds : List D} {i : Int} {d : D} (t : DDs K H vs ds) (h : atI ds i = some d) : ∃ v, atI vs i = some v ∧ DD K H v d := by
  unfold atI at h ⊢
  rw [t.length]
  cases q : ixN ds.length i with
  | none => rw [q] at h; cases h
  | some j =>
    rw [q] at h
    exact t.get h
theorem op_ixD : OP2 K (rIx K) dIx := fun O H x y dx dy d Q l hx hy h k => by
  unfold dIx at h
  split at h
  · cases hy.int
    obtain ⟨a, vs, rfl, ha, t⟩ := hx.lst
    obtain ⟨v, hv, td⟩ := atI_rel t h
    exact .inl ⟨a, vs, _, v, rfl, rfl, SqL.of ha, hv, k v H (Evl.Ex.refl H) td⟩
  · cases hy.int
    obtain ⟨a, vs, rfl, ha, t⟩ := hx.tup
    obtain ⟨v, hv, td⟩ := atI_rel t h
    exact .inr (.inl ⟨a, vs, _, v, rfl, rfl, ha, hv, k v H (Evl.Ex.refl H) td⟩)
  · split at h
    · rename_i z i hl
      cases hx.str; cases hy.int
      cases q : atI z.cps.toList i with
      | none => rw [q] at h; cases h
      | some c =>
        rw [q] at h; cases h
        exact .inr (.inr ⟨z, i, c, rfl, rfl, mLine_ok hl, q, k _ H (Evl.Ex.refl H) (.str _)⟩)
    · cases h
  · cases h
def EO (K : PySem.W.Frag) (E : XS) (t : TO) (m : M (Option Int)) : Prop := J K E (fun _ _ _ v d => v = d) t m
def oNone : M (Option Int) := M.ret none
def oSome (m : M D) : M (Option Int) := m >>= fun d => match d with
  | .int i => M.ret (some i)
  | _ => fun _ => .bad
theorem eo_none : EO K E tNoPart oNone := fun γ O H σ e Q r g => g none H r (Fr.refl _ _) rfl
theorem eo_some {te : TE} {m : M D} (h : EX K E te m) : EO K E (tPart te) (oSome m) := fun γ O H σ e Q r0 g =>
  J.bind (te := te) (T := TD K) (T' := fun _ _ _ v d => v = d) h r0 g fun d e1 v H1 r1 f1 t1 g1 => by
    cases d with
    | int i => cases t1; exact ⟨i, rfl, g1 _ H1 r1 (Fr.refl _ _) rfl⟩
    | _ => exact g1.elim
def cutD {α : Type} (xs : List α) (lo hi : Option Int) : List α := (xs.drop (HT.sIx xs.length 0 lo)).take (HT.sIx xs.length xs.length hi - HT.sIx xs.length 0 lo)
theorem cut_rel {H : Hp} {vs : List V} {ds : List D} (t : DDs K H vs ds) (lo hi : Option Int) : DDs K H (cutV vs lo hi) (cutD ds lo hi) := by
  unfold cutV cutD
  rw [t.length]
  exact (t.drop _).take _
abbrev rSlAll (K : PySem.W.Frag) : V → Option Int → Option Int → Hp → VK → Prop := fun x lo hi H Q => rSlL K x lo hi H Q ∨ rSlA K x lo hi H Q ∨ rSlS x lo hi H Q
theorem slAll {X : Cx} : L2.SlR X (rSlAll X.K) := by
  intro pins s σ H x v vl vu lo hi sl Q I rx hs pl pu h
  rcases h with h | h | h
  · exact sl_list pins s σ H x v vl vu lo hi sl Q I rx hs pl pu h
  · exact sl_tupA pins s σ H x v vl vu lo hi sl Q I rx hs pl pu h
  · exact sl_str pins s σ H x v vl vu lo hi sl Q I rx hs pl pu h
def dSl : D → Option Int → Option Int → Option D
  | .lst xs, lo, hi => some (.lst (cutD xs lo hi))
  | .fz xs, lo, hi => some (.lst (cutD xs lo hi))
  | .tup xs, lo, hi => some (.tup (cutD xs lo hi))
  | .str z, lo, hi => if mLine z.length = true then some (.str (cutS z lo hi)) else none
  | _, _, _ => none
def mSl (a : M Dv) (lo hi : M (Option Int)) : M D := a >>= fun v => lo >>= fun l => hi >>= fun h => rd v >>= fun d => M.lift (dSl d l h)
theorem ex_sl {te : TE} {tl th : TO} {a : M Dv} {lo hi : M (Option Int)} (h : EV K E te a) (hl : EO K E tl lo) (hh : EO K E th hi) : EX K E (tSl (rSlAll K) te tl th) (mSl a lo hi) := fun γ O H σ e Q r0 g =>
  J.bind (te := te) (T := TDv K) (T' := TD K) h r0 g fun dv e1 x H1 r1 f1 t1 g1 => J.bind (te := tl) (T := fun _ _ _ v d => v = d) (T' := TD K) hl r1 g1 fun l e2 l' H2 r2 f2 t2 g2 =>
    J.bind (te := th) (T := fun _ _ _ v d => v = d) (T' := TD K) hh r2 g2 fun u e3 u' H3 r3 f3 t3 g3 => by
      have t2 : l' = l := t2
      have t3 : u' = u := t3
      subst t2; subst t3
      rw [bind_eq] at g3
      cases q1 : rd dv e3 with
      | bad => rw [q1] at g3; exact g3.elim
      | ex _ _ => exact absurd q1 rd_noex
      | ok d e4 =>
        rw [q1] at g3
        obtain ⟨rfl, b⟩ := rd_ok r3 ((t1.fr f2).fr f3) q1
        cases d with
        | lst xs =>
          obtain ⟨a, vs, rfl, ha, t⟩ := b.lst
          exact .inl ⟨a, vs, rfl, SqL.of ha, fun p hp => g3 (.ref p) _ (r3.ext (Evl.Ex.new hp)) (Fr.ext (Evl.Ex.new hp)) (DD.new_lst hp (r3.out hp) (cut_rel t _ _))⟩
        | fz xs =>
          have bd := b.any (by intro _ z; cases z)
          cases bd with
          | fz a t => exact .inl ⟨_, _, rfl, Evl.ex_l msk_ex a, fun p hp => g3 (.ref p) _ (r3.ext (Evl.Ex.new hp)) (Fr.ext (Evl.Ex.new hp)) (DD.new_lst hp (r3.out hp) (cut_rel t _ _))⟩
        | tup xs =>
          have bd := b.any (by intro _ z; cases z)
          obtain ⟨a, vs, rfl, ha, t⟩ := b.tup
          refine .inr (.inl ⟨a, vs, rfl, ha, fun w => ?_, fun _ p hp => g3 (.ref p) _ (r3.ext (Evl.Ex.new hp)) (Fr.ext (Evl.Ex.new hp)) (DD.new_tup hp (r3.out hp) (cut_rel t _ _))⟩)
          have ec : cutD xs l' u' = xs := by
            unfold cutD
            rw [← t.length, w.1, w.2, List.drop_zero, Nat.sub_zero, t.length, List.take_length]
          have g3' : Good K _ O H3 σ E (fun H' => TD K O H' σ) Q (.ok (.tup (cutD xs l' u')) e4) := g3
          rw [ec] at g3'
          exact g3' _ H3 r3 (Fr.refl _ _) bd
        | str z =>
          cases b.str
          by_cases hz : mLine z.length = true
          · have g3' : Good K _ O H3 σ E (fun H' => TD K O H' σ) Q (M.lift (if mLine z.length = true then some (.str (cutS z l' u')) else none) e4) := g3
            rw [if_pos hz] at g3'
            exact .inr (.inr ⟨z, rfl, mLine_ok hz, g3' _ H3 r3 (Fr.refl _ _) (.str _)⟩)
          · have g3' : Good K _ O H3 σ E (fun H' => TD K O H' σ) Q (M.lift (if mLine z.length = true then some (D.str (cutS z l' u')) else none) e4) := g3
            rw [if_neg hz] at g3'
            exact g3'.elim
        | _ => exact g3.elim
def truD : D → Option Bool
  | .non => some false
  | .bl b => some b
  | .int i => some (i != 0)
  | .str y => if mLine y.length = true then some ((y.length : Int) != 0) else none
  | .lst xs => some (!xs.isEmpty)
  | .tup xs => some (!xs.isEmpty)
  | _ => none
theorem emp_rel {H : Hp} {vs : List V} {ds : List D} (t : DDs K H vs ds) : vs.isEmpty = ds.isEmpty := by
  cases t <;> rfl
theorem tru_of {v : V} {d : D} {b : Bool} (h : DB K O H v d) (q : truD d = some b) : TruV K v H b := by
  cases d with
  | non => cases h.non; cases q; rfl
  | bl _ => cases h.bl; cases q; rfl
  | int _ => cases h.int; cases q; rfl
  | str y =>
    cases h.str
    have q' : (if mLine y.length = true then some ((y.length : Int) != 0) else none) = some b := q
    by_cases hl : mLine y.length = true
    · rw [if_pos hl] at q'; cases q'; exact ⟨mLine_ok hl, rfl⟩
    · rw [if_neg hl] at q'; cases q'
  | lst xs =>
    obtain ⟨a, vs, rfl, ha, t⟩ := h.lst
    cases q
    exact .inl ⟨vs, SqL.of ha, by rw [emp_rel t]⟩
  | tup xs =>
    obtain ⟨a, vs, rfl, ha, t⟩ := h.tup
    cases q
    exact .inr (.inl ⟨vs, ha, by rw [emp_rel t]⟩)
  | _ => cases q
abbrev tTru (K : PySem.W.Frag) (ta : TE) : TT := fun σ H Q => ta σ H fun x H' => ∃ k, TruV K x H' k ∧ Q k H'
def mTru (a : M Dv) : M Bool := a >>= fun v => rd v >>= fun d => M.lift (truD d)
theorem et_tru {te : TE} {a : M Dv} (h : EV K E te a) : ET K E (tTru K te) (mTru a) := fun γ O H σ e Q r0 g =>
  J.bind (te := te) (T := TDv K) (T' := TB) h r0 g fun dv e1 x H1 r1 f1 t1 g1 => by
    rw [bind_eq] at g1
    cases q1 : rd dv e1 with
    | bad => rw [q1] at g1; exact g1.elim
    | ex _ _ => exact absurd q1 rd_noex
    | ok d e4 =>
      rw [q1] at g1
      obtain ⟨rfl, b⟩ := rd_ok r1 t1 q1
      cases q2 : truD d with
      | none => 
        have g1' : Good K _ O H1 σ E (fun H' => TB O H' σ) Q (M.lift (truD d) e4) := g1
        rw [q2] at g1'
        exact g1'.elim
      | some k =>
        have g1' : Good K _ O H1 σ E (fun H' => TB O H' σ) Q (M.lift (truD d) e4) := g1
        rw [q2] at g1'
        exact ⟨k, tru_of b q2, g1' k H1 r1 (Fr.refl _ _) rfl⟩
def mOrT (a b : M D) : M D := a >>= fun d => fun e => match truD d with
  | some true => .ok d e
  | some false => b e
  | none => .bad
def mAndT (a b : M D) : M D := a >>= fun d => fun e => match truD d with
  | some false => .ok d e
  | some true => b e
  | none => .bad
theorem ex_orT {ta tb : TE} {a b : M D} (h1 : EX K E ta a) (h2 : EX K E tb b) : EX K E (tOrT K ta tb) (mOrT a b) := fun γ O H σ e Q r0 g => by
  unfold mOrT at g
  change Good K γ O H σ E _ Q (M.andThen a (fun d => fun e => match truD d with | some true => .ok d e | some false => b e | none => .bad) e) at g
  refine J.bind (te := ta) (T := TD K) (T' := TD K) h1 r0 g fun d e1 x H1 r1 f1 t1 g1 => ?_
  cases q : truD d with
  | none => rw [q] at g1; exact g1.elim
  | some k =>
    rw [q] at g1
    refine ⟨k, tru_of (.dd t1) q, ?_⟩
    cases k with
    | true => exact g1 x H1 r1 (Fr.refl _ _) t1
    | false => exact h2 γ O H1 σ e1 Q r1 g1
theorem ex_andT {ta tb : TE} {a b : M D} (h1 : EX K E ta a) (h2 : EX K E tb b) : EX K E (tAndT K ta tb) (mAndT a b) := fun γ O H σ e Q r0 g => by
  unfold mAndT at g
  change Good K γ O H σ E _ Q (M.andThen a (fun d => fun e => match truD d with | some false => .ok d e | some true => b e | none => .bad) e) at g
  refine J.bind (te := ta) (T := TD K) (T' := TD K) h1 r0 g fun d e1 x H1 r1 f1 t1 g1 => ?_
  cases q : truD d with
  | none => rw [q] at g1; exact g1.elim
  | some k =>
    rw [q] at g1
    refine ⟨k, tru_of (.dd t1) q, ?_⟩
    cases k with
    | true => exact h2 γ O H1 σ e1 Q r1 g1
    | false => exact g1 x H1 r1 (Fr.refl _ _) t1
/-- an or of two new lists: the first one if it has items -/
def oOr (a b : M (List D)) : M (List D) := a >>= fun d => fun e => if d.isEmpty = true then b e else .ok d e
theorem ef_or {ta tb : TE} {a b : M (List D)} (h1 : EF K E ta a) (h2 : EF K E tb b) : EF K E (tOrT K ta tb) (oOr a b) := fun γ O H σ e Q r0 g => by
  refine h1 γ O H σ e _ r0 ?_
  unfold oOr at g
  change GoodF K γ O H σ E Q (M.andThen a (fun d => fun e => if d.isEmpty = true then b e else .ok d e) e) at g
  unfold M.andThen at g
  cases q : a e with
  | bad => rw [q] at g; exact g
  | ex x e' => rw [q] at g; exact g
  | ok ds e1 =>
    rw [q] at g
    intro p vs H1 hO r1 r2 f1 f2 hp t
    refine ⟨!vs.isEmpty, .inl ⟨vs, SqL.of hp, rfl⟩, ?_⟩
    rw [emp_rel t]
    try dsimp only at g
    by_cases z : ds.isEmpty = true
    · rw [if_pos z] at g
      rw [z]
      show tb σ H1 Q
      exact h2 γ O H1 σ e1 Q r1 (GoodF.fr (E := E) f2 g)
    · rw [if_neg z] at g
      have z' : ds.isEmpty = false := by simpa using z
      rw [z']
      show Q (.ref p) H1
      exact g p vs H1 hO r1 r2 f1 f2 hp t
abbrev rIsN' : R2 := fun x y H Q => y = .non ∧ Q (.bl (decide (x = .non))) H
abbrev rNotN' : R2 := fun x y H Q => y = .non ∧ Q (.bl (!decide (x = .non))) H
def dIsN : D → D → Option D
  | d, .non => some (.bl (isNon d))
  | _, _ => none
def dNotN : D → D → Option D
  | d, .non => some (.bl (!isNon d))
  | _, _ => none
theorem non_rel {v : V} {d : D} (h : DB K O H v d) : decide (v = .non) = isNon d := by
  cases h with
  | dd h => cases h <;> rfl
  | ow a b c => subst a; rfl
theorem op_isND : OP2 K rIsN' dIsN := fun O H x y dx dy d Q l hx hy h k => by
  unfold dIsN at h
  split at h
  · cases h
    refine ⟨hy.non, ?_⟩
    rw [non_rel hx]
    exact k _ H (Evl.Ex.refl H) (.bl _)
  · cases h
theorem op_notND : OP2 K rNotN' dNotN := fun O H x y dx dy d Q l hx hy h k => by
  unfold dNotN at h
  split at h
  · cases h
    refine ⟨hy.non, ?_⟩
    rw [non_rel hx]
    exact k _ H (Evl.Ex.refl H) (.bl _)
  · cases h
def strsD : List D → Option (List Str)
  | [] => some []
  | .str s :: r => (strsD r).map (s :: ·)
  | _ :: _ => none
theorem strs_rel : ∀ {vs : List V} {ds : List D} {ss : List Str}, DDs K H vs ds → strsD ds = some ss → vs = ss.map V.str ∧ ds = ss.map D.str
  | _, _, _, .nil, h => by cases h; exact ⟨rfl, rfl⟩
  | _, _, _, .cons (d := d) (ds := ds) a b, h => by
    cases d with
    | str s =>
      cases a
      unfold strsD at h
      cases q : strsD ds with
      | none => rw [q] at h; cases h
      | some ss =>
        rw [q] at h; cases h
        obtain ⟨h1, h2⟩ := strs_rel b q
        rw [h1, h2]
        exact ⟨rfl, rfl⟩
    | _ => cases h
def joinFits (a : Str) (ys : List Str) : Bool := decide ((ys.map (·.length)).sum + ys.length * a.length ≤ 16777216)
def dJoin : D → D → Option D
  | .str a, .lst xs => (strsD xs).bind fun ys => if joinFits a ys = true then some (.str (Txt.join a ys)) else none
  | .str a, .tup xs => (strsD xs).bind fun ys => if joinFits a ys = true then some (.str (Txt.join a ys)) else none
  | _, _ => none
abbrev rJoinA (K : PySem.W.Frag) : V → List V → Hp → VK → Prop := fun x xs H Q => ∃ a p, ∃ ys : List Str, x = .str a ∧ xs = [.ref p] ∧ (SqL K H p (ys.map V.str) ∨ SqT K H p (ys.map V.str)) ∧
  (ys.map (·.length)).sum + ys.length * a.length ≤ 16777216 ∧ Q (.str (Txt.join a ys)) H
def isStr : D → Bool
  | .str _ => true
  | _ => false
def m1k (f : D → D → Option D) (b : M Dv) (x : D) : M D := fun e => if isStr x = true then (b >>= fun y => rd y >>= fun dy => M.lift (f x dy)) e else .bad
def mM1 (f : D → D → Option D) (a : M D) (b : M Dv) : M D := a >>= m1k f b
/-- a text's method with one argument -/
def OM1 (K : PySem.W.Frag) (r : V → List V → Hp → VK → Prop) (f : D → D → Option D) : Prop :=
  ∀ (O : List Addr) (H : Hp) (x y : V) (dx dy d : D) (Q : VK), (∀ q ∈ O, H q ≠ none) → DB K O H x dx → DB K O H y dy → f dx dy = some d → (∀ v H', Ex H H' → DD K (msk O H') v d → Q v H') → r x [y] H Q
theorem ex_m1 {r : V → List V → Hp → VK → Prop} {f : D → D → Option D} {to te : TE} {a : M D} {b : M Dv} (ho : OM1 K r f) (ha : EX K E to a) (hb : EV K E te b) : EX K E (tM1 r to te) (mM1 f a b) := fun γ O H σ e Q r0 g =>
  J.bind (te := to) (T := TD K) (T' := TD K) ha r0 g fun dx e1 x H1 r1 f1 t1 g1 => by
    unfold m1k at g1
    by_cases hs : isStr dx = true
    · rw [if_pos hs] at g1
      refine ⟨?_, J.bind (te := te) (T := TDv K) (T' := TD K) hb r1 g1 fun dv e2 y H2 r2 f2 t2 g2 => ?_⟩
      · cases t1 with
        | str s => exact ⟨s, rfl⟩
        | _ => cases hs
      · rw [bind_eq] at g2
        cases q1 : rd dv e2 with
        | bad => rw [q1] at g2; exact g2.elim
        | ex _ _ => exact absurd q1 rd_noex
        | ok d e4 =>
          rw [q1] at g2
          obtain ⟨rfl, bb⟩ := rd_ok r2 t2 q1
          have g3 : Good K _ O H2 σ E (fun H' => TD K O H' σ) Q (M.lift (f dx d) e4) := g2
          cases q2 : f dx d with
          | none => rw [q2] at g3; exact g3.elim
          | some z =>
            rw [q2] at g3
            exact ho O H2 x y dx d z Q r2.live (.dd (t1.mono f2)) bb q2 fun v H' xx dd => g3 v H' (r2.ext xx) (Fr.ext xx) dd
    · rw [if_neg hs] at g1; exact g1.elim
theorem join_M : OM1 K (rJoinA K) dJoin := fun O H x y dx dy d Q l hx hy h k => by
  unfold dJoin at h
  split at h
  · rename_i a xs
    cases hx.str
    obtain ⟨p, vs, rfl, hp, t⟩ := hy.lst
    cases q : strsD xs with
    | none => rw [q] at h; cases h
    | some ys =>
      rw [q] at h
      obtain ⟨h1, h2⟩ := strs_rel t q
      subst h1
      have h' : (if joinFits a ys = true then some (D.str (Txt.join a ys)) else none) = some d := h
      by_cases z : joinFits a ys = true
      · rw [if_pos z] at h'; cases h'
        exact ⟨a, p, ys, rfl, rfl, .inl (SqL.of hp), of_decide_eq_true z, k _ H (Evl.Ex.refl H) (.str _)⟩
      · rw [if_neg z] at h'; cases h'
  · rename_i a xs
    cases hx.str
    obtain ⟨p, vs, rfl, hp, t⟩ := hy.tup
    cases q : strsD xs with
    | none => rw [q] at h; cases h
    | some ys =>
      rw [q] at h
      obtain ⟨h1, h2⟩ := strs_rel t q
      subst h1
      have h' : (if joinFits a ys = true then some (D.str (Txt.join a ys)) else none) = some d := h
      by_cases z : joinFits a ys = true
      · rw [if_pos z] at h'; cases h'
        exact ⟨a, p, ys, rfl, rfl, .inr hp, of_decide_eq_true z, k _ H (Evl.Ex.refl H) (.str _)⟩
      · rw [if_neg z] at h'; cases h'
  · cases h
abbrev rSplitA : V → List V → Hp → VK → Prop := fun x xs H Q => ∃ a b, x = .str a ∧ xs = [.str b] ∧ (b.length == 0) = false ∧ a.length + 2 ≤ sizeLine ∧ rNewStrs (Txt.split a b) H Q
def dSplit : D → D → Option D
  | .str a, .str b => if ((b.length == 0) == false && mLine (a.length + 2)) = true then some (.lst ((Txt.split a b).map .str)) else none
  | _, _ => none
theorem DDs.strs : ∀ (ss : List Str), DDs K H (ss.map V.str) (ss.map D.str)
  | [] => .nil
  | s :: ss => .cons (.str s) (DDs.strs ss)
theorem split_M : OM1 K rSplitA dSplit := fun O H x y dx dy d Q l hx hy h k => by
  unfold dSplit at h
  split at h
  · rename_i a b
    cases hx.str; cases hy.str
    split at h
    · rename_i z; cases h
      simp only [Bool.and_eq_true, beq_iff_eq] at z
      exact ⟨a, b, rfl, rfl, by simpa using z.1, mLine_ok z.2, fun p hp => k (.ref p) _ (Evl.Ex.new hp) (DD.new_lst hp (live_out l hp) (DDs.strs _))⟩
    · cases h
  · cases h
abbrev rStrI : List V → Hp → VK → Prop := fun xs H Q => ∃ i, xs = [.int i] ∧ i.natAbs.log2 < 1920 ∧ Q (.str (toString i)) H
def dStr : List D → Option D
  | [.int i] => if i.natAbs.log2 < 1920 then some (.str (toString i)) else none
  | _ => none
theorem str_D : OPn K rStrI dStr := fun O H xs ds d Q l hz h k => by
  unfold dStr at h
  split at h
  · split at h
    · rename_i i hl; cases h
      obtain ⟨x, rfl, hx⟩ := hz.one
      cases hx.int
      exact ⟨_, rfl, hl, k _ H (Evl.Ex.refl H) (.str _)⟩
    · cases h
  · cases h
def blsD : List D → Option (List Bool)
  | [] => some []
  | .bl b :: r => (blsD r).map (b :: ·)
  | _ :: _ => none
theorem bls_rel : ∀ {vs : List V} {ds : List D} {ss : List Bool}, DDs K H vs ds → blsD ds = some ss → vs = ss.map V.bl
  | _, _, _, .nil, h => by cases h; rfl
  | _, _, _, .cons (d := d) (ds := ds) a b, h => by
    cases d with
    | bl s =>
      cases a
      unfold blsD at h
      cases q : blsD ds with
      | none => rw [q] at h; cases h
      | some ss => rw [q] at h; cases h; rw [bls_rel b q]; rfl
    | _ => cases h
def dAll : List D → Option D
  | [.lst xs] => (blsD xs).map fun bs => .bl (bs.all id)
  | _ => none
def dAny : List D → Option D
  | [.lst xs] => (blsD xs).map fun bs => .bl (bs.any id)
  | _ => none
theorem all_D : OPn K (rAll K) dAll := fun O H xs ds d Q l hz h k => by
  unfold dAll at h
  split at h
  · rename_i xs
    obtain ⟨x, rfl, hx⟩ := hz.one
    obtain ⟨p, vs, rfl, hp, t⟩ := hx.lst
    cases q : blsD xs with
    | none => rw [q] at h; cases h
    | some bs =>
      rw [q] at h; cases h
      have := bls_rel t q
      subst this
      exact ⟨p, bs, rfl, SqL.of hp, k _ H (Evl.Ex.refl H) (.bl _)⟩
  · cases h
theorem any_D : OPn K (rAny K) dAny := fun O H xs ds d Q l hz h k => by
  unfold dAny at h
  split at h
  · rename_i xs
    obtain ⟨x, rfl, hx⟩ := hz.one
    obtain ⟨p, vs, rfl, hp, t⟩ := hx.lst
    cases q : blsD xs with
    | none => rw [q] at h; cases h
    | some bs =>
      rw [q] at h; cases h
      have := bls_rel t q
      subst this
      exact ⟨p, bs, rfl, SqL.of hp, k _ H (Evl.Ex.refl H) (.bl _)⟩
  · cases h
def fmtD : D → Option Str
  | .str y => if mLine y.length = true then some y else none
  | .int i => if i.natAbs.log2 < 1920 then some (toString i) else none
  | _ => none
/-- x.append(e) -/
def appO (i : Nat) (d : D) : M Out := fun e => match ownAt e i with
  | some xs => if mLine (xs.length + 1) = true then .ok .nx (setSame e i (xs ++ [d])) else .bad
  | none => .bad
def sApp (i : Nat) (m : M D) : M Out := fun e => match ownAt e i with
  | some _ => (m >>= appO i) e
  | none => .bad
theorem own_upd {i : Nat} {p : Addr} {vs : List V} {xs ys : List D} (r : Rel K γ O H σ e) (hv : σ[i]? = some (some (.ref p))) (hk : e[i]? = some (some (Sl.ol xs)) ∨ e[i]? = some (some (Sl.io xs))) (t : DDs K (msk O H) vs ys) :
    Rel K γ O (upd H p (.lst vs)) σ (setSame e i ys) ∧ Fr O H (upd H p (.lst vs)) := by
  rcases hk with hk | hk
  · rw [setSame_ol hk]; exact r.updO hk hv t
  · rw [setSame_io hk]; exact r.updI hk hv t
theorem sx_app {i : Nat} {te : TE} {m : M D} (h : EX K E te m) : SX K E (tDrop (tBM K "list" rAppend (tVar i) (tCons te tNil))) (sApp i m) := fun γ O H σ e Dn r g => by
  unfold sApp at g
  try dsimp only at g
  cases q0 : ownAt e i with
  | none => rw [q0] at g; exact g.elim
  | some xs0 =>
    rw [q0] at g
    obtain ⟨p, us0, hv, pO, pn, hp0, tx0, _⟩ := ownAt_ok r q0
    refine ⟨.ref p, hv, Or.inl ⟨rfl, us0, SqL.of hp0⟩, ?_⟩
    refine J.stmt (te := te) (T := TD K) h r g fun d e1 v H1 r1 f1 t g1 => ?_
    unfold appO at g1
    cases q1 : ownAt e1 i with
    | none => rw [q1] at g1; exact g1.elim
    | some xs =>
      rw [q1] at g1
      obtain ⟨p1, us, hv1, pO1, pn1, hp, tx, hk⟩ := ownAt_ok r1 q1
      rw [hv] at hv1
      obtain rfl : p = p1 := by cases hv1; rfl
      try dsimp only at g1
      by_cases hl : mLine (xs.length + 1) = true
      · rw [if_pos hl] at g1
        have hz := mLine_ok hl
        rw [← tx.length] at hz
        obtain ⟨w1, w2⟩ := own_upd (vs := us ++ [v]) (ys := xs ++ [d]) r1 hv hk (tx.append (.cons t .nil))
        exact ⟨p, us, v, rfl, rfl, hp, by omega, g1 O σ _ w1 w2.s⟩
      · rw [if_neg hl] at g1; exact g1.elim
/-- x.pop(e) as a value -/
def popO (i : Nat) (d : D) : M D := fun e => match ownAt e i, d with
  | some xs, .int k => if small62 k = true then (match seqIndex? k xs.length with
    | some j => match xs[j]? with
      | some y => .ok y (setSame e i (xs.eraseIdx j))
      | none => .bad
    | none => .bad) else .bad
  | _, _ => .bad
def mPop (i : Nat) (m : M D) : M D := fun e => match ownAt e i with
  | some _ => (m >>= popO i) e
  | none => .bad
theorem ex_popAt {i : Nat} {te : TE} {m : M D} (h : EX K E te m) : EX K E (tBM K "list" rPopAt (tVar i) (tCons te tNil)) (mPop i m) := fun γ O H σ e Q r g => by
  unfold mPop at g
  try dsimp only at g
  cases q0 : ownAt e i with
  | none => rw [q0] at g; exact g.elim
  | some xs0 =>
    rw [q0] at g
    obtain ⟨p, us0, hv, pO, pn, hp0, tx0, _⟩ := ownAt_ok r q0
    refine ⟨.ref p, hv, Or.inl ⟨rfl, us0, SqL.of hp0⟩, ?_⟩
    refine J.bind (te := te) (T := TD K) (T' := TD K) h r g fun d e1 v H1 r1 f1 t g1 => ?_
    unfold popO at g1
    cases q1 : ownAt e1 i with
    | none => rw [q1] at g1; exact g1.elim
    | some xs =>
      rw [q1] at g1
      obtain ⟨p1, us, hv1, pO1, pn1, hp, tx, hk⟩ := ownAt_ok r1 q1
      rw [hv] at hv1
      obtain rfl : p = p1 := by cases hv1; rfl
      cases d with
      | int k =>
        try dsimp only at g1
        by_cases hl : small62 k = true
        · rw [if_pos hl] at g1
          cases qj : seqIndex? k xs.length with
          | none => rw [qj] at g1; exact g1.elim
          | some j =>
            rw [qj] at g1
            try dsimp only at g1
            cases qy : xs[j]? with
            | none => rw [qy] at g1; exact g1.elim
            | some y =>
              rw [qy] at g1
              cases t
              obtain ⟨w, hw, tw⟩ := tx.get qy
              obtain ⟨b1, b2⟩ := small62_ok hl
              obtain ⟨w1, w2⟩ := own_upd (vs := us.eraseIdx j) (ys := xs.eraseIdx j) r1 hv hk (tx.eraseIdx j)
              exact ⟨p, us, k, j, w, rfl, rfl, hp, by omega, by omega, by rw [tx.length]; exact qj, hw, g1 w _ w1 w2 (tw.mono w2)⟩
        · rw [if_neg hl] at g1; exact g1.elim
      | _ => exact g1.elim
/-- x[k] = e -/
def putAt (i : Nat) (d k : D) : M Out := fun e => match ownAt e i, k with
  | some xs, .int k => match ixN xs.length k with
    | some j => .ok .nx (setSame e i (xs.set j d))
    | none => .bad
  | _, _ => .bad
def sSet (i : Nat) (m k : M D) : M Out := m >>= fun d => fun e => match ownAt e i with
  | some _ => (k >>= putAt i d) e
  | none => .bad
theorem sx_set {i : Nat} {te ti : TE} {m k : M D} (h : EX K E te m) (h2 : EX K E ti k) : SX K E (tAsg te (gSub (tVar i) ti rSetL)) (sSet i m k) := fun γ O H σ e Dn r g => by
  unfold sSet at g
  change GoodS K γ O H E Dn (M.andThen m (fun d => fun e => match ownAt e i with | some _ => (k >>= putAt i d) e | none => .bad) e) at g
  refine J.stmt (te := te) (T := TD K) h r g fun d e1 v H1 r1 f1 t g1 => ?_
  cases q0 : ownAt e1 i with
  | none => rw [q0] at g1; exact g1.elim
  | some xs0 =>
    rw [q0] at g1
    obtain ⟨p, us0, hv, pO, pn, hp0, tx0, _⟩ := ownAt_ok r1 q0
    refine ⟨.ref p, hv, ?_⟩
    refine J.stmt (te := ti) (T := TD K) h2 r1 g1 fun kd e2 w H2 r2 f2 tw g2 => ?_
    unfold putAt at g2
    cases q1 : ownAt e2 i with
    | none => rw [q1] at g2; exact g2.elim
    | some xs =>
      rw [q1] at g2
      obtain ⟨p1, us, hv1, pO1, pn1, hp, tx, hk⟩ := ownAt_ok r2 q1
      rw [hv] at hv1
      obtain rfl : p = p1 := by cases hv1; rfl
      cases kd with
      | int k =>
        try dsimp only at g2
        cases qj : ixN xs.length k with
        | none => rw [qj] at g2; exact g2.elim
        | some j =>
          rw [qj] at g2
          cases tw
          obtain ⟨w1, w2⟩ := own_upd (vs := us.set j v) (ys := xs.set j d) r2 hv hk ((DDs.set (t.mono f2) j tx))
          exact ⟨p, us, k, j, rfl, rfl, hp, by rw [tx.length]; exact qj, g2 O σ _ w1 w2.s⟩
      | _ => exact g2.elim
end
end Mir

set_option Elab.async false
set_option linter.all false
set_option maxRecDepth 100000
set_option maxHeartbeats 4000000
namespace Mir
open PySem L2

section
variable {K : PySem.W.Frag} {E : XS} {γ : Gh} {O : List Addr} {H : Hp} {σ : L2.St} {e : Env}
def zipD : List D → List D → List D
  | x :: xs, y :: ys => .tup [x, y] :: zipD xs ys
  | _, _ => []
theorem zipD_get : ∀ {xs ys : List D} {i : Nat} {d : D}, (zipD xs ys)[i]? = some d → ∃ x y, xs[i]? = some x ∧ ys[i]? = some y ∧ d = .tup [x, y]
  | [], _, i, d, h => by simp [zipD] at h
  | _ :: _, [], i, d, h => by simp [zipD] at h
  | x :: xs, y :: ys, 0, d, h => by simp [zipD] at h; exact ⟨x, y, rfl, rfl, h.symm⟩
  | x :: xs, y :: ys, i + 1, d, h => by
    have h' : (zipD xs ys)[i]? = some d := by simpa [zipD] using h
    obtain ⟨a, b, h1, h2, h3⟩ := zipD_get h'
    exact ⟨a, b, by simpa using h1, by simpa using h2, h3⟩
theorem zipD_len : ∀ {xs ys : List D}, xs.length ≤ (zipD xs ys).length ∨ ys.length ≤ (zipD xs ys).length
  | [], _ => .inl (Nat.zero_le _)
  | _ :: _, [] => .inr (Nat.zero_le _)
  | x :: xs, y :: ys => by
    rcases zipD_len (xs := xs) (ys := ys) with h | h
    · exact .inl (Nat.succ_le_succ h)
    · exact .inr (Nat.succ_le_succ h)
theorem itD_zipL {a b : Addr} {vs us : List V} {ds es : List D} (ha : msk O H a = some (.lst vs)) (t : DDs K (msk O H) vs ds) (hb : msk O H b = some (.lst us)) (t2 : DDs K (msk O H) us es) : ItD K (Itz K a b) O H (zipD ds es) := by
  refine ⟨fun O H => msk O H a = some (.lst vs) ∧ DDs K (msk O H) vs ds ∧ msk O H b = some (.lst us) ∧ DDs K (msk O H) us es, ⟨ha, t, hb, t2⟩, fun O H O' H' f h => ⟨f _ _ h.1, h.2.1.mono f, f _ _ h.2.2.1, h.2.2.2.mono f⟩, fun O H i d l h hd => ?_, fun O H h => ?_⟩
  · obtain ⟨x, y, hx, hy, rfl⟩ := zipD_get hd
    obtain ⟨v, hv, tv⟩ := h.2.1.get hx
    obtain ⟨u, hu, tu⟩ := h.2.2.2.get hy
    have s1 : SqL K H a vs := SqL.of (msk_ex _ _ h.1)
    have s2 : SqL K H b us := SqL.of (msk_ex _ _ h.2.2.1)
    refine ⟨⟨vs, us, v, u, s1, s2, hv, hu⟩, fun w H' q => ?_⟩
    obtain ⟨T, v', u', rfl, hT, rfl, k1, k2⟩ := q
    have e1 := k1 vs s1
    have e2 := k2 us s2
    rw [hv] at e1; cases e1
    rw [hu] at e2; cases e2
    exact ⟨Evl.Ex.new hT, DD.new_tup hT (live_out l hT) (.cons tv (.cons tu .nil))⟩
  · refine ⟨vs, us, SqL.of (msk_ex _ _ h.1), SqL.of (msk_ex _ _ h.2.2.1), ?_⟩
    rw [h.2.1.length, h.2.2.2.length]
    exact zipD_len
theorem itD_zipT {a b : Addr} {vs us : List V} {ds es : List D} (ha : SqT K (msk O H) a vs) (t : DDs K (msk O H) vs ds) (hb : SqT K (msk O H) b us) (t2 : DDs K (msk O H) us es) : ItD K (RZ.ItzT K a b) O H (zipD ds es) := by
  refine ⟨fun O H => SqT K (msk O H) a vs ∧ DDs K (msk O H) vs ds ∧ SqT K (msk O H) b us ∧ DDs K (msk O H) us es, ⟨ha, t, hb, t2⟩, fun O H O' H' f h => ⟨Evl.ex_t f h.1, h.2.1.mono f, Evl.ex_t f h.2.2.1, h.2.2.2.mono f⟩, fun O H i d l h hd => ?_, fun O H h => ?_⟩
  · obtain ⟨x, y, hx, hy, rfl⟩ := zipD_get hd
    obtain ⟨v, hv, tv⟩ := h.2.1.get hx
    obtain ⟨u, hu, tu⟩ := h.2.2.2.get hy
    have s1 : SqT K H a vs := Evl.ex_t msk_ex h.1
    have s2 : SqT K H b us := Evl.ex_t msk_ex h.2.2.1
    refine ⟨⟨vs, us, v, u, s1, s2, hv, hu⟩, fun w H' q => ?_⟩
    obtain ⟨T, v', u', rfl, hT, rfl, k1, k2⟩ := q
    have e1 := k1 vs s1
    have e2 := k2 us s2
    rw [hv] at e1; cases e1
    rw [hu] at e2; cases e2
    exact ⟨Evl.Ex.new hT, DD.new_tup hT (live_out l hT) (.cons tv (.cons tu .nil))⟩
  · refine ⟨vs, us, Evl.ex_t msk_ex h.1, Evl.ex_t msk_ex h.2.2.1, ?_⟩
    rw [h.2.1.length, h.2.2.2.length]
    exact zipD_len
def dZip : List D → Option (List D)
  | [.lst xs, .lst ys] => some (zipD xs ys)
  | [.tup xs, .tup ys] => some (zipD xs ys)
  | _ => none
def wZip (m : M (List D)) : M (List D) := m >>= fun ds => M.lift (dZip ds)
theorem jw_zip {ta : TA} {m : M (List D)} (h : EA K E ta m) : JW K E (RZ.iZipA K ta) (wZip m) := fun γ O H σ e Rr r g =>
  J.walk (te := ta) (T := TDs K) h r g fun ds e' vs H' r1 f1 t g1 => by
    unfold dZip at g1
    split at g1
    · cases t with
      | cons a b =>
        cases b with
        | cons c d =>
          cases d
          cases a with
          | lst a1 a2 => cases c with | lst c1 c2 => exact ⟨_, _, _, _, rfl, .inl ⟨SqL.of (msk_ex _ _ a1), SqL.of (msk_ex _ _ c1), g1 _ H' r1 (Fr.refl _ _) (itD_zipL a1 a2 c1 c2)⟩⟩
    · cases t with
      | cons a b =>
        cases b with
        | cons c d =>
          cases d
          cases a with
          | tup a1 a2 => cases c with | tup c1 c2 => exact ⟨_, _, _, _, rfl, .inr ⟨Evl.ex_t msk_ex a1, Evl.ex_t msk_ex c1, g1 _ H' r1 (Fr.refl _ _) (itD_zipT a1 a2 c1 c2)⟩⟩
    all_goals exact g1.elim
def tyD : D → Option String
  | .non => some "NoneType"
  | .bl _ => some "bool"
  | .int _ => some "int"
  | .str _ => some "str"
  | .lst _ => some "list"
  | .tup _ => some "tuple"
  | _ => none
def isTy (n : String) (d : D) : Option Bool := (tyD d).bind fun t => kitB t n
theorem tyX_of {v : V} {d : D} {t : String} (h : DB K O H v d) (q : tyD d = some t) : TyX K H v (.type t) := by
  cases d with
  | non => cases h.non; cases q; exact .base .non
  | bl _ => cases h.bl; cases q; exact .base (.bl _)
  | int _ => cases h.int; cases q; exact .base (.int _)
  | str _ => cases h.str; cases q; exact .base (.str _)
  | lst xs =>
    obtain ⟨a, vs, rfl, ha, t⟩ := h.lst
    cases q; exact .base (.lst ha)
  | tup xs =>
    obtain ⟨a, vs, rfl, ha, t⟩ := h.tup
    cases q
    rcases ha with (ha | ⟨o, ha⟩) | ⟨o, its, n, hk, hc, _⟩
    · exact .base (.tup ha)
    · exact .fTuple ha
    · exact .kTuple hk hc
  | _ => cases q
def mIs1 (n : String) (a : M Dv) : M D := a >>= fun v => rd v >>= fun d => M.lift ((isTy n d).map .bl)
theorem ex_is1 {n : String} {ta : TE} {a : M Dv} (h : EV K E ta a) : EX K E (tCB (rIsi K) (tCons ta (tCons (tC (.ty n)) tNil))) (mIs1 n a) := fun γ O H σ e Q r0 g =>
  J.bind (te := ta) (T := TDv K) (T' := TD K) h r0 g fun dv e1 x H1 r1 f1 t1 g1 => by
    rw [bind_eq] at g1
    cases q1 : rd dv e1 with
    | bad => rw [q1] at g1; exact g1.elim
    | ex _ _ => exact absurd q1 rd_noex
    | ok d e4 =>
      rw [q1] at g1
      obtain ⟨rfl, bb⟩ := rd_ok r1 t1 q1
      have g3 : Good K _ O H1 σ E (fun H' => TD K O H' σ) Q (M.lift ((isTy n d).map .bl) e4) := g1
      unfold isTy at g3
      cases qt : tyD d with
      | none => rw [qt] at g3; exact g3.elim
      | some t =>
        rw [qt] at g3
        cases qk : kitB t n with
        | none =>
          have g4 : Good K _ O H1 σ E (fun H' => TD K O H' σ) Q (M.lift ((kitB t n).map .bl) e4) := g3
          rw [qk] at g4; exact g4.elim
        | some b =>
          have g4 : Good K _ O H1 σ E (fun H' => TD K O H' σ) Q (M.lift ((kitB t n).map .bl) e4) := g3
          rw [qk] at g4
          exact ⟨x, .ty n, .type t, .type n, b, rfl, ClsV.ty n, tyX_of bb qt, kit_ty qk, g4 _ H1 r1 (Fr.refl _ _) (.bl _)⟩
/-- isinstance(x, (A, B)) -/
def isTy2 (m n : String) (d : D) : Option Bool := (tyD d).bind fun t => (kitB t m).bind fun a => (kitB t n).map fun b => a || b
def mIs2 (m n : String) (a : M Dv) : M D := a >>= fun v => rd v >>= fun d => M.lift ((isTy2 m n d).map .bl)
theorem ex_is2 {m n : String} {ta : TE} {a : M Dv} (h : EV K E ta a) : EX K E (tCB (rIsiT K) (tCons ta (tCons (tTup (tCons (tC (.ty m)) (tCons (tC (.ty n)) tNil))) tNil))) (mIs2 m n a) := fun γ O H σ e Q r0 g =>
  J.bind (te := ta) (T := TDv K) (T' := TD K) h r0 g fun dv e1 x H1 r1 f1 t1 g1 => by
    rw [bind_eq] at g1
    cases q1 : rd dv e1 with
    | bad => rw [q1] at g1; exact g1.elim
    | ex _ _ => exact absurd q1 rd_noex
    | ok d e4 =>
      rw [q1] at g1
      obtain ⟨rfl, bb⟩ := rd_ok r1 t1 q1
      have g3 : Good K _ O H1 σ E (fun H' => TD K O H' σ) Q (M.lift ((isTy2 m n d).map .bl) e4) := g1
      unfold isTy2 at g3
      cases qt : tyD d with
      | none => rw [qt] at g3; exact g3.elim
      | some t =>
        rw [qt] at g3
        have g4 : Good K _ O H1 σ E (fun H' => TD K O H' σ) Q (M.lift (((kitB t m).bind fun a => (kitB t n).map fun b => a || b).map D.bl) e4) := g3
        cases qa : kitB t m with
        | none => rw [qa] at g4; exact g4.elim
        | some a' =>
          rw [qa] at g4
          have g5 : Good K _ O H1 σ E (fun H' => TD K O H' σ) Q (M.lift (((kitB t n).map fun b => a' || b).map D.bl) e4) := g4
          cases qb : kitB t n with
          | none => rw [qb] at g5; exact g5.elim
          | some b' =>
            rw [qb] at g5
            refine ⟨by show 2 ≤ sizeLine; decide, fun p hp => ⟨x, p, [.ty m, .ty n], .type t, [.type m, .type n], a' || b', rfl, upd_same, .cons (ClsV.ty m) (.cons (ClsV.ty n) .nil), tyX_of (bb.ext (Evl.Ex.new hp)) qt, ?_, ?_⟩⟩
            · refine kitAny_cons (b := a') (kit_ty qa) (fun ha => ?_) (fun ha => by rw [ha]; rfl)
              refine kitAny_cons (b := b') (kit_ty qb) (fun hb => ?_) (fun hb => by rw [hb, Bool.or_true])
              rw [ha, hb]
              exact kitAny_nil
            · exact g5 _ _ (r1.ext (Evl.Ex.new hp)) (Fr.ext (Evl.Ex.new hp)) (.bl _)
inductive EJ (K : PySem.W.Frag) (E : XS) : List TE → List (M D) → Prop
  | nil : EJ K E [] []
  | cons {t : TE} {ts : List TE} {m : M D} {ms : List (M D)} : EX K E t m → EJ K E ts ms → EJ K E (t :: ts) (m :: ms)
def mJs : List (M D) → Str → M D
  | [], acc => M.ret (.str acc)
  | m :: ms, acc => m >>= fun d => fun e => match d with
    | .str y => if mLine (acc ++ y).length = true then mJs ms (acc ++ y) e else .bad
    | _ => .bad
theorem ex_js : ∀ {ts : List TE} {ms : List (M D)}, EJ K E ts ms → ∀ acc : Str, EX K E (fun σ H Q => tJs ts acc σ H fun out H1 => Q (.str out) H1) (mJs ms acc)
  | _, _, .nil, acc => fun γ O H σ e Q r g => g (.str acc) H r (Fr.refl _ _) (.str _)
  | _, _, .cons (t := t) (ts := ts) (m := m) (ms := ms) h hr, acc => fun γ O H σ e Q r g => by
    unfold mJs at g
    change Good K γ O H σ E _ Q (M.andThen m (fun d => fun e => match d with | .str y => if mLine (acc ++ y).length = true then mJs ms (acc ++ y) e else .bad | _ => .bad) e) at g
    show t σ H _
    refine J.bind (te := t) (T := TD K) (T' := TD K) h r g fun d e1 v H1 r1 f1 t1 g1 => ?_
    cases d with
    | str y =>
      cases t1
      try dsimp only at g1
      by_cases hl : mLine (acc ++ y).length = true
      · rw [if_pos hl] at g1
        exact ⟨y, rfl, mLine_ok hl, ex_js hr (acc ++ y) γ O H1 σ e1 Q r1 g1⟩
      · rw [if_neg hl] at g1; exact g1.elim
    | _ => exact g1.elim
def mFmt (m : M D) : M D := m >>= fun d => M.lift ((fmtD d).map .str)
theorem ex_fmt {te : TE} {m : M D} (h : EX K E te m) : EX K E (tFmt te) (mFmt m) := fun γ O H σ e Q r g =>
  J.bind (te := te) (T := TD K) (T' := TD K) h r g fun d e1 v H1 r1 f1 t1 g1 => by
    cases d with
    | str y =>
      cases t1
      have g2 : Good K γ O H1 σ E (fun H' => TD K O H' σ) Q (M.lift ((if mLine y.length = true then some y else none).map D.str) e1) := g1
      by_cases hl : mLine y.length = true
      · rw [if_pos hl] at g2
        exact .inl ⟨y, rfl, mLine_ok hl, g2 _ H1 r1 (Fr.refl _ _) (.str _)⟩
      · rw [if_neg hl] at g2; exact g2.elim
    | int i =>
      cases t1
      have g2 : Good K γ O H1 σ E (fun H' => TD K O H' σ) Q (M.lift ((if i.natAbs.log2 < 1920 then some (toString i : Str) else none).map D.str) e1) := g1
      by_cases hl : i.natAbs.log2 < 1920
      · rw [if_pos hl] at g2
        exact .inr ⟨i, rfl, hl, g2 _ H1 r1 (Fr.refl _ _) (.str _)⟩
      · rw [if_neg hl] at g2; exact g2.elim
    | _ => exact g1.elim
def alikeB (ps : List PyData) : Bool := ps.all fun a => ps.all fun b => PySem.W.alike a b
def tupHead : PyData → Bool
  | .tuple (_ :: _) => true
  | _ => false
def noTup : PyData → Bool
  | .none => false
  | .tuple _ => false
  | _ => true
def shallow (d : PyData) : Bool := decide (d.depth ≤ 60)
def okSort (ps : List PyData) : Bool := alikeB ps && (ps.all tupHead || ps.all noTup) && ps.all shallow
theorem okSort_alike {ps : List PyData} (h : okSort ps = true) : PySem.W.AllAlike ps := by
  unfold okSort alikeB at h
  simp only [Bool.and_eq_true, List.all_eq_true] at h
  exact fun d hd d' hd' => h.1.1 d hd d' hd'
theorem okSort_sortable {ps : List PyData} (h : okSort ps = true) : PySem.W.Sortable ps := by
  unfold okSort at h
  simp only [Bool.and_eq_true, Bool.or_eq_true, List.all_eq_true] at h
  rcases h.1.2 with q | q
  · refine .inl fun d hd => ?_
    have := q d hd
    unfold tupHead at this
    split at this
    · exact ⟨_, _, rfl⟩
    · cases this
  · refine .inr fun d hd => ?_
    have := q d hd
    unfold noTup at this
    split at this
    · cases this
    · cases this
    · rename_i h1 h2
      exact ⟨fun z => h1 z, fun xs z => h2 xs z⟩
theorem okSort_shallow {ps : List PyData} (h : okSort ps = true) : ∀ d ∈ ps, d.depth ≤ 60 := fun d hd => by
  unfold okSort at h
  simp only [Bool.and_eq_true, List.all_eq_true] at h
  exact of_decide_eq_true (h.2 d hd)
abbrev leP : V × D × PyData → V × D × PyData → Bool := PySem.W.dataLe false fun t => t.2.2
def rSortD (K : PySem.W.Frag) : List V → Hp → VK → Prop := fun xs H Q => ∃ (a : Addr) (ts : List (V × D × PyData)), xs = [.ref a] ∧ SqL K H a (ts.map (·.1)) ∧ DpAll K H (ts.map (·.1)) (ts.map (·.2.2)) ∧ okSort (ts.map (·.2.2)) = true ∧
  ∀ p, H p = none → Q (.ref p) (upd H p (.lst ((ts.mergeSort leP).map (·.1))))
theorem each_vals {ts : List (V × D × PyData)} {us : List Value} (r : Vals (ts.map (·.1)) us) : PySem.W.EachIs (fun v (t : V × D × PyData) => RelV t.1 v) us ts := by
  induction ts generalizing us with
  | nil => cases r; exact .nil
  | cons t ts ih => cases r with | cons a b => exact .cons a (ih b)
theorem vals_each {ts : List (V × D × PyData)} {us : List Value} (r : PySem.W.EachIs (fun v (t : V × D × PyData) => RelV t.1 v) us ts) : Vals (ts.map (·.1)) us := by
  induction r with
  | nil => exact .nil
  | cons a _ ih => exact .cons a ih
theorem each_reads {X : Cx} {pins : List (Addr × Obj)} {σ : L2.St} {H : Hp} {s : Shared} (I : Inv X pins σ H s) {ts : List (V × D × PyData)} {us : List Value} (r : Vals (ts.map (·.1)) us) (t : DpAll X.K H (ts.map (·.1)) (ts.map (·.2.2))) :
    PySem.W.EachIs (fun v (t : V × D × PyData) => ∃ as, Reads s.heap v t.2.2 as) us ts := by
  induction ts generalizing us with
  | nil => cases r; exact .nil
  | cons x ts ih =>
    cases r with
    | cons a b =>
      cases t with
      | cons c d => exact .cons (Dp.reads I _ _ _ c a) (ih b d)
theorem cr_sortD {X : Cx} (hu : X.A.units + 64 < cLine) : CallR X (.builtin "sorted") (rSortD X.K) := by
  intro pins s σ H vs us Q I r h
  obtain ⟨a, ts, rfl, hs, td, ok, q⟩ := h
  obtain ⟨its, rv, hl, hz⟩ := I.list hs
  rw [Vals.ref1 r]
  refine PySem.W.sorted_data (bs := ts) (enc := fun t => t.2.2) (R := fun v (t : V × D × PyData) => RelV t.1 v) hl.isList (each_vals rv) (each_reads I rv td) (okSort_alike ok) (okSort_sortable ok) (by rw [List.length_map] at hz; exact hz)
    (fun b hb => ?_) fun out ho he => ?_
  · have := okSort_shallow ok b.2.2 (List.mem_map_of_mem hb)
    omega
  · obtain ⟨ep, he'⟩ := PyProof.Rows.sortedAll_at s.heap its out.toArray
    have hlen : ((ts.mergeSort leP).map (·.1)).length ≤ sizeLine := by
      rw [List.length_map, List.length_mergeSort]
      rw [List.length_map] at hz
      exact hz
    refine ⟨.ref _, upd H (s.heap.objs.size + 1) (.lst ((ts.mergeSort leP).map (·.1))), I.laid (t' := s.toks) (fun _ _ => PyProof.Rows.sortedAll_old) (Nat.le_succ _) ⟨hlen, out, ep, vals_each he, he'⟩, rfl, q _ (I.hok.fresh (Nat.le_succ _))⟩
def leD : D × PyData → D × PyData → Bool := PySem.W.dataLe false fun t => t.2
def sortD (xs : List D) (ps : List PyData) : List D := ((xs.zip ps).mergeSort leD).map (·.1)
def dSorted : List D → Option (List D)
  | [.lst xs] => (toPys xs).bind fun ps => if okSort ps = true then some (sortD xs ps) else none
  | _ => none
theorem toPys_len : ∀ {xs : List D} {ps : List PyData}, toPys xs = some ps → xs.length = ps.length
  | [], ps, h => by cases h; rfl
  | x :: xs, ps, h => by
    unfold toPys at h
    cases q : toPy x with
    | none => rw [q] at h; cases h
    | some p =>
      cases q2 : toPys xs with
      | none => rw [q, q2] at h; cases h
      | some r => rw [q, q2] at h; cases h; exact congrArg (· + 1) (toPys_len q2)
theorem DDs.of_mem {ts : List (V × D × PyData)} : (∀ t ∈ ts, DD K H t.1 t.2.1) → DDs K H (ts.map (·.1)) (ts.map (·.2.1)) := by
  induction ts with
  | nil => intro _; exact .nil
  | cons t ts ih => intro h; exact .cons (h t List.mem_cons_self) (ih fun x hx => h x (List.mem_cons_of_mem _ hx))
theorem zip3 : ∀ {vs : List V} {xs : List D} {ps : List PyData}, DDs K H vs xs → xs.length = ps.length → ∃ ts : List (V × D × PyData), ts.map (·.1) = vs ∧ ts.map (·.2.2) = ps ∧ ts.map (·.2) = xs.zip ps ∧ ∀ t ∈ ts, DD K H t.1 t.2.1
  | [], _, ps, .nil, h => by
    cases ps with
    | nil => exact ⟨[], rfl, rfl, rfl, fun t ht => by simp at ht⟩
    | cons _ _ => cases h
  | v :: vs, _, ps, .cons (d := d) a b, h => by
    cases ps with
    | nil => cases h
    | cons p ps =>
      obtain ⟨ts, h1, h2, h3, h4⟩ := zip3 b (Nat.succ.inj h)
      refine ⟨(v, d, p) :: ts, by rw [List.map_cons, h1], by rw [List.map_cons, h2], by rw [List.map_cons, h3]; rfl, fun t ht => ?_⟩
      rcases List.mem_cons.mp ht with z | z
      · rw [z]; exact a
      · exact h4 t z
theorem sorted_F : OFn K (rSortD K) dSorted := fun O H xs ds d Q l hz h k => by
  unfold dSorted at h
  split at h
  · rename_i ys
    obtain ⟨x, rfl, hx⟩ := hz.one
    obtain ⟨a, vs, rfl, ha, t⟩ := hx.lst
    cases q : toPys ys with
    | none => rw [q] at h; cases h
    | some ps =>
      rw [q] at h
      have h' : (if okSort ps = true then some (sortD ys ps) else none) = some d := h
      by_cases ok : okSort ps = true
      · rw [if_pos ok] at h'; cases h'
        obtain ⟨ts, h1, h2, h3, h4⟩ := zip3 t (toPys_len q)
        refine ⟨a, ts, rfl, by rw [h1]; exact SqL.of ha, by rw [h1, h2]; exact DDs.dp (t.mono msk_ex) q, by rw [h2]; exact ok, fun p hp => ?_⟩
        have hO := live_out l hp
        have mm : Ex (msk O H) (msk (p :: O) (upd H p (.lst ((ts.mergeSort leP).map (·.1))))) := msk_cons_ex (by rw [msk_out hO]; exact hp) (msk_mono (Evl.Ex.new hp))
        refine k p _ _ hp (Evl.Ex.new hp) upd_same ?_
        have e1 : (ts.mergeSort leP).map (·.2.1) = sortD ys ps := by
          unfold sortD
          rw [← h3, ← PySem.W.sort_maps (r := leP) (s := leD) (fun t : V × D × PyData => t.2) (fun _ _ _ _ => rfl), List.map_map]
          rfl
        rw [← e1]
        exact DDs.of_mem fun t ht => DD.mono mm (h4 t (List.mem_mergeSort.mp ht))
      · rw [if_neg ok] at h'; cases h'
  · cases h
/-- a built-in that makes a new list, its answer one's own -/
def oCB (f : List D → Option (List D)) (a : M (List D)) : M (List D) := a >>= fun xs => M.lift (f xs)
theorem ef_cb {r : List V → Hp → VK → Prop} {f : List D → Option (List D)} {ta : TA} {a : M (List D)} (ho : OFn K r f) (ha : EA K E ta a) : EF K E (tCB r ta) (oCB f a) := fun γ O H σ e Q r0 g =>
  J.own (te := ta) (T := TDs K) (Q' := Q) ha r0 g fun ds e1 xs H1 r1 f1 t1 g1 => by
    cases q : f ds with
    | none =>
      have g2 : GoodF K γ O H1 σ E Q (M.lift (f ds) e1) := g1
      rw [q] at g2; exact g2.elim
    | some es =>
      have g2 : GoodF K γ O H1 σ E Q (M.lift (f ds) e1) := g1
      rw [q] at g2
      refine ho O H1 xs ds es Q r1.live (.of t1) q fun p vs H' hp ex h1 h2 => ?_
      have hO := r1.out hp
      have hm : msk O H1 p = none := by rw [msk_out hO]; exact hp
      exact g2 p vs H' hO (r1.ext ex) (r1.more (e' := e1) hp ex (by rw [h1]; intro z; cases z)) (msk_cons_ex hm (msk_mono ex)) (Fr.ext ex) h1 h2
/-- the same, its arguments borrowed -/
def oCW (f : List D → Option (List D)) (a : M (List Dv)) : M (List D) := a >>= fun vs => rds vs >>= fun xs => M.lift (f xs)
theorem ef_cw {r : List V → Hp → VK → Prop} {f : List D → Option (List D)} {ta : TA} {a : M (List Dv)} (ho : OFn K r f) (ha : EW K E ta a) : EF K E (tCB r ta) (oCW f a) := fun γ O H σ e Q r0 g =>
  J.own (te := ta) (T := fun O H σ v d => DvRs K O H σ v d) (Q' := Q) ha r0 g fun ds e1 xs H1 r1 f1 t1 g1 => by
    rw [bind_eq] at g1
    cases q1 : rds ds e1 with
    | bad => rw [q1] at g1; exact g1.elim
    | ex _ _ => exact absurd q1 rds_noex
    | ok d1 e3 =>
      rw [q1] at g1
      obtain ⟨rfl, b1⟩ := rds_ok r1 t1 q1
      have g2 : GoodF K γ O H1 σ E Q (M.lift (f d1) e3) := g1
      cases q : f d1 with
      | none => rw [q] at g2; exact g2.elim
      | some es =>
        rw [q] at g2
        refine ho O H1 xs d1 es Q r1.live b1 q fun p vs H' hp ex h1 h2 => ?_
        have hO := r1.out hp
        have hm : msk O H1 p = none := by rw [msk_out hO]; exact hp
        exact g2 p vs H' hO (r1.ext ex) (r1.more (e' := e3) hp ex (by rw [h1]; intro z; cases z)) (msk_cons_ex hm (msk_mono ex)) (Fr.ext ex) h1 h2
end
end Mir

set_option Elab.async false
set_option linter.all false
set_option maxRecDepth 100000
set_option maxHeartbeats 4000000
namespace Mir
open PySem L2

def vD (m : M D) : M Dv := m >>= fun d => M.ret (.val d)
theorem J.v' {K : PySem.W.Frag} {E : XS} {te : TE} {m : M D} (h : EX K E te m) : EV K E te (vD m) := EX.v h
section
variable {K : PySem.W.Frag} {E : XS} {γ : Gh} {O : List Addr} {H : Hp} {σ : L2.St} {e : Env}
theorem _root_.Mir.J.v {te : TE} {m : M D} (h : J K E (TD K) te m) : EV K E te (vD m) := EX.v h
def mUn (f : D → Option D) (m : M D) : M D := m >>= fun x => M.lift (f x)
def dNeg : D → Option D
  | .int i => some (.int (-i))
  | _ => none
theorem un_negD : OP1 K (rU fun i => .int (-i)) dNeg := fun O H x dx d Q l hx h k => by
  unfold dNeg at h
  split at h
  · cases h; cases hx.int
    exact ⟨_, rfl, k _ H (Evl.Ex.refl H) (.int _)⟩
  · cases h
def mNotT (m : M Dv) : M D := mTru m >>= fun b => M.ret (.bl (!b))
theorem ex_notT {te : TE} {m : M Dv} (h : EV K E te m) : EX K E (tNotT K te) (mNotT m) := fun γ O H σ e Q r g => by
  have := J.bind (te := tTru K te) (T := TB) (T' := TD K) (Q := fun b H' => Q (.bl (!b)) H') (et_tru h) r g fun b e1 v H1 r1 f1 t1 g1 => by
    have t1 : v = b := t1
    subst t1
    exact g1 _ H1 r1 (Fr.refl _ _) (.bl _)
  exact this
def chk (f g : D → D → Option D) (c : M D) (x y : D) : M D := fun e => match f x y with
  | some (.bl true) => (c >>= fun z => M.lift (g y z)) e
  | some (.bl false) => .ok (.bl false) e
  | _ => .bad
def mChain (f g : D → D → Option D) (a b c : M D) : M D := a >>= fun x => b >>= fun y => chk f g c x y
theorem ex_chain {r r' : R2} {f g : D → D → Option D} {ta tb tc : TE} {a b c : M D} (ho : OP2 K r f) (ho' : OP2 K r' g) (ha : EX K E ta a) (hb : EX K E tb b) (hc : EX K E tc c) : EX K E (tChain r r' ta tb tc) (mChain f g a b c) := fun γ O H σ e Q r0 gd =>
  J.bind (te := ta) (T := TD K) (T' := TD K) ha r0 gd fun dx e1 x H1 r1 f1 t1 g1 => J.bind (te := tb) (T := TD K) (T' := TD K) hb r1 g1 fun dy e2 y H2 r2 f2 t2 g2 => by
    unfold chk at g2
    cases q : f dx dy with
    | none => rw [q] at g2; exact g2.elim
    | some d =>
      rw [q] at g2
      refine ho O H2 x y dx dy d _ r2.live (.dd (t1.mono f2)) (.dd t2) q fun v H3 x3 dd => ?_
      cases d with
      | bl k =>
        cases dd
        refine ⟨k, rfl, ?_⟩
        cases k with
        | true =>
          show tc σ H3 _
          refine J.bind (te := tc) (T := TD K) (T' := TD K) hc (r2.ext x3) (Good.fr (Fr.ext x3) g2) fun dz e4 z H4 r4 f4 t4 g4 => ?_
          cases q2 : g dy dz with
          | none =>
            have g5 : Good K γ O H4 σ E (fun H' => TD K O H' σ) Q (M.lift (g dy dz) e4) := g4
            rw [q2] at g5; exact g5.elim
          | some d2 =>
            have g5 : Good K γ O H4 σ E (fun H' => TD K O H' σ) Q (M.lift (g dy dz) e4) := g4
            rw [q2] at g5
            exact ho' O H4 y z dy dz d2 Q r4.live (.dd ((t2.mono (Fr.ext x3)).mono f4)) (.dd t4) q2 fun v H' xx dd => g5 v H' (r4.ext xx) (Fr.ext xx) dd
        | false =>
          show Q (.bl false) H3
          exact g2 _ H3 (r2.ext x3) (Fr.ext x3) (.bl _)
      | _ => exact g2.elim
def sNever : M Out := fun _ => .bad
theorem sx_never : SX K E tNever sNever := fun γ O H σ e D r g => g
def sRetF (m : M (List D)) : M Out := m >>= fun xs => M.ret (.rf xs)
theorem sx_retF {te : TE} {m : M (List D)} (h : EF K E te m) : SX K E (tRet te) (sRetF m) := fun γ O H σ e Dn r g => by
  refine h γ O H σ e _ r ?_
  unfold sRetF at g
  rw [bind_eq] at g
  cases q : m e with
  | ok ds e' =>
    rw [q] at g
    exact fun p vs H' hO r1 r2 f1 f2 hp t => g (p :: O) σ p vs H' r2 f1 List.mem_cons_self (fun z => hO (r1.bo _ z)) hp t
  | ex x e' =>
    rw [q] at g
    cases x with
    | ins C fs => exact fun dx fv H' r1 f1 q1 q2 => g O σ dx fv H' r1 f1.s q1 q2
    | _ => exact g
  | bad => rw [q] at g; exact g
def backF (e : Env) : R Out → R (List D)
  | .ok (.rf xs) _ => .ok xs e
  | .ex x _ => .ex x e
  | _ => .bad
def oCall (b : M Out) (n np : Nat) (a : M (List D)) : M (List D) := a >>= fun ds => fun e => if ds.length = np then backF e (b (startE n (ds.map .d))) else .bad
theorem ef_call {N : List Str} {np : Nat} {b : M Out} {Ek : XK} {ta : TA} {a : M (List D)} (hE : ∀ σ, E σ = Ek) (h : EA K E ta a) : EF K E (tCall (spM K N np b) [] Ek ta) (oCall b N.length np a) := fun γ O H σ e Q r g => by
  refine h γ O H σ e _ r ?_
  unfold oCall at g
  change GoodF K γ O H σ E Q (M.andThen a (fun ds => fun e => if ds.length = np then backF e (b (startE N.length (ds.map .d))) else .bad) e) at g
  unfold M.andThen at g
  cases q : a e with
  | bad => rw [q] at g; exact g
  | ex x e' => rw [q] at g; exact g
  | ok ds e1 =>
    rw [q] at g
    intro vs H1 r1 f1 t
    rw [List.append_nil]
    try dsimp only at g
    by_cases nl : ds.length = np
    · rw [if_pos nl] at g
      refine ⟨_, O, ds.map .d, by rw [t.length]; exact nl, by rw [List.length_map]; exact t.length, rfl, r1.callee t, ?_⟩
      have fin := fun {O' : List Addr} {H' : Hp} {σ' : L2.St} {e' : Env} (rr : Rel K ⟨fun q => if q ∈ O then H1 q else none, O, fun _ => 0⟩ O' H' σ' e') (ff : FrS O H1 O' H') => callee_end (O := O) (H := H1) rfl (fun q hq => if_pos hq) r1.live rr ff
      cases qb : b (startE N.length (ds.map .d)) with
      | bad => rw [qb] at g; exact g.elim
      | ex x e2 =>
        rw [qb] at g
        cases x with
        | ins C fs =>
          intro O' σ' dx fv H' rr ff hx tf
          obtain ⟨k1, k2, k3⟩ := fin rr ff
          have := g dx fv H' (r1.after k1 k2) (f1.trans k2) (k3 _ _ hx) (tf.mono k3)
          rw [hE] at this
          exact this
        | _ => exact g.elim
      | ok o e2 =>
        rw [qb] at g
        cases o with
        | rf xs =>
          intro O' σ' p vs' H' rr ff pO pB hp td
          obtain ⟨k1, k2, k3⟩ := fin rr ff
          have pO' : p ∉ O := pB
          have sub : ∀ q ∈ p :: O, q ∈ O' := fun q hq => by
            rcases List.mem_cons.mp hq with z | z
            · rw [z]; exact pO
            · exact rr.bo q z
          have sx : Ex (msk O' H') (msk (p :: O) H') := msk_sub sub
          have r2 : Rel K γ O H' σ e1 := r1.after k1 k2
          have fs : FrS O H1 (p :: O) H' := fun a o ha => sx a o (ff a o ha)
          have r3 : Rel K γ (p :: O) H' σ e1 := {
            bo := fun q hq => List.mem_cons_of_mem _ (r2.bo q hq)
            live := fun q hq => by
              rcases List.mem_cons.mp hq with z | z
              · rw [z, hp]; intro w; cases w
              · exact r2.live q z
            gs := r2.gs
            len := r2.len
            sl := fun i s hs => by
              obtain ⟨v, g1, g2⟩ := r1.sl i s hs
              refine ⟨v, g1, ?_⟩
              cases s with
              | st u => exact g2
              | d x => exact DD.mono fs g2
              | ol zs =>
                obtain ⟨q', us, k1', k2', k3', k4', k5'⟩ := g2
                exact ⟨q', us, k1', List.mem_cons_of_mem _ k2', k3', by rw [k1 q' k2']; exact k4', k5'.mono fs⟩
              | io zs =>
                obtain ⟨us, k1', k2', k3', k4', k5'⟩ := g2
                exact ⟨us, k1', k2', k3', by rw [k1 _ (r1.bo _ k2')]; exact k4', k5'.mono fs⟩
            dj := r2.dj
            ij := r2.ij }
          exact g p vs' H' pO' r2 r3 (FrS.trans f1.s fs) (f1.trans k2) hp (td.mono sx)
        | _ => exact g.elim
    · rw [if_neg nl] at g; exact g.elim
inductive SlRs (K : PySem.W.Frag) (B O : List Addr) (H : Hp) : List Addr → List V → List Sl → Prop
  | nil : SlRs K B O H [] [] []
  | d {ps : List Addr} {vs : List V} {ss : List Sl} {v : V} {x : D} : DD K (msk O H) v x → SlRs K B O H ps vs ss → SlRs K B O H ps (v :: vs) (.d x :: ss)
  | ol {ps : List Addr} {vs : List V} {ss : List Sl} {p : Addr} {us : List V} {xs : List D} : p ∈ O → p ∉ B → p ∉ ps → H p = some (.lst us) → DDs K (msk O H) us xs → SlRs K B O H ps vs ss → SlRs K B O H (p :: ps) (.ref p :: vs) (.ol xs :: ss)
end
theorem spM_ln {K : PySem.W.Frag} {N ps : List Str} {np : Nat} {b : M Out} (h0 : np = ps.length) (vs : List V) (H : Hp) (Q : VK) (E : XK) (h : spM K N np b vs H Q E) : vs.length = ps.length := by
  obtain ⟨γ, O, as, h1, _⟩ := h
  exact h1.trans h0
/-- the promise of a def that no error leaves -/
def spM0 (K : PySem.W.Frag) (N : List Str) (np : Nat) (b : M Out) : Sp := fun vs H Q _ => spM K N np b vs H Q E0
theorem spM_ln0 {K : PySem.W.Frag} {N ps : List Str} {np : Nat} {b : M Out} (h0 : np = ps.length) (vs : List V) (H : Hp) (Q : VK) (E : XK) (h : spM0 K N np b vs H Q E) : vs.length = ps.length := spM_ln h0 vs H Q E0 h
section
variable {K : PySem.W.Frag} {N : List Str} {np j : Nat} {b : M Out} {ta : TA} {a : M (List D)} {te : TE}
theorem ex_call0 (h : EA K E0S ta a) : EX K E0S (tCall (spM0 K N np b) [] E0 ta) (mCall b N.length np a) := ex_call (Ek := E0) (fun _ => rfl) h
theorem ex_callI0 (h : EA K E0S ta a) : EX K E0S (tCall (spM0 K N np b) [] E0 (tCons (tVar j) ta)) (mCallI b N.length np j a) := ex_callI (Ek := E0) (fun _ => rfl) h
theorem ex_callF0 (h : EF K E0S te a) : EX K E0S (tCall (spM0 K N np b) [] E0 (tCons te tNil)) (mCallF b N.length np a) := ex_callF (Ek := E0) (fun _ => rfl) h
theorem ef_call0 (h : EA K E0S ta a) : EF K E0S (tCall (spM0 K N np b) [] E0 ta) (oCall b N.length np a) := ef_call (Ek := E0) (fun _ => rfl) h
end
theorem fn_bad {P : Program} {w : World} {K : PySem.W.Frag} {mg : Str → Option Value} {base : Heap} {CX : CXT} {k : Nat} {f : Addr} {fd : FuncData} {ps : List Str} {N : List Str} {np : Nat} (h0 : np = ps.length) : FnOk P w K mg base CX k f fd ps (spM0 K N np fun _ => .bad) where
  len := spM_ln0 h0
  run := fun A outer s H args us vs Q E hr e0 hb hv h => by
    obtain ⟨_, _, _, _, _, _, _, g⟩ := h
    exact g.elim
end Mir

set_option Elab.async false
set_option linter.all false
set_option maxRecDepth 100000
set_option maxHeartbeats 4000000
namespace Mir
open PySem L2
section
variable {K : PySem.W.Frag} {E : XS} {γ : Gh} {O : List Addr} {H : Hp} {σ : L2.St} {e : Env}
theorem SlRs.mono {B O O' : List Addr} {H H' : Hp} (f : FrS O H O' H') (s : ∀ q ∈ O, q ∈ O') (k : ∀ p us, p ∈ O → p ∉ B → H p = some (.lst us) → H' p = some (.lst us)) : ∀ {ps : List Addr} {vs : List V} {ss : List Sl}, SlRs K B O H ps vs ss → SlRs K B O' H' ps vs ss
  | _, _, _, .nil => .nil
  | _, _, _, .d a b => .d (a.mono f) (SlRs.mono f s k b)
  | _, _, _, .ol h1 h2 h3 h4 h5 h6 => .ol (s _ h1) h2 h3 (k _ _ h1 h2 h4) (h5.mono f) (SlRs.mono f s k h6)
def GoodI (K : PySem.W.Frag) (γ : Gh) (O : List Addr) (H : Hp) (σ : L2.St) (E : XS) (Q : List V → Hp → Prop) : R (List Sl) → Prop
  | .ok ss e' => ∀ O' ps vs H', Rel K γ O' H' σ e' → FrS O H O' H' → (∀ q ∈ O, q ∈ O') → SlRs K γ.B O' H' ps vs ss → (∀ p ∈ ps, ∀ (c : Nat) (zs : List D), e'[c]? = some (some (Sl.ol zs)) → σ[c]? ≠ some (some (.ref p))) → Q vs H'
  | .ex x e' => ∀ O' H', Rel K γ O' H' σ e' → FrS O H O' H' → GoodX K γ O' H' σ E x e'
  | .bad => False
def IL (K : PySem.W.Frag) (E : XS) (ta : TA) (m : M (List Sl)) : Prop := ∀ γ O H σ e Q, Rel K γ O H σ e → (∀ x e', m e = .ex x e' → False) → GoodI K γ O H σ E Q (m e) → ta σ H Q
def iNil : M (List Sl) := M.ret []
def iDatk (r : M (List Sl)) (d : D) : M (List Sl) := fun e => match r e with
  | .ok ss e' => .ok (.d d :: ss) e'
  | _ => .bad
def iDat (m : M D) (r : M (List Sl)) : M (List Sl) := fun e => match m e with
  | .ok d e' => iDatk r d e'
  | _ => .bad
def iOwnk (r : M (List Sl)) (xs : List D) : M (List Sl) := fun e => match r e with
  | .ok ss e' => .ok (.ol xs :: ss) e'
  | _ => .bad
def iOwn (m : M (List D)) (r : M (List Sl)) : M (List Sl) := fun e => match m e with
  | .ok d e' => iOwnk r d e'
  | _ => .bad
theorem il_nil : IL K E tNil iNil := fun γ O H σ e Q r _ g => g O [] [] H r FrS.refl (fun _ h => h) .nil (fun _ h => by simp at h)
theorem il_dat {te : TE} {tr : TA} {m : M D} {ms : M (List Sl)} (h : EX K E te m) (hr : IL K E tr ms) : IL K E (tCons te tr) (iDat m ms) := fun γ O H σ e Q r _ g => by
  refine h γ O H σ e _ r ?_
  unfold iDat at g
  cases q : m e with
  | bad => rw [q] at g; exact g.elim
  | ex x e' => rw [q] at g; exact g.elim
  | ok d e1 =>
    rw [q] at g
    intro v H1 r1 f1 t1
    unfold iDatk at g
    refine hr γ O H1 σ e1 _ r1 (fun x e' z => ?_) ?_
    · dsimp only at g
      rw [z] at g; exact g
    · dsimp only at g
      cases q2 : ms e1 with
      | bad => rw [q2] at g; exact g
      | ex x e' => rw [q2] at g; exact g.elim
      | ok ss e2 =>
        rw [q2] at g
        intro O' ps vs H' r2 f2 s2 sl fr
        exact g O' ps (v :: vs) H' r2 (f1.s.trans f2) s2 (.d (t1.mono f2) sl) fr
/-- the watch over a list of one's own ends -/
theorem Rel.unwatch' {p : Addr} {us : List V} {O' : List Addr} (hO : p ∉ O) (b0 : ∀ q ∈ γ.B, q ∈ O) (g0 : ∀ q o, γ.hp q = some o → q ∈ γ.B) (r : Rel K (γ.at p us) O' H σ e) : Rel K γ O' H σ e where
  bo := fun q hq => r.bo q (List.mem_cons_of_mem _ hq)
  live := r.live
  gs := fun q o h => by
    have hne : q ≠ p := fun z => hO (by rw [← z]; exact b0 q (g0 q o h))
    exact ⟨g0 q o h, (r.gs q o (show (if q = p then some (HO.lst us) else γ.hp q) = some o by rw [if_neg hne]; exact h)).2⟩
  len := r.len
  sl := fun i s h => by
    obtain ⟨v, h1, h2⟩ := r.sl i s h
    refine ⟨v, h1, ?_⟩
    cases s with
    | st u => exact h2
    | d x => exact h2
    | ol xs =>
      obtain ⟨q, ws, g1, g2, g3, g4, g5⟩ := h2
      exact ⟨q, ws, g1, g2, fun z => g3 (List.mem_cons_of_mem _ z), g4, g5⟩
    | io xs =>
      obtain ⟨ws, g1, g2, g3, g4, g5⟩ := h2
      have g3' : (if γ.A i = p then some (HO.lst us) else γ.hp (γ.A i)) = none := g3
      have ne : γ.A i ≠ p := fun z => by rw [if_pos z] at g3'; cases g3'
      rw [if_neg ne] at g3'
      exact ⟨ws, g1, (List.mem_cons.mp g2).resolve_left ne, g3', g4, g5⟩
  dj := r.dj
  ij := r.ij
theorem SlRs.sub {B : List Addr} {p : Addr} : ∀ {ps : List Addr} {vs : List V} {ss : List Sl}, SlRs K (p :: B) O H ps vs ss → SlRs K B O H ps vs ss ∧ p ∉ ps
  | _, _, _, .nil => ⟨.nil, by simp⟩
  | _, _, _, .d a b => ⟨.d a (SlRs.sub b).1, (SlRs.sub b).2⟩
  | _, _, _, .ol h1 h2 h3 h4 h5 h6 => by
    simp only [List.mem_cons, not_or] at h2
    exact ⟨.ol h1 h2.2 h3 h4 h5 (SlRs.sub h6).1, by simp only [List.mem_cons, not_or]; exact ⟨fun z => h2.1 z.symm, (SlRs.sub h6).2⟩⟩
theorem il_own {te : TE} {tr : TA} {m : M (List D)} {ms : M (List Sl)} (h : EF K E te m) (hr : IL K E tr ms) : IL K E (tCons te tr) (iOwn m ms) := fun γ O H σ e Q r _ g => by
  refine h γ O H σ e _ r ?_
  unfold iOwn at g
  cases q : m e with
  | bad => rw [q] at g; exact g.elim
  | ex x e' => rw [q] at g; exact g.elim
  | ok xs e1 =>
    rw [q] at g
    intro p us H1 hO r1 r2 f1 f2 hp t
    unfold iOwnk at g
    have rwt : Rel K (γ.at p us) (p :: O) H1 σ e1 := r1.watch hO r2 hp
    refine hr (γ.at p us) (p :: O) H1 σ e1 _ rwt (fun x e' z => ?_) ?_
    · dsimp only at g
      rw [z] at g; exact g
    · dsimp only at g
      cases q2 : ms e1 with
      | bad => rw [q2] at g; exact g
      | ex x e' => rw [q2] at g; exact g.elim
      | ok ss e2 =>
        rw [q2] at g
        intro O' ps vs H' r3 f3 s3 sl fr
        have hp' : H' p = some (.lst us) := (r3.gs p _ (show (if p = p then some (HO.lst us) else γ.hp p) = _ from if_pos rfl)).2
        have r4 : Rel K γ O' H' σ e2 := Rel.unwatch' hO r1.bo (fun q o hq => (r1.gs q o hq).1) r3
        obtain ⟨sl1, sl2⟩ := SlRs.sub sl
        refine g O' (p :: ps) (.ref p :: vs) H' r4 (FrS.trans f1 f3) (fun q hq => s3 q (List.mem_cons_of_mem _ hq)) (.ol (s3 p List.mem_cons_self) (fun z => hO (r1.bo _ z)) sl2 hp' (t.mono f3) sl1) fun q hq c zs hc hz => ?_
        rcases List.mem_cons.mp hq with z | z
        · rw [z] at hz
          obtain ⟨w, w1, q', ws, e1', _, e3', _⟩ := r3.sl c _ hc
          rw [hz] at w1; cases w1
          cases e1'
          exact e3' List.mem_cons_self
        · exact fr q z c zs hc hz
/-- a list of one's own comes into a slot; no other slot has it -/
theorem Rel.setO' {p : Addr} {vs : List V} {xs : List D} {i : Nat} (r : Rel K γ O H σ e) (pO : p ∈ O) (pB : p ∉ γ.B) (far : ∀ (c : Nat) (zs : List D), i ≠ c → e[c]? = some (some (Sl.ol zs)) → σ[c]? ≠ some (some (.ref p))) (hi : i < e.length) (hp : H p = some (.lst vs)) (t : DDs K (msk O H) vs xs) :
    Rel K γ O H (σ.set i (some (.ref p))) (e.set i (some (.ol xs))) where
  bo := r.bo
  live := r.live
  gs := r.gs
  len := by rw [List.length_set, List.length_set]; exact r.len
  sl := fun j s h => by
    by_cases hj : i = j
    · subst hj
      rw [List.getElem?_set_self hi] at h
      cases h
      exact ⟨_, List.getElem?_set_self (by rw [r.len]; exact hi), p, vs, rfl, pO, pB, hp, t⟩
    · rw [List.getElem?_set_ne hj] at h
      obtain ⟨w, h1, h2⟩ := r.sl j s h
      exact ⟨w, by rw [List.getElem?_set_ne hj]; exact h1, h2⟩
  dj := fun a b xs ys w ha hb va vb => by
    by_cases h1 : i = a
    · subst h1
      rw [List.getElem?_set_self (by rw [r.len]; exact hi)] at va
      cases va
      by_cases h2 : i = b
      · exact h2
      · rw [List.getElem?_set_ne h2] at hb vb
        exact absurd vb (far b _ h2 hb)
    · by_cases h2 : i = b
      · subst h2
        rw [List.getElem?_set_self (by rw [r.len]; exact hi)] at vb
        cases vb
        rw [List.getElem?_set_ne h1] at ha va
        exact absurd va (far a _ h1 ha)
      · rw [List.getElem?_set_ne h1] at ha va
        rw [List.getElem?_set_ne h2] at hb vb
        exact r.dj a b _ _ w ha hb va vb
  ij := fun a b xs ys ha hb => by
    by_cases h1 : i = a
    · subst h1; rw [List.getElem?_set_self hi] at ha; cases ha
    · by_cases h2 : i = b
      · subst h2; rw [List.getElem?_set_self hi] at hb; cases hb
      · rw [List.getElem?_set_ne h1] at ha
        rw [List.getElem?_set_ne h2] at hb
        exact r.ij a b _ _ ha hb
/-- all into their slots, one by one -/
def putS : List Nat → List Sl → Env → Option Env
  | [], [], e => some e
  | i :: is, s :: ss, e => if noIo e i = true then putS is ss (e.set i (some s)) else none
  | _, _, _ => none
def putV : List Nat → List V → L2.St → L2.St
  | i :: is, v :: vs, σ => putV is vs (σ.set i (some v))
  | _, _, σ => σ
theorem put_rel : ∀ {is : List Nat} {ss : List Sl} {ps : List Addr} {vs : List V} {σ : L2.St} {e e' : Env}, Rel K γ O H σ e → SlRs K γ.B O H ps vs ss → (∀ p ∈ ps, ∀ (c : Nat) (zs : List D), e[c]? = some (some (Sl.ol zs)) → σ[c]? ≠ some (some (.ref p))) → putS is ss e = some e' → Rel K γ O H (putV is vs σ) e'
  | [], [], _, _, σ, e, e', r, sl, far, h => by
    cases sl
    cases h
    exact r
  | [], _ :: _, _, _, _, _, _, _, _, _, h => by cases h
  | _ :: _, [], _, _, _, _, _, _, _, _, h => by cases h
  | i :: is, s :: ss, ps, vs, σ, e, e', r, sl, far, h => by
    unfold putS at h
    by_cases z : noIo e i = true
    · rw [if_pos z] at h
      have hi := noIo_lt z
      cases sl with
      | d a b =>
        show Rel K γ O H (putV is _ (σ.set i _)) e'
        refine put_rel (r.setD hi a) b (fun p hp c zs hc => ?_) h
        by_cases hj : i = c
        · subst hj; rw [List.getElem?_set_self hi] at hc; cases hc
        · rw [List.getElem?_set_ne hj] at hc ⊢
          exact far p hp c zs hc
      | ol h1 h2 h3 h4 h5 h6 =>
        show Rel K γ O H (putV is _ (σ.set i _)) e'
        refine put_rel (Rel.setO' r h1 h2 (fun c zs hj hc => far _ List.mem_cons_self c zs hc) hi h4 h5) h6 (fun p' hp' c zs hc => ?_) h
        by_cases hj : i = c
        · subst hj
          rw [List.getElem?_set_self (by rw [r.len]; exact hi)]
          intro w
          cases w
          exact h3 hp'
        · rw [List.getElem?_set_ne hj] at hc ⊢
          exact far p' (List.mem_cons_of_mem _ hp') c zs hc
    · rw [if_neg z] at h
      cases h
def sParL (is : List Nat) (m : M (List Sl)) : M Out := fun e => match m e with
  | .ok ss e' => sDo (putS is ss e') e'
  | _ => .bad
theorem par_good {ta : TA} {m : M (List Sl)} {is : List Nat} {Dn : Ends} (h : IL K E ta m) (r : Rel K γ O H σ e) (g : GoodS K γ O H E Dn (sParL is m e)) (Q : List V → Hp → Prop)
    (k : ∀ ss e', m e = .ok ss e' → ∀ vs H', vs.length = ss.length → Dn.nx (putV is vs σ) H' → Q vs H') : ta σ H Q := by
  unfold sParL at g
  refine h γ O H σ e Q r (fun x e' z => by rw [z] at g; exact g) ?_
  cases q : m e with
  | bad => rw [q] at g; exact g
  | ex x e' => rw [q] at g; exact g.elim
  | ok ss e1 =>
    rw [q] at g
    intro O' ps vs H' r1 f1 s1 sl fr
    have hl : vs.length = ss.length := by
      clear g q k fr
      induction sl with
      | nil => rfl
      | d _ _ ih => exact congrArg (· + 1) ih
      | ol _ _ _ _ _ _ ih => exact congrArg (· + 1) ih
    refine k ss e1 q vs H' hl ?_
    dsimp only at g
    cases qp : putS is ss e1 with
    | none => rw [qp] at g; exact g.elim
    | some e2 =>
      rw [qp] at g
      exact g O' _ H' (put_rel r1 sl fr qp) f1
def sPar (i j : Nat) (m : M (List Sl)) : M Out := fun e => match m e with
  | .ok [s, t] e' => sDo (putS [i, j] [s, t] e') e'
  | _ => .bad
def sPar3 (i j l : Nat) (m : M (List Sl)) : M Out := fun e => match m e with
  | .ok [s, t, u] e' => sDo (putS [i, j, l] [s, t, u] e') e'
  | _ => .bad
theorem sx_par {i j : Nat} {ta : TA} {m : M (List Sl)} (h : IL K E ta m) : SX K E (tPar i j ta) (sPar i j m) := fun γ O H σ e Dn r g => by
  have g' : GoodS K γ O H E Dn (sParL [i, j] m e) ∧ ∀ ss e', m e = .ok ss e' → ss.length = 2 := by
    unfold sPar at g
    unfold sParL
    cases q : m e with
    | bad => rw [q] at g; exact g.elim
    | ex x e' => rw [q] at g; exact g.elim
    | ok ss e1 =>
      rw [q] at g
      match ss, g with
      | [s, t], g => exact ⟨g, fun ss' e' h => by cases h; rfl⟩
      | [], g => exact g.elim
      | [_], g => exact g.elim
      | _ :: _ :: _ :: _, g => exact g.elim
  refine par_good h r g'.1 _ fun ss e' q vs H' hl hd => ?_
  have hl2 := g'.2 ss e' q
  rw [hl2] at hl
  match vs, hl with
  | [v, w], _ => exact ⟨v, w, rfl, hd⟩
theorem sx_par3 {i j l : Nat} {ta : TA} {m : M (List Sl)} (h : IL K E ta m) : SX K E (tPar3 i j l ta) (sPar3 i j l m) := fun γ O H σ e Dn r g => by
  have g' : GoodS K γ O H E Dn (sParL [i, j, l] m e) ∧ ∀ ss e', m e = .ok ss e' → ss.length = 3 := by
    unfold sPar3 at g
    unfold sParL
    cases q : m e with
    | bad => rw [q] at g; exact g.elim
    | ex x e' => rw [q] at g; exact g.elim
    | ok ss e1 =>
      rw [q] at g
      match ss, g with
      | [s, t, u], g => exact ⟨g, fun ss' e' h => by cases h; rfl⟩
      | [], g => exact g.elim
      | [_], g => exact g.elim
      | [_, _], g => exact g.elim
      | _ :: _ :: _ :: _ :: _, g => exact g.elim
  refine par_good h r g'.1 _ fun ss e' q vs H' hl hd => ?_
  have hl2 := g'.2 ss e' q
  rw [hl2] at hl
  match vs, hl with
  | [u, v, w], _ => exact ⟨u, v, w, rfl, hd⟩
end
end Mir

set_option Elab.async false
set_option linter.all false
set_option maxRecDepth 100000
set_option maxHeartbeats 4000000
namespace Mir
open PySem L2

section
variable {K : PySem.W.Frag} {E : XS} {γ : Gh} {O : List Addr} {H : Hp} {σ : L2.St} {e : Env}
inductive SlA (K : PySem.W.Frag) (O : List Addr) (H : Hp) : List V → List Sl → Prop
  | nil : SlA K O H [] []
  | d {v : V} {x : D} {vs : List V} {ss : List Sl} : DD K (msk O H) v x → SlA K O H vs ss → SlA K O H (v :: vs) (.d x :: ss)
  | st {v : V} {vs : List V} {ss : List Sl} : SlA K O H vs ss → SlA K O H (v :: vs) (.st v :: ss)
theorem SlA.fr {H' : Hp} (f : Fr O H H') : ∀ {vs : List V} {ss : List Sl}, SlA K O H vs ss → SlA K O H' vs ss
  | _, _, .nil => .nil
  | _, _, .d a b => .d (a.mono f) (SlA.fr f b)
  | _, _, .st b => .st (SlA.fr f b)
theorem SlA.length : ∀ {vs : List V} {ss : List Sl}, SlA K O H vs ss → vs.length = ss.length
  | _, _, .nil => rfl
  | _, _, .d _ b => congrArg (· + 1) b.length
  | _, _, .st b => congrArg (· + 1) b.length
theorem SlA.get : ∀ {vs : List V} {ss : List Sl} {i : Nat} {s : Sl}, SlA K O H vs ss → ss[i]? = some s → ∃ v, vs[i]? = some v ∧ ((∃ x, s = .d x ∧ DD K (msk O H) v x) ∨ s = .st v)
  | _, _, i, _, .nil, h => by simp at h
  | _, _, 0, _, .d a _, h => by simp at h; exact ⟨_, rfl, .inl ⟨_, h.symm, a⟩⟩
  | _, _, 0, _, .st _, h => by simp at h; exact ⟨_, rfl, .inr h.symm⟩
  | _, _, i + 1, s, .d _ b, h => by
    obtain ⟨v, h1, h2⟩ := SlA.get (i := i) (s := s) b (by simpa using h)
    exact ⟨v, by simpa using h1, h2⟩
  | _, _, i + 1, s, .st b, h => by
    obtain ⟨v, h1, h2⟩ := SlA.get (i := i) (s := s) b (by simpa using h)
    exact ⟨v, by simpa using h1, h2⟩
abbrev ES (K : PySem.W.Frag) (E : XS) (te : TA) (m : M (List Sl)) : Prop := J K E (fun O H _ vs ss => SlA K O H vs ss) te m
def eNil : M (List Sl) := M.ret []
def eCons (m : M D) (r : M (List Sl)) : M (List Sl) := m >>= fun x => r >>= fun ss => M.ret (.d x :: ss)
def eSt (v : V) (r : M (List Sl)) : M (List Sl) := r >>= fun ss => M.ret (.st v :: ss)
theorem es_nil : ES K E tNil eNil := fun γ O H σ e Q r g => g [] H r (Fr.refl _ _) .nil
theorem es_d {te : TE} {tr : TA} {m : M D} {ms : M (List Sl)} (h : EX K E te m) (hr : ES K E tr ms) : ES K E (tCons te tr) (eCons m ms) := fun γ O H σ e Q r g =>
  J.bind (te := te) (T := TD K) (T' := fun O H _ vs ss => SlA K O H vs ss) h r g fun d e1 v H1 r1 f1 t1 g1 => J.bind (te := tr) (T := fun O H _ vs ss => SlA K O H vs ss) (T' := fun O H _ vs ss => SlA K O H vs ss) hr r1 g1 fun ss e2 vs H2 r2 f2 t2 g2 =>
    g2 (v :: vs) H2 r2 (Fr.refl _ _) (.d (t1.mono f2) t2)
theorem es_st {v : V} {tr : TA} {ms : M (List Sl)} (hr : ES K E tr ms) : ES K E (tCons (tC v) tr) (eSt v ms) := fun γ O H σ e Q r g =>
  J.bind (te := tr) (T := fun O H _ vs ss => SlA K O H vs ss) (T' := fun O H _ vs ss => SlA K O H vs ss) hr r g fun ss e2 vs H2 r2 f2 t2 g2 =>
    g2 (v :: vs) H2 r2 (Fr.refl _ _) (.st t2)
theorem Rel.calleeS {N : List Str} {vs : List V} {ss : List Sl} (r : Rel K γ O H σ e) (t : SlA K O H vs ss) : Rel K ⟨fun q => if q ∈ O then H q else none, O, fun _ => 0⟩ O H (L2.start N vs) (startE N.length ss) where
  bo := fun q h => h
  live := r.live
  gs := fun q o h => by
    have h : (if q ∈ O then H q else none) = some o := h
    by_cases z : q ∈ O
    · rw [if_pos z] at h; exact ⟨z, h⟩
    · rw [if_neg z] at h; cases h
  len := start_len t.length
  sl := fun i s h => by
    obtain ⟨v, hv, k⟩ := t.get (startE_get h)
    refine ⟨v, start_get hv, ?_⟩
    rcases k with ⟨x, rfl, td⟩ | rfl
    · exact td
    · rfl
  dj := fun a b xs ys v ha hb _ _ => by
    obtain ⟨v, hv, k⟩ := t.get (startE_get ha)
    rcases k with ⟨x, z, _⟩ | z <;> cases z
  ij := fun a b xs ys ha hb _ => by
    obtain ⟨v, hv, k⟩ := t.get (startE_get ha)
    rcases k with ⟨x, z, _⟩ | z <;> cases z
/-- the callee's promise, met by a caller -/
theorem sp_of {N : List Str} {np : Nat} {b : M Out} {Ek : XK} {vs : List V} {ss : List Sl} {Q : VK} (hE : ∀ σ, E σ = Ek) (nl : ss.length = np) (r1 : Rel K γ O H σ e) (t : SlA K O H vs ss) (g : Good K γ O H σ E (fun H' => TD K O H' σ) Q (back e (runD b N.length ss))) : spM K N np b vs H Q Ek := by
  refine ⟨_, O, ss, by rw [t.length]; exact nl, t.length, rfl, r1.calleeS t, ?_⟩
  unfold runD at g
  have fin := fun {O' : List Addr} {H' : Hp} {σ' : L2.St} {e' : Env} (rr : Rel K ⟨fun q => if q ∈ O then H q else none, O, fun _ => 0⟩ O' H' σ' e') (ff : FrS O H O' H') => callee_end (O := O) (H := H) rfl (fun q hq => if_pos hq) r1.live rr ff
  cases qb : b (startE N.length ss) with
  | bad => rw [qb] at g; exact g.elim
  | ex x e2 =>
    rw [qb] at g
    cases x with
    | ins C fs =>
      intro O' σ' dx fv H' rr ff hx tf
      obtain ⟨k1, k2, k3⟩ := fin rr ff
      have := g dx fv H' (r1.after k1 k2) k2 (k3 _ _ hx) (tf.mono k3)
      rw [hE] at this
      exact this
    | _ => exact g.elim
  | ok o e2 =>
    rw [qb] at g
    cases o with
    | nx =>
      intro O' σ' H' rr ff
      obtain ⟨k1, k2, k3⟩ := fin rr ff
      exact g .non H' (r1.after k1 k2) k2 .non
    | rt d =>
      intro O' σ' v H' rr ff td
      obtain ⟨k1, k2, k3⟩ := fin rr ff
      exact g v H' (r1.after k1 k2) k2 (td.mono k3)
    | rf xs =>
      intro O' σ' p vs' H' rr ff pO pB hp td
      obtain ⟨k1, k2, k3⟩ := fin rr ff
      have pO' : p ∉ O := pB
      exact g (.ref p) H' (r1.after k1 k2) k2 (.lst (by rw [msk_out pO']; exact hp) (td.mono k3))
    | bk => exact g.elim
    | ct => exact g.elim
def callS (b : M Out) (n np : Nat) (ss : List Sl) : M D := fun e => if ss.length = np then back e (runD b n ss) else .bad
def mCallS (b : M Out) (n np : Nat) (a : M (List Sl)) : M D := a >>= callS b n np
theorem ex_callS {N : List Str} {np : Nat} {b : M Out} {Ek : XK} {ta : TA} {a : M (List Sl)} (hE : ∀ σ, E σ = Ek) (h : ES K E ta a) : EX K E (tCall (spM K N np b) [] Ek ta) (mCallS b N.length np a) := fun γ O H σ e Q r g =>
  J.bind (te := ta) (T := fun O H _ vs ss => SlA K O H vs ss) (T' := TD K) h r g fun ss e1 vs H1 r1 f1 t1 g1 => by
    show spM K N np b (vs ++ []) H1 Q Ek
    rw [List.append_nil]
    unfold callS at g1
    by_cases nl : ss.length = np
    · rw [if_pos nl] at g1
      exact sp_of hE nl r1 t1 g1
    · rw [if_neg nl] at g1; exact g1.elim
theorem ex_callS0 {N : List Str} {np : Nat} {b : M Out} {ta : TA} {a : M (List Sl)} (h : ES K E0S ta a) : EX K E0S (tCall (spM0 K N np b) [] E0 ta) (mCallS b N.length np a) := ex_callS (Ek := E0) (fun _ => rfl) h
/-- a call of a name that holds a def -/
def mCallL (i : Nat) (f : Addr) (b : M Out) (n np : Nat) (a : M (List D)) : M D := fun e => match e[i]? with
  | some (some (.st (.ref g))) => if g = f then mCall b n np a e else .bad
  | _ => .bad
theorem ex_callL0 {N : List Str} {np i : Nat} {f : Addr} {b : M Out} {ta : TA} {a : M (List D)} (h : EA K E0S ta a) : EX K E0S (tCallL i f (spM0 K N np b) [] E0 ta) (mCallL i f b N.length np a) := fun γ O H σ e Q r g => by
  unfold mCallL at g
  try dsimp only at g
  split at g
  · rename_i g' hx
    by_cases z : g' = f
    · rw [if_pos z] at g
      obtain ⟨v, h1, h2⟩ := r.sl _ _ hx
      have h2 : v = .ref g' := h2
      rw [h2, z] at h1
      exact ⟨h1, ex_call0 h γ O H σ e Q r g⟩
    · rw [if_neg z] at g; exact g.elim
  · exact g.elim
end
section
variable {X : Cx} {CX : CXT} {k : Nat} {f : Addr} {fd : FuncData} {ps ks : List Str} {sp : Sp} {E : XK} {x : Str} {p pos : Pos} {kws : List Keyword} {tk : TA} {g : List Value → List Value → List Value} {gV : List V → List V → List V}
theorem pe_callK0 (F : FnOk X.prog X.w X.K X.mg X.base CX k f fd ps sp) (hr : Room k X.A) (hg : Gl X x) (hm : X.mg x = some (.ref f)) (hk : PySem.W.keepIn X.K (.ref f) = true) (hb : KBinds X.K fd ps ks g gV) (hx : Passes CX X E) (hkw : PK X kws tk)
    (hall : (backToKw pos (keywordEach kws X.env)).all (·.1.isSome) = true := by rfl) (hks : (backToKw pos (keywordEach kws X.env)).filterMap (·.1) = ks := by rfl) (hdb : (x == ("__debug__" : Str)) = false := by decide)
    (hpl : ((backTo pos (starEach [] X.env)).any (·.1) || (backToKw pos (keywordEach kws X.env)).any (·.1.isNone)) = false := by rfl) :
    PE X (.Call (.Name x p) [] kws pos) (tCallK sp gV E tNil tk) := ⟨fun pins s σ H Q I h =>
  wpAny_Call_Name_kw (ld_glob I hg hm (PySem.W.callWith_KW0 (h₀ := X.base) I.ok.mod.kin hk hall (thn (hkw.run pos pins s σ H _ I h) fun ws s2 ⟨zs, H2, I2, rz, q2⟩ => ⟨I2.kIn, by
    rw [hks]
    exact run_fnk (us := []) (vs := []) F hr hb hx I2 .nil rz q2⟩) hpl) hdb)⟩
end
section
variable {K : PySem.W.Frag} {E : XS} {γ : Gh} {O : List Addr} {H : Hp} {σ : L2.St} {e : Env}
/-- the values behind the names, put in the parameters' order by places -/
def perm (is : List Nat) {α : Type} (zs : List α) : List α := is.filterMap fun i => zs[i]?
def mCallP (b : M Out) (n np : Nat) (is : List Nat) (a : M (List D)) : M D := a >>= fun ds => fun e => if (perm is ds).length = np then back e (runD b n ((perm is ds).map .d)) else .bad
theorem DDs.perm {vs : List V} {ds : List D} (t : DDs K H vs ds) : ∀ is : List Nat, DDs K H (Mir.perm is vs) (Mir.perm is ds)
  | [] => .nil
  | i :: is => by
    have ih := DDs.perm t is
    unfold Mir.perm at ih ⊢
    rw [List.filterMap_cons, List.filterMap_cons]
    cases q : ds[i]? with
    | none =>
      have : vs[i]? = none := by
        rw [List.getElem?_eq_none_iff] at q ⊢
        rw [t.length]; exact q
      rw [this]; exact ih
    | some d =>
      obtain ⟨v, hv, td⟩ := t.get q
      rw [hv]
      exact .cons td ih
theorem DDs.sla : ∀ {vs : List V} {ds : List D}, DDs K (msk O H) vs ds → SlA K O H vs (ds.map .d)
  | _, _, .nil => .nil
  | _, _, .cons a b => .d a (DDs.sla b)
theorem ex_callP {N : List Str} {np : Nat} {b : M Out} {Ek : XK} {tk : TA} {a : M (List D)} (is : List Nat) (hE : ∀ σ, E σ = Ek) (h : EA K E tk a) : EX K E (tCallK (spM K N np b) (fun _ zs => perm is zs) Ek tNil tk) (mCallP b N.length np is a) := fun γ O H σ e Q r g => by
  unfold mCallP at g
  change Good K γ O H σ E _ Q (M.andThen a (fun ds => fun e => if (perm is ds).length = np then back e (runD b N.length ((perm is ds).map .d)) else .bad) e) at g
  show tk σ H _
  refine J.bind (te := tk) (T := TDs K) (T' := TD K) h r g fun ds e1 vs H1 r1 f1 t1 g1 => ?_
  by_cases nl : (perm is ds).length = np
  · rw [if_pos nl] at g1
    exact sp_of hE (by rw [List.length_map]; exact nl) r1 (DDs.sla (t1.perm is)) g1
  · rw [if_neg nl] at g1; exact g1.elim
theorem ex_callP0 {N : List Str} {np : Nat} {b : M Out} {tk : TA} {a : M (List D)} (is : List Nat) (h : EA K E0S tk a) : EX K E0S (tCallK (spM0 K N np b) (fun _ zs => perm is zs) E0 tNil tk) (mCallP b N.length np is a) := ex_callP (Ek := E0) is (fun _ => rfl) h
theorem perm_vals {vs : List V} {us : List Value} (r : Vals vs us) : ∀ is : List Nat, Vals (perm is vs) (perm is us)
  | [] => .nil
  | i :: is => by
    have ih := perm_vals r is
    unfold perm at ih ⊢
    rw [List.filterMap_cons, List.filterMap_cons]
    cases q : vs[i]? with
    | none => rw [r.none_of q]; exact ih
    | some v =>
      obtain ⟨u, hu, ru⟩ := r.get q
      rw [hu]
      exact .cons ru ih
structure TabS (K : PySem.W.Frag) (w : World) (d : Addr) (f : Str → Option Str) : Prop where
  kd : ∃ es n, KDict K w d es n
  get : ∀ z, (f z = none → PySem.W.nsIn K d z = some none) ∧ ∀ y, f z = some y → ∃ t, PySem.W.nsIn K d z = some (some (.str y t))
def tabG (f : Str → Option Str) : D → Option D
  | .str z => (f z).map .str
  | _ => none
def mTab (f : Str → Option Str) (m : M D) : M D := m >>= fun d => M.lift (tabG f d)
theorem ex_tab {w : World} {d : Addr} {f : Str → Option Str} {te : TE} {m : M D} (T : TabS K w d f) (h : EX K E te m) : EX K E (tOp (rIxD K w) (tC (.ref d)) te) (mTab f m) := fun γ O H σ e Q r g =>
  J.bind (te := te) (T := TD K) (T' := TD K) h r g fun x e1 v H1 r1 f1 t1 g1 => by
    cases x with
    | str z =>
      cases t1
      have g2 : Good K γ O H1 σ E (fun H' => TD K O H' σ) Q (M.lift ((f z).map D.str) e1) := g1
      cases q : f z with
      | none => rw [q] at g2; exact g2.elim
      | some y =>
        rw [q] at g2
        obtain ⟨t, ht⟩ := (T.get z).2 y q
        obtain ⟨es, n, kd⟩ := T.kd
        exact ⟨d, z, .str y, rfl, rfl, ⟨es, n, _, kd.at_, kd.lit, ht, t, rfl⟩, g2 _ H1 r1 (Fr.refl _ _) (.str _)⟩
    | _ => exact g1.elim
abbrev rNotT (K : PySem.W.Frag) (d : Addr) : R2 := fun x y H Q => ∃ (z : Str) (r : Option Value), x = .str z ∧ y = .ref d ∧ PySem.W.nsIn K d z = some r ∧ Q (.bl (!r.isSome)) H
def tabN (f : Str → Option Str) : D → Option D
  | .str z => some (.bl (!(f z).isSome))
  | _ => none
def mTabN (f : Str → Option Str) (m : M D) : M D := m >>= fun d => M.lift (tabN f d)
theorem ex_tabN {w : World} {d : Addr} {f : Str → Option Str} {te : TE} {m : M D} (T : TabS K w d f) (h : EX K E te m) : EX K E (tOp (rNotT K d) te (tC (.ref d))) (mTabN f m) := fun γ O H σ e Q r g =>
  J.bind (te := te) (T := TD K) (T' := TD K) h r g fun x e1 v H1 r1 f1 t1 g1 => by
    cases x with
    | str z =>
      cases t1
      have g2 : Good K γ O H1 σ E (fun H' => TD K O H' σ) Q (.ok (.bl (!(f z).isSome)) e1) := g1
      cases q : f z with
      | none =>
        rw [q] at g2
        exact ⟨z, none, rfl, rfl, (T.get z).1 q, g2 _ H1 r1 (Fr.refl _ _) (.bl _)⟩
      | some y =>
        rw [q] at g2
        obtain ⟨t, ht⟩ := (T.get z).2 y q
        exact ⟨z, some (.str y t), rfl, rfl, ht, g2 _ H1 r1 (Fr.refl _ _) (.bl _)⟩
    | _ => exact g1.elim
abbrev rTupS : List V → Hp → VK → Prop := fun xs H Q => ∃ z, xs = [.str z] ∧ z.length ≤ sizeLine ∧ ∀ p, H p = none → Q (.ref p) (upd H p (.tup (z.cps.toList.map fun c => V.str ⟨#[c]⟩)))
end
end Mir

set_option Elab.async false
set_option linter.all false
set_option maxRecDepth 100000
set_option maxHeartbeats 4000000
namespace Mir
open PySem L2

section
variable {X : Cx}

theorem callTupS (hc : X.calm = true) : CallR X (.type "tuple") rTupS := fun pins s σ H xs us Q I r h => by
  obtain ⟨z, rfl, hz, q⟩ := h
  obtain ⟨u, rfl, t, rfl⟩ : ∃ u, us = [u] ∧ RelV (.str z) u := by
    cases r with
    | cons a b => cases b; exact ⟨_, rfl, a⟩
  refine call_tuple_str (I.ok.hd hc) z t (fun h' tk acc kp it => ?_) hz
  have vals : Vals (z.cps.toList.map fun c => V.str ⟨#[c]⟩) acc.toList := by
    have key : ∀ (cs : List Nat) (ws : List Value), ws.length = cs.length → (∀ (j : Nat) (v : Value), ws[j]? = some v → ∃ (c : Nat) (u : Tok), cs[j]? = some c ∧ v = Value.str ⟨#[c]⟩ u) → Vals (cs.map fun c => V.str ⟨#[c]⟩) ws := by
      intro cs
      induction cs with
      | nil => intro ws hl _; cases ws with | nil => exact .nil | cons _ _ => cases hl
      | cons c cs ih =>
        intro ws hl hv
        cases ws with
        | nil => cases hl
        | cons w ws =>
          obtain ⟨c', u, h1, h2⟩ := hv 0 w rfl
          simp at h1; subst h1
          exact .cons ⟨u, h2⟩ (ih ws (Nat.succ.inj hl) fun j v hj => by simpa using hv (j + 1) v (by simpa using hj))
    refine key _ _ (by rw [Array.length_toList, it.1, Array.length_toList]) fun j v hj => ?_
    obtain ⟨c, u, h1, h2⟩ := it.2 j v (by simpa using hj)
    exact ⟨c, u, by simpa using h1, h2⟩
  have I1 : Inv X pins σ H { s with heap := h', toks := tk } := I.kept (t' := tk) kp
  have hf : H h'.objs.size = none := I1.hok.fresh (Nat.le_refl _)
  exact ⟨.ref h'.objs.size, _, I1.laid (t' := tk) (o := .tup (z.cps.toList.map fun c => V.str ⟨#[c]⟩)) (fun b o e => Heap.get?_push_of_some _ e) (Nat.le_refl _) ⟨by rw [List.length_map]; exact hz, acc.toList, vals, ⟨_, Heap.get?_push_size _ rfl, rfl, 0, by simp⟩⟩, rfl, q _ hf⟩
end
section
variable {K : PySem.W.Frag}
abbrev rTupleB (K : PySem.W.Frag) : List V → Hp → VK → Prop := rOrC (rTupleA K) rTupS
def dTupleB : List D → Option D
  | [.str z] => if mLine z.length = true then some (.tup (signs z)) else none
  | ds => dTuple ds
theorem signs_rel {H : Hp} : ∀ cs : List Nat, DDs K H (cs.map fun c => V.str ⟨#[c]⟩) (cs.map fun c => D.str ⟨#[c]⟩)
  | [] => .nil
  | c :: cs => .cons (.str _) (signs_rel cs)
theorem tuple_B : OPn K (rTupleB K) dTupleB := fun O H xs ds d Q l hz h k => by
  unfold dTupleB at h
  split at h
  · rename_i z
    obtain ⟨x, rfl, hx⟩ := hz.one
    cases hx.str
    by_cases hl : mLine z.length = true
    · rw [if_pos hl] at h; cases h
      exact .inr ⟨z, rfl, mLine_ok hl, fun p hp => k _ _ (Evl.Ex.new hp) (DD.new_tup hp (live_out l hp) (signs_rel _))⟩
    · rw [if_neg hl] at h; cases h
  · exact .inl (tuple_D O H xs _ d Q l hz h k)
def leAt (xs ys : List Str) : Bool := Ob.lexAt (fun j => xs.getD j Str.empty == ys.getD j Str.empty) (fun j => !ltStr (ys.getD j Str.empty) (xs.getD j Str.empty)) (decide (xs.length ≤ ys.length)) 0 (min xs.length ys.length)
def rLeTS (K : PySem.W.Frag) : R2 := fun x y H Q => ∃ (a b : Addr) (ss ts : List Str), x = .ref a ∧ y = .ref b ∧ SqT K H a (ss.map V.str) ∧ SqT K H b (ts.map V.str) ∧ Q (.bl (leAt ss ts)) H
theorem str_item : ∀ {ss : List Str} {us : List Value} {j : Nat} {v : Value}, Vals (ss.map V.str) us → us[j]? = some v → ∃ t, v = .str (ss.getD j Str.empty) t
  | [], _, j, _, .nil, h => by simp at h
  | s :: ss, _, 0, _, .cons a _, h => by
    simp at h; subst h
    obtain ⟨t, rfl⟩ := a
    exact ⟨t, rfl⟩
  | s :: ss, _, j + 1, v, .cons _ b, h => by
    obtain ⟨t, ht⟩ := str_item (j := j) b (by simpa using h)
    exact ⟨t, by simpa using ht⟩
theorem op_leTS {X : Cx} (hu : X.A.units < cLine) : OpR X (compareOp .LtE) (rLeTS X.K) := fun pins s σ H x y v u Q I rx ry h => by
  obtain ⟨a, b, ss, ts, rfl, rfl, ha, hb, q⟩ := h
  cases rx; cases ry
  obtain ⟨is1, v1, t1, _⟩ := I.tuple ha
  obtain ⟨is2, v2, t2, _⟩ := I.tuple hb
  have z1 : is1.toArray.size = ss.length := by rw [List.size_toArray, ← v1.length, List.length_map]
  have z2 : is2.toArray.size = ts.length := by rw [List.size_toArray, ← v2.length, List.length_map]
  have res := Ob.RcOp.tuples_le (A := X.A) (s := s) (e := fun j => ss.getD j Str.empty == ts.getD j Str.empty) (r := fun j => !ltStr (ts.getD j Str.empty) (ss.getD j Str.empty)) t1 t2 hu
    (fun j g1 g2 => by
      obtain ⟨k1, e1⟩ := str_item v1 (j := j) (v := is1.toArray[j]) (by simpa using g1)
      obtain ⟨k2, e2⟩ := str_item v2 (j := j) (v := is2.toArray[j]) (by simpa using g2)
      rw [e1, e2]
      exact SeqAt.EqAt.str_str _ _ _ _)
    (fun j g1 g2 _ => by
      obtain ⟨k1, e1⟩ := str_item v1 (j := j) (v := is1.toArray[j]) (by simpa using g1)
      obtain ⟨k2, e2⟩ := str_item v2 (j := j) (v := is2.toArray[j]) (by simpa using g2)
      rw [e1, e2]
      exact fun prog w E Q h => PySem.P.le_str h)
  rw [z1, z2] at res
  exact res X.prog X.w X.xe (EP X pins σ Q) ⟨.bl _, H, I, rfl, q⟩
abbrev rLeB (K : PySem.W.Frag) : R2 := rOr rLeA (rLeTS K)
def dLeB : D → D → Option D
  | .tup xs, .tup ys => match strsD xs, strsD ys with
    | some ss, some ts => some (.bl (leAt ss ts))
    | _, _ => none
  | x, y => dLe x y
theorem opLeB {X : Cx} (hu : X.A.units < cLine) : OpR X (compareOp .LtE) (rLeB X.K) := opLeA.or (op_leTS hu)
theorem op_leDB : OP2 K (rLeB K) dLeB := fun O H x y dx dy d Q l hx hy h k => by
  unfold dLeB at h
  split at h
  · rename_i xs ys
    obtain ⟨a, vs, rfl, ha, t⟩ := hx.tup
    obtain ⟨b, us, rfl, hb, t2⟩ := hy.tup
    cases q1 : strsD xs with
    | none => rw [q1] at h; cases h
    | some ss =>
      cases q2 : strsD ys with
      | none => rw [q1, q2] at h; cases h
      | some ts =>
        rw [q1, q2] at h
        cases h
        obtain ⟨e1, _⟩ := strs_rel t q1
        obtain ⟨e2, _⟩ := strs_rel t2 q2
        subst e1; subst e2
        exact .inr ⟨a, b, ss, ts, rfl, rfl, ha, hb, k _ H (Evl.Ex.refl H) (.bl _)⟩
  · exact .inl (op_leD O H x y dx dy d Q l hx hy h k)
end
end Mir

set_option Elab.async false
set_option linter.all false
set_option maxRecDepth 100000
set_option maxHeartbeats 4000000
namespace Mir
open PySem L2

/-- what stands in the parameters' order, if all are given by name -/
def gK {α : Type} (d : α) (np : Nat) (is : List Nat) (us zs : List α) : List α := if us.length = 0 ∧ zs.length = is.length then perm is zs else List.replicate (np + 1) d
theorem vals_rep : ∀ n : Nat, Vals (List.replicate n V.non) (List.replicate n Value.none)
  | 0 => .nil
  | n + 1 => by
    rw [List.replicate_succ, List.replicate_succ]
    exact .cons rfl (vals_rep n)
section
variable {K : PySem.W.Frag}
theorem kb_of {x qual : Str} {st : Stmt} {f : Addr} {fd : FuncData} {ps ks : List Str} {is : List Nat} (F : Fun K x qual st f fd) (hk : ks.length = is.length)
    (h : ∀ (kV doc pm : Value) (an : Option Addr) (cdv ct : Value) (ws : List Value), ws.length = is.length → bindArgs (PySem.W.fnOf x qual (defArgs st) (defBody st) (defScope st) .none kV doc pm an cdv ct) ⟨[], ks.zip ws⟩ = pure (ps.zip (perm is ws))) :
    KBinds K fd ps ks (gK Value.none ps.length is) (gK V.non ps.length is) where
  to := fun s us ws _ hl => by
    obtain ⟨oc, od, kV, doc, pm, an, cdv, ct, osl, rfl, _, _⟩ := F.ex
    by_cases z : us.length = 0 ∧ ws.length = is.length
    · have e : gK Value.none ps.length is us ws = perm is ws := if_pos z
      rw [e]
      have e0 : us = [] := List.eq_nil_of_length_eq_zero z.1
      rw [e0]
      exact .of_eq (h kV doc pm an cdv ct ws z.2)
    · have e : gK Value.none ps.length is us ws = List.replicate (ps.length + 1) Value.none := if_neg z
      rw [e, List.length_replicate] at hl
      omega
  rel := fun {vs us zs ws} r1 r2 => by
    unfold gK
    rw [r1.length, r2.length]
    by_cases z : us.length = 0 ∧ ws.length = is.length
    · rw [if_pos z, if_pos z]; exact perm_vals r2 is
    · rw [if_neg z, if_neg z]; exact vals_rep _
variable {E : XS} {γ : Gh} {O : List Addr} {H : Hp} {σ : L2.St} {e : Env}
def callQ (b : M Out) (n np : Nat) (is : List Nat) (ds : List D) : M D := fun e => if ds.length = is.length ∧ (perm is ds).length = np then back e (runD b n ((perm is ds).map .d)) else .bad
def mCallQ (b : M Out) (n np : Nat) (is : List Nat) (a : M (List D)) : M D := a >>= callQ b n np is
theorem ex_callQ0 {N : List Str} {np m : Nat} {b : M Out} {tk : TA} {a : M (List D)} (is : List Nat) (h : EA K E0S tk a) : EX K E0S (tCallK (spM0 K N np b) (gK V.non m is) E0 tNil tk) (mCallQ b N.length np is a) := fun γ O H σ e Q r g => by
  show tk σ H _
  refine J.bind (te := tk) (T := TDs K) (T' := TD K) h r g fun ds e1 vs H1 r1 f1 t1 g1 => ?_
  unfold callQ at g1
  by_cases z : ds.length = is.length ∧ (perm is ds).length = np
  · rw [if_pos z] at g1
    have e0 : gK V.non m is [] vs = perm is vs := if_pos ⟨rfl, by rw [t1.length]; exact z.1⟩
    show spM K N np b (gK V.non m is [] vs) H1 Q E0
    rw [e0]
    exact sp_of (fun _ => rfl) (by rw [List.length_map]; exact z.2) r1 (DDs.sla (t1.perm is)) g1
  · rw [if_neg z] at g1; exact g1.elim
def spLaw (K : PySem.W.Frag) : Sp := fun vs H Q _ => ∃ (a : Addr) (ns : List Int), vs = [.ref a] ∧ SqL K H a (ns.map V.int) ∧ ns.length ≤ 63 ∧ ∀ H', Q (.bl true) H'
def TabAt (K : PySem.W.Frag) (d : Addr) (f : Str → Option Str) (z : Str) : Prop := (f z = none → PySem.W.nsIn K d z = some none) ∧ ∀ y, f z = some y → ∃ t, PySem.W.nsIn K d z = some (some (.str y t))
/-- a written dict's entries, all texts -/
inductive TabL : List DictEntry → List (Str × Str) → Prop
  | nil : TabL [] []
  | cons {d : DictEntry} {ds : List DictEntry} {k v : Str} {ps : List (Str × Str)} {t u : Tok} : d.key = .str k t → d.val = .str v u → TabL ds ps → TabL (d :: ds) ((k, v) :: ps)
def tabOf (ps : List (Str × Str)) (z : Str) : Option Str := (ps.find? fun p => p.1 == z).map (·.2)
theorem tabL_ref : ∀ {ds : List DictEntry} {ps : List (Str × Str)}, TabL ds ps → ds.any (·.refKey) = false
  | _, _, .nil => rfl
  | _, _, .cons (d := d) (ds := ds) h _ r => by
    have e : d.refKey = false := by unfold DictEntry.refKey; rw [h]
    rw [List.any_cons, e, tabL_ref r]
    rfl
theorem tabL_find (z : Str) : ∀ {ds : List DictEntry} {ps : List (Str × Str)}, TabL ds ps →
    (tabOf ps z = none → ds.find? (·.key.isStr z) = none) ∧ ∀ y, tabOf ps z = some y → ∃ d t, ds.find? (·.key.isStr z) = some d ∧ d.val = .str y t
  | _, _, .nil => ⟨fun _ => rfl, fun y h => by cases h⟩
  | _, _, .cons (d := d) (ds := ds) (k := k) (v := v) (ps := ps) h hv r => by
    have e : d.key.isStr z = (k == z) := by rw [h]; rfl
    have ih := tabL_find z r
    unfold tabOf at ih ⊢
    by_cases q : (k == z) = true
    · have f1 : ((k, v) :: ps).find? (fun p => p.1 == z) = some (k, v) := List.find?_cons_of_pos q
      have f2 : (d :: ds).find? (·.key.isStr z) = some d := List.find?_cons_of_pos (by rw [e]; exact q)
      rw [f1, f2]
      refine ⟨fun w => ?_, fun y w => ?_⟩
      · cases w
      · cases w; exact ⟨d, _, rfl, hv⟩
    · have f1 : ((k, v) :: ps).find? (fun p => p.1 == z) = ps.find? (fun p => p.1 == z) := List.find?_cons_of_neg q
      have f2 : (d :: ds).find? (·.key.isStr z) = ds.find? (·.key.isStr z) := List.find?_cons_of_neg (by rw [e]; exact q)
      rw [f1, f2]
      exact ih
theorem tab_at {a : Addr} {es : Array DictEntry} {n : Nat} {ps : List (Str × Str)} (h : K.lookup a = some ⟨.type "dict", none, .dict es n, #[]⟩) (t : TabL es.toList ps) (z : Str) : TabAt K a (tabOf ps) z := by
  have e : PySem.W.nsIn K a z = (match es.toList.find? (·.key.isStr z) with
      | some e => some (some e.val)
      | none => if es.toList.any (·.refKey) then none else some none) := by
    unfold PySem.W.nsIn
    rw [h]
    rfl
  obtain ⟨h1, h2⟩ := tabL_find z t
  refine ⟨fun q => ?_, fun y q => ?_⟩
  · rw [e, h1 q, tabL_ref t]
    rfl
  · obtain ⟨d, u, f1, f2⟩ := h2 y q
    rw [e, f1]
    refine ⟨u, ?_⟩
    show some (some d.val) = _
    rw [f2]
theorem law_sp {P : Program} {w : World} {mg : Str → Option Value} {base : Heap} {k : Nat} {f : Addr} {fd : FuncData} {ps N : List Str} {b : M Out} (F : FnOk P w K mg base CX0 k f fd ps (spM0 K N 1 b))
    (h : ∀ ns : List Int, ns.length ≤ 63 → ∃ e', b (startE N.length [.d (.fz (ns.map D.int))]) = .ok (.rt (.bl true)) e') : FnOk P w K mg base CX0 k f fd ps (spLaw K) :=
  F.imp fun vs H Q E hs => by
    obtain ⟨a, ns, rfl, sq, hl, q⟩ := hs
    obtain ⟨e', he⟩ := h ns hl
    have r : Rel K ⟨fun _ => none, [], fun _ => 0⟩ [] H [] [] := {
      bo := fun q h => (by cases h)
      live := fun q h => (by cases h)
      gs := fun q o h => (by cases h)
      len := rfl
      sl := fun i s h => (by simp at h)
      dj := fun i j xs ys v h => (by simp at h)
      ij := fun i j xs ys h => (by simp at h) }
    have ex : Ex H (msk [] H) := fun a o e => by rw [msk_out (by simp)]; exact e
    have dd : DDs K (msk [] H) [.ref a] [.fz (ns.map D.int)] := .cons (.fz (Evl.ex_l ex sq) (DDs.ints ns)) .nil
    refine ⟨_, [], [.d (.fz (ns.map D.int))], rfl, rfl, rfl, Rel.callee (ds := [.fz (ns.map D.int)]) r dd, ?_⟩
    rw [he]
    intro O' σ' v H' _ _ t
    cases t
    exact q H'
theorem bind_one {x qual y : Str} {st : Stmt} {f : Addr} {fd : FuncData} (F : Fun K x qual st f fd)
    (h : ∀ (kV doc pm : Value) (an : Option Addr) (cdv ct v : Value), bindArgs (PySem.W.fnOf x qual (defArgs st) (defBody st) (defScope st) .none kV doc pm an cdv ct) ⟨[v], []⟩ = pure [(y, v)]) (s : Shared) (v : Value) : BindsTo s fd ⟨[v], []⟩ [(y, v)] := by
  obtain ⟨oc, od, kV, doc, pm, an, cdv, ct, osl, rfl, _, _⟩ := F.ex
  exact .of_eq (h kV doc pm an cdv ct v)
end
end Mir

set_option Elab.async false
set_option linter.all false
set_option maxRecDepth 100000
set_option maxHeartbeats 4000000
namespace Mir
open PySem L2

/-- the answer of a def whose arguments are all data -/
def outD : R Out → Option D
  | .ok (.rt d) _ => some d
  | .ok (.rf xs) _ => some (.lst xs)
  | .ok .nx _ => some .non
  | _ => none
/-- the answer, and what has become of the given list -/
def outI (r : R Out) : Option (D × List D) := match r with
  | .ok (.rt d) e => (ioAt e).map fun ys => (d, ys)
  | .ok (.rf xs) e => (ioAt e).map fun ys => (.lst xs, ys)
  | .ok .nx e => (ioAt e).map fun ys => (.non, ys)
  | _ => none
def outF : R Out → Option (List D)
  | .ok (.rf xs) _ => some xs
  | _ => none
theorem runD_of {b : M Out} {n : Nat} {as : List Sl} {d : D} (h : outD (b (startE n as)) = some d) : ∃ e', runD b n as = .ok d e' := by
  unfold runD
  unfold outD at h
  split at h <;> first | (cases h; rename_i q; rw [q]; exact ⟨_, rfl⟩) | cases h
theorem call_of {b : M Out} {n np : Nat} {a : M (List D)} {e e1 : Env} {ds : List D} {d : D} (ha : a e = .ok ds e1) (hn : ds.length = np) (h : outD (b (startE n (ds.map .d))) = some d) : mCall b n np a e = .ok d e1 := by
  obtain ⟨e', he⟩ := runD_of h
  simp [mCall, bind, M.andThen, ha, hn, he, back]
theorem callS_of {b : M Out} {n np : Nat} {a : M (List Sl)} {e e1 : Env} {ss : List Sl} {d : D} (ha : a e = .ok ss e1) (hn : ss.length = np) (h : outD (b (startE n ss)) = some d) : mCallS b n np a e = .ok d e1 := by
  obtain ⟨e', he⟩ := runD_of h
  unfold mCallS
  rw [bind_eq, ha]
  show (if ss.length = np then back e1 (runD b n ss) else .bad) = _
  rw [if_pos hn, he]
  rfl
theorem callI_of {b : M Out} {n np j : Nat} {a : M (List D)} {e e1 : Env} {ds xs0 xs ys : List D} {d : D} (h0 : ownAt e j = some xs0) (ha : a e = .ok ds e1) (h1 : ownAt e1 j = some xs) (hn : ds.length + 1 = np)
    (h : outI (b (startE n (.io xs :: ds.map .d))) = some (d, ys)) : mCallI b n np j a e = .ok d (setSame e1 j ys) := by
  have key : ∃ e', runD b n (.io xs :: ds.map .d) = .ok d e' ∧ ioAt e' = some ys := by
    unfold runD
    unfold outI at h
    split at h
    · rename_i d' e' q
      rw [q]
      cases z : ioAt e' with
      | none => rw [z] at h; cases h
      | some zs => rw [z] at h; cases h; exact ⟨_, rfl, z⟩
    · rename_i d' e' q
      rw [q]
      cases z : ioAt e' with
      | none => rw [z] at h; cases h
      | some zs => rw [z] at h; cases h; exact ⟨_, rfl, z⟩
    · rename_i e' q
      rw [q]
      cases z : ioAt e' with
      | none => rw [z] at h; cases h
      | some zs => rw [z] at h; cases h; exact ⟨_, rfl, z⟩
    · cases h
  obtain ⟨e', h2, h3⟩ := key
  unfold mCallI
  rw [h0]
  show (a >>= callI b n np j) e = _
  rw [bind_eq, ha]
  show callI b n np j ds e1 = _
  unfold callI
  rw [h1]
  show (if ds.length + 1 = np then backI e1 j (runD b n (.io xs :: ds.map .d)) else .bad) = _
  rw [if_pos hn, h2]
  show (match ioAt e' with | some ys => R.ok d (setSame e1 j ys) | none => R.bad) = _
  rw [h3]
theorem oCall_of {b : M Out} {n np : Nat} {a : M (List D)} {e e1 : Env} {ds xs : List D} (ha : a e = .ok ds e1) (hn : ds.length = np) (h : outF (b (startE n (ds.map .d))) = some xs) : oCall b n np a e = .ok xs e1 := by
  have key : ∃ e', b (startE n (ds.map .d)) = .ok (.rf xs) e' := by
    unfold outF at h
    split at h
    · rename_i q; cases h; exact ⟨_, q⟩
    · cases h
  obtain ⟨e', he⟩ := key
  simp [oCall, bind, M.andThen, ha, hn, he, backF]
theorem callF_of {b : M Out} {n : Nat} {m : M (List D)} {e e1 : Env} {xs : List D} {d : D} (hm : m e = .ok xs e1) (h : outD (b (startE n [.io xs])) = some d) : mCallF b n 1 m e = .ok d e1 := by
  obtain ⟨e', he⟩ := runD_of h
  unfold mCallF
  rw [bind_eq, hm]
  show callF b n 1 xs e1 = _
  unfold callF
  rw [if_pos rfl, he]
  rfl
/-- three numbers, the last of them how many have been drawn; n more may come -/
def Box (n : Nat) (xs : List D) : Prop := ∃ a b c : Int, xs = [.int a, .int b, .int c] ∧ 0 ≤ c ∧ c + n ≤ 1000000000
theorem Box.mono {m n : Nat} {xs : List D} (h : Box n xs) (k : m ≤ n) : Box m xs := by
  obtain ⟨a, b, c, h1, h2, h3⟩ := h
  exact ⟨a, b, c, h1, h2, by omega⟩
theorem small_of {i : Int} (h1 : 0 ≤ i) (h2 : i < 2 ^ 62) : Mir.small64 i = true := by
  unfold Mir.small64
  simp only [Bool.and_eq_true, decide_eq_true_eq]
  omega
theorem fmod_lo {x n : Int} (h : 0 < n) : 0 ≤ x.fmod n ∧ x.fmod n < n := ⟨Int.fmod_nonneg_of_pos x h, Int.fmod_lt_of_pos x h⟩
/-- a def that draws: the list given, and n more draws; what it gives, and a list for m more -/
def Draws (b : M Out) (N : Nat) (ds : List D) (n m : Nat) (P : D → Prop) : Prop := ∀ xs, Box n xs → ∃ d ys, P d ∧ Box m ys ∧ outI (b (startE N (.io xs :: ds.map .d))) = some (d, ys)
end Mir
namespace Mir
open PySem L2
theorem comp_map {s : D → Env → Option Env} {x : M D} {vs : List Nat} {e : Env} {f : D → D} : ∀ {ds acc : List D}, acc.length + ds.length ≤ 100000 → (∀ d ∈ ds, ∃ e1 e2, s d e = some e1 ∧ x e1 = .ok (f d) e2 ∧ ewipe e2 vs = e) →
    mComp s tYesM x vs acc ds e = .ok (acc ++ ds.map f) e
  | [], acc, _, _ => by
    rw [List.map_nil, List.append_nil]
    rfl
  | d :: ds, acc, hl, h => by
    obtain ⟨e1, e2, h1, h2, h3⟩ := h d List.mem_cons_self
    rw [List.length_cons] at hl
    have hm : mLine (acc.length + 1) = true := decide_eq_true (by omega)
    have ih := comp_map (s := s) (x := x) (vs := vs) (e := e) (f := f) (ds := ds) (acc := acc ++ [f d]) (by rw [List.length_append, List.length_singleton]; omega) fun d' hd => h d' (List.mem_cons_of_mem _ hd)
    have ht : tYesM e1 = .ok true e1 := rfl
    unfold mComp
    simp only [h1, ht, h2, hm, if_true, h3, ih]
    simp
theorem lc_map {w : M (List D)} {s : D → Env → Option Env} {x : M D} {vs : List Nat} {e e1 : Env} {ds : List D} {f : D → D} (hw : w e = .ok ds e1) (hl : ds.length ≤ 100000) (h0 : ewipe e1 vs = e1)
    (h : ∀ d ∈ ds, ∃ e2 e3, s d e1 = some e2 ∧ x e2 = .ok (f d) e3 ∧ ewipe e3 vs = e1) : mLc w s tYesM x vs e = .ok (ds.map f) e1 := by
  have q := comp_map (acc := []) (by simpa using hl) h
  show M.andThen w (fun ds => fun e => mComp s tYesM x vs [] ds (ewipe e vs)) e = _
  unfold M.andThen
  rw [hw]
  show mComp s tYesM x vs [] ds (ewipe e1 vs) = _
  rw [h0, q, List.nil_append]
/-- data without dicts, instances and defs, at most n deep -/
def plainN : Nat → D → Bool
  | 0, _ => false
  | _ + 1, .non => true
  | _ + 1, .bl _ => true
  | _ + 1, .int _ => true
  | _ + 1, .str s => PyData.strOk s
  | n + 1, .lst xs => decide (xs.length ≤ 100000) && xs.all (plainN n)
  | n + 1, .tup xs => decide (xs.length ≤ 100000) && xs.all (plainN n)
  | _ + 1, _ => false
theorem zip_self : ∀ {xs : List D} {d : D}, d ∈ zipD xs xs → ∃ x ∈ xs, d = .tup [x, x]
  | [], d, h => by cases h
  | x :: xs, d, h => by
    have h : d ∈ D.tup [x, x] :: zipD xs xs := h
    rcases List.mem_cons.mp h with z | z
    · exact ⟨x, List.mem_cons_self, z⟩
    · obtain ⟨y, hy, e⟩ := zip_self z
      exact ⟨y, List.mem_cons_of_mem _ hy, e⟩
theorem zip_self_len : ∀ {xs : List D}, (zipD xs xs).length = xs.length
  | [] => rfl
  | x :: xs => congrArg (· + 1) zip_self_len
theorem bls_true {α : Type} : ∀ (l : List α), blsD (l.map fun _ => D.bl true) = some (l.map fun _ => true)
  | [] => rfl
  | a :: l => by
    show (blsD (l.map fun _ => D.bl true)).map (true :: ·) = _
    rw [bls_true l]
    rfl
end Mir

set_option Elab.async false
set_option linter.all false
namespace Mir
open PySem L2
theorem mNil_at {e} : mNil e = (M.ret []) e := rfl
theorem mCons_at {a b e} : mCons a b e = (M.andThen a (fun x => M.andThen b (fun xs => M.ret (x :: xs)))) e := rfl
theorem wNil_at {e} : wNil e = (M.ret []) e := rfl
theorem wCons_at {a b e} : wCons a b e = (M.andThen a (fun x => M.andThen b (fun xs => M.ret (x :: xs)))) e := rfl
theorem mRd1_at {m f e} : mRd1 m f e = (M.andThen m (fun a => M.andThen (rd a) (fun x => M.lift (f x)))) e := rfl
theorem mBin_at {f a b e} : mBin f a b e = (M.andThen a (fun x => M.andThen b (fun y => M.lift (f x y)))) e := rfl
theorem mBinV_at {f a b e} : mBinV f a b e = (M.andThen a (fun x => M.andThen b (fun y => M.andThen (rd x) (fun dx => M.andThen (rd y) (fun dy => M.lift (f dx dy)))))) e := rfl
theorem mCB_at {f a e} : mCB f a e = (M.andThen a (fun xs => M.lift (f xs))) e := rfl
theorem mCW_at {f a e} : mCW f a e = (M.andThen a (fun vs => M.andThen (rds vs) (fun xs => M.lift (f xs)))) e := rfl
theorem mTup_at {a e} : mTup a e = (M.andThen a (fun xs => M.lift (if mLine xs.length = true then some (.tup xs) else none))) e := rfl
theorem mLst_at {a e} : mLst a e = (M.andThen a (fun xs => M.lift (if mLine xs.length = true then some (.lst xs) else none))) e := rfl
theorem oLst_at {a e} : oLst a e = (M.andThen a (fun xs => M.lift (if mLine xs.length = true then some xs else none))) e := rfl
theorem mNot_at {m e} : mNot m e = (M.andThen m (fun b => M.ret (!b))) e := rfl
theorem mAnd_at {m n e} : mAnd m n e = (M.andThen m (fun b => if b = true then n else M.ret false)) e := rfl
theorem mOr_at {m n e} : mOr m n e = (M.andThen m (fun b => if b = true then M.ret true else n)) e := rfl
theorem mBl_at {m e} : mBl m e = (M.andThen m (fun b => M.ret (.bl b))) e := rfl
theorem mF_at {m e} : mF m e = (M.andThen m (fun ds => M.ret (.lst ds))) e := rfl
theorem vD_at {m e} : vD m e = (M.andThen m (fun d => M.ret (.val d))) e := rfl
theorem mTru_at {a e} : mTru a e = (M.andThen a (fun v => M.andThen (rd v) (fun d => M.lift (truD d)))) e := rfl
theorem mIs1_at {n a e} : mIs1 n a e = (M.andThen a (fun v => M.andThen (rd v) (fun d => M.lift ((isTy n d).map .bl)))) e := rfl
theorem mIs2_at {m n a e} : mIs2 m n a e = (M.andThen a (fun v => M.andThen (rd v) (fun d => M.lift ((isTy2 m n d).map .bl)))) e := rfl
theorem mNotT_at {m e} : mNotT m e = (M.andThen (mTru m) (fun b => M.ret (.bl (!b)))) e := rfl
theorem mSl_at {a lo hi e} : mSl a lo hi e = (M.andThen a (fun v => M.andThen lo (fun l => M.andThen hi (fun h => M.andThen (rd v) (fun d => M.lift (dSl d l h)))))) e := rfl
theorem sIf_at {c a b e} : sIf c a b e = (M.andThen c (fun r => if r = true then a else b)) e := rfl
theorem sRet_at {m e} : sRet m e = (M.andThen m (fun d => M.ret (.rt d))) e := rfl
theorem sRetF_at {m e} : sRetF m e = (M.andThen m (fun d => M.ret (.rf d))) e := rfl
theorem sExpr_at {m e} : sExpr m e = (M.andThen m (fun _ => M.ret .nx)) e := rfl
theorem sOwn_at {i m e} : sOwn i m e = (M.andThen m (putO i)) e := rfl
theorem sFor_at {w g b e} : sFor w g b e = (M.andThen w (mLoop g b)) e := rfl
theorem wAny_at {m e} : wAny m e = (M.andThen m (fun d => M.lift (dSeq d))) e := rfl
theorem wRng1_at {m e} : wRng1 m e = (M.andThen m (fun d => M.lift (dRng1 d))) e := rfl
theorem wRng2_at {m e} : wRng2 m e = (M.andThen m (fun d => M.lift (dRng2 d))) e := rfl
theorem wEnum_at {m e} : wEnum m e = (M.andThen m (fun d => M.lift (dEnum d))) e := rfl
theorem wZip_at {m e} : wZip m e = (M.andThen m (fun d => M.lift (dZip d))) e := rfl
theorem oCB_at {f a e} : oCB f a e = (M.andThen a (fun xs => M.lift (f xs))) e := rfl
theorem oCW_at {f a e} : oCW f a e = (M.andThen a (fun vs => M.andThen (rds vs) (fun xs => M.lift (f xs)))) e := rfl
theorem mUn_at {f m e} : mUn f m e = (M.andThen m (fun x => M.lift (f x))) e := rfl
theorem mFmt_at {m e} : mFmt m e = (M.andThen m (fun d => M.lift ((fmtD d).map .str))) e := rfl
theorem aT_at {α β : Type} {m : M α} {f : α → M β} {e : Env} : M.andThen m f e = match m e with | .ok a e' => f a e' | .ex x e' => .ex x e' | .bad => .bad := rfl
theorem ret_at {α : Type} {a : α} {e : Env} : (M.ret a) e = .ok a e := rfl
theorem mIf_at {α : Type} {c : M Bool} {m n : M α} {e : Env} : mIf c m n e = M.andThen c (fun b => if b = true then m else n) e := rfl
theorem ite_at {α : Type} {c : Prop} [Decidable c] {m n : M α} {e : Env} : (if c then m else n) e = if c then m e else n e := by split <;> rfl
theorem mB_at {m : M D} {e : Env} : mB m e = match m e with | .ok (.bl b) e' => .ok b e' | .ok _ _ => .bad | .ex x e' => .ex x e' | .bad => .bad := by
  show M.andThen m _ e = _
  unfold M.andThen
  cases m e with
  | ok d e' => cases d <;> rfl
  | ex x e' => rfl
  | bad => rfl
theorem sSeq_at {a b : M Out} {e : Env} : sSeq a b e = match a e with | .ok .nx e' => b e' | .ok o e' => .ok o e' | .ex x e' => .ex x e' | .bad => .bad := by
  show M.andThen a _ e = _
  unfold M.andThen
  cases a e with
  | ok d e' => cases d <;> rfl
  | ex x e' => rfl
  | bad => rfl
theorem lift_at {α : Type} {o : Option α} {e : Env} : (M.lift o) e = match o with | some a => .ok a e | none => .bad := rfl
theorem mAndT_at {a b : M D} {e : Env} : mAndT a b e = match a e with | .ok d e1 => (match truD d with | some false => .ok d e1 | some true => b e1 | none => .bad) | .ex x e' => .ex x e' | .bad => .bad := by
  show M.andThen a _ e = _
  unfold M.andThen
  cases a e with
  | ok d e1 =>
    first
      | rfl
      | (dsimp only; done)
      | (dsimp only; cases truD d <;> first | rfl | (rename_i b; cases b <;> rfl))
  | ex x e' => rfl
  | bad => rfl
theorem mOrT_at {a b : M D} {e : Env} : mOrT a b e = match a e with | .ok d e1 => (match truD d with | some true => .ok d e1 | some false => b e1 | none => .bad) | .ex x e' => .ex x e' | .bad => .bad := by
  show M.andThen a _ e = _
  unfold M.andThen
  cases a e with
  | ok d e1 =>
    first
      | rfl
      | (dsimp only; done)
      | (dsimp only; cases truD d <;> first | rfl | (rename_i b; cases b <;> rfl))
  | ex x e' => rfl
  | bad => rfl
theorem bind_at {α β : Type} {m : M α} {f : α → M β} {e : Env} : (m >>= f) e = match m e with | .ok a e' => f a e' | .ex x e' => .ex x e' | .bad => .bad := rfl
theorem mVar_at {i : Nat} {e : Env} : mVar i e = match e[i]? with | some (some (.d x)) => .ok x e | _ => .bad := rfl
theorem mOwn_at {i : Nat} {e : Env} : mOwn i e = match e[i]? with | some (some _) => .ok (.slot i) e | _ => .bad := rfl
theorem rdv_at {d : D} {e : Env} : rd (.val d) e = .ok d e := rfl
theorem rds_at {i : Nat} {e : Env} : rd (.slot i) e = match e[i]? with | some (some (.d x)) => .ok x e | some (some (Sl.ol xs)) => .ok (.lst xs) e | some (some (Sl.io xs)) => .ok (.lst xs) e | _ => .bad := rfl
theorem rdN_at {e : Env} : rds [] e = .ok [] e := rfl
theorem rdC_at {a : Dv} {r : List Dv} {e : Env} : rds (a :: r) e = M.andThen (rd a) (fun x => M.andThen (rds r) (fun xs => M.ret (x :: xs))) e := rfl
theorem sApp_at {i : Nat} {m : M D} {e : Env} : sApp i m e = match ownAt e i with | some _ => M.andThen m (appO i) e | none => .bad := rfl
theorem mPop_at {i : Nat} {m : M D} {e : Env} : mPop i m e = match ownAt e i with | some _ => M.andThen m (popO i) e | none => .bad := rfl
theorem appO_at {i : Nat} {d : D} {e : Env} : appO i d e = match ownAt e i with | some xs => if mLine (xs.length + 1) = true then .ok .nx (setSame e i (xs ++ [d])) else .bad | none => .bad := rfl
theorem sAsg_at {m : M D} {s : D → Env → Option Env} {e : Env} : sAsg m s e = match m e with | .ok d e1 => sDo (s d e1) e1 | .ex x e' => .ex x e' | .bad => .bad := by
  show M.andThen m _ e = _
  unfold M.andThen
  cases m e with
  | ok d e1 => rfl
  | ex x e' => rfl
  | bad => rfl
theorem sSet_at {i : Nat} {m k : M D} {e : Env} : sSet i m k e = match m e with | .ok d e1 => (match ownAt e1 i with | some _ => M.andThen k (Mir.putAt i d) e1 | none => .bad) | .ex x e' => .ex x e' | .bad => .bad := by
  show M.andThen m _ e = _
  unfold M.andThen
  cases m e with
  | ok d e1 => rfl
  | ex x e' => rfl
  | bad => rfl
theorem putO_at {i : Nat} {ds : List D} {e : Env} : putO i ds e = if noIo e i = true then .ok .nx (e.set i (some (.ol ds))) else .bad := rfl
theorem sRetO_at {i : Nat} {e : Env} : sRetO i e = match e[i]? with | some (some (.ol xs)) => .ok (.rf xs) e | _ => .bad := rfl
theorem loopN_at {g : D → Env → Option Env} {b : M Out} {e : Env} : mLoop g b [] e = .ok .nx e := rfl
theorem loopC_at {g : D → Env → Option Env} {b : M Out} {d : D} {ds : List D} {e e1 e2 : Env} (h1 : g d e = some e1) (h2 : b e1 = .ok .nx e2) : mLoop g b (d :: ds) e = mLoop g b ds e2 := by
  show (match g d e with | none => R.bad | some e1 => _) = _
  rw [h1]
  dsimp only
  rw [h2]
theorem oOr_at {a b : M (List D)} {e : Env} : oOr a b e = match a e with | .ok d e1 => (if d.isEmpty = true then b e1 else .ok d e1) | .ex x e' => .ex x e' | .bad => .bad := by
  show M.andThen a _ e = _
  unfold M.andThen
  cases a e with
  | ok d e1 => rfl
  | ex x e' => rfl
  | bad => rfl
theorem oSome_at {m : M D} {e : Env} : oSome m e = match m e with | .ok (.int i) e' => .ok (some i) e' | .ok _ _ => .bad | .ex x e' => .ex x e' | .bad => .bad := by
  show M.andThen m _ e = _
  unfold M.andThen
  cases m e with
  | ok d e' => cases d <;> rfl
  | ex x e' => rfl
  | bad => rfl
theorem oNone_at {e : Env} : oNone e = .ok none e := rfl
theorem mCall_at {b : M Out} {n np : Nat} {a : M (List D)} {e : Env} : mCall b n np a e = match a e with | .ok ds e1 => (if ds.length = np then back e1 (runD b n (ds.map .d)) else .bad) | .ex x e' => .ex x e' | .bad => .bad := by
  show M.andThen a _ e = _
  unfold M.andThen
  cases a e with
  | ok d e' => rfl
  | ex x e' => rfl
  | bad => rfl
theorem mCallL_at {i : Nat} {f : Addr} {b : M Out} {n np : Nat} {a : M (List D)} {e : Env} (h : e[i]? = some (some (.st (.ref f)))) : mCallL i f b n np a e = mCall b n np a e := by
  unfold mCallL
  rw [h]
  show (if f = f then mCall b n np a e else .bad) = _
  rw [if_pos rfl]
theorem sNx_at {e : Env} : sNx e = .ok .nx e := rfl
end Mir
-- mNil_at, mCons_at, wNil_at, wCons_at, mRd1_at, mBin_at, mBinV_at, mCB_at, mCW_at, mTup_at, mLst_at, oLst_at, mNot_at, mAnd_at, mOr_at, mBl_at, mF_at, vD_at, mTru_at, mIs1_at, mIs2_at, mNotT_at, mSl_at, sIf_at, sRet_at, sRetF_at, sExpr_at, sOwn_at, sFor_at, wAny_at, wRng1_at, wRng2_at, wEnum_at, wZip_at, oCB_at, oCW_at, mUn_at, mFmt_at

set_option Elab.async false
set_option linter.all false
set_option maxRecDepth 100000
set_option maxHeartbeats 4000000
namespace Mir
open PySem L2 PySem.Spec PyProof.Rows
section
variable {X : Cx} {pins : List (Addr × Obj)} {σ : L2.St} {H : Hp} {s : Shared}
/-- an object that stands in the heap, new since the entry, is tracked from here on -/
theorem track {a : Addr} {φ : Heap → Prop} (I : Inv X pins σ H s) (na : H a = none) (n0 : X.s_0.heap.get? a = none) (nL : a ≠ X.env.locals) (nC : ∀ x c, X.env.cells.lookup x = some c → c ≠ a) (np : ∀ p ∈ X.pn ++ pins, p.1 ≠ a)
    (ok : ObjOk X.prog X.w (upd H a (.ext φ)) s.heap a (.ext φ)) : Inv X pins σ (upd H a (.ext φ)) s where
  ok := I.ok
  os := I.os
  bare := I.bare
  base := {
    keep := I.base.keep
    slot := I.base.slot
    free := fun b o e n hx => by
      rw [upd_ne fun z => by rw [z, n0] at e; cases e]
      exact I.base.free b o e n hx
    there := I.base.there
    tups := fun b xs e => (upd_ne (ne_of_none (I.base.tups b xs e) na)).trans (I.base.tups b xs e)
    frzs := fun b o u e => (upd_ne (ne_of_none (I.base.frzs b o u e) na)).trans (I.base.frzs b o u e)
    tbls := fun b ps e => by
      obtain ⟨more, q⟩ := I.base.tbls b ps e
      exact ⟨more, (upd_ne (ne_of_none q na)).trans q⟩ }
  loc := I.loc
  cell := I.cell
  free := (upd_ne (Ne.symm nL)).trans I.free
  freeC := fun x c e => (upd_ne (nC x c e)).trans (I.freeC x c e)
  pin := fun p hp => by
    obtain ⟨e, n, r⟩ := I.pin p hp
    exact ⟨e, (upd_ne (np p hp)).trans n, r⟩
  hok := fun b u e => by
    by_cases z : b = a
    · subst z
      rw [upd_same] at e
      cases e
      exact ok
    · rw [upd_ne z] at e
      exact (I.hok b u e).stay (fun _ _ _ q => q) (fun c q => (upd_ne (ne_of_none q na)).trans q) fun c xs q => (upd_ne (ne_of_none q na)).trans q
  len := I.len
theorem exv_ok {P : Program} {w : World} {h : Heap} {a C dx : Addr} {oe : Obj} {vs : Array Value} (he : h.get? a = some oe) (hz : Zc (.ref C) (some dx) oe) (hd : oe.data = .fields vs) : ObjOk P w H h a (exv C dx a) :=
  ⟨⟨oe, vs, he, hz, hd⟩, ⟨oe, he⟩, fun _ _ ⟨o, v, q, r⟩ k => ⟨o, v, k o q, r⟩⟩
end
/-- what the clause 'except x as n: m = n' wishes of an exception of the body (n in slot i, m in slot j): it is one of x's -/
def wKeep (K : PySem.W.Frag) (c : Value) (i j : Nat) (D : Ends) : WX := fun cls d σ H => PySem.W.exmOne K cls c = some true ∧ ∃ C dx : Addr, cls = .ref C ∧ d = some dx ∧
  ∀ a, H a = none → D.nx (((σ.set i (some (.ref a))).set j (some (.ref a))).set i none) (upd H a (exv C dx a))
section
variable {X : Cx} {x n m : Str} {c : Value} {i j : Nat} {body : List Stmt} {q1 q2 q3 q4 q5 q6 : Pos} {tb : WX → TS}
theorem ps_try_keep (hs : X.stack = X.env :: X.outer) (hf : X.env.frame = some X.env.locals) (hex : X.ex = []) (hN : X.N.Nodup) (hi : X.N[i]? = some n) (hj : X.N[j]? = some m) (hln : X.env.kindOf n = some .local) (hlm : X.env.kindOf m = some .local)
    (hd1 : (n == ("__debug__" : Str)) = false) (hd2 : (n == ("__classdict__" : Str)) = false) (hsw : swapsWith (.Name n q2) (some (.Name m q1)) q3.line X.env = pure false) (hc : Names X x c)
    (hb : ∀ (W : WX) (pn : List (Addr × Obj)) (xe : Value → Shared → Prop), Takes (X.tr pn xe) W → PassesOwn (model X.prog X.w) X.A X.env xe → PSs (X.tr pn xe) body (tb W)) :
    PS X (.Try body [.ExceptHandler (some (.Name x q4)) (some n) [.Assign [.Name m q1] (.Name n q2) q3] q5] [] [] q6) (fun D σ H => tb (wKeep X.K c i j D) D σ H) := by
  refine ⟨fun pins s σ H D I h => wpAny_Try_except (wpAny_mono ((hb (wKeep X.K c i j D) (X.pn ++ pins) _ (fun u s' air => ?_) PassesOwn.looking).run [] s σ H D (I.toTry _) h) (fun f s1 r => ?_) fun _ _ z => z)⟩
  · obtain ⟨a, B, sI, ps', σ', H', cls, d, rfl, J', nb, up, sky, na, os, ag, hm, C, dx, rfl, rfl, hq⟩ := air
    have J : Inv X pins σ' H' sI := J'.ofTry I.ok
    have hfr : X.A.frames = some (X.env :: X.outer) := I.ok.frames.trans (congrArg some hs)
    rw [hs] at sky
    refine Sky.land Zc.steady hfr hf sky fun h3 fl up3 => ?_
    have J3 : Inv X pins σ' H' { s' with heap := h3 } := J.landed nb fl.1 (up.trans up3) os ag
    obtain ⟨oe, vs, he, hz, hd⟩ := fl.there
    have far : a ∉ frs (X.env :: X.outer) := fun z => by
      obtain ⟨_, o', e', y⟩ := fl.2.2.1.mem z
      rw [he] at e'
      cases e'
      exact y _ hd
    have aL : a ≠ X.env.locals := fun z => far (List.mem_filterMap.mpr ⟨X.env, List.mem_cons_self, hf.trans (congrArg some z.symm)⟩)
    have aF : a ∉ X.fs := fun z => by
      obtain ⟨e, he, y⟩ := List.mem_filterMap.mp z
      exact far (List.mem_filterMap.mpr ⟨e, List.mem_cons_of_mem _ he, y⟩)
    have gone : ∀ {o : Obj}, sI.heap.get? a ≠ some o := fun {o} z => by
      have y := nb a o z (by rw [hs]; exact far)
      rw [fl.2.1] at y
      cases y
    have a0 : X.s_0.heap.get? a = none := by
      cases z : X.s_0.heap.get? a with
      | none => rfl
      | some o =>
        obtain ⟨o', y⟩ := J.base.there a o z (by rw [hex]; exact List.not_mem_nil)
        exact (gone y).elim
    have aP : ∀ p ∈ X.pn ++ pins, p.1 ≠ a := fun p hp z => by
      have y := (J.pin p hp).1
      rw [z] at y
      exact gone y
    have aC : ∀ y c, X.env.cells.lookup y = some c → c ≠ a := fun y c e z => by
      obtain ⟨v, o, e1, _⟩ := J.cell y c e
      rw [z] at e1
      exact gone e1
    have S3 := J3.suite he hd na aL aF
    refine wpAny_handleBy_cons (codeAny_handlers_test ?_) (by intro z; cases z)
    have ty : PySem.W.Looks (model X.prog X.w) h3 (typeOf (.ref a)) (.ref C) := fun A Q E s k q => wpAny_typeOf_ref (k _ _ he) (by rw [hz.1]; exact q)
    have mt := PySem.W.exm_one (M := model X.prog X.w) J3.kIn ty hm
    have named : ∀ {Q : Value → Shared → Prop} {E : Value → Shared → Prop}, Q c { s' with heap := h3 } → wpAny (model X.prog X.w) (X.A.mark (some (.ref a))) (eval (.Name x q4) X.env) Q E { s' with heap := h3 } := fun {Q E} q => by
      obtain ⟨g1, g2, g3 | ⟨g3, g4, g5⟩⟩ := hc
      · exact ld_glob (X := X.suite a ((a, oe) :: (X.pn ++ pins))) S3 g1 g3 q g2
      · exact ld_blt (X := X.suite a ((a, oe) :: (X.pn ++ pins))) S3 g1 g3 g4 q g5 g2
    refine named (mt.here (codeAny_handlers_suite_as (HandSPX.lands_againZ fl fun h4 fl4 up4 => ?_)))
    have J4 : Inv X pins σ' H' { s' with heap := h4 } := J.landed nb fl4.1 ((up.trans up3).trans up4) os ag
    obtain ⟨oe4, vs4, he4, hz4, hd4⟩ := fl4.there
    have S4 := J4.suite he4 hd4 na aL aF
    refine store_ok (X := X.suite a ((a, oe4) :: (X.pn ++ pins))) (v := .ref a) S4 hN hi (.inl hln) rfl (fun s5 S5 => ?_) (.inr hln)
    have st : PSs (X.suite a ((a, oe4) :: (X.pn ++ pins))) [.Assign [.Name m q1] (.Name n q2) q3] (tAsg (tVar i) (gName j)) := pss_one (ps_set hN hj (.inl hlm) (pe_var hi (.inl hln) hd1 hd2) hsw (.inr hlm))
    refine wpAny_mono (st.run [] s5 _ H' { nx := fun τ G => τ = (σ'.set i (some (.ref a))).set j (some (.ref a)) ∧ G = H', rt := fun _ _ => False } S5 ⟨.ref a, List.getElem?_set_self (by rw [J.len]; exact (List.getElem?_eq_some_iff.mp hi).1), rfl, rfl⟩) (fun f s6 r => ?_) fun _ _ z => z.elim
    cases f with
    | next =>
      obtain ⟨σ6, H6, S6, rfl, rfl⟩ := r
      have there := (S6.pin (a, oe4) (List.mem_append_left _ List.mem_cons_self)).1
      have K6 := track (S6.unsuite I.ok) na a0 aL aC aP (exv_ok (H := upd H6 a (exv C dx a)) there hz4 hd4)
      exact gone_ok K6 hN hi hln fun s7 K7 => ⟨_, _, K7, hq a na⟩
    | brk =>
      obtain ⟨_, _, _, z⟩ := r
      exact z.elim
    | cont =>
      obtain ⟨_, _, _, z⟩ := r
      exact z.elim
    | ret u =>
      obtain ⟨_, _, _, _, _, z⟩ := r
      exact z.elim
  · cases f with
    | next =>
      obtain ⟨σ', H', J', q⟩ := r
      exact wpAny_execs_nil ⟨σ', H', J'.ofTry I.ok, q⟩
    | brk =>
      obtain ⟨σ', H', J', q⟩ := r
      exact ⟨σ', H', J'.ofTry I.ok, q⟩
    | cont =>
      obtain ⟨σ', H', J', q⟩ := r
      exact ⟨σ', H', J'.ofTry I.ok, q⟩
    | ret u =>
      obtain ⟨v, σ', H', J', rv, q⟩ := r
      exact ⟨v, σ', H', J'.ofTry I.ok, rv, q⟩
end
end Mir

set_option Elab.async false
set_option linter.all false
set_option maxRecDepth 100000
set_option maxHeartbeats 4000000
namespace Mir
open PySem L2 PySem.Spec PyProof.Rows
section
variable {K : PySem.W.Frag} {E : XS} {γ : Gh} {O : List Addr} {H : Hp} {σ : L2.St} {e : Env}
theorem DDf.look {f : Str} {d : D} : ∀ {es : List (Str × D)} {fs : List (Str × V)}, DDf K H fs es → es.lookup f = some d → ∃ v, fs.lookup f = some v ∧ DD K H v d
  | [], _, h, e => by cases e
  | (k, x) :: es, _, h, e => by
    cases h with
    | cons a b =>
      rename_i v vs
      by_cases z : f = k
      · subst z
        rw [show List.lookup f ((f, x) :: es) = some x by simp [List.lookup]] at e
        cases e
        exact ⟨v, by simp [List.lookup], a⟩
      · have q : (f == k) = false := by simpa using z
        rw [show List.lookup f ((k, x) :: es) = es.lookup f by simp [List.lookup, q]] at e
        obtain ⟨w, h1, h2⟩ := DDf.look b e
        exact ⟨w, by simp [List.lookup, q, h1], h2⟩
abbrev tFldE (K : PySem.W.Frag) (f : Str) (te : TE) : TE := fun σ H Q => te σ H fun x H1 => ∃ (a C dx : Addr) (fs : List (Str × V)) (v : V), x = .ref a ∧ H1 a = some (exv C dx a) ∧ H1 dx = some (.xd fs) ∧ XfC K C ∧ PySem.W.findIn K (.ref C) f = some none ∧ fs.lookup f = some v ∧ Q v H1
theorem pe_fldE {X : Cx} {o : Expr} {te : TE} {pos : Pos} {n : Str} (he : PE X o te) (hb : attributeBase o n X.env (eval o X.env) = eval o X.env := by rfl) : PE X (.Attribute o n pos) (tFldE X.K n te) := by
  refine ⟨fun pins s σ H Q I h => attr_of hb (thn (he.run pins s σ H _ I h) fun u s1 hh => ?_)⟩
  obtain ⟨x, H1, I1, rx, a, C, dx, fs, v, rfl, ea, ed, T, hno, l, q⟩ := hh
  obtain rfl : u = Value.ref a := rx
  obtain ⟨oe, vs, ho, hz, hd⟩ : ∃ (oe : Obj) (vs : Array Value), s1.heap.get? a = some oe ∧ Zc (.ref C) (some dx) oe ∧ oe.data = .fields vs := (show ObjOk X.prog X.w H1 s1.heap a (exv C dx a) from I1.hok a _ ea).1
  obtain ⟨mA, hns, hr⟩ : ∃ mA, s1.heap.Ns1 dx mA ∧ ∀ f, RelO (fs.lookup f) (mA f) := (show ObjOk X.prog X.w H1 s1.heap dx (.xd fs) from I1.hok dx _ ed)
  obtain ⟨od, hod, hl⟩ := lookIn_ns hns
  obtain ⟨w, hw, rw'⟩ := RelO.some_of (v := v) (o := mA n) (by rw [← l]; exact hr n)
  have inst : PySem.W.InstAt s1.heap a oe C (some od) := ⟨ho, hz.1, by unfold PySem.W.notCls; rw [hd] <;> rfl, by rw [hz.2]; exact hod⟩
  exact HandSPX.exc_get I1.kIn inst T.ga T.gg T.exC (PySem.W.findObj_own T.hdC hno rfl ((hl n).trans (congrArg some hw))) (handed_of rw') ⟨v, H1, I1.tok _, rw', q⟩
def fldK (cs : List Addr) (f : Str) (d : D) : M D := fun e => match d with
  | .xc C fs => if C ∈ cs then (match fs.lookup f with | some x => .ok x e | none => .bad) else .bad
  | _ => .bad
/-- m.f, m a kept exception of one of the classes cs -/
def mFld (cs : List Addr) (f : Str) (m : M D) : M D := m >>= fldK cs f
theorem ex_fldE {te : TE} {m : M D} {cs : List Addr} {f : Str} (hc : ∀ C ∈ cs, XfC K C ∧ PySem.W.findIn K (.ref C) f = some none) (h : EX K E te m) : EX K E (tFldE K f te) (mFld cs f m) := fun γ O H σ e Q r g => by
  show te σ H _
  refine J.bind (T' := TD K) h r g fun d e1 v H1 r1 f1 t1 g1 => ?_
  unfold fldK at g1
  cases d with
  | xc C fs =>
    dsimp only at g1
    by_cases z : C ∈ cs
    · rw [if_pos z] at g1
      cases q : fs.lookup f with
      | none => rw [q] at g1; exact g1.elim
      | some x =>
        rw [q] at g1
        cases t1 with
        | exc a b c =>
          obtain ⟨w, h1, h2⟩ := DDf.look c q
          exact ⟨_, C, _, _, w, rfl, msk_ex _ _ a, msk_ex _ _ b, (hc C z).1, (hc C z).2, h1, g1 w H1 r1 (Fr.refl _ _) h2⟩
    · rw [if_neg z] at g1; exact g1.elim
  | _ => exact g1.elim
def tryK (cs : List Addr) (i j : Nat) : R Out → R Out
  | .ok o e => .ok o e
  | .ex (.ins C fs) e => if C ∈ cs ∧ noIo e i = true ∧ noIo e j = true ∧ i ≠ j then .ok .nx ((e.set j (some (.d (.xc C fs)))).set i none) else .bad
  | _ => .bad
def sTry (cs : List Addr) (i j : Nat) (b : M Out) : M Out := fun e => tryK cs i j (b e)
theorem sx_try {c : Value} {i j : Nat} {tb : WX → TS} {b : M Out} {cs : List Addr} (hc : ∀ C ∈ cs, PySem.W.exmOne K (.ref C) c = some true) (hb : ∀ W : WX, SX K (fun σ cls d H => W cls d σ H) (tb W) b) : SX K E (fun D σ H => tb (wKeep K c i j D) D σ H) (sTry cs i j b) := fun γ O H σ e Dn r g => by
  refine hb (wKeep K c i j Dn) γ O H σ e Dn r ?_
  unfold sTry at g
  cases q : b e with
  | bad => rw [q] at g; exact g
  | ok o e' => rw [q] at g; cases o <;> exact g
  | ex x e' =>
    rw [q] at g
    cases x with
    | ins C fs =>
      unfold tryK at g
      dsimp only at g
      by_cases z : C ∈ cs ∧ noIo e' i = true ∧ noIo e' j = true ∧ i ≠ j
      · rw [if_pos z] at g
        obtain ⟨z1, z2, z3, z4⟩ := z
        intro O' σ' dx fv H' r' f' hx tf
        refine ⟨hc C z1, C, dx, rfl, rfl, fun a na => ?_⟩
        have ext : Ex H' (upd H' a (exv C dx a)) := fun b o hb => (upd_ne (ne_of_none hb na)).trans hb
        have aO : a ∉ O' := r'.out na
        have r2 := r'.ext ext
        have td : DD K (msk O' (upd H' a (exv C dx a))) (.ref a) (.xc C fs) := .exc (by rw [msk_out aO]; exact upd_same) (msk_mono ext _ _ hx) (tf.mono (msk_mono ext))
        have r3 := (r2.setD (noIo_lt z3) td).wipe [i]
        have es : ((σ'.set i (some (V.ref a))).set j (some (.ref a))).set i none = (σ'.set j (some (.ref a))).set i none := by
          rw [List.set_comm _ _ z4, List.set_set]
        rw [es]
        exact g O' _ _ r3 (f'.trans (Fr.ext ext).s)
      · rw [if_neg z] at g; exact g.elim
    | _ => exact g.elim
/-- what __init__(self, f) does that keeps f -/
def spIni (K : PySem.W.Frag) (f : Str) : Sp := fun vs H Q _ => ∃ (a C : Addr) (y : V), vs = [.ref a, y] ∧ OexC K C ∧ PySem.W.findIn K (.ref C) f = some none ∧ H a = some (exo a C none) ∧
  ∀ dx, H dx = none → dx ≠ a → Q .non (upd (upd H dx (exd dx [(f, y)])) a (exo a C (some dx)))
theorem ini_ok {P : Program} {w : World} {mg : Str → Option Value} {base : Heap} {qual f : Str} {st : Stmt} {fI : Addr} {fd : FuncData} {p1 p2 p3 p4 : Pos} (F : Fun K "__init__" qual st fI fd) (S : FnScope ["self", f] ["self", f] (defScope st))
    (hb : defBody st = [.Assign [.Attribute (.Name "self" p1) f p2] (.Name f p3) p4]) (hd1 : (f == ("__debug__" : Str)) = false) (hd2 : (f == ("__classdict__" : Str)) = false) (hl : ("self" :: [f] : List Str)[1]? = some f) (hv : Vis (defScope st) f) (hv0 : Vis (defScope st) "self")
    : FnOk P w K mg base CX0 1 fI fd ["self", f] (spIni K f) := by
  refine F.ok S (fun vs H Q E h => ?_) (fun cdv A outer s H vs Q E hr h => ⟨tOst K f (tVar 0) (tVar 1), ?_, ?_⟩)
  · obtain ⟨a, C, y, rfl, _⟩ := h
    rfl
  · rw [hb]
    exact pss_one (ps_ost (pe_var (i := 0) rfl hv0) (pe_var (i := 1) rfl hv hd1 hd2))
  · obtain ⟨a, C, y, rfl, T, hno, ea, q⟩ := h
    exact ⟨_, rfl, _, rfl, a, C, rfl, T, hno, .inl ⟨ea, fun dx n ne => q dx n ne⟩⟩
/-- raise C(m), the field f -/
def sRz (C : Addr) (f : Str) (m : M D) : M Out := m >>= fun d => fun e => .ex (.ins C [(f, d)]) e
theorem sx_rz {te : TE} {m : M D} {C : Addr} {f : Str} (T : OexC K C) (hno : PySem.W.findIn K (.ref C) f = some none) (h : EX K E te m) :
    SX K E (fun _ σ H => tMkO C (spIni K f) [] (tCons te tNil) σ H fun cls d H' => E σ cls d H') (sRz C f m) := fun γ O H σ e Dn r g => by
  show te σ H _
  refine J.stmt h r g fun d e1 v H1 r1 f1 t1 g1 => ?_
  refine ⟨by simp, fun a na => ⟨a, C, v, rfl, T, hno, upd_same, fun dx nd ne => ⟨rfl, dx, [(f, v)], upd_same, (upd_ne ne).trans upd_same, ?_, ?_⟩⟩⟩
  · rw [upd_ne ne] at nd
    exact nd
  · rw [upd_ne ne] at nd
    have ext : Ex H1 (upd (del (upd (upd (upd H1 a (exo a C none)) dx (exd dx [(f, v)])) a (exo a C (some dx))) a) dx (.xd [(f, v)])) := fun b o hb => by
      have n1 := ne_of_none hb na
      have n2 := ne_of_none hb nd
      rw [upd_ne n2, del_ne n1, upd_ne n1, upd_ne n2, upd_ne n1]
      exact hb
    exact g1 O σ dx [(f, v)] _ (r1.ext ext) (Fr.ext ext).s (by rw [msk_out (r1.out nd)]; exact upd_same) (.cons (t1.mono (msk_mono ext)) .nil)
theorem ex_callW {N : List Str} {np : Nat} {b : M Out} {ta : TA} {a : M (List D)} (h : ∀ E' : XS, EA K E' ta a) : EX K E (tCallS (spM K N np b) E ta) (mCall b N.length np a) := fun γ O H σ e Q r g => by
  have q := ex_call (K := K) (N := N) (np := np) (b := b) (E := fun _ => E σ) (Ek := E σ) (fun _ => rfl) (h _) γ O H σ e Q r g
  have e0 : (fun (vs : List V) (H1 : Hp) => spM K N np b (vs ++ []) H1 Q (E σ)) = fun vs H1 => spM K N np b vs H1 Q (E σ) := by
    funext vs H1
    rw [List.append_nil]
  show ta σ H (fun vs H1 => spM K N np b vs H1 Q (E σ))
  rw [← e0]
  exact q
end
end Mir

set_option Elab.async false
set_option linter.all false
set_option maxRecDepth 100000
set_option maxHeartbeats 4000000
namespace Mir
open PySem L2 PySem.Spec PyProof.Rows
section
variable {K : PySem.W.Frag} {E : XS}
theorem ex_fn {f : Addr} : EX K E (tC (.ref f)) (M.ret (.fn f)) := fun γ O H σ e Q r g => g (.ref f) H r (Fr.refl _ _) (.fn f)
/-- a def that may raise, at f, keeping sp -/
structure HeldX (P : Program) (w : World) (K : PySem.W.Frag) (mg : Str → Option Value) (base : Heap) (k : Nat) (f : Addr) (sp : Sp) : Prop where
  ex : ∃ (fd : FuncData) (ps : List Str), FnOk P w K mg base (L2.CX P w) k f fd ps sp ∧ PySem.W.keepIn K (.ref f) = true ∧ Binds K fd ps []
/-- what is called is what an expression says -/
def tCallV (S : Addr → Sp → Prop) (E : L2.St → XK) (tc : TE) (t : TA) : TE := fun σ H Q => tc σ H fun v H1 => ∃ f sp, v = .ref f ∧ S f sp ∧ t σ H1 fun vs H2 => sp vs H2 Q (E σ)
theorem pe_callV {X : Cx} {S : Addr → Sp → Prop} {E : L2.St → XK} {fe e : Expr} {es : List Expr} {tc : TE} {t : TA} {k : Nat} {pos : Pos} (hf : PE X fe tc) (A : ∀ f sp, S f sp → HeldX X.prog X.w X.K X.mg X.base k f sp) (hr : Room k X.A) (hx : ∀ σ, PassesAt (L2.CX X.prog X.w) X σ (E σ)) (ha : PA X (e :: es) t)
    (hc : eval (.Call fe (e :: es) [] pos) X.env = (do
      let fv ← eval fe X.env
      callWith pos fv [] (backTo pos (starEach (e :: es) X.env)) (backToKw pos (keywordEach [] X.env))) := by rfl)
    (he : starEach (e :: es) X.env = (false, eval e X.env) :: starEach es X.env := by rfl) (hpl : (backTo pos (starEach es X.env)).any (·.1) = false := by rfl) : PE X (.Call fe (e :: es) [] pos) (tCallV S E tc t) := by
  refine ⟨fun pins s σ H Q I h => ?_⟩
  rw [hc]
  refine wpAny_bind (thn (hf.run pins s σ H _ I h) fun u s1 hh => ?_)
  obtain ⟨v, H1, I1, r1, f, sp, rfl, hS, q1⟩ := hh
  cases r1
  obtain ⟨fd, ps, F, hk, hb⟩ := (A f sp hS).ex
  refine PySem.W.callWith_K (h₀ := X.base) I1.ok.mod.kin hk (thn (ha.run pos pins s1 σ H1 _ I1 q1) fun us s2 ⟨vs, H2, I2, r, q⟩ => ⟨I2.kIn, ?_⟩) he hpl
  exact run_fnS F hr hb (hx σ) I2 r q
abbrev Df := Addr × M Out × List Str
def fnsM : List Df → M (List D)
  | [] => mNil
  | f :: r => mCons (M.ret (.fn f.1)) (fnsM r)
theorem fnsM_at : ∀ (fs : List Df) (e : Env), fnsM fs e = .ok (fs.map fun f => .fn f.1) e
  | [], e => rfl
  | f :: r, e => by
    show M.andThen (M.ret (D.fn f.1)) (fun x => M.andThen (fnsM r) fun xs => M.ret (x :: xs)) e = _
    unfold M.andThen
    dsimp only
    rw [fnsM_at r e]
    rfl
def callAtK (fs : List Df) (a : M (List D)) (d : D) : M D := fun e => match d with
  | .int i => if 0 ≤ i then (match fs[i.toNat]? with | some f => mCall f.2.1 f.2.2.length 1 a e | none => .bad) else .bad
  | _ => .bad
/-- [f, g, ..][k](x) -/
def mCallAt (fs : List Df) (k : M D) (a : M (List D)) : M D := k >>= callAtK fs a
abbrev sOf (K : PySem.W.Frag) (fs : List Df) : Addr → Sp → Prop := fun f sp => ∃ z ∈ fs, f = z.1 ∧ sp = spM K z.2.2 1 z.2.1
theorem ex_callAt {fs : List Df} {tc : TE} {ta : TA} {k : M D} {a : M (List D)} (hl : fs.length ≤ 1000) (hc : EX K E tc (mBin dIx (mLst (fnsM fs)) k)) (h : ∀ E' : XS, EA K E' ta a) : EX K E (tCallV (sOf K fs) E tc ta) (mCallAt fs k a) := fun γ O H σ e Q r g => by
  refine hc γ O H σ e _ r ?_
  have hm : mLine (fs.map fun f => D.fn f.1).length = true := decide_eq_true (by rw [List.length_map]; omega)
  have e0 : mBin dIx (mLst (fnsM fs)) k e = M.andThen k (fun y => M.lift (dIx (.lst (fs.map fun f => D.fn f.1)) y)) e := by
    have e1 : mLst (fnsM fs) e = .ok (.lst (fs.map fun f => D.fn f.1)) e := by
      rw [mLst_at, aT_at, fnsM_at]
      dsimp only
      rw [if_pos hm]
      rfl
    rw [mBin_at, aT_at, e1]
  rw [e0]
  change Good K γ O H σ E _ Q (M.andThen k (callAtK fs a) e) at g
  unfold M.andThen at g ⊢
  cases q : k e with
  | bad => rw [q] at g; exact g
  | ex x e' => rw [q] at g; exact g
  | ok d e1 =>
    rw [q] at g
    dsimp only at g ⊢
    unfold callAtK at g
    cases d with
    | int i =>
      dsimp only at g
      by_cases z : 0 ≤ i
      · rw [if_pos z] at g
        cases z1 : fs[i.toNat]? with
        | none => rw [z1] at g; exact g.elim
        | some f =>
          rw [z1] at g
          have hx : dIx (.lst (fs.map fun f => D.fn f.1)) (.int i) = some (.fn f.1) := by
            have hi : (fs.map fun f => D.fn f.1)[i.toNat]? = some (.fn f.1) := by rw [List.getElem?_map, z1]; rfl
            have hlt : i < ((fs.map fun f => D.fn f.1).length : Nat) := by
              have := (List.getElem?_eq_some_iff.mp hi).1
              omega
            unfold dIx
            simp only [atI, ixN]
            rw [if_pos z, if_pos hlt]
            exact hi
          rw [hx]
          intro v H1 r1 f1 t1
          cases t1
          exact ⟨f.1, _, rfl, ⟨f, List.mem_of_getElem? z1, rfl, rfl⟩, ex_callW h γ O H1 σ e1 Q r1 (Good.fr f1 g)⟩
      · rw [if_neg z] at g; exact g.elim
    | _ => exact g.elim
def splitD (x y : D) : Option (List D) := match dSplit x y with
  | some (.lst ds) => some ds
  | _ => none
def splitK (b : M D) (x : D) : M (List D) := fun e => if isStr x = true then (b >>= fun y => M.lift (splitD x y)) e else .bad
def oSplit (a b : M D) : M (List D) := a >>= splitK b
theorem ef_split {ta tb : TE} {a b : M D} (ha : EX K E ta a) (hb : EX K E tb b) : EF K E (tM1 rSplitA ta tb) (oSplit a b) := fun γ O H σ e Q r0 g =>
  J.own (te := ta) (T := TD K) (Q' := Q) ha r0 g fun dx e1 x H1 r1 f1 t1 g1 => by
    unfold splitK at g1
    by_cases hs : isStr dx = true
    · rw [if_pos hs] at g1
      cases dx with
      | str s =>
        cases t1
        refine ⟨⟨s, rfl⟩, J.own (te := tb) (T := TD K) (Q' := Q) hb r1 g1 fun dy e2 y H2 r2 f2 t2 g2 => ?_⟩
        cases dy with
        | str z =>
          cases t2
          have g3 : GoodF K γ O H2 σ E Q (M.lift (splitD (.str s) (.str z)) e2) := g2
          by_cases c : ((z.length == 0) == false && mLine (s.length + 2)) = true
          · have ee : splitD (.str s) (.str z) = some ((Txt.split s z).map .str) := by
              unfold splitD dSplit
              dsimp only
              rw [if_pos c]
            rw [ee] at g3
            simp only [Bool.and_eq_true, beq_iff_eq] at c
            refine ⟨s, z, rfl, rfl, by simpa using c.1, mLine_ok c.2, fun p hp => ?_⟩
            have hO := r2.out hp
            have ex : Ex H2 (upd H2 p (.lst ((Txt.split s z).map V.str))) := Evl.Ex.new hp
            have hm : msk O H2 p = none := by rw [msk_out hO]; exact hp
            exact g3 p ((Txt.split s z).map V.str) _ hO (r2.ext ex) (r2.more (e' := e2) hp ex (by rw [upd_same]; intro z; cases z)) (msk_cons_ex hm (msk_mono ex)) (Fr.ext ex) upd_same (DDs.strs _)
          · have ee : splitD (.str s) (.str z) = none := by
              unfold splitD dSplit
              dsimp only
              rw [if_neg c]
            rw [ee] at g3; exact g3.elim
        | _ => exact g2.elim
      | _ => cases hs
    · rw [if_neg hs] at g1; exact g1.elim
end
end Mir

set_option Elab.async false
set_option linter.all false
set_option maxRecDepth 100000
set_option maxHeartbeats 4000000
namespace Mir
open PySem L2 PySem.Spec PyProof.Rows
section
variable {K : PySem.W.Frag} {E : XS}
def noxD : R D → R D
  | .ok d e => .ok d e
  | _ => .bad
theorem good_nox {γ : Gh} {O : List Addr} {H : Hp} {σ : L2.St} {T : Hp → V → D → Prop} {Q : V → Hp → Prop} {e : Env} {r : R D} (g : Good K γ O H σ E T Q (back e (noxD r))) : Good K γ O H σ E0S T Q (back e r) := by
  cases r with
  | ok d e' => exact g
  | ex x e' => exact g.elim
  | bad => exact g.elim
def callN (b : M Out) (n np : Nat) (ds : List D) : M D := fun e => if ds.length = np then back e (noxD (runD b n (ds.map .d))) else .bad
def mCallN (b : M Out) (n np : Nat) (a : M (List D)) : M D := a >>= callN b n np
theorem ex_callN {N : List Str} {np : Nat} {b : M Out} {ta : TA} {a : M (List D)} (h : EA K E ta a) : EX K E (tCall (spM0 K N np b) [] E0 ta) (mCallN b N.length np a) := fun γ O H σ e Q r g =>
  J.bind (te := ta) (T := TDs K) (T' := TD K) h r g fun ds e1 vs H1 r1 f1 t1 g1 => by
    show spM K N np b (vs ++ []) H1 Q E0
    rw [List.append_nil]
    unfold callN at g1
    by_cases nl : ds.length = np
    · rw [if_pos nl] at g1
      exact sp_of (E := E0S) (fun _ => rfl) (by rw [List.length_map]; exact nl) r1 (DDs.sla t1) (good_nox g1)
    · rw [if_neg nl] at g1; exact g1.elim
def mCallLN (i : Nat) (f : Addr) (b : M Out) (n np : Nat) (a : M (List D)) : M D := fun e => match e[i]? with
  | some (some (.st (.ref g))) => if g = f then mCallN b n np a e else .bad
  | _ => .bad
theorem ex_callLN {N : List Str} {np i : Nat} {f : Addr} {b : M Out} {ta : TA} {a : M (List D)} (h : EA K E ta a) : EX K E (tCallL i f (spM0 K N np b) [] E0 ta) (mCallLN i f b N.length np a) := fun γ O H σ e Q r g => by
  unfold mCallLN at g
  try dsimp only at g
  split at g
  · rename_i g' hx
    by_cases z : g' = f
    · rw [if_pos z] at g
      subst z
      obtain ⟨v, h1, h2⟩ := r.sl _ _ hx
      have h2 : v = .ref g' := h2
      subst h2
      exact ⟨h1, ex_callN h γ O H σ e Q r g⟩
    · rw [if_neg z] at g; exact g.elim
  · exact g.elim
end
/-- what the top says of an exception class whose __init__ keeps one field -/
structure XCls (K : PySem.W.Frag) (mg : Str → Option Value) (x qual f : Str) (st : Stmt) (C fI : Addr) (fd : FuncData) : Prop where
  gC : mg x = some (.ref C)
  oex : OexC K C
  xf : XfC K C
  noN : PySem.W.findIn K (.ref C) f = some none
  iC : PySem.W.findIn K (.ref C) "__init__" = some (some (.ref fI))
  tI : PySem.W.typeIn K (.ref fI) = some (.type "function")
  F : Fun K "__init__" qual st fI fd
  B : Binds K fd ["self", f] []
  te : PySem.W.exmOne K (.ref C) (.ref C) = some true
/-- a class below one that is right below ValueError -/
theorem XCls.mk1 {K : PySem.W.Frag} {mg : Str → Option Value} {h : Heap} (X : K.In h) (G : h.Ns mainGlobals mg) {x qual f : Str} {st : Stmt} {C S fI : Addr}
    {nm q : Str} {N : Addr} {bs : List Value} {sn : List Str} {sub : List Value} {ab : Bool} {col : Option Bool} {dd : Option Addr} {m0 m1 m2 m3 m5 : Option Value} {od1 an1 : Option Addr} {sl1 : Array (Option Value)} {oc1 kV1 dc1 pm1 cd1 ct1 : Value}
    (aC : PySem.W.nsIn K mainGlobals x = some (some (.ref C)))
    (xL : K.lookup C = some (excClassObj nm q C N bs [.ref S, .type "ValueError", .type "Exception", .type "BaseException", .type "object"] true sn sub ab col dd m0 m1 m2 m3 m5 "ValueError.__new__"))
    (sa : PySem.W.findIn K (.ref C) "__setattr__" = some (some (.builtin "object.__setattr__"))) (ga : PySem.W.findIn K (.ref C) "__getattribute__" = some (some (.builtin "BaseException.__getattribute__"))) (gg : PySem.W.findIn K (.ref C) "__getattr__" = some none)
    (nb : PySem.W.findIn K (.ref C) f = some none) (a1 : PySem.W.findIn K (.ref C) "__init__" = some (some (.ref fI))) (t1 : PySem.W.typeIn K (.ref fI) = some (.type "function"))
    (l1 : K.lookup fI = some ⟨oc1, od1, .func (PySem.W.fnOf "__init__" qual (defArgs st) (defBody st) (defScope st) .none kV1 dc1 pm1 an1 cd1 ct1), sl1⟩) (c1 : PySem.W.codeIn K cd1 qual = true) (k1 : PySem.W.keepIn K (.ref fI) = true)
    (kC : PySem.W.keepIn K (.ref C) = true) (eC : PySem.W.subIn K (.ref C) (.type "BaseException") = some true) (tC : PySem.W.typeIn K (.ref C) = some (.type "type")) (hC : PySem.W.hasDictIn K C = true) (sC : PySem.W.subIn K (.ref C) (.ref C) = some true)
    (hB : ∀ us : List Value, us.length = 2 → bindArgs (PySem.W.fnOf "__init__" qual (defArgs st) (defBody st) (defScope st) .none kV1 dc1 pm1 an1 cd1 ct1) ⟨us, []⟩ = pure ((["self", f] : List Str).zip us)) :
    XCls K mg x qual f st C fI (PySem.W.fnOf "__init__" qual (defArgs st) (defBody st) (defScope st) .none kV1 dc1 pm1 an1 cd1 ct1) where
  gC := PySem.W.mg_of X G aC
  oex := ⟨⟨nm, q, N, bs, _, sn, sub, ab, col, dd, m0, m1, m2, m3, m5, xL, rfl⟩, sa, eC, tC, kC⟩
  xf := ⟨ga, gg, eC, hC⟩
  noN := nb
  iC := a1
  tI := t1
  F := fun_mk (st := st) l1 c1 k1
  B := fun s us _ hl => by
    rw [List.append_nil] at hl ⊢
    exact .of_eq (hB us hl)
  te := PySem.W.exm_ref eC hC tC sC
theorem held_nil {P : Program} {w : World} {K : PySem.W.Frag} {mg : Str → Option Value} {base : Heap} {k : Nat} : ∀ f sp, sOf K [] f sp → HeldX P w K mg base k f sp := fun _ _ ⟨_, h, _⟩ => nomatch h
theorem held_cons {P : Program} {w : World} {K : PySem.W.Frag} {mg : Str → Option Value} {base : Heap} {k : Nat} {z : Df} {zs : List Df} {fd : FuncData} {p : Str} (F : FnOk P w K mg base (L2.CX P w) k z.1 fd [p] (spM K z.2.2 1 z.2.1)) (hk : PySem.W.keepIn K (.ref z.1) = true) (hb : Binds K fd [p] [])
    (t : ∀ f sp, sOf K zs f sp → HeldX P w K mg base k f sp) : ∀ f sp, sOf K (z :: zs) f sp → HeldX P w K mg base k f sp := fun f sp ⟨y, hy, e1, e2⟩ => by
  rcases List.mem_cons.mp hy with q | q
  · subst q e1 e2
    exact ⟨fd, [p], F, hk, hb⟩
  · exact t f sp ⟨y, q, e1, e2⟩
end Mir

set_option Elab.async false
set_option linter.all false
set_option maxRecDepth 100000
set_option maxHeartbeats 600000
namespace Law
open PySem L2 Mir
def topS (i : Nat) : Stmt := PySem.Challenge.pw_seatsahead_k02_wrong_texts.main.body.getD i (.Pass ⟨0, 0, 0, 0⟩)
abbrev s_is_name : Stmt := topS 11
abbrev N_is_name : List Str := ["word", "sign"]
abbrev s_pieces : Stmt := topS 13
abbrev N_pieces : List Str := ["text", "between"]
abbrev s_values_from : Stmt := topS 12
abbrev N_values_from : List Str := ["text", "between", "read_piece", "rising", "values", "piece", "word", "value"]
abbrev s_name_from : Stmt := topS 14
abbrev N_name_from : List Str := ["word"]
abbrev s_steps_from : Stmt := topS 7
abbrev N_steps_from : List Str := ["text"]
abbrev s_pair_from : Stmt := topS 15
abbrev N_pair_from : List Str := ["piece", "names", "name"]
abbrev s_pairs_from : Stmt := topS 8
abbrev N_pairs_from : List Str := ["text"]
abbrev s_size_from : Stmt := topS 16
abbrev N_size_from : List Str := ["word", "sign"]
abbrev s_sizes_from : Stmt := topS 9
abbrev N_sizes_from : List Str := ["text"]
abbrev s_deed_from : Stmt := topS 17
abbrev N_deed_from : List Str := ["word"]
abbrev s_run_from : Stmt := topS 10
abbrev N_run_from : List Str := ["text"]
abbrev s_l_box : Stmt := topS 19
abbrev N_l_box : List Str := ["_law_script", "_law_k", "_law_cell"]
abbrev s_l_take : Stmt := topS 20
abbrev N_l_take : List Str := ["_law_box_here", "_law_size_so", "_law_once", "_law_far", "_law_again", "_law_some"]
abbrev s_l_cells : Stmt := topS 21
abbrev N_l_cells : List Str := ["_law_script", "_law_top_so", "_law_cells_so", "_law_k", "_law_cell", "_law_at_so"]
abbrev s_l_of : Stmt := topS 22
abbrev N_l_of : List Str := ["_law_box_here", "_law_goods_so"]
abbrev s_l_pick : Stmt := topS 23
abbrev N_l_pick : List Str := ["_law_box_here", "_law_goods_so", "_law_count_so", "_law_turn", "_law_pool_so", "_law_found"]
abbrev s_l_same : Stmt := topS 24
abbrev N_l_same : List Str := ["_law_got", "_law_due", "_law_mine", "_law_its"]
abbrev s_l_steps : Stmt := topS 25
abbrev N_l_steps : List Str := ["_law_box_here", "_law_most_so", "_law_pools"]
abbrev s_l_webs : Stmt := topS 26
abbrev N_l_webs : List Str := ["_law_box_here", "_law_tags", "_law_k", "_law_line_so", "_law_found", "_law_rest", "_law_j", "_law_way_so"]
abbrev s_l_heard : Stmt := topS 27
abbrev N_l_heard : List Str := ["_law_flat", "_law_sort_so", "_law_caught", "_law_told_so", "error_so"]
abbrev s_l_heard_right : Stmt := topS 28
abbrev N_l_heard_right : List Str := ["_law_wrong", "_law_sort_so", "_law_got", "_law_flat", "_law_at_so"]
abbrev s_l_by_hand_right : Stmt := topS 29
abbrev N_l_by_hand_right : List Str := ["_law_wrong", "_law_got", "_law_due", "_law_k"]
abbrev s_l_bent_right : Stmt := topS 30
abbrev N_l_bent_right : List Str := ["_law_box_here", "_law_flat", "_law_cut_so", "_law_sort_so", "_law_ill_so", "_law_pieces", "_law_k"]
abbrev s_l_case_right : Stmt := topS 31
abbrev N_l_case_right : List Str := ["_law_box_here", "_law_tags", "_law_bits_so", "_law_words", "_law_signs", "_law_fine", "_law_tag", "_law_one_so", "_law_two_so"]
abbrev s_l_right : Stmt := topS 32
abbrev N_l_right : List Str := ["_law_box_here", "_law_turn"]
abbrev s_law : Stmt := topS 33
abbrev N_law : List Str := ["_law_script", "_law_cells_here", "_law_k"]
def tab_DEEDS : Str → Option Str := tabOf [(PySem.Str.ofString "+", PySem.Str.ofString "begin"), (PySem.Str.ofString "-", PySem.Str.ofString "end")]
abbrev si_BadText : Stmt := inClass (topS 2) 0
structure Ad where
  deed_from : Addr
  name_from : Addr
  pair_from : Addr
  size_from : Addr
  pairs_from : Addr
  run_from : Addr
  sizes_from : Addr
  steps_from : Addr
  c_BadText : Addr
structure Tx (K : PySem.W.Frag) (mg : Str → Option Value) (w : World) where
  a_steps_from : Addr
  fd_steps_from : FuncData
  F_steps_from : Fun K "steps_from" "steps_from" s_steps_from a_steps_from fd_steps_from
  B_steps_from : Binds K fd_steps_from ["text"] []
  m_steps_from : mg "steps_from" = some (.ref a_steps_from)
  a_pairs_from : Addr
  fd_pairs_from : FuncData
  F_pairs_from : Fun K "pairs_from" "pairs_from" s_pairs_from a_pairs_from fd_pairs_from
  B_pairs_from : Binds K fd_pairs_from ["text"] []
  m_pairs_from : mg "pairs_from" = some (.ref a_pairs_from)
  a_sizes_from : Addr
  fd_sizes_from : FuncData
  F_sizes_from : Fun K "sizes_from" "sizes_from" s_sizes_from a_sizes_from fd_sizes_from
  B_sizes_from : Binds K fd_sizes_from ["text"] []
  m_sizes_from : mg "sizes_from" = some (.ref a_sizes_from)
  a_run_from : Addr
  fd_run_from : FuncData
  F_run_from : Fun K "run_from" "run_from" s_run_from a_run_from fd_run_from
  B_run_from : Binds K fd_run_from ["text"] []
  m_run_from : mg "run_from" = some (.ref a_run_from)
  a_is_name : Addr
  fd_is_name : FuncData
  F_is_name : Fun K "is_name" "is_name" s_is_name a_is_name fd_is_name
  B_is_name : Binds K fd_is_name ["word"] []
  m_is_name : mg "is_name" = some (.ref a_is_name)
  a_values_from : Addr
  fd_values_from : FuncData
  F_values_from : Fun K "_values_from" "_values_from" s_values_from a_values_from fd_values_from
  B_values_from : Binds K fd_values_from ["text", "between", "read_piece", "rising"] []
  m_values_from : mg "_values_from" = some (.ref a_values_from)
  a_pieces : Addr
  fd_pieces : FuncData
  F_pieces : Fun K "_pieces" "_pieces" s_pieces a_pieces fd_pieces
  B_pieces : Binds K fd_pieces ["text", "between"] []
  m_pieces : mg "_pieces" = some (.ref a_pieces)
  a_name_from : Addr
  fd_name_from : FuncData
  F_name_from : Fun K "_name_from" "_name_from" s_name_from a_name_from fd_name_from
  B_name_from : Binds K fd_name_from ["word"] []
  m_name_from : mg "_name_from" = some (.ref a_name_from)
  a_pair_from : Addr
  fd_pair_from : FuncData
  F_pair_from : Fun K "_pair_from" "_pair_from" s_pair_from a_pair_from fd_pair_from
  B_pair_from : Binds K fd_pair_from ["piece"] []
  m_pair_from : mg "_pair_from" = some (.ref a_pair_from)
  a_size_from : Addr
  fd_size_from : FuncData
  F_size_from : Fun K "_size_from" "_size_from" s_size_from a_size_from fd_size_from
  B_size_from : Binds K fd_size_from ["word"] []
  m_size_from : mg "_size_from" = some (.ref a_size_from)
  a_deed_from : Addr
  fd_deed_from : FuncData
  F_deed_from : Fun K "_deed_from" "_deed_from" s_deed_from a_deed_from fd_deed_from
  B_deed_from : Binds K fd_deed_from ["word"] []
  m_deed_from : mg "_deed_from" = some (.ref a_deed_from)
  a_l_box : Addr
  fd_l_box : FuncData
  F_l_box : Fun K "_law_box" "_law_box" s_l_box a_l_box fd_l_box
  B_l_box : Binds K fd_l_box ["_law_script", "_law_k"] []
  m_l_box : mg "_law_box" = some (.ref a_l_box)
  a_l_take : Addr
  fd_l_take : FuncData
  F_l_take : Fun K "_law_take" "_law_take" s_l_take a_l_take fd_l_take
  B_l_take : Binds K fd_l_take ["_law_box_here", "_law_size_so"] []
  m_l_take : mg "_law_take" = some (.ref a_l_take)
  a_l_cells : Addr
  fd_l_cells : FuncData
  F_l_cells : Fun K "_law_cells" "_law_cells" s_l_cells a_l_cells fd_l_cells
  B_l_cells : Binds K fd_l_cells ["_law_script", "_law_top_so"] []
  m_l_cells : mg "_law_cells" = some (.ref a_l_cells)
  a_l_of : Addr
  fd_l_of : FuncData
  F_l_of : Fun K "_law_of" "_law_of" s_l_of a_l_of fd_l_of
  B_l_of : Binds K fd_l_of ["_law_box_here", "_law_goods_so"] []
  m_l_of : mg "_law_of" = some (.ref a_l_of)
  a_l_pick : Addr
  fd_l_pick : FuncData
  F_l_pick : Fun K "_law_pick" "_law_pick" s_l_pick a_l_pick fd_l_pick
  B_l_pick : Binds K fd_l_pick ["_law_box_here", "_law_goods_so", "_law_count_so"] []
  m_l_pick : mg "_law_pick" = some (.ref a_l_pick)
  a_l_same : Addr
  fd_l_same : FuncData
  F_l_same : Fun K "_law_same" "_law_same" s_l_same a_l_same fd_l_same
  B_l_same : Binds K fd_l_same ["_law_got", "_law_due"] []
  m_l_same : mg "_law_same" = some (.ref a_l_same)
  a_l_steps : Addr
  fd_l_steps : FuncData
  F_l_steps : Fun K "_law_steps" "_law_steps" s_l_steps a_l_steps fd_l_steps
  B_l_steps : Binds K fd_l_steps ["_law_box_here", "_law_most_so"] []
  m_l_steps : mg "_law_steps" = some (.ref a_l_steps)
  a_l_webs : Addr
  fd_l_webs : FuncData
  F_l_webs : Fun K "_law_webs" "_law_webs" s_l_webs a_l_webs fd_l_webs
  B_l_webs : Binds K fd_l_webs ["_law_box_here", "_law_tags"] []
  m_l_webs : mg "_law_webs" = some (.ref a_l_webs)
  a_l_heard : Addr
  fd_l_heard : FuncData
  F_l_heard : Fun K "_law_heard" "_law_heard" s_l_heard a_l_heard fd_l_heard
  B_l_heard : Binds K fd_l_heard ["_law_flat", "_law_sort_so"] []
  m_l_heard : mg "_law_heard" = some (.ref a_l_heard)
  a_l_heard_right : Addr
  fd_l_heard_right : FuncData
  F_l_heard_right : Fun K "_law_heard_right" "_law_heard_right" s_l_heard_right a_l_heard_right fd_l_heard_right
  B_l_heard_right : Binds K fd_l_heard_right ["_law_wrong", "_law_sort_so"] []
  m_l_heard_right : mg "_law_heard_right" = some (.ref a_l_heard_right)
  a_l_by_hand_right : Addr
  fd_l_by_hand_right : FuncData
  F_l_by_hand_right : Fun K "_law_by_hand_right" "_law_by_hand_right" s_l_by_hand_right a_l_by_hand_right fd_l_by_hand_right
  B_l_by_hand_right : Binds K fd_l_by_hand_right [] []
  m_l_by_hand_right : mg "_law_by_hand_right" = some (.ref a_l_by_hand_right)
  a_l_bent_right : Addr
  fd_l_bent_right : FuncData
  F_l_bent_right : Fun K "_law_bent_right" "_law_bent_right" s_l_bent_right a_l_bent_right fd_l_bent_right
  B_l_bent_right : Binds K fd_l_bent_right ["_law_box_here", "_law_flat", "_law_cut_so", "_law_sort_so", "_law_ill_so"] []
  m_l_bent_right : mg "_law_bent_right" = some (.ref a_l_bent_right)
  a_l_case_right : Addr
  fd_l_case_right : FuncData
  F_l_case_right : Fun K "_law_case_right" "_law_case_right" s_l_case_right a_l_case_right fd_l_case_right
  B_l_case_right : Binds K fd_l_case_right ["_law_box_here"] []
  m_l_case_right : mg "_law_case_right" = some (.ref a_l_case_right)
  a_l_right : Addr
  fd_l_right : FuncData
  F_l_right : Fun K "_law_right" "_law_right" s_l_right a_l_right fd_l_right
  B_l_right : Binds K fd_l_right ["_law_box_here"] []
  m_l_right : mg "_law_right" = some (.ref a_l_right)
  a_law : Addr
  fd_law : FuncData
  F_law : Fun K "law" "law" s_law a_law fd_law
  B_law : Binds K fd_law ["_law_script"] []
  m_law : mg "law" = some (.ref a_law)
  t_DEEDS : Addr
  m_DEEDS : mg "DEEDS" = some (.ref t_DEEDS)
  v_DEEDS : TabS K w t_DEEDS tab_DEEDS
  n_abs : mg "abs" = none
  n_all : mg "all" = none
  n_bool : mg "bool" = none
  n_enumerate : mg "enumerate" = none
  n_int : mg "int" = none
  n_isinstance : mg "isinstance" = none
  n_len : mg "len" = none
  n_list : mg "list" = none
  n_min : mg "min" = none
  n_range : mg "range" = none
  n_sorted : mg "sorted" = none
  n_str : mg "str" = none
  n_tuple : mg "tuple" = none
  n_zip : mg "zip" = none
  t_MOST_LETTERS : Tok
  c_MOST_LETTERS : mg "MOST_LETTERS" = some (.int 8 t_MOST_LETTERS)
  t_NOTHING : Tok
  c_NOTHING : mg "NOTHING" = some (.str (PySem.Str.ofString "-") t_NOTHING)
  c_BadText : Addr
  fi_BadText : Addr
  fdi_BadText : FuncData
  X_BadText : XCls K mg "BadText" "BadText.__init__" "piece" si_BadText c_BadText fi_BadText fdi_BadText
def Tx.ad {K : PySem.W.Frag} {mg : Str → Option Value} {w : World} (T : Tx K mg w) : Ad := ⟨T.a_deed_from, T.a_name_from, T.a_pair_from, T.a_size_from, T.a_pairs_from, T.a_run_from, T.a_sizes_from, T.a_steps_from, T.c_BadText⟩
section
variable {P : Program} {w : World} {K : PySem.W.Frag} {mg : Str → Option Value} {base : Heap}
theorem sci_BadText : FnScope ["self", "piece"] ["self", "piece"] (defScope si_BadText) := ⟨rfl, rfl, rfl, by decide +kernel, rfl, by decide +kernel, by decide +kernel⟩
theorem I_BadText (T : Tx K mg w) : FnOk P w K mg base CX0 1 T.fi_BadText T.fdi_BadText ["self", "piece"] (spIni K "piece") := ini_ok T.X_BadText.F sci_BadText rfl (by decide) (by decide) rfl (Or.inl rfl) (Or.inl rfl)
theorem sc_is_name : FnScope N_is_name ["word"] (defScope s_is_name) := ⟨rfl, rfl, rfl, by decide +kernel, rfl, by decide +kernel, by decide +kernel⟩
def b_is_name : M Out :=
  sRet (mAndT (mChain dLeB dLeB (M.ret (.int 1)) (mCB dLen (mCons (mVar 0) (mNil))) (M.ret (.int 8))) (mCB dAll (mCons (mF (mLc (wAny (mVar 0)) (gSet 1) (tYesM) (mChain dLeB dLeB (M.ret (.str (PySem.Str.ofString "a"))) (mVar 1) (M.ret (.str (PySem.Str.ofString "z")))) [1])) (mNil))))
theorem G_is_name (T : Tx K mg w) : FnOk P w K mg base CX0 1 T.a_is_name T.fd_is_name ["word"] (spM0 K N_is_name 1 b_is_name) := by
  refine T.F_is_name.ok sc_is_name (spM_ln0 rfl) (fun cdv A outer s H vs Q E hr h => ?_)
  obtain ⟨γ, O, as, h1, h2, h3, r, g⟩ := h
  have nd := sc_is_name.nd
  exact ⟨_, pss_one (ps_ret (pe_andT (pe_chain (opLeB hr.units0) (opLeB hr.units0) (pe_int) (pe_callB call_len (by rfl) T.n_len (by decide +kernel) (pa_cons (pv 0) (pa_nil))) (pe_glob (v := .int 8) (by rfl) T.c_MOST_LETTERS ⟨_, rfl⟩)) (pe_one (pe_callB (cr_all rfl) (by rfl) T.n_all (by decide +kernel) (pa_cons (pe_lc (own := [("sign", 1)]) rfl nd (pi_any (pv 0)) (blkOk_by (N := N_is_name) (sc := (defScope s_is_name)) (by decide +kernel)) (fun _ _ _ _ _ => pg_name (i := 1) nd rfl (by first | exact Or.inl rfl | exact Or.inr rfl)) (fun _ _ _ _ _ => pts_nil) (fun _ _ _ _ _ => pe_chain (opLeB hr.units0) (opLeB hr.units0) (pe_str) (pv 1) (pe_str))) (pa_nil)))))),
    (sx_ret (ex_andT (ex_chain op_leDB op_leDB (ex_int) (ex_cb len_D (ea_cons (ex_var) (ea_nil))) (ex_int)) (ex_cb all_D (ea_cons ((ef_lc (jw_any (ex_var)) (gx_name) (by decide) (et_yes) (ex_chain op_leDB op_leDB (ex_str) (ex_var) (ex_str))).x) (ea_nil))))) γ O H _ _ _ r g⟩
theorem sc_pieces : FnScope N_pieces ["text", "between"] (defScope s_pieces) := ⟨rfl, rfl, rfl, by decide +kernel, rfl, by decide +kernel, by decide +kernel⟩
def b_pieces : M Out :=
  sRet (mIf (mB (mBin dEq (mVar 0) (M.ret (.str (PySem.Str.ofString "-"))))) (mLst (mNil)) (mM1 dSplit (mVar 0) (vD (mVar 1))))
theorem G_pieces (T : Tx K mg w) : FnOk P w K mg base CX0 1 T.a_pieces T.fd_pieces ["text", "between"] (spM0 K N_pieces 2 b_pieces) := by
  refine T.F_pieces.ok sc_pieces (spM_ln0 rfl) (fun cdv A outer s H vs Q E hr h => ?_)
  obtain ⟨γ, O, as, h1, h2, h3, r, g⟩ := h
  have nd := sc_pieces.nd
  exact ⟨_, pss_one (ps_ret (pe_ifExp (pt_cmpR (op_eqD hr.units) (pv 0) (pe_glob (v := .str (PySem.Str.ofString "-")) (by rfl) T.c_NOTHING ⟨_, rfl⟩) (nomark _)) (pe_lst (pa_nil)) (pe_split (pv 0) (pv 1)))),
    (sx_ret (ex_if (et_test (ex_op op_eqD' (ex_var) (ex_str))) (ex_lst (ea_nil)) (ex_m1 split_M (ex_var) (J.v (ex_var))))) γ O H _ _ _ r g⟩
theorem sc_values_from : FnScope N_values_from ["text", "between", "read_piece", "rising"] (defScope s_values_from) := ⟨rfl, rfl, rfl, by decide +kernel, rfl, by decide +kernel, by decide +kernel⟩
def b_values_from (ad : Ad) (ga : Addr) (bg : M Out) (ng : Nat) : M Out :=
  sSeq (sOwn 4 (oLst (mNil))) (
  sSeq (sFor (wEnum (mCons (mCallN b_pieces 2 2 (mCons (mVar 0) (mCons (mVar 1) (mNil)))) (mNil))) (gTupD 2 (gsCons (gSet 5) (gsCons (gSet 6) (gsNil)))) (sSeq (sAsg (mCallLN 2 ga bg ng 1 (mCons (mVar 6) (mNil))) (gSet 7)) (
  sSeq (sIf (mOr (mB (mBin dIsN (mVar 7) (M.ret .non))) (mAnd (mTru (vD (mVar 3))) (mAnd (mTru (mOwn 4)) (mB (mBin dLeB (mVar 7) (mBinV dIx (mOwn 4) (vD (mUn dNeg (M.ret (.int 1)))))))))) (sRz ad.c_BadText "piece" (mVar 5)) (sNx)) (
  sApp 4 (mVar 7))))) (
  sRet (mCW dTupleB (wCons (mOwn 4) (wNil)))))
theorem G_values_from (T : Tx K mg w) {ga : Addr} {fdg : FuncData} {psg Ng : List Str} {bg : M Out} {kg0 : Nat} (Gg0 : FnOk P w K mg base CX0 kg0 ga fdg psg (spM0 K Ng 1 bg)) (kg : PySem.W.keepIn K (.ref ga) = true) (Bg : Binds K fdg psg []) (hkg : kg0 ≤ 2 := by decide) : FnOk P w K mg base (L2.CX P w) 3 T.a_values_from T.fd_values_from ["text", "between", "read_piece", "rising"] (spM K N_values_from 4 (b_values_from T.ad ga bg Ng.length)) := by
  have Gg := Gg0.mono hkg
  refine T.F_values_from.okX sc_values_from (spM_ln rfl) (fun cdv A outer s H vs Q E hr h => ?_)
  obtain ⟨γ, O, as, h1, h2, h3, r, g⟩ := h
  have nd := sc_values_from.nd
  exact ⟨_, pss_cons (ps_set (i := 4) nd rfl (by first | exact Or.inl rfl | exact Or.inr rfl) (pe_lst (pa_nil))) (pss_cons (ps_for (passes_of rfl) rfl (pi_enum (by rfl) T.n_enumerate (pa_cons (pe_call (G_pieces T) (hr.mono (by decide)) (by rfl) T.m_pieces T.F_pieces.kp T.B_pieces .nil pass0 (pa_cons (pv 0) (pa_cons (pv 1) (pa_nil)))) (pa_nil))) (pg_tupU (by rfl) (pgs_cons (pg_name (i := 5) nd rfl (by first | exact Or.inl rfl | exact Or.inr rfl)) (pgs_cons (pg_name (i := 6) nd rfl (by first | exact Or.inl rfl | exact Or.inr rfl)) (pgs_nil)))) (pss_cons (ps_set (i := 7) nd rfl (by first | exact Or.inl rfl | exact Or.inr rfl) (pe_callL Gg (hr.mono (by decide)) (by rfl) (by first | exact Or.inl rfl | exact Or.inr (Or.inl rfl)) kg Bg .nil pass0 (pa_cons (pv 6) (pa_nil)))) (pss_cons (ps_if (PW.pt (pw_or (pt_cmpR op_isN (pv 7) (pe_non) (nomark _)) (pw_or1 (PW.pt (pw_and (pt_truth (pv 3) (by intro _; rfl)) (pw_and (pt_truth (pv 4) (by intro _; rfl)) (pw_and1 (pt_cmpR (opLeB hr.units0) (pv 7) (pe_ix ix_seq (pv 4) (pe_un un_neg (pe_int)) (fun _ _ => rfl)) (nomark _))))))))) (pss_one (ps_raise rfl (takes_of rfl rfl rfl rfl) (pmk_oex T.X_BadText.oex T.X_BadText.iC T.X_BadText.tI (I_BadText T) (hr.mono (by decide)) T.X_BadText.B .nil pass0 (by rfl) T.X_BadText.gC (pa_cons (pv 5) (pa_nil))))) (pss_nil)) (pss_one (ps_expr (pe_bm PySem.F.plainAttrs_list PySem.F.slot_list_append PySem.F.type_list_append mt_append (pv 4) (pa_cons (pv 7) pa_nil))))))) (pss_one (ps_ret (pe_callTy (Mir.CallR.or call_tuple_of (callTupS rfl)) (by rfl) T.n_tuple (by decide +kernel) (pa_cons (pv 4) (pa_nil)))))),
    (sx_seq (sx_own (ef_lst (ea_nil))) (sx_seq (sx_for (jw_enum (ea_cons (ex_callN (ea_cons (ex_var) (ea_cons (ex_var) (ea_nil)))) (ea_nil))) (gx_tup (gxs_cons (gx_name) (gxs_cons (gx_name) (gxs_nil)))) (sx_seq (sx_asg (ex_callLN (ea_cons (ex_var) (ea_nil))) gx_name) (sx_seq (sx_if (et_or (et_test (ex_op op_isND (ex_var) (ex_non))) (et_and (et_tru (J.v (ex_var))) (et_and (et_tru (ev_own)) (et_test (ex_op op_leDB (ex_var) (ex_opV op_ixD (ev_own) (J.v (ex_un un_negD (ex_int))))))))) (sx_rz T.X_BadText.oex T.X_BadText.noN (ex_var)) (sx_next)) (sx_app (ex_var))))) (sx_ret (ex_cw tuple_B (ew_cons (ev_own) (ew_nil)))))) γ O H _ _ _ r g⟩
theorem sc_name_from : FnScope N_name_from ["word"] (defScope s_name_from) := ⟨rfl, rfl, rfl, by decide +kernel, rfl, by decide +kernel, by decide +kernel⟩
def b_name_from : M Out :=
  sRet (mIf (mTru (vD (mCall b_is_name 2 1 (mCons (mVar 0) (mNil))))) (mVar 0) (M.ret .non))
theorem G_name_from (T : Tx K mg w) : FnOk P w K mg base CX0 2 T.a_name_from T.fd_name_from ["word"] (spM0 K N_name_from 1 b_name_from) := by
  refine T.F_name_from.ok sc_name_from (spM_ln0 rfl) (fun cdv A outer s H vs Q E hr h => ?_)
  obtain ⟨γ, O, as, h1, h2, h3, r, g⟩ := h
  have nd := sc_name_from.nd
  exact ⟨_, pss_one (ps_ret (pe_ifExp (pt_truth (pe_call (G_is_name T) (hr.mono (by decide)) (by rfl) T.m_is_name T.F_is_name.kp T.B_is_name .nil pass0 (pa_cons (pv 0) (pa_nil))) (by intro _; rfl)) (pv 0) (pe_non))),
    (sx_ret (ex_if (et_tru (J.v (ex_call0 (ea_cons (ex_var) (ea_nil))))) (ex_var) (ex_non))) γ O H _ _ _ r g⟩
theorem sc_steps_from : FnScope N_steps_from ["text"] (defScope s_steps_from) := ⟨rfl, rfl, rfl, by decide +kernel, rfl, by decide +kernel, by decide +kernel⟩
def b_steps_from (ad : Ad) : M Out :=
  sRet (mCallS (b_values_from ad ad.name_from b_name_from 1) 8 4 (eCons (mVar 0) (eCons (M.ret (.str (PySem.Str.ofString " "))) (eSt (.ref ad.name_from) (eCons (M.ret (.bl true)) (eNil))))))
theorem G_steps_from (T : Tx K mg w) : FnOk P w K mg base (L2.CX P w) 4 T.a_steps_from T.fd_steps_from ["text"] (spM K N_steps_from 1 (b_steps_from T.ad)) := by
  refine T.F_steps_from.okX sc_steps_from (spM_ln rfl) (fun cdv A outer s H vs Q E hr h => ?_)
  obtain ⟨γ, O, as, h1, h2, h3, r, g⟩ := h
  have nd := sc_steps_from.nd
  exact ⟨_, pss_one (ps_ret (pe_call (G_values_from T (G_name_from T) T.F_name_from.kp T.B_name_from) (hr.mono (by decide)) (by rfl) T.m_values_from T.F_values_from.kp T.B_values_from .nil (passes_call (takes_of rfl rfl rfl rfl) (fun _ _ _ _ z => z)) (pa_cons (pv 0) (pa_cons (pe_str) (pa_cons (pe_glob (v := .ref T.a_name_from) (by rfl) T.m_name_from rfl) (pa_cons (pe_bl) (pa_nil))))))),
    (sx_ret (ex_callS (fun _ => rfl) (es_d (ex_var) (es_d (ex_str) (es_st (es_d (ex_bl) (es_nil))))))) γ O H _ _ _ r g⟩
theorem sc_pair_from : FnScope N_pair_from ["piece"] (defScope s_pair_from) := ⟨rfl, rfl, rfl, by decide +kernel, rfl, by decide +kernel, by decide +kernel⟩
def b_pair_from : M Out :=
  sSeq (sAsg (mM1 dSplit (mVar 0) (vD (M.ret (.str (PySem.Str.ofString " "))))) (gSet 1)) (
  sSeq (sIf (mOr (mB (mBin dNe (mCB dLen (mCons (mVar 1) (mNil))) (M.ret (.int 2)))) (mOr (mB (mBin dEq (mBin dIx (mVar 1) (M.ret (.int 0))) (mBin dIx (mVar 1) (M.ret (.int 1))))) (mNot (mTru (vD (mCB dAll (mCons (mF (mLc (wAny (mVar 1)) (gSet 2) (tYesM) (mCall b_is_name 2 1 (mCons (mVar 2) (mNil))) [2])) (mNil)))))))) (sRet (M.ret .non)) (sNx)) (
  sRet (mCB dTupleB (mCons (mVar 1) (mNil)))))
theorem G_pair_from (T : Tx K mg w) : FnOk P w K mg base CX0 2 T.a_pair_from T.fd_pair_from ["piece"] (spM0 K N_pair_from 1 b_pair_from) := by
  refine T.F_pair_from.ok sc_pair_from (spM_ln0 rfl) (fun cdv A outer s H vs Q E hr h => ?_)
  obtain ⟨γ, O, as, h1, h2, h3, r, g⟩ := h
  have nd := sc_pair_from.nd
  exact ⟨_, pss_cons (ps_set (i := 1) nd rfl (by first | exact Or.inl rfl | exact Or.inr rfl) (pe_split (pv 0) (pe_str))) (pss_cons (ps_if (PW.pt (pw_or (pt_cmpR (op_neD hr.units) (pe_callB call_len (by rfl) T.n_len (by decide +kernel) (pa_cons (pv 1) (pa_nil))) (pe_int) (nomark _)) (pw_or (pt_cmpR (op_eqD hr.units) (pe_ix ix_seq (pv 1) (pe_int) (fun _ _ => rfl)) (pe_ix ix_seq (pv 1) (pe_int) (fun _ _ => rfl)) (nomark _)) (pw_or1 (pt_not (pt_truth (pe_callB (cr_all rfl) (by rfl) T.n_all (by decide +kernel) (pa_cons (pe_lc (own := [("name", 2)]) rfl nd (pi_any (pv 1)) (blkOk_by (N := N_pair_from) (sc := (defScope s_pair_from)) (by decide +kernel)) (fun _ _ _ _ _ => pg_name (i := 2) nd rfl (by first | exact Or.inl rfl | exact Or.inr rfl)) (fun _ _ _ _ _ => pts_nil) (fun _ _ _ _ _ => pe_call (G_is_name T) (hr.mono (by decide)) (by rfl) T.m_is_name T.F_is_name.kp T.B_is_name .nil pass0 (pa_cons (pv 2) (pa_nil)))) (pa_nil))) (by intro _; rfl))))))) (pss_one (ps_ret (pe_non))) (pss_nil)) (pss_one (ps_ret (pe_callTy (Mir.CallR.or call_tuple_of (callTupS rfl)) (by rfl) T.n_tuple (by decide +kernel) (pa_cons (pv 1) (pa_nil)))))),
    (sx_seq (sx_asg (ex_m1 split_M (ex_var) (J.v (ex_str))) gx_name) (sx_seq (sx_if (et_or (et_test (ex_op op_neD' (ex_cb len_D (ea_cons (ex_var) (ea_nil))) (ex_int))) (et_or (et_test (ex_op op_eqD' (ex_op op_ixD (ex_var) (ex_int)) (ex_op op_ixD (ex_var) (ex_int)))) (et_not (et_tru (J.v (ex_cb all_D (ea_cons ((ef_lc (jw_any (ex_var)) (gx_name) (by decide) (et_yes) (ex_call0 (ea_cons (ex_var) (ea_nil)))).x) (ea_nil)))))))) (sx_ret (ex_non)) (sx_next)) (sx_ret (ex_cb tuple_B (ea_cons (ex_var) (ea_nil)))))) γ O H _ _ _ r g⟩
theorem sc_pairs_from : FnScope N_pairs_from ["text"] (defScope s_pairs_from) := ⟨rfl, rfl, rfl, by decide +kernel, rfl, by decide +kernel, by decide +kernel⟩
def b_pairs_from (ad : Ad) : M Out :=
  sRet (mCallS (b_values_from ad ad.pair_from b_pair_from 3) 8 4 (eCons (mVar 0) (eCons (M.ret (.str (PySem.Str.ofString "; "))) (eSt (.ref ad.pair_from) (eCons (M.ret (.bl true)) (eNil))))))
theorem G_pairs_from (T : Tx K mg w) : FnOk P w K mg base (L2.CX P w) 4 T.a_pairs_from T.fd_pairs_from ["text"] (spM K N_pairs_from 1 (b_pairs_from T.ad)) := by
  refine T.F_pairs_from.okX sc_pairs_from (spM_ln rfl) (fun cdv A outer s H vs Q E hr h => ?_)
  obtain ⟨γ, O, as, h1, h2, h3, r, g⟩ := h
  have nd := sc_pairs_from.nd
  exact ⟨_, pss_one (ps_ret (pe_call (G_values_from T (G_pair_from T) T.F_pair_from.kp T.B_pair_from) (hr.mono (by decide)) (by rfl) T.m_values_from T.F_values_from.kp T.B_values_from .nil (passes_call (takes_of rfl rfl rfl rfl) (fun _ _ _ _ z => z)) (pa_cons (pv 0) (pa_cons (pe_str) (pa_cons (pe_glob (v := .ref T.a_pair_from) (by rfl) T.m_pair_from rfl) (pa_cons (pe_bl) (pa_nil))))))),
    (sx_ret (ex_callS (fun _ => rfl) (es_d (ex_var) (es_d (ex_str) (es_st (es_d (ex_bl) (es_nil))))))) γ O H _ _ _ r g⟩
theorem sc_size_from : FnScope N_size_from ["word"] (defScope s_size_from) := ⟨rfl, rfl, rfl, by decide +kernel, rfl, by decide +kernel, by decide +kernel⟩
def b_size_from : M Out :=
  sSeq (sIf (mOr (mB (mBin dEq (mVar 0) (M.ret (.str (PySem.Str.ofString ""))))) (mNot (mTru (vD (mCB dAll (mCons (mF (mLc (wAny (mVar 0)) (gSet 1) (tYesM) (mChain dLeB dLeB (M.ret (.str (PySem.Str.ofString "0"))) (mVar 1) (M.ret (.str (PySem.Str.ofString "9")))) [1])) (mNil))))))) (sRet (M.ret .non)) (sNx)) (
  sSeq (sIf (mAnd (mB (mBin dEq (mBin dIx (mVar 0) (M.ret (.int 0))) (M.ret (.str (PySem.Str.ofString "0"))))) (mB (mBin dNe (mVar 0) (M.ret (.str (PySem.Str.ofString "0")))))) (sRet (M.ret .non)) (sNx)) (
  sRet (mCB dInt (mCons (mVar 0) (mNil)))))
theorem G_size_from (T : Tx K mg w) : FnOk P w K mg base CX0 1 T.a_size_from T.fd_size_from ["word"] (spM0 K N_size_from 1 b_size_from) := by
  refine T.F_size_from.ok sc_size_from (spM_ln0 rfl) (fun cdv A outer s H vs Q E hr h => ?_)
  obtain ⟨γ, O, as, h1, h2, h3, r, g⟩ := h
  have nd := sc_size_from.nd
  exact ⟨_, pss_cons (ps_if (PW.pt (pw_or (pt_cmpR (op_eqD hr.units) (pv 0) (pe_str) (nomark _)) (pw_or1 (pt_not (pt_truth (pe_callB (cr_all rfl) (by rfl) T.n_all (by decide +kernel) (pa_cons (pe_lc (own := [("sign", 1)]) rfl nd (pi_any (pv 0)) (blkOk_by (N := N_size_from) (sc := (defScope s_size_from)) (by decide +kernel)) (fun _ _ _ _ _ => pg_name (i := 1) nd rfl (by first | exact Or.inl rfl | exact Or.inr rfl)) (fun _ _ _ _ _ => pts_nil) (fun _ _ _ _ _ => pe_chain (opLeB hr.units0) (opLeB hr.units0) (pe_str) (pv 1) (pe_str))) (pa_nil))) (by intro _; rfl)))))) (pss_one (ps_ret (pe_non))) (pss_nil)) (pss_cons (ps_if (PW.pt (pw_and (pt_cmpR (op_eqD hr.units) (pe_ix ix_seq (pv 0) (pe_int) (fun _ _ => rfl)) (pe_str) (nomark _)) (pw_and1 (pt_cmpR (op_neD hr.units) (pv 0) (pe_str) (nomark _))))) (pss_one (ps_ret (pe_non))) (pss_nil)) (pss_one (ps_ret (pe_callTy callIntA (by rfl) T.n_int (by decide +kernel) (pa_cons (pv 0) (pa_nil)))))),
    (sx_seq (sx_if (et_or (et_test (ex_op op_eqD' (ex_var) (ex_str))) (et_not (et_tru (J.v (ex_cb all_D (ea_cons ((ef_lc (jw_any (ex_var)) (gx_name) (by decide) (et_yes) (ex_chain op_leDB op_leDB (ex_str) (ex_var) (ex_str))).x) (ea_nil))))))) (sx_ret (ex_non)) (sx_next)) (sx_seq (sx_if (et_and (et_test (ex_op op_eqD' (ex_op op_ixD (ex_var) (ex_int)) (ex_str))) (et_test (ex_op op_neD' (ex_var) (ex_str)))) (sx_ret (ex_non)) (sx_next)) (sx_ret (ex_cb int_D (ea_cons (ex_var) (ea_nil)))))) γ O H _ _ _ r g⟩
theorem sc_sizes_from : FnScope N_sizes_from ["text"] (defScope s_sizes_from) := ⟨rfl, rfl, rfl, by decide +kernel, rfl, by decide +kernel, by decide +kernel⟩
def b_sizes_from (ad : Ad) : M Out :=
  sRet (mCallS (b_values_from ad ad.size_from b_size_from 2) 8 4 (eCons (mVar 0) (eCons (M.ret (.str (PySem.Str.ofString " "))) (eSt (.ref ad.size_from) (eCons (M.ret (.bl false)) (eNil))))))
theorem G_sizes_from (T : Tx K mg w) : FnOk P w K mg base (L2.CX P w) 4 T.a_sizes_from T.fd_sizes_from ["text"] (spM K N_sizes_from 1 (b_sizes_from T.ad)) := by
  refine T.F_sizes_from.okX sc_sizes_from (spM_ln rfl) (fun cdv A outer s H vs Q E hr h => ?_)
  obtain ⟨γ, O, as, h1, h2, h3, r, g⟩ := h
  have nd := sc_sizes_from.nd
  exact ⟨_, pss_one (ps_ret (pe_call (G_values_from T (G_size_from T) T.F_size_from.kp T.B_size_from) (hr.mono (by decide)) (by rfl) T.m_values_from T.F_values_from.kp T.B_values_from .nil (passes_call (takes_of rfl rfl rfl rfl) (fun _ _ _ _ z => z)) (pa_cons (pv 0) (pa_cons (pe_str) (pa_cons (pe_glob (v := .ref T.a_size_from) (by rfl) T.m_size_from rfl) (pa_cons (pe_bl) (pa_nil))))))),
    (sx_ret (ex_callS (fun _ => rfl) (es_d (ex_var) (es_d (ex_str) (es_st (es_d (ex_bl) (es_nil))))))) γ O H _ _ _ r g⟩
theorem sc_deed_from : FnScope N_deed_from ["word"] (defScope s_deed_from) := ⟨rfl, rfl, rfl, by decide +kernel, rfl, by decide +kernel, by decide +kernel⟩
def b_deed_from : M Out :=
  sSeq (sIf (mOr (mB (mTabN tab_DEEDS (mSl (vD (mVar 0)) (oNone) (oSome (M.ret (.int 1)))))) (mNot (mTru (vD (mCall b_is_name 2 1 (mCons (mSl (vD (mVar 0)) (oSome (M.ret (.int 1))) (oNone)) (mNil))))))) (sRet (M.ret .non)) (sNx)) (
  sRet (mTup (mCons (mTab tab_DEEDS (mBin dIx (mVar 0) (M.ret (.int 0)))) (mCons (mSl (vD (mVar 0)) (oSome (M.ret (.int 1))) (oNone)) (mNil)))))
theorem G_deed_from (T : Tx K mg w) : FnOk P w K mg base CX0 2 T.a_deed_from T.fd_deed_from ["word"] (spM0 K N_deed_from 1 b_deed_from) := by
  obtain ⟨es_DEEDS, n_DEEDS, D_DEEDS⟩ := T.v_DEEDS.kd
  refine T.F_deed_from.ok sc_deed_from (spM_ln0 rfl) (fun cdv A outer s H vs Q E hr h => ?_)
  obtain ⟨γ, O, as, h1, h2, h3, r, g⟩ := h
  have nd := sc_deed_from.nd
  exact ⟨_, pss_cons (ps_if (PW.pt (pw_or (pt_cmpR (op_notIn_kd D_DEEDS) (pe_slice slAll (pv 0) (po_none) (po_some (pe_int))) (pe_glob (v := .ref T.t_DEEDS) (by rfl) T.m_DEEDS rfl) (by rfl)) (pw_or1 (pt_not (pt_truth (pe_call (G_is_name T) (hr.mono (by decide)) (by rfl) T.m_is_name T.F_is_name.kp T.B_is_name .nil pass0 (pa_cons (pe_slice slAll (pv 0) (po_some (pe_int)) (po_none)) (pa_nil))) (by intro _; rfl)))))) (pss_one (ps_ret (pe_non))) (pss_nil)) (pss_one (ps_ret (pe_tup (pa_cons (pe_ix ix_kdict (pe_glob (v := .ref T.t_DEEDS) (by rfl) T.m_DEEDS rfl) (pe_ix ix_seq (pv 0) (pe_int) (fun _ _ => rfl)) (fun _ _ => rfl)) (pa_cons (pe_slice slAll (pv 0) (po_some (pe_int)) (po_none)) (pa_nil)))))),
    (sx_seq (sx_if (et_or (et_test (ex_tabN T.v_DEEDS (ex_sl (J.v (ex_var)) (eo_none) (eo_some (ex_int))))) (et_not (et_tru (J.v (ex_call0 (ea_cons (ex_sl (J.v (ex_var)) (eo_some (ex_int)) (eo_none)) (ea_nil))))))) (sx_ret (ex_non)) (sx_next)) (sx_ret (ex_tup (ea_cons (ex_tab T.v_DEEDS (ex_op op_ixD (ex_var) (ex_int))) (ea_cons (ex_sl (J.v (ex_var)) (eo_some (ex_int)) (eo_none)) (ea_nil)))))) γ O H _ _ _ r g⟩
theorem sc_run_from : FnScope N_run_from ["text"] (defScope s_run_from) := ⟨rfl, rfl, rfl, by decide +kernel, rfl, by decide +kernel, by decide +kernel⟩
def b_run_from (ad : Ad) : M Out :=
  sRet (mCallS (b_values_from ad ad.deed_from b_deed_from 1) 8 4 (eCons (mVar 0) (eCons (M.ret (.str (PySem.Str.ofString " "))) (eSt (.ref ad.deed_from) (eCons (M.ret (.bl false)) (eNil))))))
theorem G_run_from (T : Tx K mg w) : FnOk P w K mg base (L2.CX P w) 4 T.a_run_from T.fd_run_from ["text"] (spM K N_run_from 1 (b_run_from T.ad)) := by
  refine T.F_run_from.okX sc_run_from (spM_ln rfl) (fun cdv A outer s H vs Q E hr h => ?_)
  obtain ⟨γ, O, as, h1, h2, h3, r, g⟩ := h
  have nd := sc_run_from.nd
  exact ⟨_, pss_one (ps_ret (pe_call (G_values_from T (G_deed_from T) T.F_deed_from.kp T.B_deed_from) (hr.mono (by decide)) (by rfl) T.m_values_from T.F_values_from.kp T.B_values_from .nil (passes_call (takes_of rfl rfl rfl rfl) (fun _ _ _ _ z => z)) (pa_cons (pv 0) (pa_cons (pe_str) (pa_cons (pe_glob (v := .ref T.a_deed_from) (by rfl) T.m_deed_from rfl) (pa_cons (pe_bl) (pa_nil))))))),
    (sx_ret (ex_callS (fun _ => rfl) (es_d (ex_var) (es_d (ex_str) (es_st (es_d (ex_bl) (es_nil))))))) γ O H _ _ _ r g⟩
theorem sc_l_box : FnScope N_l_box ["_law_script", "_law_k"] (defScope s_l_box) := ⟨rfl, rfl, rfl, by decide +kernel, rfl, by decide +kernel, by decide +kernel⟩
def b_l_box : M Out :=
  sSeq (sAsg (mIf (mB (mBin dLt (mVar 1) (mCB dLen (mCons (mVar 0) (mNil))))) (mBin dIx (mVar 0) (mVar 1)) (M.ret (.int 0))) (gSet 2)) (
  sRetF (oLst (mCons (mBin dMul (mCB dAbs (mCons (mVar 2) (mNil))) (mCB dInt (mCons (mBin dGe (mCB dAbs (mCons (mVar 2) (mNil))) (mBin dPow (M.ret (.int 10)) (M.ret (.int 18)))) (mNil)))) (mCons (mBin dAdd (mBin dAdd (mBin dMod (mCB dInt (mCons (mVar 2) (mNil))) (M.ret (.int 2305843009213693951))) (mBin dMul (M.ret (.int 39373)) (mVar 1))) (M.ret (.int 91702))) (mCons (M.ret (.int 0)) (mNil))))))
theorem G_l_box (T : Tx K mg w) : FnOk P w K mg base CX0 1 T.a_l_box T.fd_l_box ["_law_script", "_law_k"] (spM0 K N_l_box 2 b_l_box) := by
  refine T.F_l_box.ok sc_l_box (spM_ln0 rfl) (fun cdv A outer s H vs Q E hr h => ?_)
  obtain ⟨γ, O, as, h1, h2, h3, r, g⟩ := h
  have nd := sc_l_box.nd
  exact ⟨_, pss_cons (ps_set (i := 2) nd rfl (by first | exact Or.inl rfl | exact Or.inr rfl) (pe_ifExp (pt_cmpR opLtA (pv 1) (pe_callB call_len (by rfl) T.n_len (by decide +kernel) (pa_cons (pv 0) (pa_nil))) (nomark _)) (pe_ix ix_seq (pv 0) (pv 1) (fun _ _ => rfl)) (pe_int))) (pss_one (ps_ret (pe_lst (pa_cons (pe_op opMulA (pe_callB call_abs (by rfl) T.n_abs (by decide +kernel) (pa_cons (pv 2) (pa_nil))) (pe_callTy callIntA (by rfl) T.n_int (by decide +kernel) (pa_cons (pe_cmpR opGeA (pe_callB call_abs (by rfl) T.n_abs (by decide +kernel) (pa_cons (pv 2) (pa_nil))) (pe_op op_pow (pe_int) (pe_int)) (nomark _)) (pa_nil)))) (pa_cons (pe_op opAddA (pe_op opAddA (pe_op op_modN (pe_callTy callIntA (by rfl) T.n_int (by decide +kernel) (pa_cons (pv 2) (pa_nil))) (pe_int)) (pe_op opMulA (pe_int) (pv 1))) (pe_int)) (pa_cons (pe_int) (pa_nil))))))),
    (sx_seq (sx_asg (ex_if (et_test (ex_op op_ltD (ex_var) (ex_cb len_D (ea_cons (ex_var) (ea_nil))))) (ex_op op_ixD (ex_var) (ex_var)) (ex_int)) gx_name) (sx_retF (ef_lst (ea_cons (ex_op op_mulD (ex_cb abs_D (ea_cons (ex_var) (ea_nil))) (ex_cb int_D (ea_cons (ex_op op_geD (ex_cb abs_D (ea_cons (ex_var) (ea_nil))) (ex_op op_powD (ex_int) (ex_int))) (ea_nil)))) (ea_cons (ex_op op_addD (ex_op op_addD (ex_op op_modD (ex_cb int_D (ea_cons (ex_var) (ea_nil))) (ex_int)) (ex_op op_mulD (ex_int) (ex_var))) (ex_int)) (ea_cons (ex_int) (ea_nil))))))) γ O H _ _ _ r g⟩
theorem sc_l_take : FnScope N_l_take ["_law_box_here", "_law_size_so"] (defScope s_l_take) := ⟨rfl, rfl, rfl, by decide +kernel, rfl, by decide +kernel, by decide +kernel⟩
def b_l_take : M Out :=
  sSeq (sIf (mB (mBin dGt (mBinV dIx (mOwn 0) (vD (M.ret (.int 0)))) (M.ret (.int 0)))) (sSeq (sAsg (mBin dMod (mCB dInt (mCons (mBinV dIx (mOwn 0) (vD (M.ret (.int 0)))) (mNil))) (mVar 1)) (gSet 5)) (
  sSeq (sSet 0 (mBin dDiv (mBinV dIx (mOwn 0) (vD (M.ret (.int 0)))) (mVar 1)) (M.ret (.int 0))) (
  sRet (mVar 5)))) (sNx)) (
  sSeq (sSet 0 (mBin dAdd (mBinV dIx (mOwn 0) (vD (M.ret (.int 2)))) (M.ret (.int 1))) (M.ret (.int 2))) (
  sSeq (sAsg (mBin dMod (mCB dInt (mCons (mBin dMul (mBin dAdd (mBinV dIx (mOwn 0) (vD (M.ret (.int 1)))) (mBin dMul (M.ret (.int 48271)) (mBinV dIx (mOwn 0) (vD (M.ret (.int 2)))))) (mBin dAdd (M.ret (.int 39373)) (mBinV dIx (mOwn 0) (vD (M.ret (.int 2)))))) (mNil))) (M.ret (.int 2147483647))) (gSet 2)) (
  sSeq (sAsg (mBin dAdd (mBin dMod (mCB dInt (mCons (mVar 2) (mNil))) (M.ret (.int 40009))) (M.ret (.int 7))) (gSet 3)) (
  sSeq (sAsg (mBin dMod (mCB dInt (mCons (mBin dMul (mBin dAdd (mBin dAdd (mVar 2) (mBinV dIx (mOwn 0) (vD (M.ret (.int 2))))) (mBin dDiv (mBinV dIx (mOwn 0) (vD (M.ret (.int 1)))) (M.ret (.int 1000003)))) (mVar 3)) (mNil))) (M.ret (.int 2147483629))) (gSet 4)) (
  sRet (mBin dMod (mCB dInt (mCons (mBin dDiv (mBin dMod (mCB dInt (mCons (mBin dAdd (mBin dMul (mVar 4) (M.ret (.int 48271))) (mVar 2)) (mNil))) (M.ret (.int 2147483587))) (M.ret (.int 64))) (mNil))) (mVar 1)))))))
theorem G_l_take (T : Tx K mg w) : FnOk P w K mg base CX0 1 T.a_l_take T.fd_l_take ["_law_box_here", "_law_size_so"] (spM0 K N_l_take 2 b_l_take) := by
  refine T.F_l_take.ok sc_l_take (spM_ln0 rfl) (fun cdv A outer s H vs Q E hr h => ?_)
  obtain ⟨γ, O, as, h1, h2, h3, r, g⟩ := h
  have nd := sc_l_take.nd
  exact ⟨_, pss_cons (ps_if (pt_cmpR opGtA (pe_ix ix_seq (pv 0) (pe_int) (fun _ _ => rfl)) (pe_int) (nomark _)) (pss_cons (ps_set (i := 5) nd rfl (by first | exact Or.inl rfl | exact Or.inr rfl) (pe_op op_modN (pe_callTy callIntA (by rfl) T.n_int (by decide +kernel) (pa_cons (pe_ix ix_seq (pv 0) (pe_int) (fun _ _ => rfl)) (pa_nil))) (pv 1))) (pss_cons (ps_asg (pe_op op_fdivN (pe_ix ix_seq (pv 0) (pe_int) (fun _ _ => rfl)) (pv 1)) (pg_sub (pv 0) (pe_int) set_list)) (pss_one (ps_ret (pv 5))))) (pss_nil)) (pss_cons (ps_asg (pe_op opAddA (pe_ix ix_seq (pv 0) (pe_int) (fun _ _ => rfl)) (pe_int)) (pg_sub (pv 0) (pe_int) set_list)) (pss_cons (ps_set (i := 2) nd rfl (by first | exact Or.inl rfl | exact Or.inr rfl) (pe_op op_modN (pe_callTy callIntA (by rfl) T.n_int (by decide +kernel) (pa_cons (pe_op opMulA (pe_op opAddA (pe_ix ix_seq (pv 0) (pe_int) (fun _ _ => rfl)) (pe_op opMulA (pe_int) (pe_ix ix_seq (pv 0) (pe_int) (fun _ _ => rfl)))) (pe_op opAddA (pe_int) (pe_ix ix_seq (pv 0) (pe_int) (fun _ _ => rfl)))) (pa_nil))) (pe_int))) (pss_cons (ps_set (i := 3) nd rfl (by first | exact Or.inl rfl | exact Or.inr rfl) (pe_op opAddA (pe_op op_modN (pe_callTy callIntA (by rfl) T.n_int (by decide +kernel) (pa_cons (pv 2) (pa_nil))) (pe_int)) (pe_int))) (pss_cons (ps_set (i := 4) nd rfl (by first | exact Or.inl rfl | exact Or.inr rfl) (pe_op op_modN (pe_callTy callIntA (by rfl) T.n_int (by decide +kernel) (pa_cons (pe_op opMulA (pe_op opAddA (pe_op opAddA (pv 2) (pe_ix ix_seq (pv 0) (pe_int) (fun _ _ => rfl))) (pe_op op_fdivN (pe_ix ix_seq (pv 0) (pe_int) (fun _ _ => rfl)) (pe_int))) (pv 3)) (pa_nil))) (pe_int))) (pss_one (ps_ret (pe_op op_modN (pe_callTy callIntA (by rfl) T.n_int (by decide +kernel) (pa_cons (pe_op op_fdivN (pe_op op_modN (pe_callTy callIntA (by rfl) T.n_int (by decide +kernel) (pa_cons (pe_op opAddA (pe_op opMulA (pv 4) (pe_int)) (pv 2)) (pa_nil))) (pe_int)) (pe_int)) (pa_nil))) (pv 1)))))))),
    (sx_seq (sx_if (et_test (ex_op op_gtD (ex_opV op_ixD (ev_own) (J.v (ex_int))) (ex_int))) (sx_seq (sx_asg (ex_op op_modD (ex_cb int_D (ea_cons (ex_opV op_ixD (ev_own) (J.v (ex_int))) (ea_nil))) (ex_var)) gx_name) (sx_seq (sx_set (ex_op op_divD (ex_opV op_ixD (ev_own) (J.v (ex_int))) (ex_var)) (ex_int)) (sx_ret (ex_var)))) (sx_next)) (sx_seq (sx_set (ex_op op_addD (ex_opV op_ixD (ev_own) (J.v (ex_int))) (ex_int)) (ex_int)) (sx_seq (sx_asg (ex_op op_modD (ex_cb int_D (ea_cons (ex_op op_mulD (ex_op op_addD (ex_opV op_ixD (ev_own) (J.v (ex_int))) (ex_op op_mulD (ex_int) (ex_opV op_ixD (ev_own) (J.v (ex_int))))) (ex_op op_addD (ex_int) (ex_opV op_ixD (ev_own) (J.v (ex_int))))) (ea_nil))) (ex_int)) gx_name) (sx_seq (sx_asg (ex_op op_addD (ex_op op_modD (ex_cb int_D (ea_cons (ex_var) (ea_nil))) (ex_int)) (ex_int)) gx_name) (sx_seq (sx_asg (ex_op op_modD (ex_cb int_D (ea_cons (ex_op op_mulD (ex_op op_addD (ex_op op_addD (ex_var) (ex_opV op_ixD (ev_own) (J.v (ex_int)))) (ex_op op_divD (ex_opV op_ixD (ev_own) (J.v (ex_int))) (ex_int))) (ex_var)) (ea_nil))) (ex_int)) gx_name) (sx_ret (ex_op op_modD (ex_cb int_D (ea_cons (ex_op op_divD (ex_op op_modD (ex_cb int_D (ea_cons (ex_op op_addD (ex_op op_mulD (ex_var) (ex_int)) (ex_var)) (ea_nil))) (ex_int)) (ex_int)) (ea_nil))) (ex_var)))))))) γ O H _ _ _ r g⟩
theorem sc_l_cells : FnScope N_l_cells ["_law_script", "_law_top_so"] (defScope s_l_cells) := ⟨rfl, rfl, rfl, by decide +kernel, rfl, by decide +kernel, by decide +kernel⟩
def b_l_cells : M Out :=
  sSeq (sOwn 2 (oOr (oCB dList (mCons (mSl (vD (mVar 0)) (oNone) (oSome (mVar 1))) (mNil))) (oLst (mCons (M.ret (.int 0)) (mNil))))) (
  sSeq (sFor (wEnum (mCons (mSl (vD (mVar 0)) (oSome (mVar 1)) (oSome (M.ret (.int 63)))) (mNil))) (gTupD 2 (gsCons (gSet 3) (gsCons (gSet 4) (gsNil)))) (sSeq (sAsg (mBin dMod (mCB dInt (mCons (mVar 3) (mNil))) (mVar 1)) (gSet 5)) (
  sSet 2 (mBin dAdd (mBinV dIx (mOwn 2) (vD (mVar 5))) (mBin dMul (mVar 4) (mBin dAdd (mVar 3) (M.ret (.int 2))))) (mVar 5)))) (
  sRetO 2))
theorem G_l_cells (T : Tx K mg w) : FnOk P w K mg base CX0 1 T.a_l_cells T.fd_l_cells ["_law_script", "_law_top_so"] (spM0 K N_l_cells 2 b_l_cells) := by
  refine T.F_l_cells.ok sc_l_cells (spM_ln0 rfl) (fun cdv A outer s H vs Q E hr h => ?_)
  obtain ⟨γ, O, as, h1, h2, h3, r, g⟩ := h
  have nd := sc_l_cells.nd
  exact ⟨_, pss_cons (ps_set (i := 2) nd rfl (by first | exact Or.inl rfl | exact Or.inr rfl) (pe_orT (pe_callTy call_list_of (by rfl) T.n_list (by decide +kernel) (pa_cons (pe_slice slAll (pv 0) (po_none) (po_some (pv 1))) (pa_nil))) (pe_one (pe_lst (pa_cons (pe_int) (pa_nil)))))) (pss_cons (ps_for PassesOwn.never rfl (pi_enum (by rfl) T.n_enumerate (pa_cons (pe_slice slAll (pv 0) (po_some (pv 1)) (po_some (pe_int))) (pa_nil))) (pg_tupU (by rfl) (pgs_cons (pg_name (i := 3) nd rfl (by first | exact Or.inl rfl | exact Or.inr rfl)) (pgs_cons (pg_name (i := 4) nd rfl (by first | exact Or.inl rfl | exact Or.inr rfl)) (pgs_nil)))) (pss_cons (ps_set (i := 5) nd rfl (by first | exact Or.inl rfl | exact Or.inr rfl) (pe_op op_modN (pe_callTy callIntA (by rfl) T.n_int (by decide +kernel) (pa_cons (pv 3) (pa_nil))) (pv 1))) (pss_one (ps_asg (pe_op opAddA (pe_ix ix_seq (pv 2) (pv 5) (fun _ _ => rfl)) (pe_op opMulA (pv 4) (pe_op opAddA (pv 3) (pe_int)))) (pg_sub (pv 2) (pv 5) set_list))))) (pss_one (ps_ret (pv 2)))),
    (sx_seq (sx_own (ef_or (ef_cb list_F (ea_cons (ex_sl (J.v (ex_var)) (eo_none) (eo_some (ex_var))) (ea_nil))) (ef_lst (ea_cons (ex_int) (ea_nil))))) (sx_seq (sx_for (jw_enum (ea_cons (ex_sl (J.v (ex_var)) (eo_some (ex_var)) (eo_some (ex_int))) (ea_nil))) (gx_tup (gxs_cons (gx_name) (gxs_cons (gx_name) (gxs_nil)))) (sx_seq (sx_asg (ex_op op_modD (ex_cb int_D (ea_cons (ex_var) (ea_nil))) (ex_var)) gx_name) (sx_set (ex_op op_addD (ex_opV op_ixD (ev_own) (J.v (ex_var))) (ex_op op_mulD (ex_var) (ex_op op_addD (ex_var) (ex_int)))) (ex_var)))) (sx_retO))) γ O H _ _ _ r g⟩
theorem sc_l_of : FnScope N_l_of ["_law_box_here", "_law_goods_so"] (defScope s_l_of) := ⟨rfl, rfl, rfl, by decide +kernel, rfl, by decide +kernel, by decide +kernel⟩
def b_l_of : M Out :=
  sRet (mBin dIx (mVar 1) (mCallI b_l_take 6 2 0 (mCons (mCB dLen (mCons (mVar 1) (mNil))) (mNil))))
theorem G_l_of (T : Tx K mg w) : FnOk P w K mg base CX0 2 T.a_l_of T.fd_l_of ["_law_box_here", "_law_goods_so"] (spM0 K N_l_of 2 b_l_of) := by
  refine T.F_l_of.ok sc_l_of (spM_ln0 rfl) (fun cdv A outer s H vs Q E hr h => ?_)
  obtain ⟨γ, O, as, h1, h2, h3, r, g⟩ := h
  have nd := sc_l_of.nd
  exact ⟨_, pss_one (ps_ret (pe_ix ix_seq (pv 1) (pe_call (G_l_take T) (hr.mono (by decide)) (by rfl) T.m_l_take T.F_l_take.kp T.B_l_take .nil pass0 (pa_cons (pv 0) (pa_cons (pe_callB call_len (by rfl) T.n_len (by decide +kernel) (pa_cons (pv 1) (pa_nil))) (pa_nil)))) (fun _ _ => rfl))),
    (sx_ret (ex_op op_ixD (ex_var) (ex_callI0 (ea_cons (ex_cb len_D (ea_cons (ex_var) (ea_nil))) (ea_nil))))) γ O H _ _ _ r g⟩
theorem sc_l_pick : FnScope N_l_pick ["_law_box_here", "_law_goods_so", "_law_count_so"] (defScope s_l_pick) := ⟨rfl, rfl, rfl, by decide +kernel, rfl, by decide +kernel, by decide +kernel⟩
def b_l_pick : M Out :=
  sSeq (sPar 4 5 (iOwn (oCB dList (mCons (mVar 1) (mNil))) (iOwn (oLst (mNil)) (iNil)))) (
  sSeq (sFor (wRng1 (mCons (mCB dMin2 (mCons (mCB dInt (mCons (mVar 2) (mNil))) (mCons (mCW dLen (wCons (mOwn 4) (wNil))) (mNil)))) (mNil))) (gSet 3) (sApp 5 (mPop 4 (mCallI b_l_take 6 2 0 (mCons (mCW dLen (wCons (mOwn 4) (wNil))) (mNil)))))) (
  sRetO 5))
theorem G_l_pick (T : Tx K mg w) : FnOk P w K mg base CX0 2 T.a_l_pick T.fd_l_pick ["_law_box_here", "_law_goods_so", "_law_count_so"] (spM0 K N_l_pick 3 b_l_pick) := by
  refine T.F_l_pick.ok sc_l_pick (spM_ln0 rfl) (fun cdv A outer s H vs Q E hr h => ?_)
  obtain ⟨γ, O, as, h1, h2, h3, r, g⟩ := h
  have nd := sc_l_pick.nd
  exact ⟨_, pss_cons (ps_par (by rfl) nd rfl rfl (by decide) rfl rfl (pa_cons (pe_callTy call_list_of (by rfl) T.n_list (by decide +kernel) (pa_cons (pv 1) (pa_nil))) (pa_cons (pe_lst (pa_nil)) (pa_nil))) (by rfl)) (pss_cons (ps_for PassesOwn.never rfl (pi_range1 (by rfl) T.n_range (pa_cons (pe_callB (call_min2 rfl) (by rfl) T.n_min (by decide +kernel) (pa_cons (pe_callTy callIntA (by rfl) T.n_int (by decide +kernel) (pa_cons (pv 2) (pa_nil))) (pa_cons (pe_callB call_len (by rfl) T.n_len (by decide +kernel) (pa_cons (pv 4) (pa_nil))) (pa_nil)))) (pa_nil))) (pg_name (i := 3) nd rfl (by first | exact Or.inl rfl | exact Or.inr rfl)) (pss_one (ps_expr (pe_bm PySem.F.plainAttrs_list PySem.F.slot_list_append PySem.F.type_list_append mt_append (pv 5) (pa_cons (pe_bm PySem.F.plainAttrs_list PySem.F.slot_list_pop PySem.F.type_list_pop mt_popAt (pv 4) (pa_cons (pe_call (G_l_take T) (hr.mono (by decide)) (by rfl) T.m_l_take T.F_l_take.kp T.B_l_take .nil pass0 (pa_cons (pv 0) (pa_cons (pe_callB call_len (by rfl) T.n_len (by decide +kernel) (pa_cons (pv 4) (pa_nil))) (pa_nil)))) pa_nil)) pa_nil))))) (pss_one (ps_ret (pv 5)))),
    (sx_seq (sx_par (il_own (ef_cb list_F (ea_cons (ex_var) (ea_nil))) (il_own (ef_lst (ea_nil)) (il_nil)))) (sx_seq (sx_for (jw_rng1 (ea_cons (ex_cb min2_D (ea_cons (ex_cb int_D (ea_cons (ex_var) (ea_nil))) (ea_cons (ex_cw len_D (ew_cons (ev_own) (ew_nil))) (ea_nil)))) (ea_nil))) (gx_name) (sx_app (ex_popAt (ex_callI0 (ea_cons (ex_cw len_D (ew_cons (ev_own) (ew_nil))) (ea_nil)))))) (sx_retO))) γ O H _ _ _ r g⟩
theorem sc_l_same : FnScope N_l_same ["_law_got", "_law_due"] (defScope s_l_same) := ⟨rfl, rfl, rfl, by decide +kernel, rfl, by decide +kernel, by decide +kernel⟩
def b_l_same : Nat → M Out
  | 0 => fun _ => .bad
  | n + 1 => sSeq (sIf (mTru (vD (mIs2 "list" "tuple" (vD (mVar 1))))) (sSeq (sIf (mB (mBin dNe (mIs1 "list" (vD (mVar 0))) (mIs1 "list" (vD (mVar 1))))) (sRet (M.ret (.bl false))) (sNx)) (
  sSeq (sIf (mB (mBin dNe (mIs1 "tuple" (vD (mVar 0))) (mIs1 "tuple" (vD (mVar 1))))) (sRet (M.ret (.bl false))) (sNx)) (
  sRet (mAndT (mBin dEq (mCB dLen (mCons (mVar 0) (mNil))) (mCB dLen (mCons (mVar 1) (mNil)))) (mCB dAll (mCons (mF (mLc (wZip (mCons (mVar 0) (mCons (mVar 1) (mNil)))) (gTupD 2 (gsCons (gSet 2) (gsCons (gSet 3) (gsNil)))) (tYesM) (mCall (b_l_same n) 4 2 (mCons (mVar 2) (mCons (mVar 3) (mNil)))) [2, 3])) (mNil))))))) (sNx)) (
  sSeq (sIf (mOr (mB (mBin dIsN (mVar 1) (M.ret .non))) (mTru (vD (mIs2 "bool" "str" (vD (mVar 1)))))) (sRet (mAndT (mBin dEq (mVar 0) (mVar 1)) (mAndT (mBin dEq (mIs1 "bool" (vD (mVar 0))) (mIs1 "bool" (vD (mVar 1)))) (mBin dEq (mBin dIsN (mVar 0) (M.ret .non)) (mBin dIsN (mVar 1) (M.ret .non)))))) (sNx)) (
  sRet (mAndT (mIs1 "int" (vD (mVar 0))) (mAndT (mNotT (vD (mIs1 "bool" (vD (mVar 0))))) (mBin dEq (mVar 0) (mVar 1))))))
theorem G_l_same' (T : Tx K mg w) : ∀ n : Nat, FnOk P w K mg base CX0 (n + 1) T.a_l_same T.fd_l_same ["_law_got", "_law_due"] (spM0 K N_l_same 2 (b_l_same n))
  | 0 => fn_bad rfl
  | n + 1 => by
    have IH := G_l_same' T n
    refine T.F_l_same.ok sc_l_same (spM_ln0 rfl) (fun cdv A outer s H vs Q E hr h => ?_)
    obtain ⟨γ, O, as, h1, h2, h3, r, g⟩ := h
    have nd := sc_l_same.nd
    exact ⟨_, pss_cons (ps_if (pt_truth (pe_callB call_isiT (by rfl) T.n_isinstance (by decide +kernel) (pa_cons (pv 1) (pa_cons (pe_tup (pa_cons (pe_bltn (v := .ty "list") (u := .type "list") (by rfl) T.n_list (by decide +kernel) rfl) (pa_cons (pe_bltn (v := .ty "tuple") (u := .type "tuple") (by rfl) T.n_tuple (by decide +kernel) rfl) pa_nil))) pa_nil))) (by intro _; rfl)) (pss_cons (ps_if (pt_cmpR (op_neD hr.units) (pe_callB call_isi (by rfl) T.n_isinstance (by decide +kernel) (pa_cons (pv 0) (pa_cons (pe_bltn (v := .ty "list") (u := .type "list") (by rfl) T.n_list (by decide +kernel) rfl) pa_nil))) (pe_callB call_isi (by rfl) T.n_isinstance (by decide +kernel) (pa_cons (pv 1) (pa_cons (pe_bltn (v := .ty "list") (u := .type "list") (by rfl) T.n_list (by decide +kernel) rfl) pa_nil))) (nomark _)) (pss_one (ps_ret (pe_bl))) (pss_nil)) (pss_cons (ps_if (pt_cmpR (op_neD hr.units) (pe_callB call_isi (by rfl) T.n_isinstance (by decide +kernel) (pa_cons (pv 0) (pa_cons (pe_bltn (v := .ty "tuple") (u := .type "tuple") (by rfl) T.n_tuple (by decide +kernel) rfl) pa_nil))) (pe_callB call_isi (by rfl) T.n_isinstance (by decide +kernel) (pa_cons (pv 1) (pa_cons (pe_bltn (v := .ty "tuple") (u := .type "tuple") (by rfl) T.n_tuple (by decide +kernel) rfl) pa_nil))) (nomark _)) (pss_one (ps_ret (pe_bl))) (pss_nil)) (pss_one (ps_ret (pe_andT (pe_cmpR (op_eqD hr.units) (pe_callB call_len (by rfl) T.n_len (by decide +kernel) (pa_cons (pv 0) (pa_nil))) (pe_callB call_len (by rfl) T.n_len (by decide +kernel) (pa_cons (pv 1) (pa_nil))) (nomark _)) (pe_one (pe_callB (cr_all rfl) (by rfl) T.n_all (by decide +kernel) (pa_cons (pe_lc (own := [("_law_mine", 2), ("_law_its", 3)]) rfl nd (RZ.pi_zipA (by rfl) T.n_zip (pa_cons (pv 0) (pa_cons (pv 1) (pa_nil)))) (blkOk_by (N := N_l_same) (sc := (defScope s_l_same)) (by decide +kernel)) (fun _ _ _ _ _ => pg_tupU (by rfl) (pgs_cons (pg_name (i := 2) nd rfl (by first | exact Or.inl rfl | exact Or.inr rfl)) (pgs_cons (pg_name (i := 3) nd rfl (by first | exact Or.inl rfl | exact Or.inr rfl)) (pgs_nil)))) (fun _ _ _ _ _ => pts_nil) (fun _ _ _ _ _ => pe_call IH hr (by rfl) T.m_l_same T.F_l_same.kp T.B_l_same .nil pass0 (pa_cons (pv 2) (pa_cons (pv 3) (pa_nil))))) (pa_nil))))))))) (pss_nil)) (pss_cons (ps_if (PW.pt (pw_or (pt_cmpR op_isN (pv 1) (pe_non) (nomark _)) (pw_or1 (pt_truth (pe_callB call_isiT (by rfl) T.n_isinstance (by decide +kernel) (pa_cons (pv 1) (pa_cons (pe_tup (pa_cons (pe_bltn (v := .ty "bool") (u := .type "bool") (by rfl) T.n_bool (by decide +kernel) rfl) (pa_cons (pe_bltn (v := .ty "str") (u := .type "str") (by rfl) T.n_str (by decide +kernel) rfl) pa_nil))) pa_nil))) (by intro _; rfl))))) (pss_one (ps_ret (pe_andT (pe_cmpR (op_eqD hr.units) (pv 0) (pv 1) (nomark _)) (pe_andT (pe_cmpR (op_eqD hr.units) (pe_callB call_isi (by rfl) T.n_isinstance (by decide +kernel) (pa_cons (pv 0) (pa_cons (pe_bltn (v := .ty "bool") (u := .type "bool") (by rfl) T.n_bool (by decide +kernel) rfl) pa_nil))) (pe_callB call_isi (by rfl) T.n_isinstance (by decide +kernel) (pa_cons (pv 1) (pa_cons (pe_bltn (v := .ty "bool") (u := .type "bool") (by rfl) T.n_bool (by decide +kernel) rfl) pa_nil))) (nomark _)) (pe_one (pe_cmpR (op_eqD hr.units) (pe_cmpR op_isN (pv 0) (pe_non) (nomark _)) (pe_cmpR op_isN (pv 1) (pe_non) (nomark _)) (nomark _))))))) (pss_nil)) (pss_one (ps_ret (pe_andT (pe_callB call_isi (by rfl) T.n_isinstance (by decide +kernel) (pa_cons (pv 0) (pa_cons (pe_bltn (v := .ty "int") (u := .type "int") (by rfl) T.n_int (by decide +kernel) rfl) pa_nil))) (pe_andT (pe_notT (pe_callB call_isi (by rfl) T.n_isinstance (by decide +kernel) (pa_cons (pv 0) (pa_cons (pe_bltn (v := .ty "bool") (u := .type "bool") (by rfl) T.n_bool (by decide +kernel) rfl) pa_nil)))) (pe_one (pe_cmpR (op_eqD hr.units) (pv 0) (pv 1) (nomark _)))))))),
      (sx_seq (sx_if (et_tru (J.v (ex_is2 (J.v (ex_var))))) (sx_seq (sx_if (et_test (ex_op op_neD' (ex_is1 (J.v (ex_var))) (ex_is1 (J.v (ex_var))))) (sx_ret (ex_bl)) (sx_next)) (sx_seq (sx_if (et_test (ex_op op_neD' (ex_is1 (J.v (ex_var))) (ex_is1 (J.v (ex_var))))) (sx_ret (ex_bl)) (sx_next)) (sx_ret (ex_andT (ex_op op_eqD' (ex_cb len_D (ea_cons (ex_var) (ea_nil))) (ex_cb len_D (ea_cons (ex_var) (ea_nil)))) (ex_cb all_D (ea_cons ((ef_lc (jw_zip (ea_cons (ex_var) (ea_cons (ex_var) (ea_nil)))) (gx_tup (gxs_cons (gx_name) (gxs_cons (gx_name) (gxs_nil)))) (by decide) (et_yes) (ex_call0 (ea_cons (ex_var) (ea_cons (ex_var) (ea_nil))))).x) (ea_nil))))))) (sx_next)) (sx_seq (sx_if (et_or (et_test (ex_op op_isND (ex_var) (ex_non))) (et_tru (J.v (ex_is2 (J.v (ex_var)))))) (sx_ret (ex_andT (ex_op op_eqD' (ex_var) (ex_var)) (ex_andT (ex_op op_eqD' (ex_is1 (J.v (ex_var))) (ex_is1 (J.v (ex_var)))) (ex_op op_eqD' (ex_op op_isND (ex_var) (ex_non)) (ex_op op_isND (ex_var) (ex_non)))))) (sx_next)) (sx_ret (ex_andT (ex_is1 (J.v (ex_var))) (ex_andT (ex_notT (J.v (ex_is1 (J.v (ex_var))))) (ex_op op_eqD' (ex_var) (ex_var))))))) γ O H _ _ _ r g⟩
theorem G_l_same (T : Tx K mg w) : FnOk P w K mg base CX0 9 T.a_l_same T.fd_l_same ["_law_got", "_law_due"] (spM0 K N_l_same 2 (b_l_same 8)) := (G_l_same' T 8)
theorem sc_l_steps : FnScope N_l_steps ["_law_box_here", "_law_most_so"] (defScope s_l_steps) := ⟨rfl, rfl, rfl, by decide +kernel, rfl, by decide +kernel, by decide +kernel⟩
def b_l_steps : M Out :=
  sSeq (sAsg (mLst (mCons (mLst (mCons (M.ret (.str (PySem.Str.ofString "a"))) (mCons (M.ret (.str (PySem.Str.ofString "ab"))) (mCons (M.ret (.str (PySem.Str.ofString "b"))) (mCons (M.ret (.str (PySem.Str.ofString "c"))) (mCons (M.ret (.str (PySem.Str.ofString "x"))) (mCons (M.ret (.str (PySem.Str.ofString "y"))) (mNil)))))))) (mCons (mLst (mCons (M.ret (.str (PySem.Str.ofString "begin"))) (mCons (M.ret (.str (PySem.Str.ofString "end"))) (mCons (M.ret (.str (PySem.Str.ofString "for"))) (mCons (M.ret (.str (PySem.Str.ofString "of"))) (mCons (M.ret (.str (PySem.Str.ofString "on"))) (mCons (M.ret (.str (PySem.Str.ofString "to"))) (mNil)))))))) (mNil)))) (gSet 2)) (
  sSeq (sAsg (mBin dAdd (mVar 2) (mLst (mCons (mLst (mCons (M.ret (.str (PySem.Str.ofString "abcdefgh"))) (mCons (M.ret (.str (PySem.Str.ofString "abcdefgi"))) (mCons (M.ret (.str (PySem.Str.ofString "p"))) (mCons (M.ret (.str (PySem.Str.ofString "q"))) (mCons (M.ret (.str (PySem.Str.ofString "z"))) (mCons (M.ret (.str (PySem.Str.ofString "zz"))) (mNil)))))))) (mNil)))) (gSet 2)) (
  sRet (mCB dTupleB (mCons (mF (oCB dSorted (mCons (mCallI b_l_pick 6 3 0 (mCons (mCallI b_l_of 2 2 0 (mCons (mVar 2) (mNil))) (mCons (mCallI b_l_take 6 2 0 (mCons (mBin dAdd (mVar 1) (M.ret (.int 1))) (mNil))) (mNil)))) (mNil)))) (mNil)))))
theorem G_l_steps (T : Tx K mg w) : FnOk P w K mg base CX0 3 T.a_l_steps T.fd_l_steps ["_law_box_here", "_law_most_so"] (spM0 K N_l_steps 2 b_l_steps) := by
  refine T.F_l_steps.ok sc_l_steps (spM_ln0 rfl) (fun cdv A outer s H vs Q E hr h => ?_)
  obtain ⟨γ, O, as, h1, h2, h3, r, g⟩ := h
  have nd := sc_l_steps.nd
  exact ⟨_, pss_cons (ps_set (i := 2) nd rfl (by first | exact Or.inl rfl | exact Or.inr rfl) (pe_lst (pa_cons (pe_lst (pa_cons (pe_str) (pa_cons (pe_str) (pa_cons (pe_str) (pa_cons (pe_str) (pa_cons (pe_str) (pa_cons (pe_str) (pa_nil)))))))) (pa_cons (pe_lst (pa_cons (pe_str) (pa_cons (pe_str) (pa_cons (pe_str) (pa_cons (pe_str) (pa_cons (pe_str) (pa_cons (pe_str) (pa_nil)))))))) (pa_nil))))) (pss_cons (ps_set (i := 2) nd rfl (by first | exact Or.inl rfl | exact Or.inr rfl) (pe_op opAddA (pv 2) (pe_lst (pa_cons (pe_lst (pa_cons (pe_str) (pa_cons (pe_str) (pa_cons (pe_str) (pa_cons (pe_str) (pa_cons (pe_str) (pa_cons (pe_str) (pa_nil)))))))) (pa_nil))))) (pss_one (ps_ret (pe_callTy (Mir.CallR.or call_tuple_of (callTupS rfl)) (by rfl) T.n_tuple (by decide +kernel) (pa_cons (pe_callB (cr_sortD hr.units) (by rfl) T.n_sorted (by decide +kernel) (pa_cons (pe_call (G_l_pick T) (hr.mono (by decide)) (by rfl) T.m_l_pick T.F_l_pick.kp T.B_l_pick .nil pass0 (pa_cons (pv 0) (pa_cons (pe_call (G_l_of T) (hr.mono (by decide)) (by rfl) T.m_l_of T.F_l_of.kp T.B_l_of .nil pass0 (pa_cons (pv 0) (pa_cons (pv 2) (pa_nil)))) (pa_cons (pe_call (G_l_take T) (hr.mono (by decide)) (by rfl) T.m_l_take T.F_l_take.kp T.B_l_take .nil pass0 (pa_cons (pv 0) (pa_cons (pe_op opAddA (pv 1) (pe_int)) (pa_nil)))) (pa_nil))))) (pa_nil))) (pa_nil)))))),
    (sx_seq (sx_asg (ex_lst (ea_cons (ex_lst (ea_cons (ex_str) (ea_cons (ex_str) (ea_cons (ex_str) (ea_cons (ex_str) (ea_cons (ex_str) (ea_cons (ex_str) (ea_nil)))))))) (ea_cons (ex_lst (ea_cons (ex_str) (ea_cons (ex_str) (ea_cons (ex_str) (ea_cons (ex_str) (ea_cons (ex_str) (ea_cons (ex_str) (ea_nil)))))))) (ea_nil)))) gx_name) (sx_seq (sx_asg (ex_op op_addD (ex_var) (ex_lst (ea_cons (ex_lst (ea_cons (ex_str) (ea_cons (ex_str) (ea_cons (ex_str) (ea_cons (ex_str) (ea_cons (ex_str) (ea_cons (ex_str) (ea_nil)))))))) (ea_nil)))) gx_name) (sx_ret (ex_cb tuple_B (ea_cons ((ef_cb sorted_F (ea_cons (ex_callI0 (ea_cons (ex_callI0 (ea_cons (ex_var) (ea_nil))) (ea_cons (ex_callI0 (ea_cons (ex_op op_addD (ex_var) (ex_int)) (ea_nil))) (ea_nil)))) (ea_nil))).x) (ea_nil)))))) γ O H _ _ _ r g⟩
theorem sc_l_webs : FnScope N_l_webs ["_law_box_here", "_law_tags"] (defScope s_l_webs) := ⟨rfl, rfl, rfl, by decide +kernel, rfl, by decide +kernel, by decide +kernel⟩
def b_l_webs : M Out :=
  sSeq (sPar3 3 4 5 (iDat (mCallI b_l_pick 6 3 0 (mCons (mF (oCB dList (mCons (mVar 1) (mNil)))) (mCons (mCB dLen (mCons (mVar 1) (mNil))) (mNil)))) (iDat (mLst (mNil)) (iDat (mLst (mNil)) (iNil))))) (
  sSeq (sFor (wRng1 (mCons (mCB dLen (mCons (mVar 3) (mNil))) (mNil))) (gSet 2) (sFor (wRng1 (mCons (mVar 2) (mNil))) (gSet 6) (sSeq (sAsg (mCallI b_l_take 6 2 0 (mCons (M.ret (.int 4)) (mNil))) (gSet 7)) (
  sSeq (sAsg (mBin dAdd (mVar 4) (mBin dMul (mLst (mCons (mTup (mCons (mBin dIx (mVar 3) (mVar 6)) (mCons (mBin dIx (mVar 3) (mVar 2)) (mNil)))) (mNil))) (mCB dInt (mCons (mBin dEq (mVar 7) (M.ret (.int 0))) (mNil))))) (gSet 4)) (
  sAsg (mBin dAdd (mVar 5) (mBin dMul (mLst (mCons (mTup (mCons (mBin dIx (mVar 3) (mVar 6)) (mCons (mBin dIx (mVar 3) (mVar 2)) (mNil)))) (mNil))) (mCB dInt (mCons (mBin dEq (mVar 7) (M.ret (.int 1))) (mNil))))) (gSet 5)))))) (
  sRet (mTup (mCons (mCB dTupleB (mCons (mF (oCB dSorted (mCons (mVar 4) (mNil)))) (mNil))) (mCons (mCB dTupleB (mCons (mF (oCB dSorted (mCons (mVar 5) (mNil)))) (mNil))) (mNil))))))
theorem G_l_webs (T : Tx K mg w) : FnOk P w K mg base CX0 3 T.a_l_webs T.fd_l_webs ["_law_box_here", "_law_tags"] (spM0 K N_l_webs 2 b_l_webs) := by
  refine T.F_l_webs.ok sc_l_webs (spM_ln0 rfl) (fun cdv A outer s H vs Q E hr h => ?_)
  obtain ⟨γ, O, as, h1, h2, h3, r, g⟩ := h
  have nd := sc_l_webs.nd
  exact ⟨_, pss_cons (ps_par3 (by rfl) nd rfl rfl rfl (by decide) (by decide) (by decide) rfl rfl rfl (pa_cons (pe_call (G_l_pick T) (hr.mono (by decide)) (by rfl) T.m_l_pick T.F_l_pick.kp T.B_l_pick .nil pass0 (pa_cons (pv 0) (pa_cons (pe_callTy call_list_of (by rfl) T.n_list (by decide +kernel) (pa_cons (pv 1) (pa_nil))) (pa_cons (pe_callB call_len (by rfl) T.n_len (by decide +kernel) (pa_cons (pv 1) (pa_nil))) (pa_nil))))) (pa_cons (pe_lst (pa_nil)) (pa_cons (pe_lst (pa_nil)) (pa_nil)))) (by rfl)) (pss_cons (ps_for PassesOwn.never rfl (pi_range1 (by rfl) T.n_range (pa_cons (pe_callB call_len (by rfl) T.n_len (by decide +kernel) (pa_cons (pv 3) (pa_nil))) (pa_nil))) (pg_name (i := 2) nd rfl (by first | exact Or.inl rfl | exact Or.inr rfl)) (pss_one (ps_for PassesOwn.never rfl (pi_range1 (by rfl) T.n_range (pa_cons (pv 2) (pa_nil))) (pg_name (i := 6) nd rfl (by first | exact Or.inl rfl | exact Or.inr rfl)) (pss_cons (ps_set (i := 7) nd rfl (by first | exact Or.inl rfl | exact Or.inr rfl) (pe_call (G_l_take T) (hr.mono (by decide)) (by rfl) T.m_l_take T.F_l_take.kp T.B_l_take .nil pass0 (pa_cons (pv 0) (pa_cons (pe_int) (pa_nil))))) (pss_cons (ps_set (i := 4) nd rfl (by first | exact Or.inl rfl | exact Or.inr rfl) (pe_op opAddA (pv 4) (pe_op opMulA (pe_lst (pa_cons (pe_tup (pa_cons (pe_ix ix_seq (pv 3) (pv 6) (fun _ _ => rfl)) (pa_cons (pe_ix ix_seq (pv 3) (pv 2) (fun _ _ => rfl)) (pa_nil)))) (pa_nil))) (pe_callTy callIntA (by rfl) T.n_int (by decide +kernel) (pa_cons (pe_cmpR (op_eqD hr.units) (pv 7) (pe_int) (nomark _)) (pa_nil)))))) (pss_one (ps_set (i := 5) nd rfl (by first | exact Or.inl rfl | exact Or.inr rfl) (pe_op opAddA (pv 5) (pe_op opMulA (pe_lst (pa_cons (pe_tup (pa_cons (pe_ix ix_seq (pv 3) (pv 6) (fun _ _ => rfl)) (pa_cons (pe_ix ix_seq (pv 3) (pv 2) (fun _ _ => rfl)) (pa_nil)))) (pa_nil))) (pe_callTy callIntA (by rfl) T.n_int (by decide +kernel) (pa_cons (pe_cmpR (op_eqD hr.units) (pv 7) (pe_int) (nomark _)) (pa_nil)))))))))))) (pss_one (ps_ret (pe_tup (pa_cons (pe_callTy (Mir.CallR.or call_tuple_of (callTupS rfl)) (by rfl) T.n_tuple (by decide +kernel) (pa_cons (pe_callB (cr_sortD hr.units) (by rfl) T.n_sorted (by decide +kernel) (pa_cons (pv 4) (pa_nil))) (pa_nil))) (pa_cons (pe_callTy (Mir.CallR.or call_tuple_of (callTupS rfl)) (by rfl) T.n_tuple (by decide +kernel) (pa_cons (pe_callB (cr_sortD hr.units) (by rfl) T.n_sorted (by decide +kernel) (pa_cons (pv 5) (pa_nil))) (pa_nil))) (pa_nil))))))),
    (sx_seq (sx_par3 (il_dat (ex_callI0 (ea_cons ((ef_cb list_F (ea_cons (ex_var) (ea_nil))).x) (ea_cons (ex_cb len_D (ea_cons (ex_var) (ea_nil))) (ea_nil)))) (il_dat (ex_lst (ea_nil)) (il_dat (ex_lst (ea_nil)) (il_nil))))) (sx_seq (sx_for (jw_rng1 (ea_cons (ex_cb len_D (ea_cons (ex_var) (ea_nil))) (ea_nil))) (gx_name) (sx_for (jw_rng1 (ea_cons (ex_var) (ea_nil))) (gx_name) (sx_seq (sx_asg (ex_callI0 (ea_cons (ex_int) (ea_nil))) gx_name) (sx_seq (sx_asg (ex_op op_addD (ex_var) (ex_op op_mulD (ex_lst (ea_cons (ex_tup (ea_cons (ex_op op_ixD (ex_var) (ex_var)) (ea_cons (ex_op op_ixD (ex_var) (ex_var)) (ea_nil)))) (ea_nil))) (ex_cb int_D (ea_cons (ex_op op_eqD' (ex_var) (ex_int)) (ea_nil))))) gx_name) (sx_asg (ex_op op_addD (ex_var) (ex_op op_mulD (ex_lst (ea_cons (ex_tup (ea_cons (ex_op op_ixD (ex_var) (ex_var)) (ea_cons (ex_op op_ixD (ex_var) (ex_var)) (ea_nil)))) (ea_nil))) (ex_cb int_D (ea_cons (ex_op op_eqD' (ex_var) (ex_int)) (ea_nil))))) gx_name))))) (sx_ret (ex_tup (ea_cons (ex_cb tuple_B (ea_cons ((ef_cb sorted_F (ea_cons (ex_var) (ea_nil))).x) (ea_nil))) (ea_cons (ex_cb tuple_B (ea_cons ((ef_cb sorted_F (ea_cons (ex_var) (ea_nil))).x) (ea_nil))) (ea_nil))))))) γ O H _ _ _ r g⟩
theorem sc_l_heard : FnScope N_l_heard ["_law_flat", "_law_sort_so"] (defScope s_l_heard) := ⟨rfl, rfl, rfl, by decide +kernel, rfl, by decide +kernel, by decide +kernel⟩
def b_l_heard (ad : Ad) : M Out :=
  sSeq (sAsg (mTup (mCons (M.ret .non) (mCons (M.ret .non) (mNil)))) (gTupD 2 (gsCons (gSet 2) (gsCons (gSet 3) (gsNil))))) (
  sSeq (sTry [ad.c_BadText] 4 2 (sAsg (mCallAt [(ad.steps_from, (b_steps_from ad), N_steps_from), (ad.pairs_from, (b_pairs_from ad), N_pairs_from), (ad.sizes_from, (b_sizes_from ad), N_sizes_from), (ad.run_from, (b_run_from ad), N_run_from)] (mVar 1) (mCons (mVar 0) (mNil))) (gSet 3))) (
  sRet (mIf (mB (mBin dIsN (mVar 2) (M.ret .non))) (mVar 3) (mLst (mCons (mFld [ad.c_BadText] "piece" (mVar 2)) (mNil))))))
theorem G_l_heard (T : Tx K mg w) : FnOk P w K mg base CX0 5 T.a_l_heard T.fd_l_heard ["_law_flat", "_law_sort_so"] (spM0 K N_l_heard 2 (b_l_heard T.ad)) := by
  refine T.F_l_heard.ok sc_l_heard (spM_ln0 rfl) (fun cdv A outer s H vs Q E hr h => ?_)
  obtain ⟨γ, O, as, h1, h2, h3, r, g⟩ := h
  have nd := sc_l_heard.nd
  exact ⟨_, pss_cons (ps_asg (pe_tup (pa_cons (pe_non) (pa_cons (pe_non) (pa_nil)))) (pg_tupU (by rfl) (pgs_cons (pg_name (i := 2) nd rfl (by first | exact Or.inl rfl | exact Or.inr rfl)) (pgs_cons (pg_name (i := 3) nd rfl (by first | exact Or.inl rfl | exact Or.inr rfl)) (pgs_nil))))) (pss_cons (ps_try_keep (i := 4) (j := 2) (c := .ref T.c_BadText) (tb := fun W => tAsg (tCallV (sOf K ([(T.ad.steps_from, (b_steps_from T.ad), N_steps_from), (T.ad.pairs_from, (b_pairs_from T.ad), N_pairs_from), (T.ad.sizes_from, (b_sizes_from T.ad), N_sizes_from), (T.ad.run_from, (b_run_from T.ad), N_run_from)])) (WE W) (tOp (rIx K) (tLst (tCons (tC (.ref T.a_steps_from)) (tCons (tC (.ref T.a_pairs_from)) (tCons (tC (.ref T.a_sizes_from)) (tCons (tC (.ref T.a_run_from)) (tNil)))))) (tVar 1)) (tCons (tVar 0) tNil)) (gName 3)) rfl rfl rfl nd rfl rfl rfl rfl (by decide) (by decide) (by rfl) ⟨rfl, by decide, Or.inl T.X_BadText.gC⟩ (fun W pn xe tk _ => pss_one (ps_set (i := 3) nd rfl (by first | exact Or.inl rfl | exact Or.inr rfl) (pe_callV (pe_ix ix_seq (pe_lst (pa_cons (pe_glob (v := .ref T.a_steps_from) (by rfl) T.m_steps_from rfl) (pa_cons (pe_glob (v := .ref T.a_pairs_from) (by rfl) T.m_pairs_from rfl) (pa_cons (pe_glob (v := .ref T.a_sizes_from) (by rfl) T.m_sizes_from rfl) (pa_cons (pe_glob (v := .ref T.a_run_from) (by rfl) T.m_run_from rfl) (pa_nil)))))) (pv 1) (fun _ _ => rfl)) (held_cons ((G_steps_from T)) T.F_steps_from.kp T.B_steps_from (held_cons ((G_pairs_from T)) T.F_pairs_from.kp T.B_pairs_from (held_cons ((G_sizes_from T)) T.F_sizes_from.kp T.B_sizes_from (held_cons ((G_run_from T)) T.F_run_from.kp T.B_run_from (held_nil))))) (hr.mono (by decide)) (fun σ => passAt tk σ) (pa_cons (pv 0) (pa_nil)))))) (pss_one (ps_ret (pe_ifExp (pt_cmpR op_isN (pv 2) (pe_non) (nomark _)) (pv 3) (pe_lst (pa_cons (pe_fldE (pv 2) (by rfl)) (pa_nil))))))),
    (sx_seq (sx_asg (ex_tup (ea_cons (ex_non) (ea_cons (ex_non) (ea_nil)))) (gx_tup (gxs_cons (gx_name) (gxs_cons (gx_name) (gxs_nil))))) (sx_seq (sx_try (c := .ref T.c_BadText) (i := 4) (j := 2) (tb := fun W => tAsg (tCallV (sOf K ([(T.ad.steps_from, (b_steps_from T.ad), N_steps_from), (T.ad.pairs_from, (b_pairs_from T.ad), N_pairs_from), (T.ad.sizes_from, (b_sizes_from T.ad), N_sizes_from), (T.ad.run_from, (b_run_from T.ad), N_run_from)])) (WE W) (tOp (rIx K) (tLst (tCons (tC (.ref T.a_steps_from)) (tCons (tC (.ref T.a_pairs_from)) (tCons (tC (.ref T.a_sizes_from)) (tCons (tC (.ref T.a_run_from)) (tNil)))))) (tVar 1)) (tCons (tVar 0) tNil)) (gName 3)) (cs := [T.c_BadText]) (fun C hC => by cases List.mem_singleton.mp hC; exact T.X_BadText.te) (fun W => sx_asg (ex_callAt (Nat.le_of_ble_eq_true rfl) (ex_op op_ixD (ex_lst (ea_cons ex_fn (ea_cons ex_fn (ea_cons ex_fn (ea_cons ex_fn (ea_nil)))))) (ex_var)) (fun _ => ea_cons (ex_var) (ea_nil))) gx_name)) (sx_ret (ex_if (et_test (ex_op op_isND (ex_var) (ex_non))) (ex_var) (ex_lst (ea_cons (ex_fldE (fun C hC => by cases List.mem_singleton.mp hC; exact ⟨T.X_BadText.xf, T.X_BadText.noN⟩) (ex_var)) (ea_nil))))))) γ O H _ _ _ r g⟩
theorem sc_l_heard_right : FnScope N_l_heard_right ["_law_wrong", "_law_sort_so"] (defScope s_l_heard_right) := ⟨rfl, rfl, rfl, by decide +kernel, rfl, by decide +kernel, by decide +kernel⟩
def b_l_heard_right (ad : Ad) : M Out :=
  sSeq (sAsg (mF (mLc (wAny (mVar 0)) (gTupD 2 (gsCons (gSet 3) (gsCons (gSet 4) (gsNil)))) (tYesM) (mCall (b_l_heard ad) 5 2 (mCons (mVar 3) (mCons (mVar 1) (mNil)))) [3, 4])) (gSet 2)) (
  sRet (mCall (b_l_same 8) 4 2 (mCons (mVar 2) (mCons (mF (mLc (wAny (mVar 0)) (gTupD 2 (gsCons (gSet 3) (gsCons (gSet 4) (gsNil)))) (tYesM) (mLst (mCons (mVar 4) (mNil))) [3, 4])) (mNil)))))
theorem G_l_heard_right (T : Tx K mg w) : FnOk P w K mg base CX0 10 T.a_l_heard_right T.fd_l_heard_right ["_law_wrong", "_law_sort_so"] (spM0 K N_l_heard_right 2 (b_l_heard_right T.ad)) := by
  refine T.F_l_heard_right.ok sc_l_heard_right (spM_ln0 rfl) (fun cdv A outer s H vs Q E hr h => ?_)
  obtain ⟨γ, O, as, h1, h2, h3, r, g⟩ := h
  have nd := sc_l_heard_right.nd
  exact ⟨_, pss_cons (ps_setLc (i := 2) (own := [("_law_flat", 3), ("_law_at_so", 4)]) rfl nd rfl rfl (by first | exact sw_true rfl rfl rfl (by decide +kernel) | rfl) (pi_any (pv 0)) (blkOk_by (N := N_l_heard_right) (sc := (defScope s_l_heard_right)) (by decide +kernel)) (fun _ _ _ _ _ => pg_tupU (by rfl) (pgs_cons (pg_name (i := 3) nd rfl (by first | exact Or.inl rfl | exact Or.inr rfl)) (pgs_cons (pg_name (i := 4) nd rfl (by first | exact Or.inl rfl | exact Or.inr rfl)) (pgs_nil)))) (fun _ _ _ _ _ => pts_nil) (fun _ _ _ _ _ => pe_call (G_l_heard T) (hr.mono (by decide)) (by rfl) T.m_l_heard T.F_l_heard.kp T.B_l_heard .nil pass0 (pa_cons (pv 3) (pa_cons (pv 1) (pa_nil))))) (pss_one (ps_ret (pe_call (G_l_same T) (hr.mono (by decide)) (by rfl) T.m_l_same T.F_l_same.kp T.B_l_same .nil pass0 (pa_cons (pv 2) (pa_cons (pe_lc (own := [("_law_flat", 3), ("_law_at_so", 4)]) rfl nd (pi_any (pv 0)) (blkOk_by (N := N_l_heard_right) (sc := (defScope s_l_heard_right)) (by decide +kernel)) (fun _ _ _ _ _ => pg_tupU (by rfl) (pgs_cons (pg_name (i := 3) nd rfl (by first | exact Or.inl rfl | exact Or.inr rfl)) (pgs_cons (pg_name (i := 4) nd rfl (by first | exact Or.inl rfl | exact Or.inr rfl)) (pgs_nil)))) (fun _ _ _ _ _ => pts_nil) (fun _ _ _ _ _ => pe_lst (pa_cons (pv 4) (pa_nil)))) (pa_nil)))))),
    (sx_seq (sx_asg ((ef_lc (jw_any (ex_var)) (gx_tup (gxs_cons (gx_name) (gxs_cons (gx_name) (gxs_nil)))) (by decide) (et_yes) (ex_call0 (ea_cons (ex_var) (ea_cons (ex_var) (ea_nil))))).x) gx_name) (sx_ret (ex_call0 (ea_cons (ex_var) (ea_cons ((ef_lc (jw_any (ex_var)) (gx_tup (gxs_cons (gx_name) (gxs_cons (gx_name) (gxs_nil)))) (by decide) (et_yes) (ex_lst (ea_cons (ex_var) (ea_nil)))).x) (ea_nil)))))) γ O H _ _ _ r g⟩
theorem sc_l_by_hand_right : FnScope N_l_by_hand_right [] (defScope s_l_by_hand_right) := ⟨rfl, rfl, rfl, by decide +kernel, rfl, by decide +kernel, by decide +kernel⟩
def b_l_by_hand_right (ad : Ad) : M Out :=
  sSeq (sAsg (mLst (mCons (mTup (mCons (M.ret (.str (PySem.Str.ofString ""))) (mCons (M.ret (.int 0)) (mNil)))) (mCons (mTup (mCons (M.ret (.str (PySem.Str.ofString " "))) (mCons (M.ret (.int 0)) (mNil)))) (mCons (mTup (mCons (M.ret (.str (PySem.Str.ofString "--"))) (mCons (M.ret (.int 0)) (mNil)))) (mCons (mTup (mCons (M.ret (.str (PySem.Str.ofString "- a"))) (mCons (M.ret (.int 0)) (mNil)))) (mCons (mTup (mCons (M.ret (.str (PySem.Str.ofString "a -"))) (mCons (M.ret (.int 1)) (mNil)))) (mNil))))))) (gSet 0)) (
  sSeq (sAsg (mBin dAdd (mVar 0) (mLst (mCons (mTup (mCons (M.ret (.str (PySem.Str.ofString "a  b"))) (mCons (M.ret (.int 1)) (mNil)))) (mCons (mTup (mCons (M.ret (.str (PySem.Str.ofString " a"))) (mCons (M.ret (.int 0)) (mNil)))) (mCons (mTup (mCons (M.ret (.str (PySem.Str.ofString "a "))) (mCons (M.ret (.int 1)) (mNil)))) (mCons (mTup (mCons (M.ret (.str (PySem.Str.ofString "a,b"))) (mCons (M.ret (.int 0)) (mNil)))) (mCons (mTup (mCons (M.ret (.str (PySem.Str.ofString "A"))) (mCons (M.ret (.int 0)) (mNil)))) (mNil)))))))) (gSet 0)) (
  sSeq (sAsg (mBin dAdd (mVar 0) (mLst (mCons (mTup (mCons (M.ret (.str (PySem.Str.ofString "a B"))) (mCons (M.ret (.int 1)) (mNil)))) (mCons (mTup (mCons (M.ret (.str (PySem.Str.ofString "a1"))) (mCons (M.ret (.int 0)) (mNil)))) (mCons (mTup (mCons (M.ret (.str (PySem.Str.ofString "b a"))) (mCons (M.ret (.int 1)) (mNil)))) (mCons (mTup (mCons (M.ret (.str (PySem.Str.ofString "a a"))) (mCons (M.ret (.int 1)) (mNil)))) (mNil))))))) (gSet 0)) (
  sSeq (sAsg (mBin dAdd (mVar 0) (mLst (mCons (mTup (mCons (M.ret (.str (PySem.Str.ofString "a b ab"))) (mCons (M.ret (.int 2)) (mNil)))) (mCons (mTup (mCons (M.ret (.str (PySem.Str.ofString "a b abcdefghi"))) (mCons (M.ret (.int 2)) (mNil)))) (mCons (mTup (mCons (M.ret (.str (PySem.Str.ofString "a; b"))) (mCons (M.ret (.int 0)) (mNil)))) (mCons (mTup (mCons (M.ret (.str (PySem.Str.ofString "+a"))) (mCons (M.ret (.int 0)) (mNil)))) (mNil))))))) (gSet 0)) (
  sSeq (sIf (mNot (mTru (vD (mCall (b_l_heard_right ad) 5 2 (mCons (mBin dAdd (mVar 0) (mLst (mCons (mTup (mCons (M.ret (.str (PySem.Str.ofString "c a b"))) (mCons (M.ret (.int 1)) (mNil)))) (mCons (mTup (mCons (M.ret (.str (PySem.Str.ofString "a c b d"))) (mCons (M.ret (.int 2)) (mNil)))) (mCons (mTup (mCons (M.ret (.str (PySem.Str.ofString "ab a"))) (mCons (M.ret (.int 1)) (mNil)))) (mNil)))))) (mCons (M.ret (.int 0)) (mNil))))))) (sRet (M.ret (.bl false))) (sNx)) (
  sSeq (sAsg (mLst (mCons (mTup (mCons (M.ret (.str (PySem.Str.ofString ""))) (mCons (M.ret (.int 0)) (mNil)))) (mCons (mTup (mCons (M.ret (.str (PySem.Str.ofString " "))) (mCons (M.ret (.int 0)) (mNil)))) (mCons (mTup (mCons (M.ret (.str (PySem.Str.ofString "a"))) (mCons (M.ret (.int 0)) (mNil)))) (mCons (mTup (mCons (M.ret (.str (PySem.Str.ofString "a a"))) (mCons (M.ret (.int 0)) (mNil)))) (mCons (mTup (mCons (M.ret (.str (PySem.Str.ofString "a b c"))) (mCons (M.ret (.int 0)) (mNil)))) (mNil))))))) (gSet 0)) (
  sSeq (sAsg (mBin dAdd (mVar 0) (mLst (mCons (mTup (mCons (M.ret (.str (PySem.Str.ofString "a  b"))) (mCons (M.ret (.int 0)) (mNil)))) (mCons (mTup (mCons (M.ret (.str (PySem.Str.ofString " a b"))) (mCons (M.ret (.int 0)) (mNil)))) (mCons (mTup (mCons (M.ret (.str (PySem.Str.ofString "a b "))) (mCons (M.ret (.int 0)) (mNil)))) (mCons (mTup (mCons (M.ret (.str (PySem.Str.ofString "A b"))) (mCons (M.ret (.int 0)) (mNil)))) (mNil))))))) (gSet 0)) (
  sSeq (sAsg (mBin dAdd (mVar 0) (mLst (mCons (mTup (mCons (M.ret (.str (PySem.Str.ofString "a 1"))) (mCons (M.ret (.int 0)) (mNil)))) (mCons (mTup (mCons (M.ret (.str (PySem.Str.ofString "a b; a b"))) (mCons (M.ret (.int 1)) (mNil)))) (mCons (mTup (mCons (M.ret (.str (PySem.Str.ofString "b c; a b"))) (mCons (M.ret (.int 1)) (mNil)))) (mNil)))))) (gSet 0)) (
  sSeq (sAsg (mBin dAdd (mVar 0) (mLst (mCons (mTup (mCons (M.ret (.str (PySem.Str.ofString "a b; b c; b a"))) (mCons (M.ret (.int 2)) (mNil)))) (mCons (mTup (mCons (M.ret (.str (PySem.Str.ofString "a b;b c"))) (mCons (M.ret (.int 0)) (mNil)))) (mCons (mTup (mCons (M.ret (.str (PySem.Str.ofString "a b; "))) (mCons (M.ret (.int 1)) (mNil)))) (mNil)))))) (gSet 0)) (
  sSeq (sAsg (mBin dAdd (mVar 0) (mLst (mCons (mTup (mCons (M.ret (.str (PySem.Str.ofString "a b; -"))) (mCons (M.ret (.int 1)) (mNil)))) (mCons (mTup (mCons (M.ret (.str (PySem.Str.ofString "-; a b"))) (mCons (M.ret (.int 0)) (mNil)))) (mCons (mTup (mCons (M.ret (.str (PySem.Str.ofString "--"))) (mCons (M.ret (.int 0)) (mNil)))) (mNil)))))) (gSet 0)) (
  sSeq (sAsg (mBin dAdd (mVar 0) (mLst (mCons (mTup (mCons (M.ret (.str (PySem.Str.ofString "a > b"))) (mCons (M.ret (.int 0)) (mNil)))) (mCons (mTup (mCons (M.ret (.str (PySem.Str.ofString "a b, b c"))) (mCons (M.ret (.int 0)) (mNil)))) (mCons (mTup (mCons (M.ret (.str (PySem.Str.ofString "abcdefghi a"))) (mCons (M.ret (.int 0)) (mNil)))) (mNil)))))) (gSet 0)) (
  sSeq (sIf (mNot (mTru (vD (mCall (b_l_heard_right ad) 5 2 (mCons (mBin dAdd (mVar 0) (mLst (mCons (mTup (mCons (M.ret (.str (PySem.Str.ofString "a b; b c; b"))) (mCons (M.ret (.int 2)) (mNil)))) (mCons (mTup (mCons (M.ret (.str (PySem.Str.ofString "a c; a b; b c"))) (mCons (M.ret (.int 1)) (mNil)))) (mCons (mTup (mCons (M.ret (.str (PySem.Str.ofString "a b;; b c"))) (mCons (M.ret (.int 0)) (mNil)))) (mNil)))))) (mCons (M.ret (.int 1)) (mNil))))))) (sRet (M.ret (.bl false))) (sNx)) (
  sSeq (sAsg (mLst (mCons (mTup (mCons (M.ret (.str (PySem.Str.ofString ""))) (mCons (M.ret (.int 0)) (mNil)))) (mCons (mTup (mCons (M.ret (.str (PySem.Str.ofString " "))) (mCons (M.ret (.int 0)) (mNil)))) (mCons (mTup (mCons (M.ret (.str (PySem.Str.ofString "--"))) (mCons (M.ret (.int 0)) (mNil)))) (mCons (mTup (mCons (M.ret (.str (PySem.Str.ofString "- 0"))) (mCons (M.ret (.int 0)) (mNil)))) (mCons (mTup (mCons (M.ret (.str (PySem.Str.ofString "0 -"))) (mCons (M.ret (.int 1)) (mNil)))) (mNil))))))) (gSet 0)) (
  sSeq (sAsg (mBin dAdd (mVar 0) (mLst (mCons (mTup (mCons (M.ret (.str (PySem.Str.ofString "0  1"))) (mCons (M.ret (.int 1)) (mNil)))) (mCons (mTup (mCons (M.ret (.str (PySem.Str.ofString " 0"))) (mCons (M.ret (.int 0)) (mNil)))) (mCons (mTup (mCons (M.ret (.str (PySem.Str.ofString "0 "))) (mCons (M.ret (.int 1)) (mNil)))) (mCons (mTup (mCons (M.ret (.str (PySem.Str.ofString "0,1"))) (mCons (M.ret (.int 0)) (mNil)))) (mCons (mTup (mCons (M.ret (.str (PySem.Str.ofString "a"))) (mCons (M.ret (.int 0)) (mNil)))) (mNil)))))))) (gSet 0)) (
  sSeq (sAsg (mBin dAdd (mVar 0) (mLst (mCons (mTup (mCons (M.ret (.str (PySem.Str.ofString "00"))) (mCons (M.ret (.int 0)) (mNil)))) (mCons (mTup (mCons (M.ret (.str (PySem.Str.ofString "01"))) (mCons (M.ret (.int 0)) (mNil)))) (mCons (mTup (mCons (M.ret (.str (PySem.Str.ofString "-1"))) (mCons (M.ret (.int 0)) (mNil)))) (mCons (mTup (mCons (M.ret (.str (PySem.Str.ofString "+1"))) (mCons (M.ret (.int 0)) (mNil)))) (mNil))))))) (gSet 0)) (
  sSeq (sAsg (mBin dAdd (mVar 0) (mLst (mCons (mTup (mCons (M.ret (.str (PySem.Str.ofString "1.0"))) (mCons (M.ret (.int 0)) (mNil)))) (mCons (mTup (mCons (M.ret (.str (PySem.Str.ofString "0 1 02"))) (mCons (M.ret (.int 2)) (mNil)))) (mCons (mTup (mCons (M.ret (.str (PySem.Str.ofString "0; 1"))) (mCons (M.ret (.int 0)) (mNil)))) (mCons (mTup (mCons (M.ret (.str (PySem.Str.ofString "1 a 2 b"))) (mCons (M.ret (.int 1)) (mNil)))) (mNil))))))) (gSet 0)) (
  sSeq (sIf (mNot (mTru (vD (mCall (b_l_heard_right ad) 5 2 (mCons (mVar 0) (mCons (M.ret (.int 2)) (mNil))))))) (sRet (M.ret (.bl false))) (sNx)) (
  sSeq (sAsg (mLst (mCons (mTup (mCons (M.ret (.str (PySem.Str.ofString ""))) (mCons (M.ret (.int 0)) (mNil)))) (mCons (mTup (mCons (M.ret (.str (PySem.Str.ofString " "))) (mCons (M.ret (.int 0)) (mNil)))) (mCons (mTup (mCons (M.ret (.str (PySem.Str.ofString "--"))) (mCons (M.ret (.int 0)) (mNil)))) (mCons (mTup (mCons (M.ret (.str (PySem.Str.ofString "+"))) (mCons (M.ret (.int 0)) (mNil)))) (mCons (mTup (mCons (M.ret (.str (PySem.Str.ofString "- +a"))) (mCons (M.ret (.int 0)) (mNil)))) (mNil))))))) (gSet 0)) (
  sSeq (sAsg (mBin dAdd (mVar 0) (mLst (mCons (mTup (mCons (M.ret (.str (PySem.Str.ofString "+a -"))) (mCons (M.ret (.int 1)) (mNil)))) (mCons (mTup (mCons (M.ret (.str (PySem.Str.ofString "a"))) (mCons (M.ret (.int 0)) (mNil)))) (mCons (mTup (mCons (M.ret (.str (PySem.Str.ofString "+ a"))) (mCons (M.ret (.int 0)) (mNil)))) (mCons (mTup (mCons (M.ret (.str (PySem.Str.ofString "++a"))) (mCons (M.ret (.int 0)) (mNil)))) (mCons (mTup (mCons (M.ret (.str (PySem.Str.ofString "+A"))) (mCons (M.ret (.int 0)) (mNil)))) (mNil)))))))) (gSet 0)) (
  sSeq (sAsg (mBin dAdd (mVar 0) (mLst (mCons (mTup (mCons (M.ret (.str (PySem.Str.ofString "+a  -a"))) (mCons (M.ret (.int 1)) (mNil)))) (mCons (mTup (mCons (M.ret (.str (PySem.Str.ofString " +a"))) (mCons (M.ret (.int 0)) (mNil)))) (mCons (mTup (mCons (M.ret (.str (PySem.Str.ofString "+a "))) (mCons (M.ret (.int 1)) (mNil)))) (mCons (mTup (mCons (M.ret (.str (PySem.Str.ofString "+a,-a"))) (mCons (M.ret (.int 0)) (mNil)))) (mNil))))))) (gSet 0)) (
  sSeq (sAsg (mBin dAdd (mVar 0) (mLst (mCons (mTup (mCons (M.ret (.str (PySem.Str.ofString "+a1"))) (mCons (M.ret (.int 0)) (mNil)))) (mCons (mTup (mCons (M.ret (.str (PySem.Str.ofString "+a b"))) (mCons (M.ret (.int 1)) (mNil)))) (mCons (mTup (mCons (M.ret (.str (PySem.Str.ofString "+abcdefghi"))) (mCons (M.ret (.int 0)) (mNil)))) (mCons (mTup (mCons (M.ret (.str (PySem.Str.ofString "*a"))) (mCons (M.ret (.int 0)) (mNil)))) (mNil))))))) (gSet 0)) (
  sSeq (sIf (mNot (mTru (vD (mCall (b_l_heard_right ad) 5 2 (mCons (mBin dAdd (mVar 0) (mLst (mCons (mTup (mCons (M.ret (.str (PySem.Str.ofString "+a -a +"))) (mCons (M.ret (.int 2)) (mNil)))) (mCons (mTup (mCons (M.ret (.str (PySem.Str.ofString "+a-a"))) (mCons (M.ret (.int 0)) (mNil)))) (mCons (mTup (mCons (M.ret (.str (PySem.Str.ofString "+a; -a"))) (mCons (M.ret (.int 0)) (mNil)))) (mNil)))))) (mCons (M.ret (.int 3)) (mNil))))))) (sRet (M.ret (.bl false))) (sNx)) (
  sSeq (sAsg (mBin dAdd (mF (mLc (wRng1 (mCons (M.ret (.int 4)) (mNil))) (gSet 3) (tYesM) (mCall (b_l_heard ad) 5 2 (mCons (M.ret (.str (PySem.Str.ofString "-"))) (mCons (mVar 3) (mNil)))) [3])) (mLst (mCons (mCall (b_l_heard ad) 5 2 (mCons (M.ret (.str (PySem.Str.ofString "begin end"))) (mCons (M.ret (.int 0)) (mNil)))) (mCons (mCall (b_l_heard ad) 5 2 (mCons (M.ret (.str (PySem.Str.ofString "a b; b a"))) (mCons (M.ret (.int 1)) (mNil)))) (mNil))))) (gSet 1)) (
  sSeq (sAsg (mBin dAdd (mVar 1) (mLst (mCons (mCall (b_l_heard ad) 5 2 (mCons (M.ret (.str (PySem.Str.ofString "0 0 10"))) (mCons (M.ret (.int 2)) (mNil)))) (mCons (mCall (b_l_heard ad) 5 2 (mCons (M.ret (.str (PySem.Str.ofString "-a -a"))) (mCons (M.ret (.int 3)) (mNil)))) (mNil))))) (gSet 1)) (
  sSeq (sAsg (mLst (mCons (mTup (mNil)) (mCons (mTup (mNil)) (mCons (mTup (mNil)) (mCons (mTup (mNil)) (mNil)))))) (gSet 2)) (
  sSeq (sAsg (mBin dAdd (mVar 2) (mLst (mCons (mTup (mCons (M.ret (.str (PySem.Str.ofString "begin"))) (mCons (M.ret (.str (PySem.Str.ofString "end"))) (mNil)))) (mCons (mTup (mCons (mTup (mCons (M.ret (.str (PySem.Str.ofString "a"))) (mCons (M.ret (.str (PySem.Str.ofString "b"))) (mNil)))) (mCons (mTup (mCons (M.ret (.str (PySem.Str.ofString "b"))) (mCons (M.ret (.str (PySem.Str.ofString "a"))) (mNil)))) (mNil)))) (mCons (mTup (mCons (M.ret (.int 0)) (mCons (M.ret (.int 0)) (mCons (M.ret (.int 10)) (mNil))))) (mCons (mTup (mCons (mTup (mCons (M.ret (.str (PySem.Str.ofString "end"))) (mCons (M.ret (.str (PySem.Str.ofString "a"))) (mNil)))) (mCons (mTup (mCons (M.ret (.str (PySem.Str.ofString "end"))) (mCons (M.ret (.str (PySem.Str.ofString "a"))) (mNil)))) (mNil)))) (mNil))))))) (gSet 2)) (
  sRet (mCall (b_l_same 8) 4 2 (mCons (mVar 1) (mCons (mVar 2) (mNil))))))))))))))))))))))))))))))
theorem G_l_by_hand_right (T : Tx K mg w) : FnOk P w K mg base CX0 11 T.a_l_by_hand_right T.fd_l_by_hand_right [] (spM0 K N_l_by_hand_right 0 (b_l_by_hand_right T.ad)) := by
  refine T.F_l_by_hand_right.ok sc_l_by_hand_right (spM_ln0 rfl) (fun cdv A outer s H vs Q E hr h => ?_)
  obtain ⟨γ, O, as, h1, h2, h3, r, g⟩ := h
  have nd := sc_l_by_hand_right.nd
  exact ⟨_, pss_cons (ps_set (i := 0) nd rfl (by first | exact Or.inl rfl | exact Or.inr rfl) (pe_lst (pa_cons (pe_tup (pa_cons (pe_str) (pa_cons (pe_int) (pa_nil)))) (pa_cons (pe_tup (pa_cons (pe_str) (pa_cons (pe_int) (pa_nil)))) (pa_cons (pe_tup (pa_cons (pe_str) (pa_cons (pe_int) (pa_nil)))) (pa_cons (pe_tup (pa_cons (pe_str) (pa_cons (pe_int) (pa_nil)))) (pa_cons (pe_tup (pa_cons (pe_str) (pa_cons (pe_int) (pa_nil)))) (pa_nil)))))))) (pss_cons (ps_set (i := 0) nd rfl (by first | exact Or.inl rfl | exact Or.inr rfl) (pe_op opAddA (pv 0) (pe_lst (pa_cons (pe_tup (pa_cons (pe_str) (pa_cons (pe_int) (pa_nil)))) (pa_cons (pe_tup (pa_cons (pe_str) (pa_cons (pe_int) (pa_nil)))) (pa_cons (pe_tup (pa_cons (pe_str) (pa_cons (pe_int) (pa_nil)))) (pa_cons (pe_tup (pa_cons (pe_str) (pa_cons (pe_int) (pa_nil)))) (pa_cons (pe_tup (pa_cons (pe_str) (pa_cons (pe_int) (pa_nil)))) (pa_nil))))))))) (pss_cons (ps_set (i := 0) nd rfl (by first | exact Or.inl rfl | exact Or.inr rfl) (pe_op opAddA (pv 0) (pe_lst (pa_cons (pe_tup (pa_cons (pe_str) (pa_cons (pe_int) (pa_nil)))) (pa_cons (pe_tup (pa_cons (pe_str) (pa_cons (pe_int) (pa_nil)))) (pa_cons (pe_tup (pa_cons (pe_str) (pa_cons (pe_int) (pa_nil)))) (pa_cons (pe_tup (pa_cons (pe_str) (pa_cons (pe_int) (pa_nil)))) (pa_nil)))))))) (pss_cons (ps_set (i := 0) nd rfl (by first | exact Or.inl rfl | exact Or.inr rfl) (pe_op opAddA (pv 0) (pe_lst (pa_cons (pe_tup (pa_cons (pe_str) (pa_cons (pe_int) (pa_nil)))) (pa_cons (pe_tup (pa_cons (pe_str) (pa_cons (pe_int) (pa_nil)))) (pa_cons (pe_tup (pa_cons (pe_str) (pa_cons (pe_int) (pa_nil)))) (pa_cons (pe_tup (pa_cons (pe_str) (pa_cons (pe_int) (pa_nil)))) (pa_nil)))))))) (pss_cons (ps_if (pt_not (pt_truth (pe_call (G_l_heard_right T) (hr.mono (by decide)) (by rfl) T.m_l_heard_right T.F_l_heard_right.kp T.B_l_heard_right .nil pass0 (pa_cons (pe_op opAddA (pv 0) (pe_lst (pa_cons (pe_tup (pa_cons (pe_str) (pa_cons (pe_int) (pa_nil)))) (pa_cons (pe_tup (pa_cons (pe_str) (pa_cons (pe_int) (pa_nil)))) (pa_cons (pe_tup (pa_cons (pe_str) (pa_cons (pe_int) (pa_nil)))) (pa_nil)))))) (pa_cons (pe_int) (pa_nil)))) (by intro _; rfl))) (pss_one (ps_ret (pe_bl))) (pss_nil)) (pss_cons (ps_set (i := 0) nd rfl (by first | exact Or.inl rfl | exact Or.inr rfl) (pe_lst (pa_cons (pe_tup (pa_cons (pe_str) (pa_cons (pe_int) (pa_nil)))) (pa_cons (pe_tup (pa_cons (pe_str) (pa_cons (pe_int) (pa_nil)))) (pa_cons (pe_tup (pa_cons (pe_str) (pa_cons (pe_int) (pa_nil)))) (pa_cons (pe_tup (pa_cons (pe_str) (pa_cons (pe_int) (pa_nil)))) (pa_cons (pe_tup (pa_cons (pe_str) (pa_cons (pe_int) (pa_nil)))) (pa_nil)))))))) (pss_cons (ps_set (i := 0) nd rfl (by first | exact Or.inl rfl | exact Or.inr rfl) (pe_op opAddA (pv 0) (pe_lst (pa_cons (pe_tup (pa_cons (pe_str) (pa_cons (pe_int) (pa_nil)))) (pa_cons (pe_tup (pa_cons (pe_str) (pa_cons (pe_int) (pa_nil)))) (pa_cons (pe_tup (pa_cons (pe_str) (pa_cons (pe_int) (pa_nil)))) (pa_cons (pe_tup (pa_cons (pe_str) (pa_cons (pe_int) (pa_nil)))) (pa_nil)))))))) (pss_cons (ps_set (i := 0) nd rfl (by first | exact Or.inl rfl | exact Or.inr rfl) (pe_op opAddA (pv 0) (pe_lst (pa_cons (pe_tup (pa_cons (pe_str) (pa_cons (pe_int) (pa_nil)))) (pa_cons (pe_tup (pa_cons (pe_str) (pa_cons (pe_int) (pa_nil)))) (pa_cons (pe_tup (pa_cons (pe_str) (pa_cons (pe_int) (pa_nil)))) (pa_nil))))))) (pss_cons (ps_set (i := 0) nd rfl (by first | exact Or.inl rfl | exact Or.inr rfl) (pe_op opAddA (pv 0) (pe_lst (pa_cons (pe_tup (pa_cons (pe_str) (pa_cons (pe_int) (pa_nil)))) (pa_cons (pe_tup (pa_cons (pe_str) (pa_cons (pe_int) (pa_nil)))) (pa_cons (pe_tup (pa_cons (pe_str) (pa_cons (pe_int) (pa_nil)))) (pa_nil))))))) (pss_cons (ps_set (i := 0) nd rfl (by first | exact Or.inl rfl | exact Or.inr rfl) (pe_op opAddA (pv 0) (pe_lst (pa_cons (pe_tup (pa_cons (pe_str) (pa_cons (pe_int) (pa_nil)))) (pa_cons (pe_tup (pa_cons (pe_str) (pa_cons (pe_int) (pa_nil)))) (pa_cons (pe_tup (pa_cons (pe_str) (pa_cons (pe_int) (pa_nil)))) (pa_nil))))))) (pss_cons (ps_set (i := 0) nd rfl (by first | exact Or.inl rfl | exact Or.inr rfl) (pe_op opAddA (pv 0) (pe_lst (pa_cons (pe_tup (pa_cons (pe_str) (pa_cons (pe_int) (pa_nil)))) (pa_cons (pe_tup (pa_cons (pe_str) (pa_cons (pe_int) (pa_nil)))) (pa_cons (pe_tup (pa_cons (pe_str) (pa_cons (pe_int) (pa_nil)))) (pa_nil))))))) (pss_cons (ps_if (pt_not (pt_truth (pe_call (G_l_heard_right T) (hr.mono (by decide)) (by rfl) T.m_l_heard_right T.F_l_heard_right.kp T.B_l_heard_right .nil pass0 (pa_cons (pe_op opAddA (pv 0) (pe_lst (pa_cons (pe_tup (pa_cons (pe_str) (pa_cons (pe_int) (pa_nil)))) (pa_cons (pe_tup (pa_cons (pe_str) (pa_cons (pe_int) (pa_nil)))) (pa_cons (pe_tup (pa_cons (pe_str) (pa_cons (pe_int) (pa_nil)))) (pa_nil)))))) (pa_cons (pe_int) (pa_nil)))) (by intro _; rfl))) (pss_one (ps_ret (pe_bl))) (pss_nil)) (pss_cons (ps_set (i := 0) nd rfl (by first | exact Or.inl rfl | exact Or.inr rfl) (pe_lst (pa_cons (pe_tup (pa_cons (pe_str) (pa_cons (pe_int) (pa_nil)))) (pa_cons (pe_tup (pa_cons (pe_str) (pa_cons (pe_int) (pa_nil)))) (pa_cons (pe_tup (pa_cons (pe_str) (pa_cons (pe_int) (pa_nil)))) (pa_cons (pe_tup (pa_cons (pe_str) (pa_cons (pe_int) (pa_nil)))) (pa_cons (pe_tup (pa_cons (pe_str) (pa_cons (pe_int) (pa_nil)))) (pa_nil)))))))) (pss_cons (ps_set (i := 0) nd rfl (by first | exact Or.inl rfl | exact Or.inr rfl) (pe_op opAddA (pv 0) (pe_lst (pa_cons (pe_tup (pa_cons (pe_str) (pa_cons (pe_int) (pa_nil)))) (pa_cons (pe_tup (pa_cons (pe_str) (pa_cons (pe_int) (pa_nil)))) (pa_cons (pe_tup (pa_cons (pe_str) (pa_cons (pe_int) (pa_nil)))) (pa_cons (pe_tup (pa_cons (pe_str) (pa_cons (pe_int) (pa_nil)))) (pa_cons (pe_tup (pa_cons (pe_str) (pa_cons (pe_int) (pa_nil)))) (pa_nil))))))))) (pss_cons (ps_set (i := 0) nd rfl (by first | exact Or.inl rfl | exact Or.inr rfl) (pe_op opAddA (pv 0) (pe_lst (pa_cons (pe_tup (pa_cons (pe_str) (pa_cons (pe_int) (pa_nil)))) (pa_cons (pe_tup (pa_cons (pe_str) (pa_cons (pe_int) (pa_nil)))) (pa_cons (pe_tup (pa_cons (pe_str) (pa_cons (pe_int) (pa_nil)))) (pa_cons (pe_tup (pa_cons (pe_str) (pa_cons (pe_int) (pa_nil)))) (pa_nil)))))))) (pss_cons (ps_set (i := 0) nd rfl (by first | exact Or.inl rfl | exact Or.inr rfl) (pe_op opAddA (pv 0) (pe_lst (pa_cons (pe_tup (pa_cons (pe_str) (pa_cons (pe_int) (pa_nil)))) (pa_cons (pe_tup (pa_cons (pe_str) (pa_cons (pe_int) (pa_nil)))) (pa_cons (pe_tup (pa_cons (pe_str) (pa_cons (pe_int) (pa_nil)))) (pa_cons (pe_tup (pa_cons (pe_str) (pa_cons (pe_int) (pa_nil)))) (pa_nil)))))))) (pss_cons (ps_if (pt_not (pt_truth (pe_call (G_l_heard_right T) (hr.mono (by decide)) (by rfl) T.m_l_heard_right T.F_l_heard_right.kp T.B_l_heard_right .nil pass0 (pa_cons (pv 0) (pa_cons (pe_int) (pa_nil)))) (by intro _; rfl))) (pss_one (ps_ret (pe_bl))) (pss_nil)) (pss_cons (ps_set (i := 0) nd rfl (by first | exact Or.inl rfl | exact Or.inr rfl) (pe_lst (pa_cons (pe_tup (pa_cons (pe_str) (pa_cons (pe_int) (pa_nil)))) (pa_cons (pe_tup (pa_cons (pe_str) (pa_cons (pe_int) (pa_nil)))) (pa_cons (pe_tup (pa_cons (pe_str) (pa_cons (pe_int) (pa_nil)))) (pa_cons (pe_tup (pa_cons (pe_str) (pa_cons (pe_int) (pa_nil)))) (pa_cons (pe_tup (pa_cons (pe_str) (pa_cons (pe_int) (pa_nil)))) (pa_nil)))))))) (pss_cons (ps_set (i := 0) nd rfl (by first | exact Or.inl rfl | exact Or.inr rfl) (pe_op opAddA (pv 0) (pe_lst (pa_cons (pe_tup (pa_cons (pe_str) (pa_cons (pe_int) (pa_nil)))) (pa_cons (pe_tup (pa_cons (pe_str) (pa_cons (pe_int) (pa_nil)))) (pa_cons (pe_tup (pa_cons (pe_str) (pa_cons (pe_int) (pa_nil)))) (pa_cons (pe_tup (pa_cons (pe_str) (pa_cons (pe_int) (pa_nil)))) (pa_cons (pe_tup (pa_cons (pe_str) (pa_cons (pe_int) (pa_nil)))) (pa_nil))))))))) (pss_cons (ps_set (i := 0) nd rfl (by first | exact Or.inl rfl | exact Or.inr rfl) (pe_op opAddA (pv 0) (pe_lst (pa_cons (pe_tup (pa_cons (pe_str) (pa_cons (pe_int) (pa_nil)))) (pa_cons (pe_tup (pa_cons (pe_str) (pa_cons (pe_int) (pa_nil)))) (pa_cons (pe_tup (pa_cons (pe_str) (pa_cons (pe_int) (pa_nil)))) (pa_cons (pe_tup (pa_cons (pe_str) (pa_cons (pe_int) (pa_nil)))) (pa_nil)))))))) (pss_cons (ps_set (i := 0) nd rfl (by first | exact Or.inl rfl | exact Or.inr rfl) (pe_op opAddA (pv 0) (pe_lst (pa_cons (pe_tup (pa_cons (pe_str) (pa_cons (pe_int) (pa_nil)))) (pa_cons (pe_tup (pa_cons (pe_str) (pa_cons (pe_int) (pa_nil)))) (pa_cons (pe_tup (pa_cons (pe_str) (pa_cons (pe_int) (pa_nil)))) (pa_cons (pe_tup (pa_cons (pe_str) (pa_cons (pe_int) (pa_nil)))) (pa_nil)))))))) (pss_cons (ps_if (pt_not (pt_truth (pe_call (G_l_heard_right T) (hr.mono (by decide)) (by rfl) T.m_l_heard_right T.F_l_heard_right.kp T.B_l_heard_right .nil pass0 (pa_cons (pe_op opAddA (pv 0) (pe_lst (pa_cons (pe_tup (pa_cons (pe_str) (pa_cons (pe_int) (pa_nil)))) (pa_cons (pe_tup (pa_cons (pe_str) (pa_cons (pe_int) (pa_nil)))) (pa_cons (pe_tup (pa_cons (pe_str) (pa_cons (pe_int) (pa_nil)))) (pa_nil)))))) (pa_cons (pe_int) (pa_nil)))) (by intro _; rfl))) (pss_one (ps_ret (pe_bl))) (pss_nil)) (pss_cons (ps_set (i := 1) nd rfl (by first | exact Or.inl rfl | exact Or.inr rfl) (pe_op opAddA (pe_lc (own := [("_law_k", 3)]) rfl nd (pi_range1 (by rfl) T.n_range (pa_cons (pe_int) (pa_nil))) (blkOk_by (N := N_l_by_hand_right) (sc := (defScope s_l_by_hand_right)) (by decide +kernel)) (fun _ _ _ _ _ => pg_name (i := 3) nd rfl (by first | exact Or.inl rfl | exact Or.inr rfl)) (fun _ _ _ _ _ => pts_nil) (fun _ _ _ _ _ => pe_call (G_l_heard T) (hr.mono (by decide)) (by rfl) T.m_l_heard T.F_l_heard.kp T.B_l_heard .nil pass0 (pa_cons (pe_str) (pa_cons (pv 3) (pa_nil))))) (pe_lst (pa_cons (pe_call (G_l_heard T) (hr.mono (by decide)) (by rfl) T.m_l_heard T.F_l_heard.kp T.B_l_heard .nil pass0 (pa_cons (pe_str) (pa_cons (pe_int) (pa_nil)))) (pa_cons (pe_call (G_l_heard T) (hr.mono (by decide)) (by rfl) T.m_l_heard T.F_l_heard.kp T.B_l_heard .nil pass0 (pa_cons (pe_str) (pa_cons (pe_int) (pa_nil)))) (pa_nil)))))) (pss_cons (ps_set (i := 1) nd rfl (by first | exact Or.inl rfl | exact Or.inr rfl) (pe_op opAddA (pv 1) (pe_lst (pa_cons (pe_call (G_l_heard T) (hr.mono (by decide)) (by rfl) T.m_l_heard T.F_l_heard.kp T.B_l_heard .nil pass0 (pa_cons (pe_str) (pa_cons (pe_int) (pa_nil)))) (pa_cons (pe_call (G_l_heard T) (hr.mono (by decide)) (by rfl) T.m_l_heard T.F_l_heard.kp T.B_l_heard .nil pass0 (pa_cons (pe_str) (pa_cons (pe_int) (pa_nil)))) (pa_nil)))))) (pss_cons (ps_set (i := 2) nd rfl (by first | exact Or.inl rfl | exact Or.inr rfl) (pe_lst (pa_cons (pe_tup (pa_nil)) (pa_cons (pe_tup (pa_nil)) (pa_cons (pe_tup (pa_nil)) (pa_cons (pe_tup (pa_nil)) (pa_nil))))))) (pss_cons (ps_set (i := 2) nd rfl (by first | exact Or.inl rfl | exact Or.inr rfl) (pe_op opAddA (pv 2) (pe_lst (pa_cons (pe_tup (pa_cons (pe_str) (pa_cons (pe_str) (pa_nil)))) (pa_cons (pe_tup (pa_cons (pe_tup (pa_cons (pe_str) (pa_cons (pe_str) (pa_nil)))) (pa_cons (pe_tup (pa_cons (pe_str) (pa_cons (pe_str) (pa_nil)))) (pa_nil)))) (pa_cons (pe_tup (pa_cons (pe_int) (pa_cons (pe_int) (pa_cons (pe_int) (pa_nil))))) (pa_cons (pe_tup (pa_cons (pe_tup (pa_cons (pe_str) (pa_cons (pe_str) (pa_nil)))) (pa_cons (pe_tup (pa_cons (pe_str) (pa_cons (pe_str) (pa_nil)))) (pa_nil)))) (pa_nil)))))))) (pss_one (ps_ret (pe_call (G_l_same T) (hr.mono (by decide)) (by rfl) T.m_l_same T.F_l_same.kp T.B_l_same .nil pass0 (pa_cons (pv 1) (pa_cons (pv 2) (pa_nil))))))))))))))))))))))))))))))),
    (sx_seq (sx_asg (ex_lst (ea_cons (ex_tup (ea_cons (ex_str) (ea_cons (ex_int) (ea_nil)))) (ea_cons (ex_tup (ea_cons (ex_str) (ea_cons (ex_int) (ea_nil)))) (ea_cons (ex_tup (ea_cons (ex_str) (ea_cons (ex_int) (ea_nil)))) (ea_cons (ex_tup (ea_cons (ex_str) (ea_cons (ex_int) (ea_nil)))) (ea_cons (ex_tup (ea_cons (ex_str) (ea_cons (ex_int) (ea_nil)))) (ea_nil))))))) gx_name) (sx_seq (sx_asg (ex_op op_addD (ex_var) (ex_lst (ea_cons (ex_tup (ea_cons (ex_str) (ea_cons (ex_int) (ea_nil)))) (ea_cons (ex_tup (ea_cons (ex_str) (ea_cons (ex_int) (ea_nil)))) (ea_cons (ex_tup (ea_cons (ex_str) (ea_cons (ex_int) (ea_nil)))) (ea_cons (ex_tup (ea_cons (ex_str) (ea_cons (ex_int) (ea_nil)))) (ea_cons (ex_tup (ea_cons (ex_str) (ea_cons (ex_int) (ea_nil)))) (ea_nil)))))))) gx_name) (sx_seq (sx_asg (ex_op op_addD (ex_var) (ex_lst (ea_cons (ex_tup (ea_cons (ex_str) (ea_cons (ex_int) (ea_nil)))) (ea_cons (ex_tup (ea_cons (ex_str) (ea_cons (ex_int) (ea_nil)))) (ea_cons (ex_tup (ea_cons (ex_str) (ea_cons (ex_int) (ea_nil)))) (ea_cons (ex_tup (ea_cons (ex_str) (ea_cons (ex_int) (ea_nil)))) (ea_nil))))))) gx_name) (sx_seq (sx_asg (ex_op op_addD (ex_var) (ex_lst (ea_cons (ex_tup (ea_cons (ex_str) (ea_cons (ex_int) (ea_nil)))) (ea_cons (ex_tup (ea_cons (ex_str) (ea_cons (ex_int) (ea_nil)))) (ea_cons (ex_tup (ea_cons (ex_str) (ea_cons (ex_int) (ea_nil)))) (ea_cons (ex_tup (ea_cons (ex_str) (ea_cons (ex_int) (ea_nil)))) (ea_nil))))))) gx_name) (sx_seq (sx_if (et_not (et_tru (J.v (ex_call0 (ea_cons (ex_op op_addD (ex_var) (ex_lst (ea_cons (ex_tup (ea_cons (ex_str) (ea_cons (ex_int) (ea_nil)))) (ea_cons (ex_tup (ea_cons (ex_str) (ea_cons (ex_int) (ea_nil)))) (ea_cons (ex_tup (ea_cons (ex_str) (ea_cons (ex_int) (ea_nil)))) (ea_nil)))))) (ea_cons (ex_int) (ea_nil))))))) (sx_ret (ex_bl)) (sx_next)) (sx_seq (sx_asg (ex_lst (ea_cons (ex_tup (ea_cons (ex_str) (ea_cons (ex_int) (ea_nil)))) (ea_cons (ex_tup (ea_cons (ex_str) (ea_cons (ex_int) (ea_nil)))) (ea_cons (ex_tup (ea_cons (ex_str) (ea_cons (ex_int) (ea_nil)))) (ea_cons (ex_tup (ea_cons (ex_str) (ea_cons (ex_int) (ea_nil)))) (ea_cons (ex_tup (ea_cons (ex_str) (ea_cons (ex_int) (ea_nil)))) (ea_nil))))))) gx_name) (sx_seq (sx_asg (ex_op op_addD (ex_var) (ex_lst (ea_cons (ex_tup (ea_cons (ex_str) (ea_cons (ex_int) (ea_nil)))) (ea_cons (ex_tup (ea_cons (ex_str) (ea_cons (ex_int) (ea_nil)))) (ea_cons (ex_tup (ea_cons (ex_str) (ea_cons (ex_int) (ea_nil)))) (ea_cons (ex_tup (ea_cons (ex_str) (ea_cons (ex_int) (ea_nil)))) (ea_nil))))))) gx_name) (sx_seq (sx_asg (ex_op op_addD (ex_var) (ex_lst (ea_cons (ex_tup (ea_cons (ex_str) (ea_cons (ex_int) (ea_nil)))) (ea_cons (ex_tup (ea_cons (ex_str) (ea_cons (ex_int) (ea_nil)))) (ea_cons (ex_tup (ea_cons (ex_str) (ea_cons (ex_int) (ea_nil)))) (ea_nil)))))) gx_name) (sx_seq (sx_asg (ex_op op_addD (ex_var) (ex_lst (ea_cons (ex_tup (ea_cons (ex_str) (ea_cons (ex_int) (ea_nil)))) (ea_cons (ex_tup (ea_cons (ex_str) (ea_cons (ex_int) (ea_nil)))) (ea_cons (ex_tup (ea_cons (ex_str) (ea_cons (ex_int) (ea_nil)))) (ea_nil)))))) gx_name) (sx_seq (sx_asg (ex_op op_addD (ex_var) (ex_lst (ea_cons (ex_tup (ea_cons (ex_str) (ea_cons (ex_int) (ea_nil)))) (ea_cons (ex_tup (ea_cons (ex_str) (ea_cons (ex_int) (ea_nil)))) (ea_cons (ex_tup (ea_cons (ex_str) (ea_cons (ex_int) (ea_nil)))) (ea_nil)))))) gx_name) (sx_seq (sx_asg (ex_op op_addD (ex_var) (ex_lst (ea_cons (ex_tup (ea_cons (ex_str) (ea_cons (ex_int) (ea_nil)))) (ea_cons (ex_tup (ea_cons (ex_str) (ea_cons (ex_int) (ea_nil)))) (ea_cons (ex_tup (ea_cons (ex_str) (ea_cons (ex_int) (ea_nil)))) (ea_nil)))))) gx_name) (sx_seq (sx_if (et_not (et_tru (J.v (ex_call0 (ea_cons (ex_op op_addD (ex_var) (ex_lst (ea_cons (ex_tup (ea_cons (ex_str) (ea_cons (ex_int) (ea_nil)))) (ea_cons (ex_tup (ea_cons (ex_str) (ea_cons (ex_int) (ea_nil)))) (ea_cons (ex_tup (ea_cons (ex_str) (ea_cons (ex_int) (ea_nil)))) (ea_nil)))))) (ea_cons (ex_int) (ea_nil))))))) (sx_ret (ex_bl)) (sx_next)) (sx_seq (sx_asg (ex_lst (ea_cons (ex_tup (ea_cons (ex_str) (ea_cons (ex_int) (ea_nil)))) (ea_cons (ex_tup (ea_cons (ex_str) (ea_cons (ex_int) (ea_nil)))) (ea_cons (ex_tup (ea_cons (ex_str) (ea_cons (ex_int) (ea_nil)))) (ea_cons (ex_tup (ea_cons (ex_str) (ea_cons (ex_int) (ea_nil)))) (ea_cons (ex_tup (ea_cons (ex_str) (ea_cons (ex_int) (ea_nil)))) (ea_nil))))))) gx_name) (sx_seq (sx_asg (ex_op op_addD (ex_var) (ex_lst (ea_cons (ex_tup (ea_cons (ex_str) (ea_cons (ex_int) (ea_nil)))) (ea_cons (ex_tup (ea_cons (ex_str) (ea_cons (ex_int) (ea_nil)))) (ea_cons (ex_tup (ea_cons (ex_str) (ea_cons (ex_int) (ea_nil)))) (ea_cons (ex_tup (ea_cons (ex_str) (ea_cons (ex_int) (ea_nil)))) (ea_cons (ex_tup (ea_cons (ex_str) (ea_cons (ex_int) (ea_nil)))) (ea_nil)))))))) gx_name) (sx_seq (sx_asg (ex_op op_addD (ex_var) (ex_lst (ea_cons (ex_tup (ea_cons (ex_str) (ea_cons (ex_int) (ea_nil)))) (ea_cons (ex_tup (ea_cons (ex_str) (ea_cons (ex_int) (ea_nil)))) (ea_cons (ex_tup (ea_cons (ex_str) (ea_cons (ex_int) (ea_nil)))) (ea_cons (ex_tup (ea_cons (ex_str) (ea_cons (ex_int) (ea_nil)))) (ea_nil))))))) gx_name) (sx_seq (sx_asg (ex_op op_addD (ex_var) (ex_lst (ea_cons (ex_tup (ea_cons (ex_str) (ea_cons (ex_int) (ea_nil)))) (ea_cons (ex_tup (ea_cons (ex_str) (ea_cons (ex_int) (ea_nil)))) (ea_cons (ex_tup (ea_cons (ex_str) (ea_cons (ex_int) (ea_nil)))) (ea_cons (ex_tup (ea_cons (ex_str) (ea_cons (ex_int) (ea_nil)))) (ea_nil))))))) gx_name) (sx_seq (sx_if (et_not (et_tru (J.v (ex_call0 (ea_cons (ex_var) (ea_cons (ex_int) (ea_nil))))))) (sx_ret (ex_bl)) (sx_next)) (sx_seq (sx_asg (ex_lst (ea_cons (ex_tup (ea_cons (ex_str) (ea_cons (ex_int) (ea_nil)))) (ea_cons (ex_tup (ea_cons (ex_str) (ea_cons (ex_int) (ea_nil)))) (ea_cons (ex_tup (ea_cons (ex_str) (ea_cons (ex_int) (ea_nil)))) (ea_cons (ex_tup (ea_cons (ex_str) (ea_cons (ex_int) (ea_nil)))) (ea_cons (ex_tup (ea_cons (ex_str) (ea_cons (ex_int) (ea_nil)))) (ea_nil))))))) gx_name) (sx_seq (sx_asg (ex_op op_addD (ex_var) (ex_lst (ea_cons (ex_tup (ea_cons (ex_str) (ea_cons (ex_int) (ea_nil)))) (ea_cons (ex_tup (ea_cons (ex_str) (ea_cons (ex_int) (ea_nil)))) (ea_cons (ex_tup (ea_cons (ex_str) (ea_cons (ex_int) (ea_nil)))) (ea_cons (ex_tup (ea_cons (ex_str) (ea_cons (ex_int) (ea_nil)))) (ea_cons (ex_tup (ea_cons (ex_str) (ea_cons (ex_int) (ea_nil)))) (ea_nil)))))))) gx_name) (sx_seq (sx_asg (ex_op op_addD (ex_var) (ex_lst (ea_cons (ex_tup (ea_cons (ex_str) (ea_cons (ex_int) (ea_nil)))) (ea_cons (ex_tup (ea_cons (ex_str) (ea_cons (ex_int) (ea_nil)))) (ea_cons (ex_tup (ea_cons (ex_str) (ea_cons (ex_int) (ea_nil)))) (ea_cons (ex_tup (ea_cons (ex_str) (ea_cons (ex_int) (ea_nil)))) (ea_nil))))))) gx_name) (sx_seq (sx_asg (ex_op op_addD (ex_var) (ex_lst (ea_cons (ex_tup (ea_cons (ex_str) (ea_cons (ex_int) (ea_nil)))) (ea_cons (ex_tup (ea_cons (ex_str) (ea_cons (ex_int) (ea_nil)))) (ea_cons (ex_tup (ea_cons (ex_str) (ea_cons (ex_int) (ea_nil)))) (ea_cons (ex_tup (ea_cons (ex_str) (ea_cons (ex_int) (ea_nil)))) (ea_nil))))))) gx_name) (sx_seq (sx_if (et_not (et_tru (J.v (ex_call0 (ea_cons (ex_op op_addD (ex_var) (ex_lst (ea_cons (ex_tup (ea_cons (ex_str) (ea_cons (ex_int) (ea_nil)))) (ea_cons (ex_tup (ea_cons (ex_str) (ea_cons (ex_int) (ea_nil)))) (ea_cons (ex_tup (ea_cons (ex_str) (ea_cons (ex_int) (ea_nil)))) (ea_nil)))))) (ea_cons (ex_int) (ea_nil))))))) (sx_ret (ex_bl)) (sx_next)) (sx_seq (sx_asg (ex_op op_addD ((ef_lc (jw_rng1 (ea_cons (ex_int) (ea_nil))) (gx_name) (by decide) (et_yes) (ex_call0 (ea_cons (ex_str) (ea_cons (ex_var) (ea_nil))))).x) (ex_lst (ea_cons (ex_call0 (ea_cons (ex_str) (ea_cons (ex_int) (ea_nil)))) (ea_cons (ex_call0 (ea_cons (ex_str) (ea_cons (ex_int) (ea_nil)))) (ea_nil))))) gx_name) (sx_seq (sx_asg (ex_op op_addD (ex_var) (ex_lst (ea_cons (ex_call0 (ea_cons (ex_str) (ea_cons (ex_int) (ea_nil)))) (ea_cons (ex_call0 (ea_cons (ex_str) (ea_cons (ex_int) (ea_nil)))) (ea_nil))))) gx_name) (sx_seq (sx_asg (ex_lst (ea_cons (ex_tup (ea_nil)) (ea_cons (ex_tup (ea_nil)) (ea_cons (ex_tup (ea_nil)) (ea_cons (ex_tup (ea_nil)) (ea_nil)))))) gx_name) (sx_seq (sx_asg (ex_op op_addD (ex_var) (ex_lst (ea_cons (ex_tup (ea_cons (ex_str) (ea_cons (ex_str) (ea_nil)))) (ea_cons (ex_tup (ea_cons (ex_tup (ea_cons (ex_str) (ea_cons (ex_str) (ea_nil)))) (ea_cons (ex_tup (ea_cons (ex_str) (ea_cons (ex_str) (ea_nil)))) (ea_nil)))) (ea_cons (ex_tup (ea_cons (ex_int) (ea_cons (ex_int) (ea_cons (ex_int) (ea_nil))))) (ea_cons (ex_tup (ea_cons (ex_tup (ea_cons (ex_str) (ea_cons (ex_str) (ea_nil)))) (ea_cons (ex_tup (ea_cons (ex_str) (ea_cons (ex_str) (ea_nil)))) (ea_nil)))) (ea_nil))))))) gx_name) (sx_ret (ex_call0 (ea_cons (ex_var) (ea_cons (ex_var) (ea_nil))))))))))))))))))))))))))))))) γ O H _ _ _ r g⟩
theorem sc_l_bent_right : FnScope N_l_bent_right ["_law_box_here", "_law_flat", "_law_cut_so", "_law_sort_so", "_law_ill_so"] (defScope s_l_bent_right) := ⟨rfl, rfl, rfl, by decide +kernel, rfl, by decide +kernel, by decide +kernel⟩
def b_l_bent_right (ad : Ad) : M Out :=
  sSeq (sOwn 5 (oSplit (mVar 1) (mVar 2))) (
  sSeq (sAsg (mCallI b_l_take 6 2 0 (mCons (mCW dLen (wCons (mOwn 5) (wNil))) (mNil))) (gSet 6)) (
  sSeq (sSet 5 (mCallI b_l_of 2 2 0 (mCons (mBin dAdd (mVar 4) (mLst (mCons (mBin dAdd (mBinV dIx (mOwn 5) (vD (mVar 6))) (M.ret (.str (PySem.Str.ofString "_")))) (mCons (mBin dAdd (M.ret (.str (PySem.Str.ofString "A"))) (mBinV dIx (mOwn 5) (vD (mVar 6)))) (mCons (M.ret (.str (PySem.Str.ofString ""))) (mNil)))))) (mNil))) (mVar 6)) (
  sRet (mCall (b_l_same 8) 4 2 (mCons (mCall (b_l_heard ad) 5 2 (mCons (mM1 dJoin (mVar 2) (mOwn 5)) (mCons (mVar 3) (mNil)))) (mCons (mLst (mCons (mVar 6) (mNil))) (mNil)))))))
theorem G_l_bent_right (T : Tx K mg w) : FnOk P w K mg base CX0 10 T.a_l_bent_right T.fd_l_bent_right ["_law_box_here", "_law_flat", "_law_cut_so", "_law_sort_so", "_law_ill_so"] (spM0 K N_l_bent_right 5 (b_l_bent_right T.ad)) := by
  refine T.F_l_bent_right.ok sc_l_bent_right (spM_ln0 rfl) (fun cdv A outer s H vs Q E hr h => ?_)
  obtain ⟨γ, O, as, h1, h2, h3, r, g⟩ := h
  have nd := sc_l_bent_right.nd
  exact ⟨_, pss_cons (ps_set (i := 5) nd rfl (by first | exact Or.inl rfl | exact Or.inr rfl) (pe_split (pv 1) (pv 2))) (pss_cons (ps_set (i := 6) nd rfl (by first | exact Or.inl rfl | exact Or.inr rfl) (pe_call (G_l_take T) (hr.mono (by decide)) (by rfl) T.m_l_take T.F_l_take.kp T.B_l_take .nil pass0 (pa_cons (pv 0) (pa_cons (pe_callB call_len (by rfl) T.n_len (by decide +kernel) (pa_cons (pv 5) (pa_nil))) (pa_nil))))) (pss_cons (ps_asg (pe_call (G_l_of T) (hr.mono (by decide)) (by rfl) T.m_l_of T.F_l_of.kp T.B_l_of .nil pass0 (pa_cons (pv 0) (pa_cons (pe_op opAddA (pv 4) (pe_lst (pa_cons (pe_op opAddA (pe_ix ix_seq (pv 5) (pv 6) (fun _ _ => rfl)) (pe_str)) (pa_cons (pe_op opAddA (pe_str) (pe_ix ix_seq (pv 5) (pv 6) (fun _ _ => rfl))) (pa_cons (pe_str) (pa_nil)))))) (pa_nil)))) (pg_sub (pv 5) (pv 6) set_list)) (pss_one (ps_ret (pe_call (G_l_same T) (hr.mono (by decide)) (by rfl) T.m_l_same T.F_l_same.kp T.B_l_same .nil pass0 (pa_cons (pe_call (G_l_heard T) (hr.mono (by decide)) (by rfl) T.m_l_heard T.F_l_heard.kp T.B_l_heard .nil pass0 (pa_cons (pe_join (pv 2) (pv 5)) (pa_cons (pv 3) (pa_nil)))) (pa_cons (pe_lst (pa_cons (pv 6) (pa_nil))) (pa_nil)))))))),
    (sx_seq (sx_own (ef_split (ex_var) (ex_var))) (sx_seq (sx_asg (ex_callI0 (ea_cons (ex_cw len_D (ew_cons (ev_own) (ew_nil))) (ea_nil))) gx_name) (sx_seq (sx_set (ex_callI0 (ea_cons (ex_op op_addD (ex_var) (ex_lst (ea_cons (ex_op op_addD (ex_opV op_ixD (ev_own) (J.v (ex_var))) (ex_str)) (ea_cons (ex_op op_addD (ex_str) (ex_opV op_ixD (ev_own) (J.v (ex_var)))) (ea_cons (ex_str) (ea_nil)))))) (ea_nil))) (ex_var)) (sx_ret (ex_call0 (ea_cons (ex_call0 (ea_cons (ex_m1 join_M (ex_var) (ev_own)) (ea_cons (ex_var) (ea_nil)))) (ea_cons (ex_lst (ea_cons (ex_var) (ea_nil))) (ea_nil)))))))) γ O H _ _ _ r g⟩
theorem sc_l_case_right : FnScope N_l_case_right ["_law_box_here"] (defScope s_l_case_right) := ⟨rfl, rfl, rfl, by decide +kernel, rfl, by decide +kernel, by decide +kernel⟩
def b_l_case_right (ad : Ad) : M Out :=
  sSeq (sAsg (mCallI b_l_steps 3 2 0 (mCons (M.ret (.int 6)) (mNil))) (gSet 1)) (
  sSeq (sAsg (mBin dIx (mCallI b_l_webs 8 2 0 (mCons (mVar 1) (mNil))) (M.ret (.int 0))) (gSet 2)) (
  sSeq (sIf (mOr (mB (mBin dEq (mVar 1) (mTup (mNil)))) (mB (mBin dEq (mVar 2) (mTup (mNil))))) (sRet (mCall (b_l_same 8) 4 2 (mCons (mLst (mCons (mCall (b_l_heard ad) 5 2 (mCons (mIf (mB (mBin dNe (mVar 1) (mTup (mNil)))) (mM1 dJoin (M.ret (.str (PySem.Str.ofString " "))) (vD (mVar 1))) (M.ret (.str (PySem.Str.ofString "-")))) (mCons (M.ret (.int 0)) (mNil)))) (mNil))) (mCons (mLst (mCons (mVar 1) (mNil))) (mNil))))) (sNx)) (
  sSeq (sAsg (mM1 dJoin (M.ret (.str (PySem.Str.ofString "; "))) (vD (mF (mLc (wAny (mVar 2)) (gTupD 2 (gsCons (gSet 7) (gsCons (gSet 8) (gsNil)))) (tYesM) (mBin dAdd (mBin dAdd (mVar 7) (M.ret (.str (PySem.Str.ofString " ")))) (mVar 8)) [7, 8])))) (gSet 3)) (
  sSeq (sAsg (mM1 dJoin (M.ret (.str (PySem.Str.ofString " "))) (vD (mF (mLc (wAny (mVar 1)) (gSet 6) (tYesM) (mBin dAdd (M.ret (.str (PySem.Str.ofString "+"))) (mVar 6)) [6])))) (gSet 4)) (
  sSeq (sAsg (mLst (mCons (mCall (b_l_heard ad) 5 2 (mCons (mM1 dJoin (M.ret (.str (PySem.Str.ofString " "))) (vD (mVar 1))) (mCons (M.ret (.int 0)) (mNil)))) (mCons (mCall (b_l_heard ad) 5 2 (mCons (mVar 3) (mCons (M.ret (.int 1)) (mNil)))) (mCons (mCall (b_l_heard ad) 5 2 (mCons (mVar 4) (mCons (M.ret (.int 3)) (mNil)))) (mNil))))) (gSet 5)) (
  sSeq (sIf (mNot (mTru (vD (mCall (b_l_same 8) 4 2 (mCons (mVar 5) (mCons (mLst (mCons (mVar 1) (mCons (mVar 2) (mCons (mCB dTupleB (mCons (mF (mLc (wAny (mVar 1)) (gSet 6) (tYesM) (mTup (mCons (M.ret (.str (PySem.Str.ofString "begin"))) (mCons (mVar 6) (mNil)))) [6])) (mNil))) (mNil))))) (mNil))))))) (sRet (M.ret (.bl false))) (sNx)) (
  sSeq (sIf (mNot (mTru (vD (mCallI (b_l_bent_right ad) 7 5 0 (mCons (mM1 dJoin (M.ret (.str (PySem.Str.ofString " "))) (vD (mVar 1))) (mCons (M.ret (.str (PySem.Str.ofString " "))) (mCons (M.ret (.int 0)) (mCons (mLst (mCons (M.ret (.str (PySem.Str.ofString "--"))) (mCons (M.ret (.str (PySem.Str.ofString "1"))) (mNil)))) (mNil))))))))) (sRet (M.ret (.bl false))) (sNx)) (
  sSeq (sIf (mNot (mTru (vD (mCallI (b_l_bent_right ad) 7 5 0 (mCons (mVar 3) (mCons (M.ret (.str (PySem.Str.ofString "; "))) (mCons (M.ret (.int 1)) (mCons (mLst (mCons (M.ret (.str (PySem.Str.ofString "a"))) (mCons (M.ret (.str (PySem.Str.ofString "a a"))) (mCons (M.ret (.str (PySem.Str.ofString "a b c"))) (mCons (M.ret (.str (PySem.Str.ofString "a  b"))) (mNil)))))) (mNil))))))))) (sRet (M.ret (.bl false))) (sNx)) (
  sRet (mCallI (b_l_bent_right ad) 7 5 0 (mCons (mVar 4) (mCons (M.ret (.str (PySem.Str.ofString " "))) (mCons (M.ret (.int 3)) (mCons (mLst (mCons (M.ret (.str (PySem.Str.ofString "a"))) (mCons (M.ret (.str (PySem.Str.ofString "+"))) (mCons (M.ret (.str (PySem.Str.ofString "-"))) (mCons (M.ret (.str (PySem.Str.ofString "+-a"))) (mNil)))))) (mNil)))))))))))))))
theorem G_l_case_right (T : Tx K mg w) : FnOk P w K mg base CX0 11 T.a_l_case_right T.fd_l_case_right ["_law_box_here"] (spM0 K N_l_case_right 1 (b_l_case_right T.ad)) := by
  refine T.F_l_case_right.ok sc_l_case_right (spM_ln0 rfl) (fun cdv A outer s H vs Q E hr h => ?_)
  obtain ⟨γ, O, as, h1, h2, h3, r, g⟩ := h
  have nd := sc_l_case_right.nd
  exact ⟨_, pss_cons (ps_set (i := 1) nd rfl (by first | exact Or.inl rfl | exact Or.inr rfl) (pe_call (G_l_steps T) (hr.mono (by decide)) (by rfl) T.m_l_steps T.F_l_steps.kp T.B_l_steps .nil pass0 (pa_cons (pv 0) (pa_cons (pe_int) (pa_nil))))) (pss_cons (ps_set (i := 2) nd rfl (by first | exact Or.inl rfl | exact Or.inr rfl) (pe_ix ix_seq (pe_call (G_l_webs T) (hr.mono (by decide)) (by rfl) T.m_l_webs T.F_l_webs.kp T.B_l_webs .nil pass0 (pa_cons (pv 0) (pa_cons (pv 1) (pa_nil)))) (pe_int) (fun _ _ => rfl))) (pss_cons (ps_if (PW.pt (pw_or (pt_cmpR (op_eqD hr.units) (pv 1) (pe_tup (pa_nil)) (nomark _)) (pw_or1 (pt_cmpR (op_eqD hr.units) (pv 2) (pe_tup (pa_nil)) (nomark _))))) (pss_one (ps_ret (pe_call (G_l_same T) (hr.mono (by decide)) (by rfl) T.m_l_same T.F_l_same.kp T.B_l_same .nil pass0 (pa_cons (pe_lst (pa_cons (pe_call (G_l_heard T) (hr.mono (by decide)) (by rfl) T.m_l_heard T.F_l_heard.kp T.B_l_heard .nil pass0 (pa_cons (pe_ifExp (pt_cmpR (op_neD hr.units) (pv 1) (pe_tup (pa_nil)) (nomark _)) (pe_join (pe_str) (pv 1)) (pe_str)) (pa_cons (pe_int) (pa_nil)))) (pa_nil))) (pa_cons (pe_lst (pa_cons (pv 1) (pa_nil))) (pa_nil)))))) (pss_nil)) (pss_cons (ps_set (i := 3) nd rfl (by first | exact Or.inl rfl | exact Or.inr rfl) (pe_join (pe_str) (pe_lc (own := [("_law_one_so", 7), ("_law_two_so", 8)]) rfl nd (pi_any (pv 2)) (blkOk_by (N := N_l_case_right) (sc := (defScope s_l_case_right)) (by decide +kernel)) (fun _ _ _ _ _ => pg_tupU (by rfl) (pgs_cons (pg_name (i := 7) nd rfl (by first | exact Or.inl rfl | exact Or.inr rfl)) (pgs_cons (pg_name (i := 8) nd rfl (by first | exact Or.inl rfl | exact Or.inr rfl)) (pgs_nil)))) (fun _ _ _ _ _ => pts_nil) (fun _ _ _ _ _ => pe_op opAddA (pe_op opAddA (pv 7) (pe_str)) (pv 8))))) (pss_cons (ps_set (i := 4) nd rfl (by first | exact Or.inl rfl | exact Or.inr rfl) (pe_join (pe_str) (pe_lc (own := [("_law_tag", 6)]) rfl nd (pi_any (pv 1)) (blkOk_by (N := N_l_case_right) (sc := (defScope s_l_case_right)) (by decide +kernel)) (fun _ _ _ _ _ => pg_name (i := 6) nd rfl (by first | exact Or.inl rfl | exact Or.inr rfl)) (fun _ _ _ _ _ => pts_nil) (fun _ _ _ _ _ => pe_op opAddA (pe_str) (pv 6))))) (pss_cons (ps_set (i := 5) nd rfl (by first | exact Or.inl rfl | exact Or.inr rfl) (pe_lst (pa_cons (pe_call (G_l_heard T) (hr.mono (by decide)) (by rfl) T.m_l_heard T.F_l_heard.kp T.B_l_heard .nil pass0 (pa_cons (pe_join (pe_str) (pv 1)) (pa_cons (pe_int) (pa_nil)))) (pa_cons (pe_call (G_l_heard T) (hr.mono (by decide)) (by rfl) T.m_l_heard T.F_l_heard.kp T.B_l_heard .nil pass0 (pa_cons (pv 3) (pa_cons (pe_int) (pa_nil)))) (pa_cons (pe_call (G_l_heard T) (hr.mono (by decide)) (by rfl) T.m_l_heard T.F_l_heard.kp T.B_l_heard .nil pass0 (pa_cons (pv 4) (pa_cons (pe_int) (pa_nil)))) (pa_nil)))))) (pss_cons (ps_if (pt_not (pt_truth (pe_call (G_l_same T) (hr.mono (by decide)) (by rfl) T.m_l_same T.F_l_same.kp T.B_l_same .nil pass0 (pa_cons (pv 5) (pa_cons (pe_lst (pa_cons (pv 1) (pa_cons (pv 2) (pa_cons (pe_callTy (Mir.CallR.or call_tuple_of (callTupS rfl)) (by rfl) T.n_tuple (by decide +kernel) (pa_cons (pe_lc (own := [("_law_tag", 6)]) rfl nd (pi_any (pv 1)) (blkOk_by (N := N_l_case_right) (sc := (defScope s_l_case_right)) (by decide +kernel)) (fun _ _ _ _ _ => pg_name (i := 6) nd rfl (by first | exact Or.inl rfl | exact Or.inr rfl)) (fun _ _ _ _ _ => pts_nil) (fun _ _ _ _ _ => pe_tup (pa_cons (pe_str) (pa_cons (pv 6) (pa_nil))))) (pa_nil))) (pa_nil))))) (pa_nil)))) (by intro _; rfl))) (pss_one (ps_ret (pe_bl))) (pss_nil)) (pss_cons (ps_if (pt_not (pt_truth (pe_call (G_l_bent_right T) (hr.mono (by decide)) (by rfl) T.m_l_bent_right T.F_l_bent_right.kp T.B_l_bent_right .nil pass0 (pa_cons (pv 0) (pa_cons (pe_join (pe_str) (pv 1)) (pa_cons (pe_str) (pa_cons (pe_int) (pa_cons (pe_lst (pa_cons (pe_str) (pa_cons (pe_str) (pa_nil)))) (pa_nil))))))) (by intro _; rfl))) (pss_one (ps_ret (pe_bl))) (pss_nil)) (pss_cons (ps_if (pt_not (pt_truth (pe_call (G_l_bent_right T) (hr.mono (by decide)) (by rfl) T.m_l_bent_right T.F_l_bent_right.kp T.B_l_bent_right .nil pass0 (pa_cons (pv 0) (pa_cons (pv 3) (pa_cons (pe_str) (pa_cons (pe_int) (pa_cons (pe_lst (pa_cons (pe_str) (pa_cons (pe_str) (pa_cons (pe_str) (pa_cons (pe_str) (pa_nil)))))) (pa_nil))))))) (by intro _; rfl))) (pss_one (ps_ret (pe_bl))) (pss_nil)) (pss_one (ps_ret (pe_call (G_l_bent_right T) (hr.mono (by decide)) (by rfl) T.m_l_bent_right T.F_l_bent_right.kp T.B_l_bent_right .nil pass0 (pa_cons (pv 0) (pa_cons (pv 4) (pa_cons (pe_str) (pa_cons (pe_int) (pa_cons (pe_lst (pa_cons (pe_str) (pa_cons (pe_str) (pa_cons (pe_str) (pa_cons (pe_str) (pa_nil)))))) (pa_nil))))))))))))))))),
    (sx_seq (sx_asg (ex_callI0 (ea_cons (ex_int) (ea_nil))) gx_name) (sx_seq (sx_asg (ex_op op_ixD (ex_callI0 (ea_cons (ex_var) (ea_nil))) (ex_int)) gx_name) (sx_seq (sx_if (et_or (et_test (ex_op op_eqD' (ex_var) (ex_tup (ea_nil)))) (et_test (ex_op op_eqD' (ex_var) (ex_tup (ea_nil))))) (sx_ret (ex_call0 (ea_cons (ex_lst (ea_cons (ex_call0 (ea_cons (ex_if (et_test (ex_op op_neD' (ex_var) (ex_tup (ea_nil)))) (ex_m1 join_M (ex_str) (J.v (ex_var))) (ex_str)) (ea_cons (ex_int) (ea_nil)))) (ea_nil))) (ea_cons (ex_lst (ea_cons (ex_var) (ea_nil))) (ea_nil))))) (sx_next)) (sx_seq (sx_asg (ex_m1 join_M (ex_str) (J.v ((ef_lc (jw_any (ex_var)) (gx_tup (gxs_cons (gx_name) (gxs_cons (gx_name) (gxs_nil)))) (by decide) (et_yes) (ex_op op_addD (ex_op op_addD (ex_var) (ex_str)) (ex_var))).x))) gx_name) (sx_seq (sx_asg (ex_m1 join_M (ex_str) (J.v ((ef_lc (jw_any (ex_var)) (gx_name) (by decide) (et_yes) (ex_op op_addD (ex_str) (ex_var))).x))) gx_name) (sx_seq (sx_asg (ex_lst (ea_cons (ex_call0 (ea_cons (ex_m1 join_M (ex_str) (J.v (ex_var))) (ea_cons (ex_int) (ea_nil)))) (ea_cons (ex_call0 (ea_cons (ex_var) (ea_cons (ex_int) (ea_nil)))) (ea_cons (ex_call0 (ea_cons (ex_var) (ea_cons (ex_int) (ea_nil)))) (ea_nil))))) gx_name) (sx_seq (sx_if (et_not (et_tru (J.v (ex_call0 (ea_cons (ex_var) (ea_cons (ex_lst (ea_cons (ex_var) (ea_cons (ex_var) (ea_cons (ex_cb tuple_B (ea_cons ((ef_lc (jw_any (ex_var)) (gx_name) (by decide) (et_yes) (ex_tup (ea_cons (ex_str) (ea_cons (ex_var) (ea_nil))))).x) (ea_nil))) (ea_nil))))) (ea_nil))))))) (sx_ret (ex_bl)) (sx_next)) (sx_seq (sx_if (et_not (et_tru (J.v (ex_callI0 (ea_cons (ex_m1 join_M (ex_str) (J.v (ex_var))) (ea_cons (ex_str) (ea_cons (ex_int) (ea_cons (ex_lst (ea_cons (ex_str) (ea_cons (ex_str) (ea_nil)))) (ea_nil))))))))) (sx_ret (ex_bl)) (sx_next)) (sx_seq (sx_if (et_not (et_tru (J.v (ex_callI0 (ea_cons (ex_var) (ea_cons (ex_str) (ea_cons (ex_int) (ea_cons (ex_lst (ea_cons (ex_str) (ea_cons (ex_str) (ea_cons (ex_str) (ea_cons (ex_str) (ea_nil)))))) (ea_nil))))))))) (sx_ret (ex_bl)) (sx_next)) (sx_ret (ex_callI0 (ea_cons (ex_var) (ea_cons (ex_str) (ea_cons (ex_int) (ea_cons (ex_lst (ea_cons (ex_str) (ea_cons (ex_str) (ea_cons (ex_str) (ea_cons (ex_str) (ea_nil)))))) (ea_nil)))))))))))))))) γ O H _ _ _ r g⟩
theorem sc_l_right : FnScope N_l_right ["_law_box_here"] (defScope s_l_right) := ⟨rfl, rfl, rfl, by decide +kernel, rfl, by decide +kernel, by decide +kernel⟩
def b_l_right (ad : Ad) : M Out :=
  sRet (mCB dAll (mCons (mF (mLc (wRng1 (mCons (M.ret (.int 6)) (mNil))) (gSet 1) (tYesM) (mCallI (b_l_case_right ad) 9 1 0 (mNil)) [1])) (mNil)))
theorem G_l_right (T : Tx K mg w) : FnOk P w K mg base CX0 12 T.a_l_right T.fd_l_right ["_law_box_here"] (spM0 K N_l_right 1 (b_l_right T.ad)) := by
  refine T.F_l_right.ok sc_l_right (spM_ln0 rfl) (fun cdv A outer s H vs Q E hr h => ?_)
  obtain ⟨γ, O, as, h1, h2, h3, r, g⟩ := h
  have nd := sc_l_right.nd
  exact ⟨_, pss_one (ps_ret (pe_callB (cr_all rfl) (by rfl) T.n_all (by decide +kernel) (pa_cons (pe_lc (own := [("_law_turn", 1)]) rfl nd (pi_range1 (by rfl) T.n_range (pa_cons (pe_int) (pa_nil))) (blkOk_by (N := N_l_right) (sc := (defScope s_l_right)) (by decide +kernel)) (fun _ _ _ _ _ => pg_name (i := 1) nd rfl (by first | exact Or.inl rfl | exact Or.inr rfl)) (fun _ _ _ _ _ => pts_nil) (fun _ _ _ _ _ => pe_call (G_l_case_right T) (hr.mono (by decide)) (by rfl) T.m_l_case_right T.F_l_case_right.kp T.B_l_case_right .nil pass0 (pa_cons (pv 0) (pa_nil)))) (pa_nil)))),
    (sx_ret (ex_cb all_D (ea_cons ((ef_lc (jw_rng1 (ea_cons (ex_int) (ea_nil))) (gx_name) (by decide) (et_yes) (ex_callI0 (ea_nil))).x) (ea_nil)))) γ O H _ _ _ r g⟩
theorem sc_law : FnScope N_law ["_law_script"] (defScope s_law) := ⟨rfl, rfl, rfl, by decide +kernel, rfl, by decide +kernel, by decide +kernel⟩
def b_law (ad : Ad) : M Out :=
  sSeq (sAsg (mCall b_l_cells 6 2 (mCons (mVar 0) (mCons (M.ret (.int 3)) (mNil)))) (gSet 1)) (
  sRet (mAndT (mCall (b_l_by_hand_right ad) 4 0 mNil) (mCB dAll (mCons (mF (mLc (wRng1 (mCons (mCB dLen (mCons (mVar 1) (mNil))) (mNil))) (gSet 2) (tYesM) (mCallF (b_l_right ad) 2 1 (oCall b_l_box 3 2 (mCons (mVar 1) (mCons (mVar 2) (mNil))))) [2])) (mNil)))))
theorem G_law (T : Tx K mg w) : FnOk P w K mg base CX0 13 T.a_law T.fd_law ["_law_script"] (spM0 K N_law 1 (b_law T.ad)) := by
  refine T.F_law.ok sc_law (spM_ln0 rfl) (fun cdv A outer s H vs Q E hr h => ?_)
  obtain ⟨γ, O, as, h1, h2, h3, r, g⟩ := h
  have nd := sc_law.nd
  exact ⟨_, pss_cons (ps_set (i := 1) nd rfl (by first | exact Or.inl rfl | exact Or.inr rfl) (pe_call (G_l_cells T) (hr.mono (by decide)) (by rfl) T.m_l_cells T.F_l_cells.kp T.B_l_cells .nil pass0 (pa_cons (pv 0) (pa_cons (pe_int) (pa_nil))))) (pss_one (ps_ret (pe_andT (pe_call0 (G_l_by_hand_right T) (hr.mono (by decide)) (by rfl) T.m_l_by_hand_right T.F_l_by_hand_right.kp T.B_l_by_hand_right .nil pass0) (pe_one (pe_callB (cr_all rfl) (by rfl) T.n_all (by decide +kernel) (pa_cons (pe_lc (own := [("_law_k", 2)]) rfl nd (pi_range1 (by rfl) T.n_range (pa_cons (pe_callB call_len (by rfl) T.n_len (by decide +kernel) (pa_cons (pv 1) (pa_nil))) (pa_nil))) (blkOk_by (N := N_law) (sc := (defScope s_law)) (by decide +kernel)) (fun _ _ _ _ _ => pg_name (i := 2) nd rfl (by first | exact Or.inl rfl | exact Or.inr rfl)) (fun _ _ _ _ _ => pts_nil) (fun _ _ _ _ _ => pe_call (G_l_right T) (hr.mono (by decide)) (by rfl) T.m_l_right T.F_l_right.kp T.B_l_right .nil pass0 (pa_cons (pe_call (G_l_box T) (hr.mono (by decide)) (by rfl) T.m_l_box T.F_l_box.kp T.B_l_box .nil pass0 (pa_cons (pv 1) (pa_cons (pv 2) (pa_nil)))) pa_nil))) (pa_nil))))))),
    (sx_seq (sx_asg (ex_call0 (ea_cons (ex_var) (ea_cons (ex_int) (ea_nil)))) gx_name) (sx_ret (ex_andT (ex_call0 ea_nil) (ex_cb all_D (ea_cons ((ef_lc (jw_rng1 (ea_cons (ex_cb len_D (ea_cons (ex_var) (ea_nil))) (ea_nil))) (gx_name) (by decide) (et_yes) (ex_callF0 (ef_call0 (ea_cons (ex_var) (ea_cons (ex_var) (ea_nil)))))).x) (ea_nil)))))) γ O H _ _ _ r g⟩
end
end Law

set_option maxRecDepth 100000
set_option maxHeartbeats 1000000
set_option linter.all false
namespace Law
open PySem L2 Mir
theorem take_ok {n : Nat} {k : Int} (hk : 0 < k) (hk2 : k < 1073741824) : Draws b_l_take 6 [.int k] (n + 1) n (fun d => ∃ r, d = .int r ∧ 0 ≤ r ∧ r < k) := fun xs h => by
  obtain ⟨a, b, c, rfl, hc0, hc⟩ := h
  have h2 : k ≠ 0 := by omega
  have h3 : k.natAbs < 1073741824 := by omega
  by_cases ha : 0 < a
  · obtain ⟨q1, q2⟩ := fmod_lo (x := a) hk
    refine ⟨.int (a.fmod k), [.int (a.fdiv k), .int b, .int c], ⟨_, rfl, q1, q2⟩, ⟨_, _, _, rfl, hc0, by omega⟩, ?_⟩
    have h1 : decide (0 < a) = true := decide_eq_true ha
    simp [b_l_take, outI, ioAt, startE, sSeq, sIf, mB, mBinV, mBin, mOwn, mVar, rd, dIx, dGt, M.lift, M.ret, bind, M.andThen, pure, atI, ixN, h1, h2, h3, vD, sAsg, gSet, noIo, sDo, mCB, dInt, mNil, mCons, dMod, dDiv, sSet, ownAt, Mir.putAt, setSame, sRet, sNx]
  · have h1 : decide (0 < a) = false := decide_eq_false ha
    have hs1 : Mir.small64 (39373 + (c + 1)) = true := small_of (by omega) (by omega)
    have hs2 : Mir.small64 48271 = true := by decide
    have e1 : ∀ x : Int, (0 ≤ x.fmod 40009 ∧ x.fmod 40009 < 40009) := fun x => fmod_lo (by decide)
    have hs3 : ∀ x : Int, Mir.small64 (x.fmod 40009 + 7) = true := fun x => small_of (by have := e1 x; omega) (by have := e1 x; omega)
    have ex : ∃ x : Int, outI (b_l_take (startE 6 (.io [.int a, .int b, .int c] :: [.int k].map .d))) = some (.int (x.fmod k), [.int a, .int b, .int (c + 1)]) := by
      simp [b_l_take, outI, ioAt, startE, sSeq, sIf, mB, mBinV, mBin, mOwn, mVar, rd, dIx, dGt, M.lift, M.ret, bind, M.andThen, pure, atI, ixN, h1, h2, h3, vD, sAsg, gSet, noIo, sDo, mCB, dInt, mNil, mCons, dMod, dDiv, dMul, dAdd, sSet, ownAt, Mir.putAt, setSame, sRet, sNx, hs1, hs2, hs3]
      exact ⟨_, rfl⟩
    obtain ⟨x, he⟩ := ex
    obtain ⟨q1, q2⟩ := fmod_lo (x := x) hk
    exact ⟨.int (x.fmod k), _, ⟨_, rfl, q1, q2⟩, ⟨_, _, _, rfl, by omega, by omega⟩, he⟩
end Law

set_option maxRecDepth 100000
set_option maxHeartbeats 1000000
set_option linter.all false
namespace Law
open PySem L2 Mir
theorem k_blx : kitB "list" "tuple" = some false ∧ kitB "tuple" "list" = some false ∧ kitB "list" "list" = some true ∧ kitB "tuple" "tuple" = some true := by decide +kernel
theorem k_bl : kitB "list" "list" = some true ∧ kitB "tuple" "tuple" = some true ∧ kitB "list" "tuple" = some false ∧ kitB "tuple" "list" = some false := by decide +kernel
theorem k_int : kitB "int" "list" = some false ∧ kitB "int" "tuple" = some false ∧ kitB "int" "bool" = some false ∧ kitB "int" "str" = some false ∧ kitB "int" "int" = some true := by decide +kernel
theorem k_str : kitB "str" "list" = some false ∧ kitB "str" "tuple" = some false ∧ kitB "str" "bool" = some false ∧ kitB "str" "str" = some true := by decide +kernel
theorem k_bool : kitB "bool" "list" = some false ∧ kitB "bool" "tuple" = some false ∧ kitB "bool" "bool" = some true ∧ kitB "bool" "str" = some false := by decide +kernel
theorem k_none : kitB "NoneType" "list" = some false ∧ kitB "NoneType" "tuple" = some false ∧ kitB "NoneType" "bool" = some false ∧ kitB "NoneType" "str" = some false := by decide +kernel
theorem same_ok : ∀ (n : Nat) (d : D), plainN n d = true → outD (b_l_same n (startE 4 [.d d, .d d])) = some (.bl true)
  | 0, d, h => by cases h
  | n + 1, d, h => by
    cases d with
    | non =>
      simp [b_l_same, outD, startE, sSeq, sIf, mTru, mIs2, isTy2, tyD, k_none, vD, mVar, rd, M.lift, M.ret, bind, M.andThen, truD, mOr, mB, mBin, dIsN, Mir.isNon, sNx, sRet, mAndT, mIs1, isTy, mNotT, dEq, eqD, toPy, SeqAt.shaped, PyData.canLay0, PyData.depth, PyData.eqv]
    | bl b =>
      simp [b_l_same, outD, startE, sSeq, sIf, mTru, mIs2, isTy2, tyD, k_bool, vD, mVar, rd, M.lift, M.ret, bind, M.andThen, truD, mOr, mB, mBin, dIsN, Mir.isNon, sNx, sRet, mAndT, mIs1, isTy, mNotT, dEq, eqD, toPy, SeqAt.shaped, PyData.canLay0, PyData.depth, PyData.eqv]
    | int i =>
      simp [b_l_same, outD, startE, sSeq, sIf, mTru, mIs2, isTy2, tyD, k_int, vD, mVar, rd, M.lift, M.ret, bind, M.andThen, truD, mOr, mB, mBin, dIsN, Mir.isNon, sNx, sRet, mAndT, mIs1, isTy, mNotT, dEq, eqD, toPy, SeqAt.shaped, PyData.canLay0, PyData.depth, PyData.eqv]
    | str s =>
      have hs : PyData.strOk s = true := h
      simp [hs, b_l_same, outD, startE, sSeq, sIf, mTru, mIs2, isTy2, tyD, k_str, vD, mVar, rd, M.lift, M.ret, bind, M.andThen, truD, mOr, mB, mBin, dIsN, Mir.isNon, sNx, sRet, mAndT, mIs1, isTy, mNotT, dEq, eqD, toPy, SeqAt.shaped, PyData.canLay0, PyData.depth, PyData.eqv]
    | lst xs =>
      have hl : xs.length ≤ 100000 := by
        have := (Bool.and_eq_true _ _ ▸ h : _ ∧ _).1
        exact of_decide_eq_true this
      have ha : ∀ x ∈ xs, plainN n x = true := List.all_eq_true.mp (Bool.and_eq_true _ _ ▸ h : _ ∧ _).2
      have q : mLc (wZip (mCons (mVar 0) (mCons (mVar 1) (mNil)))) (gTupD 2 (gsCons (gSet 2) (gsCons (gSet 3) (gsNil)))) (tYesM) (mCall (b_l_same n) 4 2 (mCons (mVar 2) (mCons (mVar 3) (mNil)))) [2, 3] (startE 4 [.d (.lst xs), .d (.lst xs)]) = .ok ((zipD xs xs).map fun _ => .bl true) (startE 4 [.d (.lst xs), .d (.lst xs)]) := by
        refine lc_map (ds := zipD xs xs) rfl (by rw [zip_self_len]; exact hl) rfl fun d hd => ?_
        obtain ⟨x, hx, rfl⟩ := zip_self hd
        exact ⟨_, _, rfl, call_of rfl rfl (same_ok n x (ha x hx)), rfl⟩
      have qn : xs.length ≤ 9000000000000000000 := by omega
      simp only [startE, List.map, List.length, List.replicate, List.append, List.cons_append, List.nil_append] at q
      simp [b_l_same, outD, startE, mNil_at, mCons_at, wNil_at, wCons_at, mRd1_at, mBin_at, mBinV_at, mCB_at, mCW_at, mTup_at, mLst_at, oLst_at, mNot_at, mAnd_at, mOr_at, mBl_at, mF_at, vD_at, mTru_at, mIs1_at, mIs2_at, mNotT_at, mSl_at, sIf_at, sRet_at, sRetF_at, sExpr_at, sAsg_at, sOwn_at, sFor_at, wAny_at, wRng1_at, wRng2_at, wEnum_at, wZip_at, oCB_at, oCW_at, mUn_at, mFmt_at, aT_at, ret_at, mIf_at, ite_at, mB_at, sSeq_at, lift_at, mAndT_at, mOrT_at, bind_at, mVar_at, mOwn_at, rdv_at, rds_at, rdN_at, rdC_at, sApp_at, mPop_at, appO_at, sSet_at, putO_at, sRetO_at, sNx_at, loopN_at, oOr_at, oSome_at, oNone_at, truD, k_bl, isTy2, isTy, tyD, mVar, rd, sNx, dNe, dEq, eqD, toPy, SeqAt.shaped, PyData.canLay0, PyData.depth, PyData.eqv, dLen, mAndT_at, q, bls_true, dAll]
    | tup xs =>
      have hl : xs.length ≤ 100000 := by
        have := (Bool.and_eq_true _ _ ▸ h : _ ∧ _).1
        exact of_decide_eq_true this
      have ha : ∀ x ∈ xs, plainN n x = true := List.all_eq_true.mp (Bool.and_eq_true _ _ ▸ h : _ ∧ _).2
      have q : mLc (wZip (mCons (mVar 0) (mCons (mVar 1) (mNil)))) (gTupD 2 (gsCons (gSet 2) (gsCons (gSet 3) (gsNil)))) (tYesM) (mCall (b_l_same n) 4 2 (mCons (mVar 2) (mCons (mVar 3) (mNil)))) [2, 3] (startE 4 [.d (.tup xs), .d (.tup xs)]) = .ok ((zipD xs xs).map fun _ => .bl true) (startE 4 [.d (.tup xs), .d (.tup xs)]) := by
        refine lc_map (ds := zipD xs xs) rfl (by rw [zip_self_len]; exact hl) rfl fun d hd => ?_
        obtain ⟨x, hx, rfl⟩ := zip_self hd
        exact ⟨_, _, rfl, call_of rfl rfl (same_ok n x (ha x hx)), rfl⟩
      have qn : xs.length ≤ 9000000000000000000 := by omega
      simp only [startE, List.map, List.length, List.replicate, List.append, List.cons_append, List.nil_append] at q
      simp [b_l_same, outD, startE, mNil_at, mCons_at, wNil_at, wCons_at, mRd1_at, mBin_at, mBinV_at, mCB_at, mCW_at, mTup_at, mLst_at, oLst_at, mNot_at, mAnd_at, mOr_at, mBl_at, mF_at, vD_at, mTru_at, mIs1_at, mIs2_at, mNotT_at, mSl_at, sIf_at, sRet_at, sRetF_at, sExpr_at, sAsg_at, sOwn_at, sFor_at, wAny_at, wRng1_at, wRng2_at, wEnum_at, wZip_at, oCB_at, oCW_at, mUn_at, mFmt_at, aT_at, ret_at, mIf_at, ite_at, mB_at, sSeq_at, lift_at, mAndT_at, mOrT_at, bind_at, mVar_at, mOwn_at, rdv_at, rds_at, rdN_at, rdC_at, sApp_at, mPop_at, appO_at, sSet_at, putO_at, sRetO_at, sNx_at, loopN_at, oOr_at, oSome_at, oNone_at, truD, k_bl, isTy2, isTy, tyD, mVar, rd, sNx, dNe, dEq, eqD, toPy, SeqAt.shaped, PyData.canLay0, PyData.depth, PyData.eqv, dLen, mAndT_at, q, bls_true, dAll]
    | _ => cases h
end Law

set_option maxRecDepth 100000
set_option maxHeartbeats 1000000
set_option linter.all false
namespace Law
open PySem L2 Mir
theorem of_ok {n : Nat} {xs : List D} (h1 : 0 < xs.length) (h2 : xs.length ≤ 100000) : Draws b_l_of 2 [.lst xs] (n + 1) n (fun d => d ∈ xs) := fun l hl => by
  obtain ⟨d, ys, ⟨r, rfl, r1, r2⟩, hb, he⟩ := take_ok (n := n) (k := xs.length) (by omega) (by omega) l hl
  have q : mCallI b_l_take 6 2 0 (mCons (mCB dLen (mCons (mVar 1) mNil)) mNil) [some (Sl.io l), some (.d (.lst xs))] = .ok (.int r) [some (Sl.io ys), some (.d (.lst xs))] := by
    have := callI_of (b := b_l_take) (n := 6) (np := 2) (j := 0) (a := mCons (mCB dLen (mCons (mVar 1) mNil)) mNil) (e := [some (Sl.io l), some (.d (.lst xs))]) rfl rfl rfl rfl he
    exact this
  have hi : r.toNat < xs.length := by omega
  refine ⟨xs[r.toNat], ys, List.getElem_mem hi, hb, ?_⟩
  have hx : dIx (.lst xs) (.int r) = some xs[r.toNat] := by
    unfold dIx
    simp [atI, ixN, r1, r2, hi]
  simp [b_l_of, outI, ioAt, startE, mNil_at, mCons_at, wNil_at, wCons_at, mRd1_at, mBin_at, mBinV_at, mCB_at, mCW_at, mTup_at, mLst_at, oLst_at, mNot_at, mAnd_at, mOr_at, mBl_at, mF_at, vD_at, mTru_at, mIs1_at, mIs2_at, mNotT_at, mSl_at, sIf_at, sRet_at, sRetF_at, sExpr_at, sAsg_at, sOwn_at, sFor_at, wAny_at, wRng1_at, wRng2_at, wEnum_at, wZip_at, oCB_at, oCW_at, mUn_at, mFmt_at, aT_at, ret_at, mIf_at, ite_at, mB_at, sSeq_at, lift_at, mAndT_at, mOrT_at, bind_at, mVar_at, mOwn_at, rdv_at, rds_at, rdN_at, rdC_at, sApp_at, mPop_at, appO_at, sSet_at, putO_at, sRetO_at, sNx_at, loopN_at, oOr_at, oSome_at, oNone_at, q, hx]
theorem erasePerm {α : Type} : ∀ (l : List α) (i : Nat) (y : α), l[i]? = some y → (y :: l.eraseIdx i).Perm l
  | [], i, y, e => by simp at e
  | a :: l, 0, y, e => by
    have q : a = y := by simpa using e
    rw [q]
    exact .refl _
  | a :: l, i + 1, y, e => by
    have q : l[i]? = some y := by simpa using e
    exact (List.Perm.swap a y _).trans ((erasePerm l i y q).cons a)
/-- a pick's loop -/
abbrev EP (l xs rest got : List D) (k : Int) (i : Option Sl) : Mir.Env := [some (.io l), some (.d (.lst xs)), some (.d (.int k)), i, some (.ol rest), some (.ol got)]
def pickB : M Out := sApp 5 (mPop 4 (mCallI b_l_take 6 2 0 (mCons (mCW dLen (wCons (mOwn 4) (wNil))) (mNil))))
theorem pick_body {n : Nat} {l xs rest got : List D} {k : Int} {i : Option Sl} (h0 : 0 < rest.length) (h1 : got.length + rest.length ≤ 100000) (hl : Box (n + 1) l) :
    ∃ l' rest' got', pickB (EP l xs rest got k i) = .ok .nx (EP l' xs rest' got' k i) ∧ Box n l' ∧ got'.length = got.length + 1 ∧ (got' ++ rest').Perm (got ++ rest) := by
  obtain ⟨d, ys, ⟨r, rfl, r1, r2⟩, hb, he⟩ := take_ok (n := n) (k := rest.length) (by omega) (by omega) l hl
  have q : mCallI b_l_take 6 2 0 (mCons (mCW dLen (wCons (mOwn 4) (wNil))) (mNil)) (EP l xs rest got k i) = .ok (.int r) (EP ys xs rest got k i) := by
    have := callI_of (b := b_l_take) (n := 6) (np := 2) (j := 0) (a := (mCons (mCW dLen (wCons (mOwn 4) (wNil))) (mNil))) (e := EP l xs rest got k i) rfl rfl rfl rfl he
    exact this
  have hi : r.toNat < rest.length := by omega
  have hs : small62 r = true := by unfold small62; simp; omega
  have hx : seqIndex? r rest.length = some r.toNat := by
    unfold seqIndex?
    simp [show ¬ r < 0 by omega, show r < rest.length by omega]
    try omega
  have hg : rest[r.toNat]? = some rest[r.toNat] := List.getElem?_eq_getElem hi
  have hm : mLine (got.length + 1) = true := decide_eq_true (by omega)
  refine ⟨ys, rest.eraseIdx r.toNat, got ++ [rest[r.toNat]], ?_, hb, by simp, ?_⟩
  · simp [pickB, mNil_at, mCons_at, wNil_at, wCons_at, mRd1_at, mBin_at, mBinV_at, mCB_at, mCW_at, mTup_at, mLst_at, oLst_at, mNot_at, mAnd_at, mOr_at, mBl_at, mF_at, vD_at, mTru_at, mIs1_at, mIs2_at, mNotT_at, mSl_at, sIf_at, sRet_at, sRetF_at, sExpr_at, sAsg_at, sOwn_at, sFor_at, wAny_at, wRng1_at, wRng2_at, wEnum_at, wZip_at, oCB_at, oCW_at, mUn_at, mFmt_at, aT_at, ret_at, mIf_at, ite_at, mB_at, sSeq_at, lift_at, mAndT_at, mOrT_at, bind_at, mVar_at, mOwn_at, rdv_at, rds_at, rdN_at, rdC_at, sApp_at, mPop_at, appO_at, sSet_at, putO_at, sRetO_at, sNx_at, loopN_at, oOr_at, oSome_at, oNone_at, ownAt, q, popO, hs, hx, hg, hm, setSame]
  · rw [List.append_assoc]
    exact (erasePerm rest r.toNat _ hg).append_left got
theorem pick_loop {n : Nat} {xs : List D} {k : Int} : ∀ (ds : List D) (l rest got : List D) (i : Option Sl), (∀ x, i ≠ some (.io x)) → ds.length ≤ rest.length → got.length + rest.length ≤ 100000 → Box (n + ds.length) l →
    ∃ l' rest' got' i', mLoop (gSet 3) pickB ds (EP l xs rest got k i) = .ok .nx (EP l' xs rest' got' k i') ∧ Box n l' ∧ got'.length = got.length + ds.length ∧ (got' ++ rest').Perm (got ++ rest)
  | [], l, rest, got, i, _, _, _, hb => ⟨l, rest, got, i, rfl, hb, rfl, .refl _⟩
  | d :: ds, l, rest, got, i, hi, h1, h2, hb => by
    rw [List.length_cons] at h1
    obtain ⟨l1, r1, g1, q1, b1, n1, p1⟩ := pick_body (n := n + ds.length) (xs := xs) (k := k) (i := some (.d d)) (by omega) h2 (by rw [List.length_cons] at hb; exact hb)
    have hlen := p1.length_eq
    rw [List.length_append, List.length_append] at hlen
    obtain ⟨l2, r2, g2, i2, q2, b2, n2, p2⟩ := pick_loop ds l1 r1 g1 (some (.d d)) (by simp) (by omega) (by omega) b1
    refine ⟨l2, r2, g2, i2, ?_, b2, by rw [List.length_cons]; omega, p2.trans p1⟩
    have hno : gSet 3 d (EP l xs rest got k i) = some (EP l xs rest got k (some (.d d))) := by
      unfold gSet
      have : noIo (EP l xs rest got k i) 3 = true := by
        unfold noIo
        cases i with
        | none => rfl
        | some s => cases s with
          | io x => exact absurd rfl (hi x)
          | _ => rfl
      rw [if_pos this]
      rfl
    show (match gSet 3 d (EP l xs rest got k i) with | none => R.bad | some e1 => _) = _
    rw [hno]
    dsimp only
    rw [q1]
    exact q2
theorem pick_ok {n : Nat} {xs : List D} {k : Int} (h2 : xs.length ≤ 100000) (hk0 : 0 ≤ k) (hk : k < 2 ^ 62) : Draws b_l_pick 6 [.lst xs, .int k] (n + min k.toNat xs.length) n (fun d => ∃ got rest, d = .lst got ∧ got.length = min k.toNat xs.length ∧ (got ++ rest).Perm xs) := fun l hl => by
  obtain ⟨l', rest', got', i', q, hb, hn, hp⟩ := pick_loop (n := n) (xs := xs) (k := k) (intsD 0 (min k.toNat xs.length)) l xs [] none (by simp) (by simp [intsD]; omega) (by simpa using h2) (by simpa [intsD] using hl)
  have hmin : dMin2 [.int k, .int xs.length] = some (.int ((min k.toNat xs.length : Nat) : Int)) := by
    unfold dMin2
    simp only [Option.some.injEq, D.int.injEq]
    split <;> omega
  have hsm : small62 ((min k.toNat xs.length : Nat) : Int) = true := by
    unfold small62
    simp
    omega
  have hrng : dRng1 [.int ((min k.toNat xs.length : Nat) : Int)] = some (intsD 0 (min k.toNat xs.length)) := by
    unfold dRng1
    simp only [hsm, if_true, Int.toNat_natCast]
  refine ⟨.lst got', l', ⟨got', rest', rfl, by simpa [intsD] using hn, by simpa using hp⟩, hb, ?_⟩
  have q' := q
  simp only [pickB] at q'
  simp [b_l_pick, outI, ioAt, startE, mNil_at, mCons_at, wNil_at, wCons_at, mRd1_at, mBin_at, mBinV_at, mCB_at, mCW_at, mTup_at, mLst_at, oLst_at, mNot_at, mAnd_at, mOr_at, mBl_at, mF_at, vD_at, mTru_at, mIs1_at, mIs2_at, mNotT_at, mSl_at, sIf_at, sRet_at, sRetF_at, sExpr_at, sAsg_at, sOwn_at, sFor_at, wAny_at, wRng1_at, wRng2_at, wEnum_at, wZip_at, oCB_at, oCW_at, mUn_at, mFmt_at, aT_at, ret_at, mIf_at, ite_at, mB_at, sSeq_at, lift_at, mAndT_at, mOrT_at, bind_at, mVar_at, mOwn_at, rdv_at, rds_at, rdN_at, rdC_at, sApp_at, mPop_at, appO_at, sSet_at, putO_at, sRetO_at, sNx_at, loopN_at, oOr_at, oSome_at, oNone_at, sPar, iOwn, iOwnk, iNil, putS, dList, mLine, sDo, noIo, dInt, dLen, hmin, hrng, q',]
end Law

set_option maxRecDepth 100000
set_option maxHeartbeats 1000000
set_option linter.all false
namespace Law
open PySem L2 Mir
def isI (d : D) : Prop := ∃ i, d = .int i
theorem box_ok {xs : List D} {k : Nat} (hx : ∀ d ∈ xs, isI d) (hk : k < xs.length) (hk2 : k < 1000) : ∃ l, outF (b_l_box (startE 3 [.d (.lst xs), .d (.int k)])) = some l ∧ Box 1000000000 l := by
  obtain ⟨i, hi⟩ := hx xs[k] (List.getElem_mem hk)
  have h0 : dIx (.lst xs) (.int k) = some (.int i) := by
    unfold dIx
    simp [atI, ixN, hk, hi]
  have h1 : dLt (.int k) (.int xs.length) = some (.bl true) := by
    unfold dLt
    simp [hk]
  have hs1 : Mir.small64 39373 = true := by decide
  have hs2 : ∀ (p : Prop) [Decidable p], Mir.small64 (if p then 1 else 0) = true := fun p _ => by split <;> decide
  have ex : ∃ a b : Int, outF (b_l_box (startE 3 [.d (.lst xs), .d (.int k)])) = some [.int a, .int b, .int 0] := by
    simp [b_l_box, outF, startE, mNil_at, mCons_at, wNil_at, wCons_at, mRd1_at, mBin_at, mBinV_at, mCB_at, mCW_at, mTup_at, mLst_at, oLst_at, mNot_at, mAnd_at, mOr_at, mBl_at, mF_at, vD_at, mTru_at, mIs1_at, mIs2_at, mNotT_at, mSl_at, sIf_at, sRet_at, sRetF_at, sExpr_at, sAsg_at, sOwn_at, sFor_at, wAny_at, wRng1_at, wRng2_at, wEnum_at, wZip_at, oCB_at, oCW_at, mUn_at, mFmt_at, aT_at, ret_at, mIf_at, ite_at, mB_at, sSeq_at, lift_at, mAndT_at, mOrT_at, bind_at, mVar_at, mOwn_at, rdv_at, rds_at, rdN_at, rdC_at, sApp_at, mPop_at, appO_at, sSet_at, putO_at, sRetO_at, sNx_at, loopN_at, oOr_at, oSome_at, oNone_at, dLen, h0, h1, gSet, noIo, sDo, dAbs, dGe, dPow, dMul, dInt, dMod, dAdd, mLine, hs1, hs2]
  obtain ⟨a, b, he⟩ := ex
  exact ⟨_, he, a, b, 0, rfl, by omega, by omega⟩
abbrev EC (f cs : List D) (a b c : Option D) : Mir.Env := [some (.d (.fz f)), some (.d (.int 3)), some (.ol cs), a.map .d, b.map .d, c.map .d]
def cellG : D → Mir.Env → Option Mir.Env := gTupD 2 (gsCons (gSet 3) (gsCons (gSet 4) (gsNil)))
def cellB : M Out := sSeq (sAsg (mBin dMod (mCB dInt (mCons (mVar 3) (mNil))) (mVar 1)) (gSet 5)) (
  sSet 2 (mBin dAdd (mBinV dIx (mOwn 2) (vD (mVar 5))) (mBin dMul (mVar 4) (mBin dAdd (mVar 3) (M.ret (.int 2))))) (mVar 5))
theorem cell_g {f cs : List D} {a b c : Option D} {x y : D} : cellG (.tup [x, y]) (EC f cs a b c) = some (EC f cs (some x) (some y) c) := by
  cases a <;> cases b <;> rfl
theorem cell_b {f cs : List D} {i : Nat} {v : Int} {c : Option D} (hi : i < 100) (hl : cs.length = 3) (hc : ∀ d ∈ cs, isI d) :
    ∃ cs' c', cellB (EC f cs (some (.int i)) (some (.int v)) c) = .ok .nx (EC f cs' (some (.int i)) (some (.int v)) c') ∧ cs'.length = 3 ∧ ∀ d ∈ cs', isI d := by
  have hm : ∃ j : Nat, (i : Int).fmod 3 = (j : Int) ∧ j < cs.length := by
    obtain ⟨p, q⟩ := fmod_lo (x := (i : Int)) (n := 3) (by omega)
    exact ⟨((i : Int).fmod 3).toNat, by omega, by omega⟩
  obtain ⟨j, hm, hj⟩ := hm
  obtain ⟨w, hw⟩ := hc cs[j] (List.getElem_mem hj)
  have h0 : dIx (.lst cs) (.int (j : Int)) = some (.int w) := by
    unfold dIx
    simp [atI, ixN, hj, hw]
  have hx : ixN cs.length (j : Int) = some j := by
    unfold ixN
    simp [hj]
  have hs : Mir.small64 ((i : Int) + 2) = true := small_of (by omega) (by omega)
  refine ⟨cs.set j (.int (w + v * ((i : Int) + 2))), some (.int (j : Int)), ?_, by simp [hl], fun d hd => ?_⟩
  · cases c <;> simp [cellB, EC, mNil_at, mCons_at, wNil_at, wCons_at, mRd1_at, mBin_at, mBinV_at, mCB_at, mCW_at, mTup_at, mLst_at, oLst_at, mNot_at, mAnd_at, mOr_at, mBl_at, mF_at, vD_at, mTru_at, mIs1_at, mIs2_at, mNotT_at, mSl_at, sIf_at, sRet_at, sRetF_at, sExpr_at, sAsg_at, sOwn_at, sFor_at, wAny_at, wRng1_at, wRng2_at, wEnum_at, wZip_at, oCB_at, oCW_at, mUn_at, mFmt_at, aT_at, ret_at, mIf_at, ite_at, mB_at, sSeq_at, lift_at, mAndT_at, mOrT_at, bind_at, mVar_at, mOwn_at, rdv_at, rds_at, rdN_at, rdC_at, sApp_at, mPop_at, appO_at, sSet_at, putO_at, sRetO_at, sNx_at, loopN_at, oOr_at, oSome_at, oNone_at, dInt, dMod, hm, gSet, noIo, sDo, ownAt, h0, dMul, dAdd, hs, Mir.putAt, hx, setSame]
  · rcases List.mem_or_eq_of_mem_set hd with z | z
    · exact hc d z
    · exact ⟨_, z⟩
theorem cell_loop {f : List D} : ∀ (ds : List D) (n : Nat) (cs : List D) (a b c : Option D), n + ds.length < 100 → cs.length = 3 → (∀ d ∈ cs, isI d) → (∀ d ∈ ds, isI d) →
    ∃ cs' a' b' c', mLoop cellG cellB (pairs n ds) (EC f cs a b c) = .ok .nx (EC f cs' a' b' c') ∧ cs'.length = 3 ∧ ∀ d ∈ cs', isI d
  | [], n, cs, a, b, c, _, h1, h2, _ => ⟨cs, a, b, c, rfl, h1, h2⟩
  | d :: ds, n, cs, a, b, c, hn, h1, h2, h3 => by
    rw [List.length_cons] at hn
    obtain ⟨v, rfl⟩ := h3 d List.mem_cons_self
    obtain ⟨cs1, c1, q1, l1, i1⟩ := cell_b (f := f) (i := n) (v := v) (c := c) (by omega) h1 h2
    obtain ⟨cs2, a2, b2, c2, q2, l2, i2⟩ := cell_loop ds (n + 1) cs1 (some (.int n)) (some (.int v)) c1 (by omega) l1 i1 fun d hd => h3 d (List.mem_cons_of_mem _ hd)
    refine ⟨cs2, a2, b2, c2, ?_, l2, i2⟩
    show mLoop cellG cellB (.tup [.int n, .int v] :: pairs (n + 1) ds) _ = _
    rw [loopC_at cell_g q1]
    exact q2
theorem cells_ok {xs : List D} (hx : ∀ d ∈ xs, isI d) (hl : xs.length ≤ 63) : ∃ cs, outD (b_l_cells (startE 6 [.d (.fz xs), .d (.int 3)])) = some (.lst cs) ∧ cs.length ≤ 3 ∧ 0 < cs.length ∧ ∀ d ∈ cs, isI d := by
  have hc : cutD xs none (some 3) = xs.take 3 := by
    simp [cutD, HT.sIx, List.take_eq_take_iff]
  have hc2 : cutD xs (some 3) (some 63) = xs.drop 3 := by
    simp [cutD, HT.sIx]
    rcases Nat.le_total 3 xs.length with z | z
    · rw [Nat.min_eq_left z, Nat.min_eq_right (by omega : xs.length ≤ 63), List.take_of_length_le (by simp)]
    · rw [Nat.min_eq_right z, List.drop_of_length_le (Nat.le_refl _), List.drop_of_length_le z, List.take_nil]
  have key : ∃ cs0 : List D, (oOr (oCB dList (mCons (mSl (vD (mVar 0)) (oNone) (oSome (mVar 1))) (mNil))) (oLst (mCons (M.ret (.int 0)) (mNil)))) (startE 6 [.d (.fz xs), .d (.int 3)]) = .ok cs0 (startE 6 [.d (.fz xs), .d (.int 3)]) ∧ cs0.length ≤ 3 ∧ 0 < cs0.length ∧ (∀ d ∈ cs0, isI d) ∧ (3 < xs.length → cs0.length = 3) := by
    cases xs with
    | nil => exact ⟨[.int 0], rfl, by simp, by simp, by simp [isI], by simp⟩
    | cons x r =>
      refine ⟨(x :: r).take 3, ?_, by simp; omega, by simp, fun d hd => hx d (List.mem_of_mem_take hd), by simp; omega⟩
      simp [startE, mNil_at, mCons_at, wNil_at, wCons_at, mRd1_at, mBin_at, mBinV_at, mCB_at, mCW_at, mTup_at, mLst_at, oLst_at, mNot_at, mAnd_at, mOr_at, mBl_at, mF_at, vD_at, mTru_at, mIs1_at, mIs2_at, mNotT_at, mSl_at, sIf_at, sRet_at, sRetF_at, sExpr_at, sAsg_at, sOwn_at, sFor_at, wAny_at, wRng1_at, wRng2_at, wEnum_at, wZip_at, oCB_at, oCW_at, mUn_at, mFmt_at, aT_at, ret_at, mIf_at, ite_at, mB_at, sSeq_at, lift_at, mAndT_at, mOrT_at, bind_at, mVar_at, mOwn_at, rdv_at, rds_at, rdN_at, rdC_at, sApp_at, mPop_at, appO_at, sSet_at, putO_at, sRetO_at, sNx_at, loopN_at, oOr_at, oSome_at, oNone_at, dSl, hc, dList]
  obtain ⟨cs0, q0, l0, l1, i0, l3⟩ := key
  have fin : ∃ cs a b c, mLoop cellG cellB (pairs 0 (xs.drop 3)) (EC xs cs0 none none none) = .ok .nx (EC xs cs a b c) ∧ cs.length ≤ 3 ∧ 0 < cs.length ∧ ∀ d ∈ cs, isI d := by
    by_cases h : 3 < xs.length
    · obtain ⟨cs, a, b, c, q, l, i⟩ := cell_loop (f := xs) (xs.drop 3) 0 cs0 none none none (by simp; omega) (l3 h) i0 fun d hd => hx d (List.mem_of_mem_drop hd)
      exact ⟨cs, a, b, c, q, by omega, by omega, i⟩
    · rw [List.drop_of_length_le (by omega)]
      exact ⟨cs0, none, none, none, rfl, l0, l1, i0⟩
  obtain ⟨cs, a, b, c, q, m1, m2, m3⟩ := fin
  refine ⟨cs, ?_, m1, m2, m3⟩
  unfold cellG cellB at q
  simp [startE] at q0
  simp only [EC, Option.map] at q
  simp [b_l_cells, outD, startE, mNil_at, mCons_at, wNil_at, wCons_at, mRd1_at, mBin_at, mBinV_at, mCB_at, mCW_at, mTup_at, mLst_at, oLst_at, mNot_at, mAnd_at, mOr_at, mBl_at, mF_at, vD_at, mTru_at, mIs1_at, mIs2_at, mNotT_at, mSl_at, sIf_at, sRet_at, sRetF_at, sExpr_at, sAsg_at, sOwn_at, sFor_at, wAny_at, wRng1_at, wRng2_at, wEnum_at, wZip_at, oCB_at, oCW_at, mUn_at, mFmt_at, aT_at, ret_at, mIf_at, ite_at, mB_at, sSeq_at, lift_at, mAndT_at, mOrT_at, bind_at, mVar_at, mOwn_at, rdv_at, rds_at, rdN_at, rdC_at, sApp_at, mPop_at, appO_at, sSet_at, putO_at, sRetO_at, sNx_at, loopN_at, oOr_at, oSome_at, oNone_at, ↓q0, noIo, dSl, hc2, dEnum, ↓q]
end Law

set_option maxRecDepth 100000
set_option maxHeartbeats 1000000
set_option linter.all false
namespace Mir
open PySem L2
theorem toPys_strs : ∀ ss : List Str, toPys (ss.map .str) = some (ss.map .str)
  | [] => rfl
  | s :: ss => by
    have q := toPys_strs ss
    simp [toPys, toPy, q]
theorem okSort_strs (ss : List Str) : okSort (ss.map .str) = true := by
  unfold okSort alikeB
  simp [List.all_eq_true, PySem.W.alike, noTup, shallow, PyData.depth]
def leS (a b : Str) : Bool := decide (a.cps.toList ≤ b.cps.toList)
theorem zip_two {α β γ : Type} (f : α → β) (g : α → γ) : ∀ l : List α, (l.map f).zip (l.map g) = l.map fun a => (f a, g a)
  | [] => rfl
  | a :: l => congrArg ((f a, g a) :: ·) (zip_two f g l)
theorem sortD_strs (ss : List Str) : sortD (ss.map .str) (ss.map .str) = (ss.mergeSort leS).map .str := by
  unfold sortD
  rw [zip_two, ← PySem.W.sort_maps (r := leS) (s := leD) (fun s : Str => (D.str s, PyData.str s)) (fun a _ b _ => ?_), List.map_map]
  · rfl
  · exact (congrFun (congrFun (PySem.W.dataLe_str (β := Str) id) a) b).symm
theorem leS_trans (a b c : Str) (h : leS a b = true) (k : leS b c = true) : leS a c = true := decide_eq_true (List.le_trans (of_decide_eq_true h) (of_decide_eq_true k))
theorem leS_total (a b : Str) : (leS a b || leS b a) = true := by
  rcases List.le_total a.cps.toList b.cps.toList with h | h <;> simp [leS, h]
theorem str_ext {a b : Str} (h : a.cps.toList = b.cps.toList) : a = b := by
  cases a; cases b; simp at h; rw [h]
/-- what sorted makes of texts without two alike -/
theorem sorted_strs {ss : List Str} (hn : ss.Nodup) : ∃ ts : List Str, dSorted [.lst (ss.map .str)] = some (ts.map .str) ∧ ts.Perm ss ∧ ts.Pairwise (fun a b => ltStr a b = true) := by
  refine ⟨ss.mergeSort leS, ?_, List.mergeSort_perm ss leS, ?_⟩
  · show (toPys (ss.map .str)).bind _ = _
    rw [toPys_strs ss]
    show (if okSort (ss.map .str) = true then some (sortD (ss.map .str) (ss.map .str)) else none) = _
    rw [okSort_strs, if_pos rfl, sortD_strs]
  · have h1 := List.pairwise_mergeSort leS_trans leS_total ss
    have h2 : (ss.mergeSort leS).Nodup := (List.mergeSort_perm ss leS).nodup_iff.mpr hn
    refine (h1.and h2).imp fun {a b} ⟨p, q⟩ => decide_eq_true ?_
    have p' : a.cps.toList ≤ b.cps.toList := of_decide_eq_true p
    by_cases z : a.cps.toList < b.cps.toList
    · exact z
    · exact absurd (str_ext (List.le_antisymm p' (List.not_lt.mp z))) q
abbrev pD (p : Str × Str) : D := .tup [.str p.1, .str p.2]
abbrev pP (p : Str × Str) : PyData := .tuple [.str p.1, .str p.2]
def ltP (p q : Str × Str) : Bool := if p.1 = q.1 then ltStr p.2 q.2 else ltStr p.1 q.1
def leP2 (p q : Str × Str) : Bool := !ltP q p
theorem ltS_co {a b c : Str} (h : ltStr a c = true) : ltStr a b = true ∨ ltStr b c = true := by
  have h : a.cps.toList < c.cps.toList := of_decide_eq_true h
  by_cases z : a.cps.toList < b.cps.toList
  · exact .inl (decide_eq_true z)
  · exact .inr (decide_eq_true (List.lt_of_le_of_lt (List.not_lt.mp z) h))
theorem ltS_irr (a : Str) : ltStr a a = false := decide_eq_false (List.lt_irrefl _)
theorem ltS_asym {a b : Str} (h : ltStr a b = true) : ltStr b a = false := decide_eq_false (List.lt_asymm (of_decide_eq_true h))
theorem ltS_tri {a b : Str} (h : a ≠ b) : ltStr a b = true ∨ ltStr b a = true := by
  by_cases z : a.cps.toList < b.cps.toList
  · exact .inl (decide_eq_true z)
  · by_cases y : b.cps.toList < a.cps.toList
    · exact .inr (decide_eq_true y)
    · exact absurd (str_ext (List.le_antisymm (List.not_lt.mp y) (List.not_lt.mp z))) h
theorem ltP_asym {p q : Str × Str} (h : ltP p q = true) : ltP q p = false := by
  unfold ltP at h ⊢
  by_cases e : p.1 = q.1
  · rw [if_pos e] at h
    rw [if_pos e.symm]
    exact ltS_asym h
  · rw [if_neg e] at h
    rw [if_neg fun z => e z.symm]
    exact ltS_asym h
theorem ltP_co {a b c : Str × Str} (h : ltP a c = true) : ltP a b = true ∨ ltP b c = true := by
  unfold ltP at h ⊢
  by_cases e : a.1 = c.1
  · rw [if_pos e] at h
    by_cases f : a.1 = b.1
    · rw [if_pos f, if_pos (f.symm.trans e)]
      exact ltS_co h
    · rw [if_neg f, if_neg fun z => f (e.trans z.symm), ← e]
      exact ltS_tri f
  · rw [if_neg e] at h
    by_cases f : a.1 = b.1
    · rw [if_pos f, if_neg fun z => e (f.trans z), ← f]
      exact .inr h
    · rw [if_neg f]
      by_cases g : b.1 = c.1
      · rw [if_pos g, g]
        exact .inl h
      · rw [if_neg g]
        exact ltS_co h
theorem ltP_tri {p q : Str × Str} (h : p ≠ q) : ltP p q = true ∨ ltP q p = true := by
  unfold ltP
  by_cases e : p.1 = q.1
  · rw [if_pos e, if_pos e.symm]
    exact ltS_tri fun z => h (Prod.ext e z)
  · rw [if_neg e, if_neg fun z => e z.symm]
    exact ltS_tri e
theorem leP2_trans (a b c : Str × Str) (h : leP2 a b = true) (k : leP2 b c = true) : leP2 a c = true := by
  unfold leP2 at *
  cases z : ltP c a with
  | false => rfl
  | true =>
    rcases ltP_co (b := b) z with y | y
    · rw [y] at k; cases k
    · rw [y] at h; cases h
theorem leP2_total (a b : Str × Str) : (leP2 a b || leP2 b a) = true := by
  unfold leP2
  cases z : ltP b a with
  | false => rfl
  | true => rw [ltP_asym z]; rfl
theorem toPys_prs : ∀ ps : List (Str × Str), toPys (ps.map pD) = some (ps.map pP)
  | [] => rfl
  | p :: ps => by simp [toPys, toPy, toPys_prs ps]
theorem okSort_prs (ps : List (Str × Str)) : okSort (ps.map pP) = true := by
  unfold okSort alikeB
  simp [List.all_eq_true, PySem.W.alike, PySem.W.alikeAll, tupHead, shallow, PyData.depth, PyData.depthAll]
theorem dataLt_prs (p q : Str × Str) : PySem.W.dataLt (pP p) (pP q) = ltP p q := by
  unfold pP
  rw [PySem.W.dataLt_pair (by simp [PySem.W.alike]) (by simp [PySem.W.alike]), PySem.W.dataLt_str, PySem.W.dataLt_str]
  unfold ltP ltStr
  simp only [PyData.eqv, beq_iff_eq]
  by_cases e : p.1 = q.1
  · rw [if_pos e, if_pos e]
    by_cases f : p.2 = q.2
    · rw [if_pos f, f]
      exact (decide_eq_false (List.lt_irrefl _)).symm
    · rw [if_neg f]
  · rw [if_neg e, if_neg e]
theorem sortD_prs (ps : List (Str × Str)) : sortD (ps.map pD) (ps.map pP) = (ps.mergeSort leP2).map pD := by
  unfold sortD
  rw [zip_two, ← PySem.W.sort_maps (r := leP2) (s := leD) (fun p : Str × Str => (pD p, pP p)) (fun a _ b _ => ?_), List.map_map]
  · rfl
  · show (!ltP b a) = !PySem.W.dataLt (pP b) (pP a)
    rw [dataLt_prs]
theorem sorted_prs {ps : List (Str × Str)} (hn : ps.Nodup) : ∃ ts : List (Str × Str), dSorted [.lst (ps.map pD)] = some (ts.map pD) ∧ ts.Perm ps ∧ ts.Pairwise (fun a b => ltP a b = true) := by
  refine ⟨ps.mergeSort leP2, ?_, List.mergeSort_perm ps leP2, ?_⟩
  · show (toPys (ps.map pD)).bind _ = _
    rw [toPys_prs ps]
    show (if okSort (ps.map pP) = true then some (sortD (ps.map pD) (ps.map pP)) else none) = _
    rw [okSort_prs, if_pos rfl, sortD_prs]
  · have h1 := List.pairwise_mergeSort leP2_trans leP2_total ps
    have h2 : (ps.mergeSort leP2).Nodup := (List.mergeSort_perm ps leP2).nodup_iff.mpr hn
    refine (h1.and h2).imp fun {a b} ⟨p, q⟩ => ?_
    rcases ltP_tri q with z | z
    · exact z
    · unfold leP2 at p
      rw [z] at p
      cases p
end Mir

set_option maxRecDepth 100000
set_option maxHeartbeats 1000000
set_option linter.all false
namespace Law
open PySem L2 Mir
abbrev oS (s : String) : Str := PySem.Str.ofString s
def LISTS : List (List Str) := [[oS "a", oS "ab", oS "b", oS "c", oS "x", oS "y"], [oS "begin", oS "end", oS "for", oS "of", oS "on", oS "to"], [oS "abcdefgh", oS "abcdefgi", oS "p", oS "q", oS "z", oS "zz"]]
abbrev LD : D := .lst [.lst [.str (oS "a"), .str (oS "ab"), .str (oS "b"), .str (oS "c"), .str (oS "x"), .str (oS "y")], .lst [.str (oS "begin"), .str (oS "end"), .str (oS "for"), .str (oS "of"), .str (oS "on"), .str (oS "to")], .lst [.str (oS "abcdefgh"), .str (oS "abcdefgi"), .str (oS "p"), .str (oS "q"), .str (oS "z"), .str (oS "zz")]]
theorem lists_nd : LISTS.all (fun l => decide l.Nodup && decide (l.length = 6)) = true := by decide +kernel
structure GoodSteps (ss : List Str) : Prop where
  asc : ss.Pairwise fun a b => ltStr a b = true
  len : ss.length ≤ 6
  mem : ∃ l ∈ LISTS, ∀ s ∈ ss, s ∈ l
theorem map_perm_str {ds : List D} {ss : List Str} (h : ∀ d ∈ ds, d ∈ ss.map D.str) : ∃ ts : List Str, ds = ts.map .str := by
  induction ds with
  | nil => exact ⟨[], rfl⟩
  | cons d ds ih =>
    obtain ⟨ts, ht⟩ := ih fun x hx => h x (List.mem_cons_of_mem _ hx)
    obtain ⟨s, _, hs⟩ := List.mem_map.mp (h d List.mem_cons_self)
    exact ⟨s :: ts, by rw [ht, ← hs]; rfl⟩
theorem str_inj : Function.Injective D.str := fun a b h => by cases h; rfl
theorem steps_ok {n : Nat} : Draws b_l_steps 3 [.int 6] (n + 8) n (fun d => ∃ ss, d = .tup (ss.map .str) ∧ GoodSteps ss) := fun l hl => by
  obtain ⟨d1, l1, m1, hb1, he1⟩ := of_ok (n := n + 7) (xs := [.lst [.str (oS "a"), .str (oS "ab"), .str (oS "b"), .str (oS "c"), .str (oS "x"), .str (oS "y")], .lst [.str (oS "begin"), .str (oS "end"), .str (oS "for"), .str (oS "of"), .str (oS "on"), .str (oS "to")], .lst [.str (oS "abcdefgh"), .str (oS "abcdefgi"), .str (oS "p"), .str (oS "q"), .str (oS "z"), .str (oS "zz")]]) (by simp) (by simp) l hl
  have q1 : mCallI b_l_of 2 2 0 (mCons (mVar 2) (mNil)) [some (Sl.io l), some (.d (.int 6)), some (.d LD)] = .ok d1 [some (Sl.io l1), some (.d (.int 6)), some (.d LD)] :=
    callI_of (b := b_l_of) (n := 2) (np := 2) (j := 0) (a := mCons (mVar 2) (mNil)) (e := [some (Sl.io l), some (.d (.int 6)), some (.d LD)]) rfl rfl rfl rfl he1
  obtain ⟨d2, l2, ⟨r, rfl, r1, r2⟩, hb2, he2⟩ := take_ok (n := n + 6) (k := 7) (by omega) (by omega) l1 hb1
  have q2 : mCallI b_l_take 6 2 0 (mCons (mBin dAdd (mVar 1) (M.ret (.int 1))) (mNil)) [some (Sl.io l1), some (.d (.int 6)), some (.d LD)] = .ok (.int r) [some (Sl.io l2), some (.d (.int 6)), some (.d LD)] :=
    callI_of (b := b_l_take) (n := 6) (np := 2) (j := 0) (a := mCons (mBin dAdd (mVar 1) (M.ret (.int 1))) (mNil)) (e := [some (Sl.io l1), some (.d (.int 6)), some (.d LD)]) rfl rfl rfl rfl he2
  have hL : ∃ L ∈ LISTS, d1 = .lst (L.map .str) ∧ L.Nodup ∧ L.length = 6 := by
    have ha := List.all_eq_true.mp lists_nd
    have hm : d1 ∈ LISTS.map fun L => D.lst (L.map .str) := m1
    obtain ⟨L, h1, h2⟩ := List.mem_map.mp hm
    have := ha L h1
    simp only [Bool.and_eq_true, decide_eq_true_eq] at this
    exact ⟨L, h1, h2.symm, this.1, this.2⟩
  obtain ⟨L, hL1, rfl, hL2, hL3⟩ := hL
  obtain ⟨d3, l3, ⟨got, rest, rfl, g1, g2⟩, hb3, he3⟩ := pick_ok (n := n) (xs := L.map .str) (k := r) (by simp; omega) r1 (by omega) l2 (hb2.mono (by simp [hL3]; omega))
  have q3 : mCallI b_l_pick 6 3 0 (mCons (mCallI b_l_of 2 2 0 (mCons (mVar 2) (mNil))) (mCons (mCallI b_l_take 6 2 0 (mCons (mBin dAdd (mVar 1) (M.ret (.int 1))) (mNil))) (mNil))) [some (Sl.io l), some (.d (.int 6)), some (.d LD)] = .ok (.lst got) [some (Sl.io l3), some (.d (.int 6)), some (.d LD)] := by
    refine callI_of (b := b_l_pick) (n := 6) (np := 3) (j := 0) (e := [some (Sl.io l), some (.d (.int 6)), some (.d LD)]) (e1 := [some (Sl.io l2), some (.d (.int 6)), some (.d LD)]) (xs0 := l) (xs := l2) (ds := [.lst (L.map .str), .int r]) rfl ?_ rfl rfl he3
    simp only [mCons_at, aT_at, ↓q1, ↓q2, mNil_at, ret_at]
  obtain ⟨gs, rfl⟩ := map_perm_str (ds := got) (ss := L) fun d hd => (g2.mem_iff).mp (List.mem_append_left _ hd)
  have gn : gs.Nodup := by
    have : (gs.map D.str ++ rest).Nodup := g2.nodup_iff.mpr (hL2.map D.str fun a b h k => h (str_inj k))
    exact List.Pairwise.of_map D.str (fun a b h k => h (congrArg D.str k)) (List.nodup_append.mp this).1
  obtain ⟨ts, t1, t2, t3⟩ := sorted_strs gn
  have t4 : ts.length ≤ 6 := by
    have := t2.length_eq
    simp only [List.length_map] at g1
    omega
  refine ⟨.tup (ts.map .str), l3, ⟨ts, rfl, t3, t4, L, hL1, fun s hs => ?_⟩, hb3, ?_⟩
  · have : D.str s ∈ L.map D.str := (g2.mem_iff).mp (List.mem_append_left _ (List.mem_map_of_mem (t2.mem_iff.mp hs)))
    obtain ⟨y, hy, e⟩ := List.mem_map.mp this
    exact str_inj e ▸ hy
  · have hm : mLine ts.length = true := decide_eq_true (by omega)
    simp [b_l_steps, outI, ioAt, startE, mNil_at, mCons_at, wNil_at, wCons_at, mRd1_at, mBin_at, mBinV_at, mCB_at, mCW_at, mTup_at, mLst_at, oLst_at, mNot_at, mAnd_at, mOr_at, mBl_at, mF_at, vD_at, mTru_at, mIs1_at, mIs2_at, mNotT_at, mSl_at, sIf_at, sRet_at, sRetF_at, sExpr_at, sAsg_at, sOwn_at, sFor_at, wAny_at, wRng1_at, wRng2_at, wEnum_at, wZip_at, oCB_at, oCW_at, mUn_at, mFmt_at, aT_at, ret_at, mIf_at, ite_at, mB_at, sSeq_at, lift_at, mAndT_at, mOrT_at, bind_at, mVar_at, mOwn_at, rdv_at, rds_at, rdN_at, rdC_at, sApp_at, mPop_at, appO_at, sSet_at, putO_at, sRetO_at, sNx_at, loopN_at, oOr_at, oSome_at, oNone_at, mLine, dAdd, gSet, noIo, sDo, ↓q3, t1, dTupleB, dTuple, show ts.length ≤ 100000 by omega]
end Law

set_option maxRecDepth 100000
set_option maxHeartbeats 1000000
set_option linter.all false
namespace Mir
open PySem L2
theorem loop_from {g : D → Mir.Env → Option Mir.Env} {b : M Out} {N : Nat} (I : Nat → Mir.Env → Prop) (step : ∀ j e, j < N → I j e → ∃ e1 e2, g (.int j) e = some e1 ∧ b e1 = .ok .nx e2 ∧ I (j + 1) e2) :
    ∀ (n s : Nat) (e : Mir.Env), s + n = N → I s e → ∃ e', mLoop g b ((List.range' s n).map fun (i : Nat) => D.int (0 + (i : Int))) e = .ok .nx e' ∧ I N e'
  | 0, s, e, h, i => ⟨e, rfl, by rw [← h]; exact i⟩
  | n + 1, s, e, h, i => by
    obtain ⟨e1, e2, h1, h2, h3⟩ := step s e (by omega) i
    obtain ⟨e', q, r⟩ := loop_from I step n (s + 1) e2 (by omega) h3
    refine ⟨e', ?_, r⟩
    rw [List.range'_succ, List.map_cons]
    have h1' : g (.int (0 + (s : Int))) e = some e1 := by rw [Int.zero_add]; exact h1
    rw [loopC_at h1' h2]
    exact q
theorem loop_ints {g : D → Mir.Env → Option Mir.Env} {b : M Out} {N : Nat} {e : Mir.Env} (I : Nat → Mir.Env → Prop) (h0 : I 0 e) (step : ∀ j e, j < N → I j e → ∃ e1 e2, g (.int j) e = some e1 ∧ b e1 = .ok .nx e2 ∧ I (j + 1) e2) :
    ∃ e', mLoop g b (intsD 0 N) e = .ok .nx e' ∧ I N e' := by
  have := loop_from I step N 0 e (by omega) h0
  unfold intsD
  rw [List.range_eq_range']
  exact this
theorem sFor_ok {w : M (List D)} {g : D → Mir.Env → Option Mir.Env} {b : M Out} {e e1 : Mir.Env} {ds : List D} {r : R Out} (hw : w e = .ok ds e1) (q : mLoop g b ds e1 = r) : sFor w g b e = r := by
  show M.andThen w (mLoop g b) e = _
  unfold M.andThen
  rw [hw]
  exact q
theorem sm62 {i : Nat} (h : i < 1000000) : small62 (i : Int) = true := by unfold small62; simp; omega
theorem rng_ok {m : M (List D)} {e e1 : Mir.Env} {i : Nat} (h : m e = .ok [.int (i : Int)] e1) (hi : i < 1000000) : wRng1 m e = .ok (intsD 0 i) e1 := by
  have hrng : dRng1 [.int (i : Int)] = some (intsD 0 i) := by
    unfold dRng1
    simp only [sm62 hi, if_true, Int.toNat_natCast]
  show M.andThen m (fun d => M.lift (dRng1 d)) e = _
  unfold M.andThen
  rw [h]
  dsimp only
  rw [hrng]
  rfl
theorem eq_ints (r k : Int) : dEq (.int r) (.int k) = some (.bl (decide (r = k))) := by
  simp [dEq, eqD, toPy, SeqAt.shaped, PyData.canLay0, PyData.depth, PyData.eqv]
  rfl
end Mir
namespace Law
open PySem L2 Mir
abbrev EW8 (l : List D) (st i p : D) (rs ws : List D) (j r : Option D) : Mir.Env := [some (.io l), some (.d st), some (.d i), some (.d p), some (.d (.lst rs)), some (.d (.lst ws)), j.map .d, r.map .d]
def webB : M Out := (sSeq (sAsg (mCallI b_l_take 6 2 0 (mCons (M.ret (.int 4)) (mNil))) (gSet 7)) (
  sSeq (sAsg (mBin dAdd (mVar 4) (mBin dMul (mLst (mCons (mTup (mCons (mBin dIx (mVar 3) (mVar 6)) (mCons (mBin dIx (mVar 3) (mVar 2)) (mNil)))) (mNil))) (mCB dInt (mCons (mBin dEq (mVar 7) (M.ret (.int 0))) (mNil))))) (gSet 4)) (
  sAsg (mBin dAdd (mVar 5) (mBin dMul (mLst (mCons (mTup (mCons (mBin dIx (mVar 3) (mVar 6)) (mCons (mBin dIx (mVar 3) (mVar 2)) (mNil)))) (mNil))) (mCB dInt (mCons (mBin dEq (mVar 7) (M.ret (.int 1))) (mNil))))) (gSet 5))))
theorem web_b {n : Nat} {l : List D} {st : D} {i j : Nat} {p : List D} {rs ws : List D} {r : Option D} (hl : Box (n + 1) l) (hi : i < p.length) (hj : j < p.length) (hr : rs.length < 1000) (hw : ws.length < 1000) :
    ∃ l' rs' ws' r', webB (EW8 l st (.int i) (.lst p) rs ws (some (.int j)) r) = .ok .nx (EW8 l' st (.int i) (.lst p) rs' ws' (some (.int j)) r') ∧ Box n l' ∧ (rs' = rs ∨ rs' = rs ++ [.tup [p[j], p[i]]]) ∧ (ws' = ws ∨ ws' = ws ++ [.tup [p[j], p[i]]]) := by
  obtain ⟨d, l1, ⟨k, rfl, r1, r2⟩, hb, he⟩ := take_ok (n := n) (k := 4) (by omega) (by omega) l hl
  have q : mCallI b_l_take 6 2 0 (mCons (M.ret (.int 4)) (mNil)) (EW8 l st (.int i) (.lst p) rs ws (some (.int j)) r) = .ok (.int k) (EW8 l1 st (.int i) (.lst p) rs ws (some (.int j)) r) :=
    callI_of (b := b_l_take) (n := 6) (np := 2) (j := 0) (a := mCons (M.ret (.int 4)) (mNil)) (e := EW8 l st (.int i) (.lst p) rs ws (some (.int j)) r) rfl rfl rfl rfl he
  have hi' : dIx (.lst p) (.int (i : Int)) = some p[i] := by
    unfold dIx
    simp [atI, ixN, hi]
  have hj' : dIx (.lst p) (.int (j : Int)) = some p[j] := by
    unfold dIx
    simp [atI, ixN, hj]
  have hm1 : rs.length + 1 ≤ 100000 := by omega
  have hm2 : ws.length + 1 ≤ 100000 := by omega
  have hm3 : rs.length ≤ 100000 := by omega
  have hm4 : ws.length ≤ 100000 := by omega
  refine ⟨l1, rs ++ (if k = 0 then [.tup [p[j], p[i]]] else []), ws ++ (if k = 1 then [.tup [p[j], p[i]]] else []), some (.int k), ?_, hb, ?_, ?_⟩
  · simp only [EW8, Option.map] at q
    cases r <;> by_cases h0 : k = 0 <;> by_cases h1 : k = 1 <;> simp [webB, EW8, mNil_at, mCons_at, wNil_at, wCons_at, mRd1_at, mBin_at, mBinV_at, mCB_at, mCW_at, mTup_at, mLst_at, oLst_at, mNot_at, mAnd_at, mOr_at, mBl_at, mF_at, vD_at, mTru_at, mIs1_at, mIs2_at, mNotT_at, mSl_at, sIf_at, sRet_at, sRetF_at, sExpr_at, sAsg_at, sOwn_at, sFor_at, wAny_at, wRng1_at, wRng2_at, wEnum_at, wZip_at, oCB_at, oCW_at, mUn_at, mFmt_at, aT_at, ret_at, mIf_at, ite_at, mB_at, sSeq_at, lift_at, mAndT_at, mOrT_at, bind_at, mVar_at, mOwn_at, rdv_at, rds_at, rdN_at, rdC_at, sApp_at, mPop_at, appO_at, sSet_at, putO_at, sRetO_at, sNx_at, loopN_at, oOr_at, oSome_at, oNone_at, ↓q, gSet, noIo, sDo, hi', hj', eq_ints, h0, h1, dInt, dMul, mLine, repD, dAdd, hm1, hm2, hm3, hm4]
  · split
    · exact .inr rfl
    · exact .inl (List.append_nil _)
  · split
    · exact .inr rfl
    · exact .inl (List.append_nil _)
end Law

set_option maxRecDepth 100000
set_option maxHeartbeats 1000000
set_option linter.all false
namespace Law
open PySem L2 Mir
def RInv (p : List Str) (i j : Nat) (rs : List D) : Prop := ∃ ps : List (Str × Str), rs = ps.map pD ∧ ps.Nodup ∧ (∀ x ∈ ps, ∃ i' j', j' < i' ∧ (i' < i ∨ (i' = i ∧ j' < j)) ∧ p[j']? = some x.1 ∧ p[i']? = some x.2) ∧ ps.length ≤ 6 * i + j
theorem nd_get {p : List Str} (h : p.Nodup) {a b : Nat} {x : Str} (ha : p[a]? = some x) (hb : p[b]? = some x) : a = b := by
  obtain ⟨h1, e1⟩ := List.getElem?_eq_some_iff.mp ha
  obtain ⟨h2, e2⟩ := List.getElem?_eq_some_iff.mp hb
  by_cases z : a = b
  · exact z
  · exfalso
    have pw := List.pairwise_iff_getElem.mp h
    rcases Nat.lt_or_gt_of_ne z with y | y
    · exact pw a b h1 h2 y (e1.trans e2.symm)
    · exact pw b a h2 h1 y (e2.trans e1.symm)
theorem RInv.same {p : List Str} {i j : Nat} {rs : List D} (h : RInv p i j rs) : RInv p i (j + 1) rs := by
  obtain ⟨ps, h1, h2, h3, h4⟩ := h
  refine ⟨ps, h1, h2, fun x hx => ?_, by omega⟩
  obtain ⟨a, b, q1, q2, q3, q4⟩ := h3 x hx
  exact ⟨a, b, q1, by omega, q3, q4⟩
theorem RInv.more {p : List Str} {i j : Nat} {rs : List D} (h : RInv p i j rs) (hp : p.Nodup) (hi : i < p.length) (hj : j < i) : RInv p i (j + 1) (rs ++ [.tup [.str (p[j]'(by omega)), .str p[i]]]) := by
  have hj' : j < p.length := by omega
  obtain ⟨ps, rfl, h2, h3, h4⟩ := h
  refine ⟨ps ++ [(p[j], p[i])], by simp, ?_, fun x hx => ?_, by simp; omega⟩
  · rw [List.nodup_append]
    refine ⟨h2, by simp, fun a ha b hb e => ?_⟩
    rw [List.mem_singleton] at hb
    subst e
    subst hb
    obtain ⟨a, b, q1, q2, q3, q4⟩ := h3 _ ha
    have e1 := nd_get hp q3 (List.getElem?_eq_getElem hj')
    have e2 := nd_get hp q4 (List.getElem?_eq_getElem hi)
    omega
  · rcases List.mem_append.mp hx with z | z
    · obtain ⟨a, b, q1, q2, q3, q4⟩ := h3 x z
      exact ⟨a, b, q1, by omega, q3, q4⟩
    · rw [List.mem_singleton] at z
      subst z
      exact ⟨i, j, hj, by omega, List.getElem?_eq_getElem hj', List.getElem?_eq_getElem hi⟩
theorem RInv.next {p : List Str} {i : Nat} {rs : List D} (h : RInv p i i rs) (hi : i ≤ 6) : RInv p (i + 1) 0 rs := by
  obtain ⟨ps, h1, h2, h3, h4⟩ := h
  refine ⟨ps, h1, h2, fun x hx => ?_, by omega⟩
  obtain ⟨a, b, q1, q2, q3, q4⟩ := h3 x hx
  exact ⟨a, b, q1, by omega, q3, q4⟩
/-- where the walk over i and j stands -/
def WI (n : Nat) (st : D) (p : List Str) (i j : Nat) (e : Mir.Env) : Prop := ∃ l rs ws a b, e = EW8 l st (.int i) (.lst (p.map .str)) rs ws a b ∧ Box (n + 43 - (6 * i + j)) l ∧ RInv p i j rs ∧ RInv p i j ws
theorem RInv.len {p : List Str} {i j : Nat} {rs : List D} (h : RInv p i j rs) : rs.length ≤ 6 * i + j := by
  obtain ⟨ps, rfl, _, _, h⟩ := h
  simpa using h
theorem web_in {n : Nat} {st : D} {p : List Str} {i : Nat} {e : Mir.Env} (hp : p.Nodup) (hl : p.length ≤ 6) (hi : i < p.length) (h : WI n st p i 0 e) : ∃ e', (sFor (wRng1 (mCons (mVar 2) (mNil))) (gSet 6) webB) e = .ok .nx e' ∧ WI n st p i i e' := by
  obtain ⟨l, rs, ws, a, b, rfl, hb, h1, h2⟩ := h
  have q := loop_ints (g := gSet 6) (b := webB) (N := i) (e := EW8 l st (.int i) (.lst (p.map .str)) rs ws a b) (fun j e => WI n st p i j e) ⟨l, rs, ws, a, b, rfl, hb, h1, h2⟩ fun j e hj hw => by
    obtain ⟨l, rs, ws, a, b, rfl, hb, h1, h2⟩ := hw
    have k1 := h1.len
    have k2 := h2.len
    obtain ⟨l', rs', ws', r', q, hb', o1, o2⟩ := web_b (n := n + 43 - (6 * i + (j + 1))) (l := l) (st := st) (i := i) (j := j) (p := p.map .str) (rs := rs) (ws := ws) (r := b) (by rw [show n + 43 - (6 * i + (j + 1)) + 1 = n + 43 - (6 * i + j) by omega]; exact hb) (by simpa using hi) (by simp; omega) (by omega) (by omega)
    refine ⟨EW8 l st (.int i) (.lst (p.map .str)) rs ws (some (.int j)) b, _, ?_, q, l', rs', ws', _, r', rfl, hb', ?_, ?_⟩
    · cases a <;> cases b <;> rfl
    · rcases o1 with z | z
      · rw [z]; exact h1.same
      · rw [z]
        simpa using h1.more hp hi hj
    · rcases o2 with z | z
      · rw [z]; exact h2.same
      · rw [z]
        simpa using h2.more hp hi hj
  obtain ⟨e', q, r⟩ := q
  exact ⟨e', sFor_ok (rng_ok (m := mCons (mVar 2) (mNil)) rfl (by omega)) q, r⟩
theorem web_out {n : Nat} {st : D} {p : List Str} {l : List D} {i0 : D} (hp : p.Nodup) (hl : p.length ≤ 6) (hb : Box (n + 43) l) :
    ∃ e' l' i' rs ws a b, (sFor (wRng1 (mCons (mCB dLen (mCons (mVar 3) (mNil))) (mNil))) (gSet 2) (sFor (wRng1 (mCons (mVar 2) (mNil))) (gSet 6) webB)) [some (.io l), some (.d st), none, some (.d (.lst (p.map .str))), some (.d (.lst [])), some (.d (.lst [])), none, none] = .ok .nx e' ∧
      e' = [some (.io l'), some (.d st), i', some (.d (.lst (p.map .str))), some (.d (.lst rs)), some (.d (.lst ws)), a, b] ∧ Box n l' ∧ RInv p p.length 0 rs ∧ RInv p p.length 0 ws := by
  have e0 : RInv p 0 0 [] := ⟨[], rfl, List.nodup_nil, by simp, Nat.le_refl _⟩
  have q := loop_ints (g := gSet 2) (b := sFor (wRng1 (mCons (mVar 2) (mNil))) (gSet 6) webB) (N := p.length) (e := [some (.io l), some (.d st), none, some (.d (.lst (p.map .str))), some (.d (.lst [])), some (.d (.lst [])), none, none])
    (fun i e => ∃ l' i' rs ws, ∃ a b : Option D, e = [some (.io l'), some (.d st), i', some (.d (.lst (p.map .str))), some (.d (.lst rs)), some (.d (.lst ws)), a.map .d, b.map .d] ∧ (∀ x, i' ≠ some (.io x)) ∧ Box (n + 43 - 6 * i) l' ∧ RInv p i 0 rs ∧ RInv p i 0 ws)
    ⟨l, none, [], [], none, none, rfl, by simp, hb, e0, e0⟩ fun i e hi hw => by
    obtain ⟨l', i', rs, ws, a, b, rfl, hio, hb, h1, h2⟩ := hw
    obtain ⟨e2, q, l2, rs2, ws2, a2, b2, rfl, hb2, g1, g2⟩ := web_in (n := n) (st := st) (p := p) (i := i) (e := EW8 l' st (.int i) (.lst (p.map .str)) rs ws a b) hp hl hi ⟨l', rs, ws, a, b, rfl, by simpa using hb, h1, h2⟩
    refine ⟨_, _, ?_, q, l2, some (.d (.int i)), rs2, ws2, a2, b2, rfl, by simp, hb2.mono (by omega), g1.next (by omega), g2.next (by omega)⟩
    cases i' with
    | none => rfl
    | some s => cases s with
      | io x => exact absurd rfl (hio x)
      | _ => rfl
  obtain ⟨e', q, l', i', rs, ws, a, b, rfl, _, hb, h1, h2⟩ := q
  exact ⟨_, l', i', rs, ws, a.map .d, b.map .d, sFor_ok (rng_ok (m := mCons (mCB dLen (mCons (mVar 3) (mNil))) (mNil)) (i := p.length) (by simp [mNil_at, mCons_at, wNil_at, wCons_at, mRd1_at, mBin_at, mBinV_at, mCB_at, mCW_at, mTup_at, mLst_at, oLst_at, mNot_at, mAnd_at, mOr_at, mBl_at, mF_at, vD_at, mTru_at, mIs1_at, mIs2_at, mNotT_at, mSl_at, sIf_at, sRet_at, sRetF_at, sExpr_at, sAsg_at, sOwn_at, sFor_at, wAny_at, wRng1_at, wRng2_at, wEnum_at, wZip_at, oCB_at, oCW_at, mUn_at, mFmt_at, aT_at, ret_at, mIf_at, ite_at, mB_at, sSeq_at, lift_at, mAndT_at, mOrT_at, bind_at, mVar_at, mOwn_at, rdv_at, rds_at, rdN_at, rdC_at, sApp_at, mPop_at, appO_at, sSet_at, putO_at, sRetO_at, sNx_at, loopN_at, oOr_at, oSome_at, oNone_at, dLen]) (by omega)) q, rfl, hb.mono (by omega), h1, h2⟩
end Law

set_option maxRecDepth 100000
set_option maxHeartbeats 1000000
set_option linter.all false
namespace Law
open PySem L2 Mir
structure GoodPairs (ss : List Str) (ps : List (Str × Str)) : Prop where
  asc : ps.Pairwise fun a b => ltP a b = true
  len : ps.length ≤ 36
  mem : ∀ x ∈ ps, x.1 ∈ ss ∧ x.2 ∈ ss ∧ x.1 ≠ x.2
theorem GoodPairs.of {ss p : List Str} {rs : List D} (h : RInv p p.length 0 rs) (hp : p.Nodup) (hl : p.length ≤ 6) (hs : ∀ s ∈ p, s ∈ ss) : ∃ ps : List (Str × Str), dSorted [.lst rs] = some (ps.map pD) ∧ GoodPairs ss ps := by
  obtain ⟨qs, rfl, h2, h3, h4⟩ := h
  obtain ⟨ts, t1, t2, t3⟩ := sorted_prs h2
  refine ⟨ts, t1, t3, by have := t2.length_eq; omega, fun x hx => ?_⟩
  obtain ⟨i, j, q1, q2, q3, q4⟩ := h3 x (t2.mem_iff.mp hx)
  refine ⟨hs _ (List.mem_of_getElem? q3), hs _ (List.mem_of_getElem? q4), fun e => ?_⟩
  rw [e] at q3
  have := nd_get hp q3 q4
  omega
theorem webs_ok {n : Nat} {ss : List Str} (h : GoodSteps ss) : Draws b_l_webs 8 [.tup (ss.map .str)] (n + 49) n (fun d => ∃ ps qs, d = .tup [.tup (List.map pD ps), .tup (List.map pD qs)] ∧ GoodPairs ss ps ∧ GoodPairs ss qs) := fun l hl => by
  have hnd : ss.Nodup := h.asc.imp fun {a b} q e => by rw [e, ltS_irr] at q; cases q
  obtain ⟨d, l1, ⟨got, rest, rfl, g1, g2⟩, hb, he⟩ := pick_ok (n := n + 43) (xs := ss.map .str) (k := ss.length) (by have := h.len; simp; omega) (by omega) (by have := h.len; omega) l (hl.mono (by have := h.len; simp; omega))
  obtain ⟨p, rfl⟩ := map_perm_str (ds := got) (ss := ss) fun d hd => (g2.mem_iff).mp (List.mem_append_left _ hd)
  have hp : p.Nodup := by
    have : (p.map D.str ++ rest).Nodup := g2.nodup_iff.mpr (hnd.map D.str fun a b h k => h (str_inj k))
    exact List.Pairwise.of_map D.str (fun a b h k => h (congrArg D.str k)) (List.nodup_append.mp this).1
  have hpl : p.length ≤ 6 := by have := h.len; simp at g1; omega
  have hps : ∀ s ∈ p, s ∈ ss := fun s hs => by
    have : D.str s ∈ ss.map D.str := (g2.mem_iff).mp (List.mem_append_left _ (List.mem_map_of_mem hs))
    obtain ⟨y, hy, e⟩ := List.mem_map.mp this
    exact str_inj e ▸ hy
  obtain ⟨e', l', i', rs, ws, a, b, q, rfl, hb', r1, r2⟩ := web_out (n := n) (st := .tup (ss.map .str)) (p := p) (l := l1) (i0 := .non) hp hpl hb
  obtain ⟨ps, s1, s2⟩ := GoodPairs.of r1 hp hpl hps
  obtain ⟨qs, s3, s4⟩ := GoodPairs.of r2 hp hpl hps
  have q0 : mCallI b_l_pick 6 3 0 (mCons (mF (oCB dList (mCons (mVar 1) (mNil)))) (mCons (mCB dLen (mCons (mVar 1) (mNil))) (mNil))) [some (.io l), some (.d (.tup (ss.map .str))), none, none, none, none, none, none] = .ok (.lst (p.map .str)) [some (.io l1), some (.d (.tup (ss.map .str))), none, none, none, none, none, none] := by
    refine callI_of (b := b_l_pick) (n := 6) (np := 3) (j := 0) (e := [some (.io l), some (.d (.tup (ss.map .str))), none, none, none, none, none, none]) (e1 := [some (.io l), some (.d (.tup (ss.map .str))), none, none, none, none, none, none]) (xs0 := l) (xs := l) (ds := [.lst (ss.map .str), .int ss.length]) rfl ?_ rfl rfl he
    simp [mNil_at, mCons_at, wNil_at, wCons_at, mRd1_at, mBin_at, mBinV_at, mCB_at, mCW_at, mTup_at, mLst_at, oLst_at, mNot_at, mAnd_at, mOr_at, mBl_at, mF_at, vD_at, mTru_at, mIs1_at, mIs2_at, mNotT_at, mSl_at, sIf_at, sRet_at, sRetF_at, sExpr_at, sAsg_at, sOwn_at, sFor_at, wAny_at, wRng1_at, wRng2_at, wEnum_at, wZip_at, oCB_at, oCW_at, mUn_at, mFmt_at, aT_at, ret_at, mIf_at, ite_at, mB_at, sSeq_at, lift_at, mAndT_at, mOrT_at, bind_at, mVar_at, mOwn_at, rdv_at, rds_at, rdN_at, rdC_at, sApp_at, mPop_at, appO_at, sSet_at, putO_at, sRetO_at, sNx_at, loopN_at, oOr_at, oSome_at, oNone_at, dList, dLen]
  refine ⟨.tup [.tup (ps.map pD), .tup (qs.map pD)], l', ⟨ps, qs, rfl, s2, s4⟩, hb', ?_⟩
  unfold webB at q
  simp [b_l_webs, outI, ioAt, startE, mNil_at, mCons_at, wNil_at, wCons_at, mRd1_at, mBin_at, mBinV_at, mCB_at, mCW_at, mTup_at, mLst_at, oLst_at, mNot_at, mAnd_at, mOr_at, mBl_at, mF_at, vD_at, mTru_at, mIs1_at, mIs2_at, mNotT_at, mSl_at, sIf_at, sRet_at, sRetF_at, sExpr_at, sAsg_at, sOwn_at, sFor_at, wAny_at, wRng1_at, wRng2_at, wEnum_at, wZip_at, oCB_at, oCW_at, mUn_at, mFmt_at, aT_at, ret_at, mIf_at, ite_at, mB_at, sSeq_at, lift_at, mAndT_at, mOrT_at, bind_at, mVar_at, mOwn_at, rdv_at, rds_at, rdN_at, rdC_at, sApp_at, mPop_at, appO_at, sSet_at, putO_at, sRetO_at, sNx_at, loopN_at, oOr_at, oSome_at, oNone_at, sPar3, iDat, iDatk, iNil, ↓q0, mLine, putS, noIo, sDo, ↓q, s1, s3, dTupleB, dTuple]
end Law

set_option maxRecDepth 100000
set_option maxHeartbeats 1000000
set_option linter.all false
namespace Mir
open PySem L2
theorem sRz_at {C : Addr} {f : Str} {m : M D} {e : Mir.Env} : sRz C f m e = match m e with | .ok d e1 => .ex (.ins C [(f, d)]) e1 | .ex x e' => .ex x e' | .bad => .bad := by
  show M.andThen m _ e = _
  unfold M.andThen
  cases m e with
  | ok d e' => rfl
  | ex x e' => rfl
  | bad => rfl
theorem callN_of {b : M Out} {n np : Nat} {a : M (List D)} {e e1 : Mir.Env} {ds : List D} {d : D} (ha : a e = .ok ds e1) (hn : ds.length = np) (h : outD (b (startE n (ds.map .d))) = some d) : mCallN b n np a e = .ok d e1 := by
  obtain ⟨e', he⟩ := runD_of h
  show M.andThen a (callN b n np) e = _
  unfold M.andThen
  rw [ha]
  show callN b n np ds e1 = _
  unfold callN
  rw [if_pos hn, he]
  rfl
theorem mCallLN_at {i : Nat} {f : Addr} {b : M Out} {n np : Nat} {a : M (List D)} {e : Mir.Env} (h : e[i]? = some (some (.st (.ref f)))) : mCallLN i f b n np a e = mCallN b n np a e := by
  unfold mCallLN
  rw [h]
  show (if f = f then mCallN b n np a e else .bad) = _
  rw [if_pos rfl]
theorem loopX_at {g : D → Mir.Env → Option Mir.Env} {b : M Out} {d x : D} {ds : List D} {e e1 e2 : Mir.Env} (h1 : g d e = some e1) (h2 : b e1 = .ex x e2) : mLoop g b (d :: ds) e = .ex x e2 := by
  show (match g d e with | none => R.bad | some e1 => _) = _
  rw [h1]
  dsimp only
  rw [h2]
end Mir
namespace Law
open PySem L2 Mir
/-- the walk of values_from -/
abbrev EVF (t sp : D) (ga : Addr) (r : Bool) (acc : List D) (a b c : Option D) : Mir.Env := [some (.d t), some (.d sp), some (.st (.ref ga)), some (.d (.bl r)), some (.ol acc), a.map .d, b.map .d, c.map .d]
def vG : D → Mir.Env → Option Mir.Env := gTupD 2 (gsCons (gSet 5) (gsCons (gSet 6) (gsNil)))
def vB (ad : Ad) (ga : Addr) (bg : M Out) (ng : Nat) : M Out := (sSeq (sAsg (mCallLN 2 ga bg ng 1 (mCons (mVar 6) (mNil))) (gSet 7)) (
  sSeq (sIf (mOr (mB (mBin dIsN (mVar 7) (M.ret .non))) (mAnd (mTru (vD (mVar 3))) (mAnd (mTru (mOwn 4)) (mB (mBin dLeB (mVar 7) (mBinV dIx (mOwn 4) (vD (mUn dNeg (M.ret (.int 1)))))))))) (sRz ad.c_BadText "piece" (mVar 5)) (sNx)) (
  sApp 4 (mVar 7))))
theorem v_g {t sp : D} {ga : Addr} {r : Bool} {acc : List D} {a b c : Option D} {x y : D} : vG (.tup [x, y]) (EVF t sp ga r acc a b c) = some (EVF t sp ga r acc (some x) (some y) c) := by
  cases a <;> cases b <;> rfl
theorem last_ix {acc : List D} (h : acc ≠ []) : ∃ z, acc.getLast? = some z ∧ z ∈ acc ∧ dIx (.lst acc) (.int (-1)) = some z := by
  have hl : 0 < acc.length := List.length_pos_iff.mpr h
  refine ⟨acc.getLast h, List.getLast?_eq_some_getLast h, List.getLast_mem h, ?_⟩
  unfold dIx
  simp only [atI, ixN]
  have : ¬ (0 : Int) ≤ -1 := by omega
  rw [if_neg this, if_pos (by omega)]
  have e : ((-1 : Int) + (acc.length : Nat)).toNat = acc.length - 1 := by omega
  rw [e]
  show acc[acc.length - 1]? = _
  rw [← List.getLast?_eq_getElem?]
  exact List.getLast?_eq_some_getLast h
section
variable {ad : Ad} {t sp : D} {ga : Addr} {bg : M Out} {ng : Nat} {r : Bool}
theorem v_call {acc : List D} {x w v : D} {c : Option D} (hr : outD (bg (startE ng [.d w])) = some v) : mCallLN 2 ga bg ng 1 (mCons (mVar 6) (mNil)) (EVF t sp ga r acc (some x) (some w) c) = .ok v (EVF t sp ga r acc (some x) (some w) c) :=
  (mCallLN_at rfl).trans (callN_of (ds := [w]) (e1 := EVF t sp ga r acc (some x) (some w) c) rfl rfl hr)
theorem v_b {acc : List D} {x w v : D} {c : Option D} (hr : outD (bg (startE ng [.d w])) = some v) (hv : Mir.isNon v = false) (hl : acc.length < 1000) (hc : r = true → ∀ z ∈ acc, dLeB v z = some (.bl false)) :
    vB ad ga bg ng (EVF t sp ga r acc (some x) (some w) c) = .ok .nx (EVF t sp ga r (acc ++ [v]) (some x) (some w) (some v)) := by
  have q1 := v_call (t := t) (sp := sp) (ga := ga) (r := r) (acc := acc) (x := x) (c := c) hr
  have hm : mLine (acc.length + 1) = true := decide_eq_true (by omega)
  have hN : dIsN v .non = some (.bl false) := by
    show some (D.bl (Mir.isNon v)) = _
    rw [hv]
  simp only [EVF, Option.map] at q1
  cases r with
  | false => cases c <;> simp [vB, EVF, mNil_at, mCons_at, wNil_at, wCons_at, mRd1_at, mBin_at, mBinV_at, mCB_at, mCW_at, mTup_at, mLst_at, oLst_at, mNot_at, mAnd_at, mOr_at, mBl_at, mF_at, vD_at, mTru_at, mIs1_at, mIs2_at, mNotT_at, mSl_at, sIf_at, sRet_at, sRetF_at, sExpr_at, sAsg_at, sOwn_at, sFor_at, wAny_at, wRng1_at, wRng2_at, wEnum_at, wZip_at, oCB_at, oCW_at, mUn_at, mFmt_at, aT_at, ret_at, mIf_at, ite_at, mB_at, sSeq_at, lift_at, mAndT_at, mOrT_at, bind_at, mVar_at, mOwn_at, rdv_at, rds_at, rdN_at, rdC_at, sApp_at, mPop_at, appO_at, sSet_at, putO_at, sRetO_at, sNx_at, loopN_at, oOr_at, oSome_at, oNone_at, ↓q1, gSet, noIo, sDo, hN, truD, ownAt, hm, setSame]
  | true =>
    cases acc with
    | nil => cases c <;> simp [vB, EVF, mNil_at, mCons_at, wNil_at, wCons_at, mRd1_at, mBin_at, mBinV_at, mCB_at, mCW_at, mTup_at, mLst_at, oLst_at, mNot_at, mAnd_at, mOr_at, mBl_at, mF_at, vD_at, mTru_at, mIs1_at, mIs2_at, mNotT_at, mSl_at, sIf_at, sRet_at, sRetF_at, sExpr_at, sAsg_at, sOwn_at, sFor_at, wAny_at, wRng1_at, wRng2_at, wEnum_at, wZip_at, oCB_at, oCW_at, mUn_at, mFmt_at, aT_at, ret_at, mIf_at, ite_at, mB_at, sSeq_at, lift_at, mAndT_at, mOrT_at, bind_at, mVar_at, mOwn_at, rdv_at, rds_at, rdN_at, rdC_at, sApp_at, mPop_at, appO_at, sSet_at, putO_at, sRetO_at, sNx_at, loopN_at, oOr_at, oSome_at, oNone_at, ↓q1, gSet, noIo, sDo, hN, truD, ownAt, hm, setSame, mLine]
    | cons a0 r0 =>
      obtain ⟨z, _, hz, hL⟩ := last_ix (acc := a0 :: r0) (by simp)
      have hle := hc rfl z hz
      cases c <;> simp [vB, EVF, mNil_at, mCons_at, wNil_at, wCons_at, mRd1_at, mBin_at, mBinV_at, mCB_at, mCW_at, mTup_at, mLst_at, oLst_at, mNot_at, mAnd_at, mOr_at, mBl_at, mF_at, vD_at, mTru_at, mIs1_at, mIs2_at, mNotT_at, mSl_at, sIf_at, sRet_at, sRetF_at, sExpr_at, sAsg_at, sOwn_at, sFor_at, wAny_at, wRng1_at, wRng2_at, wEnum_at, wZip_at, oCB_at, oCW_at, mUn_at, mFmt_at, aT_at, ret_at, mIf_at, ite_at, mB_at, sSeq_at, lift_at, mAndT_at, mOrT_at, bind_at, mVar_at, mOwn_at, rdv_at, rds_at, rdN_at, rdC_at, sApp_at, mPop_at, appO_at, sSet_at, putO_at, sRetO_at, sNx_at, loopN_at, oOr_at, oSome_at, oNone_at, ↓q1, gSet, noIo, sDo, hN, truD, ownAt, hm, setSame, dNeg, hL, hle]
      all_goals exact hm
/-- a piece that is wrong -/
theorem v_r {acc : List D} {x w v : D} {c : Option D} (hr : outD (bg (startE ng [.d w])) = some v) (hl : acc.length < 1000) (hb : Mir.isNon v = true ∨ (Mir.isNon v = false ∧ r = true ∧ ∃ z, acc.getLast? = some z ∧ dLeB v z = some (.bl true))) :
    ∃ e', vB ad ga bg ng (EVF t sp ga r acc (some x) (some w) c) = .ex (.ins ad.c_BadText [("piece", x)]) e' := by
  have q1 := v_call (t := t) (sp := sp) (ga := ga) (r := r) (acc := acc) (x := x) (c := c) hr
  simp only [EVF, Option.map] at q1
  rcases hb with hv | ⟨hv, rfl, z, hz, hle⟩
  · have hN : dIsN v .non = some (.bl true) := by
      show some (D.bl (Mir.isNon v)) = _
      rw [hv]
    cases c <;> simp [vB, EVF, mNil_at, mCons_at, wNil_at, wCons_at, mRd1_at, mBin_at, mBinV_at, mCB_at, mCW_at, mTup_at, mLst_at, oLst_at, mNot_at, mAnd_at, mOr_at, mBl_at, mF_at, vD_at, mTru_at, mIs1_at, mIs2_at, mNotT_at, mSl_at, sIf_at, sRet_at, sRetF_at, sExpr_at, sAsg_at, sOwn_at, sFor_at, wAny_at, wRng1_at, wRng2_at, wEnum_at, wZip_at, oCB_at, oCW_at, mUn_at, mFmt_at, aT_at, ret_at, mIf_at, ite_at, mB_at, sSeq_at, lift_at, mAndT_at, mOrT_at, bind_at, mVar_at, mOwn_at, rdv_at, rds_at, rdN_at, rdC_at, sApp_at, mPop_at, appO_at, sSet_at, putO_at, sRetO_at, sNx_at, loopN_at, oOr_at, oSome_at, oNone_at, sRz_at, ↓q1, gSet, noIo, sDo, hN, truD, ownAt, setSame]
  · have hN : dIsN v .non = some (.bl false) := by
      show some (D.bl (Mir.isNon v)) = _
      rw [hv]
    cases acc with
    | nil => cases hz
    | cons a0 r0 =>
      obtain ⟨z', h1, _, hL⟩ := last_ix (acc := a0 :: r0) (by simp)
      rw [h1] at hz
      cases hz
      have hm : mLine (r0.length + 1) = true := decide_eq_true (by simp at hl; omega)
      cases c <;> simp [vB, EVF, mNil_at, mCons_at, wNil_at, wCons_at, mRd1_at, mBin_at, mBinV_at, mCB_at, mCW_at, mTup_at, mLst_at, oLst_at, mNot_at, mAnd_at, mOr_at, mBl_at, mF_at, vD_at, mTru_at, mIs1_at, mIs2_at, mNotT_at, mSl_at, sIf_at, sRet_at, sRetF_at, sExpr_at, sAsg_at, sOwn_at, sFor_at, wAny_at, wRng1_at, wRng2_at, wEnum_at, wZip_at, oCB_at, oCW_at, mUn_at, mFmt_at, aT_at, ret_at, mIf_at, ite_at, mB_at, sSeq_at, lift_at, mAndT_at, mOrT_at, bind_at, mVar_at, mOwn_at, rdv_at, rds_at, rdN_at, rdC_at, sApp_at, mPop_at, appO_at, sSet_at, putO_at, sRetO_at, sNx_at, loopN_at, oOr_at, oSome_at, oNone_at, sRz_at, ↓q1, gSet, noIo, sDo, hN, truD, ownAt, setSame, dNeg, hL, hle, hm]
theorem v_loop : ∀ (ws vs : List D) (n : Nat) (acc : List D) (a b c : Option D) (more : List D), ws.length = vs.length → acc.length + ws.length < 1000 →
    (∀ p ∈ ws.zip vs, outD (bg (startE ng [.d p.1])) = some p.2 ∧ Mir.isNon p.2 = false) → (r = true → (acc ++ vs).Pairwise fun z v => dLeB v z = some (.bl false)) →
    ∃ a' b' c', mLoop vG (vB ad ga bg ng) (pairs n (ws ++ more)) (EVF t sp ga r acc a b c) = mLoop vG (vB ad ga bg ng) (pairs (n + ws.length) more) (EVF t sp ga r (acc ++ vs) a' b' c')
  | [], [], n, acc, a, b, c, more, _, _, _, _ => ⟨a, b, c, by rw [List.append_nil]; rfl⟩
  | w :: ws, v :: vs, n, acc, a, b, c, more, h1, h2, h3, h4 => by
    rw [List.length_cons] at h2
    obtain ⟨p1, p2⟩ := h3 (w, v) List.mem_cons_self
    have hc : r = true → ∀ z ∈ acc, dLeB v z = some (.bl false) := fun hr z hz => (List.pairwise_append.mp (h4 hr)).2.2 z hz v List.mem_cons_self
    have q1 := v_b (ad := ad) (t := t) (sp := sp) (ga := ga) (bg := bg) (ng := ng) (r := r) (acc := acc) (x := .int n) (w := w) (v := v) (c := c) p1 p2 (by omega) hc
    obtain ⟨a', b', c', q⟩ := v_loop ws vs (n + 1) (acc ++ [v]) (some (.int n)) (some w) (some v) more (Nat.succ.inj h1) (by simp; omega) (fun p hp => h3 p (List.mem_cons_of_mem _ hp)) (fun hr => by simpa using h4 hr)
    refine ⟨a', b', c', ?_⟩
    show mLoop vG (vB ad ga bg ng) (.tup [.int n, w] :: pairs (n + 1) (ws ++ more)) _ = _
    rw [loopC_at v_g q1, q, List.length_cons, show n + 1 + ws.length = n + (ws.length + 1) by omega]
    simp
end
def PiecesAre (t sp : Str) (ws : List D) : Prop := outD (b_pieces (startE 2 [.d (.str t), .d (.str sp)])) = some (.lst ws)
theorem values_ok {ad : Ad} {t sp : Str} {ga : Addr} {bg : M Out} {ng : Nat} {r : Bool} {ws vs : List D} (hp : PiecesAre t sp ws) (h1 : ws.length = vs.length) (h2 : ws.length < 1000)
    (h3 : ∀ p ∈ ws.zip vs, outD (bg (startE ng [.d p.1])) = some p.2 ∧ Mir.isNon p.2 = false) (h4 : r = true → vs.Pairwise fun z v => dLeB v z = some (.bl false)) :
    outD (b_values_from ad ga bg ng (startE 8 [.d (.str t), .d (.str sp), .st (.ref ga), .d (.bl r)])) = some (.tup vs) := by
  obtain ⟨a, b, c, q⟩ := v_loop (ad := ad) (t := .str t) (sp := .str sp) (ga := ga) (bg := bg) (ng := ng) (r := r) ws vs 0 [] none none none [] h1 (by simpa using h2) h3 (by simpa using h4)
  have q1 : mCallN b_pieces 2 2 (mCons (mVar 0) (mCons (mVar 1) (mNil))) (EVF (.str t) (.str sp) ga r [] none none none) = .ok (.lst ws) (EVF (.str t) (.str sp) ga r [] none none none) :=
    callN_of (ds := [.str t, .str sp]) (e1 := EVF (.str t) (.str sp) ga r [] none none none) rfl rfl hp
  rw [List.append_nil] at q
  have q2 : mLoop vG (vB ad ga bg ng) (pairs 0 ws) (EVF (.str t) (.str sp) ga r [] none none none) = .ok .nx (EVF (.str t) (.str sp) ga r vs a b c) := q
  simp only [EVF, Option.map] at q1 q2
  unfold vG vB at q2
  have hl : vs.length ≤ 100000 := by omega
  simp [b_values_from, outD, startE, mNil_at, mCons_at, wNil_at, wCons_at, mRd1_at, mBin_at, mBinV_at, mCB_at, mCW_at, mTup_at, mLst_at, oLst_at, mNot_at, mAnd_at, mOr_at, mBl_at, mF_at, vD_at, mTru_at, mIs1_at, mIs2_at, mNotT_at, mSl_at, sIf_at, sRet_at, sRetF_at, sExpr_at, sAsg_at, sOwn_at, sFor_at, wAny_at, wRng1_at, wRng2_at, wEnum_at, wZip_at, oCB_at, oCW_at, mUn_at, mFmt_at, aT_at, ret_at, mIf_at, ite_at, mB_at, sSeq_at, lift_at, mAndT_at, mOrT_at, bind_at, mVar_at, mOwn_at, rdv_at, rds_at, rdN_at, rdC_at, sApp_at, mPop_at, appO_at, sSet_at, putO_at, sRetO_at, sNx_at, loopN_at, oOr_at, oSome_at, oNone_at, mLine, noIo, ↓q1, dEnum, ↓q2, dTupleB, dTuple]
theorem values_bad {ad : Ad} {t sp : Str} {ga : Addr} {bg : M Out} {ng : Nat} {r : Bool} {ws vs more : List D} {w v : D} (hp : PiecesAre t sp (ws ++ w :: more)) (h1 : ws.length = vs.length) (h2 : ws.length + more.length < 900)
    (h3 : ∀ p ∈ ws.zip vs, outD (bg (startE ng [.d p.1])) = some p.2 ∧ Mir.isNon p.2 = false) (h4 : r = true → vs.Pairwise fun z v => dLeB v z = some (.bl false))
    (hr : outD (bg (startE ng [.d w])) = some v) (hb : Mir.isNon v = true ∨ (Mir.isNon v = false ∧ r = true ∧ ∃ z, vs.getLast? = some z ∧ dLeB v z = some (.bl true))) :
    ∃ e', b_values_from ad ga bg ng (startE 8 [.d (.str t), .d (.str sp), .st (.ref ga), .d (.bl r)]) = .ex (.ins ad.c_BadText [("piece", .int (ws.length : Nat))]) e' := by
  obtain ⟨a, b, c, q⟩ := v_loop (ad := ad) (t := .str t) (sp := .str sp) (ga := ga) (bg := bg) (ng := ng) (r := r) ws vs 0 [] none none none (w :: more) h1 (by simp; omega) h3 (by simpa using h4)
  have q1 : mCallN b_pieces 2 2 (mCons (mVar 0) (mCons (mVar 1) (mNil))) (EVF (.str t) (.str sp) ga r [] none none none) = .ok (.lst (ws ++ w :: more)) (EVF (.str t) (.str sp) ga r [] none none none) :=
    callN_of (ds := [.str t, .str sp]) (e1 := EVF (.str t) (.str sp) ga r [] none none none) rfl rfl hp
  obtain ⟨e', q3⟩ := v_r (ad := ad) (t := .str t) (sp := .str sp) (ga := ga) (bg := bg) (ng := ng) (r := r) (acc := vs) (x := .int (ws.length : Nat)) (w := w) (v := v) (c := c) hr (by omega) hb
  have q2 : mLoop vG (vB ad ga bg ng) (pairs 0 (ws ++ w :: more)) (EVF (.str t) (.str sp) ga r [] none none none) = .ex (.ins ad.c_BadText [("piece", .int (ws.length : Nat))]) e' := by
    rw [q, Nat.zero_add]
    exact loopX_at v_g q3
  refine ⟨e', ?_⟩
  simp only [EVF, Option.map] at q1 q2
  unfold vG vB at q2
  have hm : (ws ++ w :: more).length ≤ 100000 := by simp; omega
  simp [b_values_from, startE, mNil_at, mCons_at, wNil_at, wCons_at, mRd1_at, mBin_at, mBinV_at, mCB_at, mCW_at, mTup_at, mLst_at, oLst_at, mNot_at, mAnd_at, mOr_at, mBl_at, mF_at, vD_at, mTru_at, mIs1_at, mIs2_at, mNotT_at, mSl_at, sIf_at, sRet_at, sRetF_at, sExpr_at, sAsg_at, sOwn_at, sFor_at, wAny_at, wRng1_at, wRng2_at, wEnum_at, wZip_at, oCB_at, oCW_at, mUn_at, mFmt_at, aT_at, ret_at, mIf_at, ite_at, mB_at, sSeq_at, lift_at, mAndT_at, mOrT_at, bind_at, mVar_at, mOwn_at, rdv_at, rds_at, rdN_at, rdC_at, sApp_at, mPop_at, appO_at, sSet_at, putO_at, sRetO_at, sNx_at, loopN_at, oOr_at, oSome_at, oNone_at, mLine, noIo, ↓q1, dEnum, ↓q2]
end Law

set_option maxRecDepth 100000
set_option maxHeartbeats 1000000
set_option linter.all false
namespace Law
open PySem L2 Mir
open TL
/-- the text of pieces -/
def textOf (sp : Str) (parts : List Str) : Str := if parts = [] then PySem.Str.ofString "-" else Txt.join sp parts
/-- pieces that can be written and read back -/
structure Parts (sp : Str) (parts : List Str) : Prop where
  sep : ∃ s S, tl sp = s :: S ∧ S.length ≤ 1 ∧ ∀ p ∈ parts, s ∉ tl p
  small : sp.cps.all (· < 256) = true
  len : parts.length ≤ 100
  each : ∀ p ∈ parts, 0 < p.length ∧ p.length ≤ 200 ∧ p ≠ Str.ofString "-" ∧ PyData.strOk p = true
theorem joinL_len (S : List Nat) {B : Nat} : ∀ (ps : List (List Nat)), (∀ p ∈ ps, p.length ≤ B) → (joinL S ps).length ≤ ps.length * (B + S.length)
  | [], _ => by simp [joinL]
  | [p], h => by
    have := h p List.mem_cons_self
    simp [joinL]
    omega
  | p :: q :: r, h => by
    have h1 := h p List.mem_cons_self
    have h2 := joinL_len S (q :: r) fun x hx => h x (List.mem_cons_of_mem _ hx)
    have e : joinL S (p :: q :: r) = p ++ (S ++ joinL S (q :: r)) := rfl
    rw [e, List.length_append, List.length_append, List.length_cons (a := p), Nat.succ_mul]
    omega
theorem Parts.joinLen {sp : Str} {parts : List Str} (h : Parts sp parts) : (Txt.join sp parts).length ≤ 20300 := by
  obtain ⟨s, S, e, hS, _⟩ := h.sep
  rw [TL.join_eq, len_tl, tl_join]
  have h1 := joinL_len (tl sp) (B := 200) (parts.map tl) fun p hp => by
    obtain ⟨x, hx, rfl⟩ := List.mem_map.mp hp
    rw [← len_tl]
    exact (h.each x hx).2.1
  have h2 : (tl sp).length ≤ 2 := by rw [e]; simp; omega
  have h3 := h.len
  rw [List.length_map] at h1
  have h4 : parts.length * (200 + (tl sp).length) ≤ 100 * 202 := Nat.mul_le_mul h3 (by omega)
  omega
theorem Parts.pos {sp : Str} {parts : List Str} (h : Parts sp parts) (hn : parts ≠ []) : 0 < (Txt.join sp parts).length ∧ Txt.join sp parts ≠ Str.ofString "-" := by
  obtain ⟨s, S, e, hS, _⟩ := h.sep
  match parts, hn, h with
  | [p], _, h =>
    have q : Txt.join sp [p] = p := by
      rw [TL.join_eq]
      rfl
    rw [q]
    exact ⟨(h.each p List.mem_cons_self).1, (h.each p List.mem_cons_self).2.2.1⟩
  | p :: q :: r, _, h =>
    have h1 := (h.each p List.mem_cons_self).1
    have l : 2 ≤ (Txt.join sp (p :: q :: r)).length := by
      rw [TL.join_eq, len_tl, tl_join]
      show 2 ≤ (tl p ++ (tl sp ++ joinL (tl sp) ((q :: r).map tl))).length
      rw [len_tl] at h1
      rw [List.length_append, List.length_append, e, List.length_cons]
      omega
    refine ⟨by omega, fun z => ?_⟩
    rw [z] at l
    have : (Str.ofString "-").length = 1 := by decide +kernel
    omega
theorem ok_tl {x : Str} : PyData.strOk x = true ↔ ∀ c ∈ tl x, c < 0x110000 := by
  unfold PyData.strOk tl
  rw [← Array.all_toList, List.all_eq_true]
  simp
theorem joinL_all {S : List Nat} (hS : ∀ c ∈ S, c < 0x110000) : ∀ (ps : List (List Nat)), (∀ p ∈ ps, ∀ c ∈ p, c < 0x110000) → ∀ c ∈ joinL S ps, c < 0x110000
  | [], _, c, hc => by cases hc
  | [p], h, c, hc => h p List.mem_cons_self c hc
  | p :: q :: r, h, c, hc => by
    have e : joinL S (p :: q :: r) = p ++ (S ++ joinL S (q :: r)) := rfl
    rw [e] at hc
    rcases List.mem_append.mp hc with z | z
    · exact h p List.mem_cons_self c z
    · rcases List.mem_append.mp z with y | y
      · exact hS c y
      · exact joinL_all hS (q :: r) (fun x hx => h x (List.mem_cons_of_mem _ hx)) c y
theorem Parts.ok {sp : Str} {parts : List Str} (h : Parts sp parts) : PyData.strOk (Txt.join sp parts) = true := by
  rw [ok_tl, TL.join_eq, tl_join]
  refine joinL_all (fun c hc => ?_) _ fun p hp c hc => ?_
  · have := h.small
    rw [← Array.all_toList, List.all_eq_true] at this
    have := of_decide_eq_true (this c hc)
    omega
  · obtain ⟨x, hx, rfl⟩ := List.mem_map.mp hp
    exact ok_tl.mp (h.each x hx).2.2.2 c hc
theorem Parts.split {sp : Str} {parts : List Str} (h : Parts sp parts) (hn : parts ≠ []) : Txt.split (Txt.join sp parts) sp = parts := by
  obtain ⟨s, S, e, hS, hp⟩ := h.sep
  exact TL.split_join e h.small hn hp
theorem mM1_ok {f : D → D → Option D} {a : M D} {b : M Dv} {e e1 e2 : Mir.Env} {s : Str} {d r : D} (ha : a e = .ok (.str s) e1) (hb : b e1 = .ok (.val d) e2) (hf : f (.str s) d = some r) : mM1 f a b e = .ok r e2 := by
  have q : m1k f b (.str s) e1 = .ok r e2 := by
    simp [m1k, Mir.isStr, bind_at, hb, rdv_at, hf, lift_at]
  show M.andThen a (m1k f b) e = _
  unfold M.andThen
  rw [ha]
  exact q
theorem strsD_map : ∀ ss : List Str, strsD (ss.map .str) = some ss
  | [] => rfl
  | s :: ss => by
    show (strsD (ss.map .str)).map (s :: ·) = _
    rw [strsD_map ss]
    rfl
theorem sum_le {B : Nat} : ∀ {l : List Str}, (∀ p ∈ l, p.length ≤ B) → (l.map (·.length)).sum ≤ l.length * B
  | [], _ => by simp
  | p :: l, h => by
    have h1 := h p List.mem_cons_self
    have h2 := sum_le (B := B) (l := l) fun x hx => h x (List.mem_cons_of_mem _ hx)
    rw [List.map_cons, List.sum_cons, List.length_cons, Nat.succ_mul]
    omega
theorem pieces_ok {sp : Str} {parts : List Str} (h : Parts sp parts) : outD (b_pieces (startE 2 [.d (.str (textOf sp parts)), .d (.str sp)])) = some (.lst (parts.map .str)) := by
  obtain ⟨s, S, e, hS, hp⟩ := h.sep
  have hsp : (sp.length == 0) = false := by rw [len_tl, e]; rfl
  by_cases hn : parts = []
  · subst hn
    have h2 : PyData.strOk (Str.ofString "-") = true := by decide +kernel
    have e1 : dEq (.str (Str.ofString "-")) (.str (Str.ofString "-")) = some (.bl true) := by simp [dEq, eqD, toPy, SeqAt.shaped, PyData.canLay0, PyData.depth, PyData.eqv, h2]
    simp [b_pieces, outD, startE, mNil_at, mCons_at, wNil_at, wCons_at, mRd1_at, mBin_at, mBinV_at, mCB_at, mCW_at, mTup_at, mLst_at, oLst_at, mNot_at, mAnd_at, mOr_at, mBl_at, mF_at, vD_at, mTru_at, mIs1_at, mIs2_at, mNotT_at, mSl_at, sIf_at, sRet_at, sRetF_at, sExpr_at, sAsg_at, sOwn_at, sFor_at, wAny_at, wRng1_at, wRng2_at, wEnum_at, wZip_at, oCB_at, oCW_at, mUn_at, mFmt_at, aT_at, ret_at, mIf_at, ite_at, mB_at, sSeq_at, lift_at, mAndT_at, mOrT_at, bind_at, mVar_at, mOwn_at, rdv_at, rds_at, rdN_at, rdC_at, sApp_at, mPop_at, appO_at, sSet_at, putO_at, sRetO_at, sNx_at, loopN_at, oOr_at, oSome_at, oNone_at, textOf, e1, mLine]
  · have p := h.pos hn
    have q := h.split hn
    have l := h.joinLen
    have hm : mLine ((Txt.join sp parts).length + 2) = true := decide_eq_true (by omega)
    have e1 : dEq (.str (Txt.join sp parts)) (.str (Str.ofString "-")) = some (.bl false) := by
      have h2 : PyData.strOk (Str.ofString "-") = true := by decide +kernel
      simp [dEq, eqD, toPy, SeqAt.shaped, PyData.canLay0, PyData.depth, PyData.eqv, h.ok, h2, p.2]
    have e2 : dSplit (.str (Txt.join sp parts)) (.str sp) = some (.lst (parts.map .str)) := by
      show (if ((sp.length == 0) == false && mLine ((Txt.join sp parts).length + 2)) = true then some (D.lst ((Txt.split (Txt.join sp parts) sp).map .str)) else none) = _
      rw [hsp, hm, q]
      rfl
    have e3 : mM1 dSplit (mVar 0) (vD (mVar 1)) [some (.d (.str (Txt.join sp parts))), some (.d (.str sp))] = .ok (.lst (parts.map .str)) [some (.d (.str (Txt.join sp parts))), some (.d (.str sp))] := mM1_ok rfl rfl e2
    simp [b_pieces, outD, startE, mNil_at, mCons_at, wNil_at, wCons_at, mRd1_at, mBin_at, mBinV_at, mCB_at, mCW_at, mTup_at, mLst_at, oLst_at, mNot_at, mAnd_at, mOr_at, mBl_at, mF_at, vD_at, mTru_at, mIs1_at, mIs2_at, mNotT_at, mSl_at, sIf_at, sRet_at, sRetF_at, sExpr_at, sAsg_at, sOwn_at, sFor_at, wAny_at, wRng1_at, wRng2_at, wEnum_at, wZip_at, oCB_at, oCW_at, mUn_at, mFmt_at, aT_at, ret_at, mIf_at, ite_at, mB_at, sSeq_at, lift_at, mAndT_at, mOrT_at, bind_at, mVar_at, mOwn_at, rdv_at, rds_at, rdN_at, rdC_at, sApp_at, mPop_at, appO_at, sSet_at, putO_at, sRetO_at, sNx_at, loopN_at, oOr_at, oSome_at, oNone_at, textOf, e1, hn, ↓e3]
/-- the text of pieces, written -/
theorem text_ok {sp : Str} {parts : List Str} {X : M D} {e : Mir.Env} {d : D} (h : Parts sp parts) (hX : X e = .ok d e) (hd : d = .lst (parts.map .str) ∨ d = .tup (parts.map .str)) :
    mOrT (mM1 dJoin (M.ret (.str sp)) (vD X)) (M.ret (.str (PySem.Str.ofString "-"))) e = .ok (.str (textOf sp parts)) e := by
  have hj : dJoin (.str sp) d = some (.str (Txt.join sp parts)) := by
    have hf : joinFits sp parts = true := by
      refine decide_eq_true ?_
      have h1 : (parts.map (·.length)).sum ≤ parts.length * 200 := sum_le fun p hp => (h.each p hp).2.1
      obtain ⟨s, S, e, hS, _⟩ := h.sep
      have h2 : sp.length ≤ 2 := by rw [len_tl, e]; simp; omega
      have h3 := h.len
      have h4 : parts.length * sp.length ≤ 100 * 2 := Nat.mul_le_mul h3 h2
      omega
    rcases hd with rfl | rfl <;> (show (strsD (parts.map .str)).bind (fun ys => if joinFits sp ys = true then some (D.str (Txt.join sp ys)) else none) = _; rw [strsD_map]; show (if joinFits sp parts = true then some (D.str (Txt.join sp parts)) else none) = _; rw [hf, if_pos rfl])
  have q : mM1 dJoin (M.ret (.str sp)) (vD X) e = .ok (.str (Txt.join sp parts)) e := mM1_ok rfl (by simp [vD_at, aT_at, hX, ret_at]) hj
  have hm : mLine (Txt.join sp parts).length = true := decide_eq_true (by have := h.joinLen; omega)
  rw [mOrT_at, q]
  by_cases hn : parts = []
  · subst hn
    have : truD (.str (Txt.join sp [])) = some false := by
      have e0 : Txt.join sp [] = Str.empty := by rw [TL.join_eq]; rfl
      rw [e0]
      rfl
    simp [this, ret_at, textOf]
  · have p := (h.pos hn).1
    have : truD (.str (Txt.join sp parts)) = some true := by
      simp [truD, hm]
      omega
    simp [this, textOf, hn]
end Law

set_option maxRecDepth 100000
set_option maxHeartbeats 1000000
set_option linter.all false
namespace Law
open PySem L2 Mir
def isStrD (w : Str) : Option D → Bool
  | some (.str x) => decide (x = w)
  | _ => false
theorem isStrD_ok {w : Str} {o : Option D} (h : isStrD w o = true) : o = some (.str w) := by
  unfold isStrD at h
  split at h
  · rw [of_decide_eq_true h]
  · cases h
def isPairD (v w : Str) : Option D → Bool
  | some (.tup [.str x, .str y]) => decide (x = v) && decide (y = w)
  | _ => false
theorem isPairD_ok {v w : Str} {o : Option D} (h : isPairD v w o = true) : o = some (.tup [.str v, .str w]) := by
  unfold isPairD at h
  split at h
  · simp only [Bool.and_eq_true, decide_eq_true_eq] at h
    rw [h.1, h.2]
  · cases h
def isIntD (i : Int) : Option D → Bool
  | some (.int x) => decide (x = i)
  | _ => false
theorem isIntD_ok {i : Int} {o : Option D} (h : isIntD i o = true) : o = some (.int i) := by
  unfold isIntD at h
  split at h
  · rw [of_decide_eq_true h]
  · cases h
def goodPart (p : Str) : Bool := decide (0 < p.length) && decide (p.length ≤ 200) && decide (p ≠ Str.ofString "-") && PyData.strOk p && decide (32 ∉ p.cps.toList) && decide (59 ∉ p.cps.toList)
theorem c_name : LISTS.all (fun L => L.all fun w => isStrD w (outD (b_name_from (startE 1 [.d (.str w)]))) && goodPart w) = true := by decide +kernel
theorem c_pair : LISTS.all (fun L => L.all fun a => L.all fun b => decide (a = b) || isPairD a b (outD (b_pair_from (startE 3 [.d (.str (a ++ Str.ofString " " ++ b))])))) = true := by decide +kernel
theorem c_deed : LISTS.all (fun L => L.all fun a => isPairD (Str.ofString "begin") a (outD (b_deed_from (startE 1 [.d (.str (Str.ofString "+" ++ a))]))) && isPairD (Str.ofString "end") a (outD (b_deed_from (startE 1 [.d (.str (Str.ofString "-" ++ a))]))) && goodPart (Str.ofString "+" ++ a) && goodPart (Str.ofString "-" ++ a)) = true := by decide +kernel
def NUMS : List Nat := [0, 1, 7, 10000000000000000000, 10000000000000000001, 10000000000000000002, 10000000000000000003, 10000000000000000004, 10000000000000000005, 10000000000000000006, 10000000000000000007, 10000000000000000008]
theorem c_size : NUMS.all (fun n => isIntD n (outD (b_size_from (startE 2 [.d (.str (Str.ofString (toString (n : Int))))]))) && goodPart (Str.ofString (toString (n : Int)))) = true := by decide +kernel
end Law

set_option maxRecDepth 100000
set_option maxHeartbeats 1000000
set_option linter.all false
namespace Law
open PySem L2 Mir TL
abbrev sSp : Str := Str.ofString " "
abbrev sSc : Str := Str.ofString "; "
theorem tl_sp : tl sSp = 32 :: [] := by decide +kernel
theorem tl_sc : tl sSc = 59 :: [32] := by decide +kernel
theorem sm_sp : sSp.cps.all (· < 256) = true := by decide +kernel
theorem sm_sc : sSc.cps.all (· < 256) = true := by decide +kernel
theorem good_of {p : Str} (h : goodPart p = true) : 0 < p.length ∧ p.length ≤ 200 ∧ p ≠ Str.ofString "-" ∧ PyData.strOk p = true ∧ 32 ∉ tl p ∧ 59 ∉ tl p := by
  unfold goodPart at h
  simp only [Bool.and_eq_true, decide_eq_true_eq] at h
  obtain ⟨⟨⟨⟨⟨a, b⟩, c⟩, d⟩, e⟩, f⟩ := h
  exact ⟨a, b, c, d, e, f⟩
theorem Parts.sp {ps : List Str} (h : ∀ p ∈ ps, goodPart p = true) (hl : ps.length ≤ 100) : Parts sSp ps :=
  ⟨⟨32, [], tl_sp, by simp, fun p hp => (good_of (h p hp)).2.2.2.2.1⟩, sm_sp, hl, fun p hp => by have := good_of (h p hp); exact ⟨this.1, this.2.1, this.2.2.1, this.2.2.2.1⟩⟩
theorem name_of {ss : List Str} (h : GoodSteps ss) {s : Str} (hs : s ∈ ss) : outD (b_name_from (startE 1 [.d (.str s)])) = some (.str s) ∧ goodPart s = true := by
  obtain ⟨L, h1, h2⟩ := h.mem
  have q := List.all_eq_true.mp (List.all_eq_true.mp c_name L h1) s (h2 s hs)
  rw [Bool.and_eq_true] at q
  exact ⟨isStrD_ok q.1, q.2⟩
theorem GoodSteps.parts {ss : List Str} (h : GoodSteps ss) : Parts sSp ss := Parts.sp (fun p hp => (name_of h hp).2) (by have := h.len; omega)
theorem zip_mem {α β : Type} {f : α → β} {g : α → D} : ∀ {l : List α} {p : β × D}, p ∈ (l.map f).zip (l.map g) → ∃ x ∈ l, p = (f x, g x)
  | [], p, h => by cases h
  | x :: l, p, h => by
    rcases List.mem_cons.mp h with z | z
    · exact ⟨x, List.mem_cons_self, z⟩
    · obtain ⟨y, hy, e⟩ := zip_mem (f := f) (g := g) z
      exact ⟨y, List.mem_cons_of_mem _ hy, e⟩
theorem steps_from_ok {ad : Ad} {ss : List Str} (h : GoodSteps ss) : outD (b_steps_from ad (startE 1 [.d (.str (textOf sSp ss))])) = some (.tup (ss.map .str)) := by
  have v := values_ok (ad := ad) (t := textOf sSp ss) (sp := sSp) (ws := ss.map .str) (ga := ad.name_from) (bg := b_name_from) (ng := 1) (r := true) (vs := ss.map .str) (pieces_ok h.parts) (by simp) (by have := h.len; simp; omega)
    (fun p hp => by
      obtain ⟨x, hx, rfl⟩ := zip_mem (f := D.str) (g := D.str) hp
      exact ⟨(name_of h hx).1, rfl⟩)
    (fun _ => by
      rw [List.pairwise_map]
      exact h.asc.imp fun {a b} q => by
        show some (D.bl (!ltStr a b)) = _
        rw [q]
        rfl)
  have q : mCallS (b_values_from ad ad.name_from b_name_from 1) 8 4 (eCons (mVar 0) (eCons (M.ret (.str (PySem.Str.ofString " "))) (eSt (.ref ad.name_from) (eCons (M.ret (.bl true)) (eNil))))) [some (.d (.str (textOf sSp ss)))] = .ok (.tup (ss.map .str)) [some (.d (.str (textOf sSp ss)))] :=
    callS_of (ss := [.d (.str (textOf sSp ss)), .d (.str sSp), .st (.ref ad.name_from), .d (.bl true)]) rfl rfl v
  simp [b_steps_from, outD, startE, sRet_at, aT_at, ↓q, ret_at]
end Law

set_option maxRecDepth 100000
set_option maxHeartbeats 1000000
set_option linter.all false
namespace Law
open PySem L2 Mir TL
theorem len_app (x y : Str) : (x ++ y).length = x.length + y.length := by rw [len_tl, tl_append, List.length_append, ← len_tl, ← len_tl]
theorem emp_app (x : Str) : Str.empty ++ x = x := ext_tl (by rw [tl_append]; rfl)
def pp (x : Str × Str) : Str := x.1 ++ sSp ++ x.2
abbrev pL (p : Str × Str) : D := .lst [.str p.1, .str p.2]
def goodPart2 (p : Str) : Bool := decide (0 < p.length) && decide (p.length ≤ 200) && decide (p ≠ Str.ofString "-") && PyData.strOk p && decide (59 ∉ p.cps.toList)
theorem c_pair2 : LISTS.all (fun L => L.all fun a => L.all fun b => goodPart2 (a ++ Str.ofString " " ++ b)) = true := by decide +kernel
theorem good2_of {p : Str} (h : goodPart2 p = true) : 0 < p.length ∧ p.length ≤ 200 ∧ p ≠ Str.ofString "-" ∧ PyData.strOk p = true ∧ 59 ∉ tl p := by
  unfold goodPart2 at h
  simp only [Bool.and_eq_true, decide_eq_true_eq] at h
  obtain ⟨⟨⟨⟨a, b⟩, c⟩, d⟩, f⟩ := h
  exact ⟨a, b, c, d, f⟩
theorem pair_of {ss : List Str} {ps : List (Str × Str)} (h : GoodSteps ss) (g : GoodPairs ss ps) {x : Str × Str} (hx : x ∈ ps) : outD (b_pair_from (startE 3 [.d (.str (pp x))])) = some (pD x) ∧ goodPart2 (pp x) = true ∧ x.1.length ≤ 200 ∧ x.2.length ≤ 200 := by
  obtain ⟨L, h1, h2⟩ := h.mem
  obtain ⟨g1, g2, g3⟩ := g.mem x hx
  have q := List.all_eq_true.mp (List.all_eq_true.mp (List.all_eq_true.mp c_pair L h1) x.1 (h2 _ g1)) x.2 (h2 _ g2)
  have q2 := List.all_eq_true.mp (List.all_eq_true.mp (List.all_eq_true.mp c_pair2 L h1) x.1 (h2 _ g1)) x.2 (h2 _ g2)
  rw [Bool.or_eq_true] at q
  refine ⟨?_, q2, (good_of (name_of h g1).2).2.1, (good_of (name_of h g2).2).2.1⟩
  rcases q with z | z
  · exact absurd (of_decide_eq_true z) g3
  · exact isPairD_ok z
theorem GoodPairs.parts {ss : List Str} {ps : List (Str × Str)} (h : GoodSteps ss) (g : GoodPairs ss ps) : Parts sSc (ps.map pp) :=
  ⟨⟨59, [32], tl_sc, by simp, fun p hp => by
      obtain ⟨x, hx, rfl⟩ := List.mem_map.mp hp
      exact (good2_of (pair_of h g hx).2.1).2.2.2.2⟩, sm_sc, by rw [List.length_map]; have := g.len; omega, fun p hp => by
      obtain ⟨x, hx, rfl⟩ := List.mem_map.mp hp
      have := good2_of (pair_of h g hx).2.1
      exact ⟨this.1, this.2.1, this.2.2.1, this.2.2.2.1⟩⟩
def fD : D → D
  | .tup [.str a, .str b] => .str (pp (a, b))
  | .lst [.str a, .str b] => .str (pp (a, b))
  | d => d
theorem le_pairs {a b : Str × Str} (h : ltP a b = true) : dLeB (pD b) (pD a) = some (.bl false) := by
  show some (D.bl (leAt [b.1, b.2] [a.1, a.2])) = _
  unfold ltP at h
  unfold leAt
  by_cases e : a.1 = b.1
  · rw [if_pos e] at h
    have f : b.2 ≠ a.2 := fun z => by rw [z, ltS_irr] at h; cases h
    simp [Ob.lexAt, e, f, h]
  · rw [if_neg e] at h
    have f : b.1 ≠ a.1 := fun z => e z.symm
    simp [Ob.lexAt, f, h]
theorem pairs_from_ok {ad : Ad} {ss : List Str} {ps : List (Str × Str)} (h : GoodSteps ss) (g : GoodPairs ss ps) : outD (b_pairs_from ad (startE 1 [.d (.str (textOf sSc (ps.map pp)))])) = some (.tup (ps.map pD)) := by
  have v := values_ok (ad := ad) (t := textOf sSc (ps.map pp)) (sp := sSc) (ws := (ps.map pp).map .str) (ga := ad.pair_from) (bg := b_pair_from) (ng := 3) (r := true) (vs := ps.map pD) (pieces_ok (g.parts h)) (by simp) (by have := g.len; simp; omega)
    (fun p hp => by
      rw [List.map_map] at hp
      obtain ⟨x, hx, rfl⟩ := zip_mem (f := D.str ∘ pp) (g := pD) hp
      exact ⟨(pair_of h g hx).1, rfl⟩)
    (fun _ => by
      rw [List.pairwise_map]
      exact g.asc.imp fun {a b} q => le_pairs q)
  have q : mCallS (b_values_from ad ad.pair_from b_pair_from 3) 8 4 (eCons (mVar 0) (eCons (M.ret (.str (PySem.Str.ofString "; "))) (eSt (.ref ad.pair_from) (eCons (M.ret (.bl true)) (eNil))))) [some (.d (.str (textOf sSc (ps.map pp))))] = .ok (.tup (ps.map pD)) [some (.d (.str (textOf sSc (ps.map pp))))] :=
    callS_of (ss := [.d (.str (textOf sSc (ps.map pp))), .d (.str sSc), .st (.ref ad.pair_from), .d (.bl true)]) rfl rfl v
  simp [b_pairs_from, outD, startE, sRet_at, aT_at, ↓q, ret_at]
end Law

set_option maxRecDepth 100000
set_option maxHeartbeats 1000000
set_option linter.all false
namespace Mir
open PySem L2
/-- a comprehension whose turns change what is around: the budget goes down by one a turn -/
theorem comp_inv {s : D → Mir.Env → Option Mir.Env} {x : M D} {vs : List Nat} (I : Nat → Mir.Env → Prop) (P : D → Prop) (step : ∀ n e d, I (n + 1) e → ∃ e1 e2 v, s d e = some e1 ∧ x e1 = .ok v e2 ∧ P v ∧ I n (ewipe e2 vs)) :
    ∀ (ds acc : List D) (n : Nat) (e : Mir.Env), I (n + ds.length) e → acc.length + ds.length ≤ 100000 → ∃ ys e', mComp s tYesM x vs acc ds e = .ok (acc ++ ys) e' ∧ ys.length = ds.length ∧ (∀ y ∈ ys, P y) ∧ I n e'
  | [], acc, n, e, i, _ => ⟨[], e, by rw [List.append_nil]; rfl, rfl, by simp, i⟩
  | d :: ds, acc, n, e, i, hl => by
    rw [List.length_cons] at hl
    obtain ⟨e1, e2, v, h1, h2, h3, h4⟩ := step (n + ds.length) e d i
    obtain ⟨ys, e', q, r1, r2, r3⟩ := comp_inv I P step ds (acc ++ [v]) n (ewipe e2 vs) h4 (by rw [List.length_append, List.length_singleton]; omega)
    refine ⟨v :: ys, e', ?_, by simp [r1], fun y hy => ?_, r3⟩
    · have hm : mLine (acc.length + 1) = true := decide_eq_true (by omega)
      have ht : tYesM e1 = .ok true e1 := rfl
      unfold mComp
      simp only [h1, ht, h2, hm, if_true]
      rw [q]
      simp
    · rcases List.mem_cons.mp hy with z | z
      · rw [z]; exact h3
      · exact r2 y z
theorem lc_inv {w : M (List D)} {s : D → Mir.Env → Option Mir.Env} {x : M D} {vs : List Nat} {e : Mir.Env} {ds : List D} {n : Nat} (I : Nat → Mir.Env → Prop) (P : D → Prop) (hw : w e = .ok ds e) (hl : ds.length ≤ 100000) (h0 : I (n + ds.length) (ewipe e vs))
    (step : ∀ n e d, I (n + 1) e → ∃ e1 e2 v, s d e = some e1 ∧ x e1 = .ok v e2 ∧ P v ∧ I n (ewipe e2 vs)) : ∃ ys e', mLc w s tYesM x vs e = .ok ys e' ∧ ys.length = ds.length ∧ (∀ y ∈ ys, P y) ∧ I n e' := by
  obtain ⟨ys, e', q, r⟩ := comp_inv I P step ds [] n (ewipe e vs) h0 (by simpa using hl)
  refine ⟨ys, e', ?_, r⟩
  show M.andThen w (fun ds => fun e => mComp s tYesM x vs [] ds (ewipe e vs)) e = _
  unfold M.andThen
  rw [hw]
  exact q
end Mir

set_option maxRecDepth 100000
set_option maxHeartbeats 1000000
set_option linter.all false
namespace Mir
open PySem L2
theorem py_all {n : Nat} (ih : ∀ d, plainN n d = true → ∃ p, toPy d = some p ∧ p.canLay0 = true ∧ p.depth ≤ n) : ∀ xs : List D, (∀ x ∈ xs, plainN n x = true) → ∃ ps, toPys xs = some ps ∧ PyData.canLayAll0 ps = true ∧ PyData.depthAll ps ≤ n ∧ (ps = [] ↔ xs = [])
  | [], _ => ⟨[], rfl, rfl, Nat.zero_le _, by simp⟩
  | x :: xs, h => by
    obtain ⟨p, a1, a2, a3⟩ := ih x (h x List.mem_cons_self)
    obtain ⟨ps, b1, b2, b3, b4⟩ := py_all ih xs fun y hy => h y (List.mem_cons_of_mem _ hy)
    refine ⟨p :: ps, by simp [toPys, a1, b1], by simp [PyData.canLayAll0, a2, b2], ?_, by simp⟩
    show max p.depth (PyData.depthAll ps) ≤ n
    omega
theorem plain_py : ∀ (n : Nat) (d : D), plainN n d = true → ∃ p, toPy d = some p ∧ p.canLay0 = true ∧ p.depth ≤ n
  | 0, d, h => by cases h
  | n + 1, d, h => by
    cases d with
    | non => exact ⟨_, rfl, rfl, by simp [PyData.depth]⟩
    | bl b => exact ⟨_, rfl, rfl, by simp [PyData.depth]⟩
    | int i => exact ⟨_, rfl, rfl, by simp [PyData.depth]⟩
    | str s => exact ⟨.str s, rfl, h, by simp [PyData.depth]⟩
    | lst xs =>
      have ha : ∀ x ∈ xs, plainN n x = true := List.all_eq_true.mp (Bool.and_eq_true _ _ ▸ h : _ ∧ _).2
      obtain ⟨ps, b1, b2, b3, _⟩ := py_all (plain_py n) xs ha
      exact ⟨.list ps, by simp [toPy, b1], by simpa [PyData.canLay0] using b2, by simp [PyData.depth]; omega⟩
    | tup xs =>
      have ha : ∀ x ∈ xs, plainN n x = true := List.all_eq_true.mp (Bool.and_eq_true _ _ ▸ h : _ ∧ _).2
      obtain ⟨ps, b1, b2, b3, _⟩ := py_all (plain_py n) xs ha
      exact ⟨.tuple ps, by simp [toPy, b1], by simpa [PyData.canLay0] using b2, by simp [PyData.depth]; omega⟩
    | _ => cases h
theorem ne_tup {xs : List D} (h : ∀ x ∈ xs, plainN 8 x = true) : dNe (.tup xs) (.tup []) = some (.bl (decide (xs ≠ []))) := by
  obtain ⟨ps, b1, b2, b3, b4⟩ := py_all (plain_py 8) xs h
  have hd : PyData.depthAll ps + 1 ≤ 64 := by omega
  cases xs with
  | nil => cases b1; simp [dNe, eqD, toPy, toPys, SeqAt.shaped, PyData.canLay0, PyData.canLayAll0, PyData.depth, PyData.depthAll, PyData.eqv, PyData.eqvAll]
  | cons x xs =>
    cases ps with
    | nil => exact absurd (b4.mp rfl) (by simp)
    | cons p ps =>
      have t : toPy (.tup (x :: xs)) = some (.tuple (p :: ps)) := by
        show (toPys (x :: xs)).map PyData.tuple = _
        rw [b1]
        rfl
      have t0 : toPy (.tup []) = some (.tuple []) := rfl
      have s1 : SeqAt.shaped (.tuple (p :: ps)) = true := by
        show (PyData.canLayAll0 (p :: ps) && decide (PyData.depth (.tuple (p :: ps)) ≤ 64)) = true
        rw [b2, Bool.true_and]
        exact decide_eq_true (by simp only [PyData.depth]; omega)
      have s2 : SeqAt.shaped (.tuple []) = true := by decide +kernel
      unfold dNe eqD
      rw [t, t0]
      simp [s1, s2, PyData.eqv, PyData.eqvAll]
theorem ne_lst {xs : List D} (h : ∀ x ∈ xs, plainN 8 x = true) : dNe (.lst xs) (.lst []) = some (.bl (decide (xs ≠ []))) := by
  obtain ⟨ps, b1, b2, b3, b4⟩ := py_all (plain_py 8) xs h
  have hd : PyData.depthAll ps + 1 ≤ 64 := by omega
  cases xs with
  | nil => cases b1; simp [dNe, eqD, toPy, toPys, SeqAt.shaped, PyData.canLay0, PyData.canLayAll0, PyData.depth, PyData.depthAll, PyData.eqv, PyData.eqvAll]
  | cons x xs =>
    cases ps with
    | nil => exact absurd (b4.mp rfl) (by simp)
    | cons p ps =>
      have t : toPy (.lst (x :: xs)) = some (.list (p :: ps)) := by
        show (toPys (x :: xs)).map PyData.list = _
        rw [b1]
        rfl
      have t0 : toPy (.lst []) = some (.list []) := rfl
      have s1 : SeqAt.shaped (.list (p :: ps)) = true := by
        show (PyData.canLayAll0 (p :: ps) && decide (PyData.depth (.list (p :: ps)) ≤ 64)) = true
        rw [b2, Bool.true_and]
        exact decide_eq_true (by simp only [PyData.depth]; omega)
      have s2 : SeqAt.shaped (.list []) = true := by decide +kernel
      unfold dNe eqD
      rw [t, t0]
      simp [s1, s2, PyData.eqv, PyData.eqvAll]
end Mir
namespace Law
open PySem L2 Mir TL
/-- a text told by the law's own hand -/
theorem if_text {sp : Str} {parts : List Str} {cond : M Bool} {X : M D} {e : Mir.Env} {d : D} (h : Parts sp parts) (hc : cond e = .ok (decide (parts ≠ [])) e) (hX : X e = .ok d e) (hd : d = .lst (parts.map .str) ∨ d = .tup (parts.map .str)) :
    mIf cond (mM1 dJoin (M.ret (.str sp)) (vD X)) (M.ret (.str (PySem.Str.ofString "-"))) e = .ok (.str (textOf sp parts)) e := by
  have hj : dJoin (.str sp) d = some (.str (Txt.join sp parts)) := by
    have hf : joinFits sp parts = true := by
      refine decide_eq_true ?_
      have h1 : (parts.map (·.length)).sum ≤ parts.length * 200 := sum_le fun p hp => (h.each p hp).2.1
      obtain ⟨s, S, e, hS, _⟩ := h.sep
      have h2 : sp.length ≤ 2 := by rw [len_tl, e]; simp; omega
      have h3 := h.len
      have h4 : parts.length * sp.length ≤ 100 * 2 := Nat.mul_le_mul h3 h2
      omega
    rcases hd with rfl | rfl <;> (show (strsD (parts.map .str)).bind (fun ys => if joinFits sp ys = true then some (D.str (Txt.join sp ys)) else none) = _; rw [strsD_map]; show (if joinFits sp parts = true then some (D.str (Txt.join sp parts)) else none) = _; rw [hf, if_pos rfl])
  have q : mM1 dJoin (M.ret (.str sp)) (vD X) e = .ok (.str (Txt.join sp parts)) e := mM1_ok rfl (by simp [vD_at, aT_at, hX, ret_at]) hj
  rw [mIf_at, aT_at, hc]
  by_cases hn : parts = []
  · simp [hn, ret_at, textOf]
  · simp [hn, q, textOf]
theorem plain_str {n : Nat} {s : Str} (h : PyData.strOk s = true) : plainN (n + 1) (.str s) = true := h
theorem plain_strs {n : Nat} {ss : List Str} (h : ∀ s ∈ ss, PyData.strOk s = true) : ∀ x ∈ ss.map D.str, plainN (n + 1) x = true := fun x hx => by
  obtain ⟨s, hs, rfl⟩ := List.mem_map.mp hx
  exact h s hs
theorem plain_tup {n : Nat} {xs : List D} (hl : xs.length ≤ 100000) (h : ∀ x ∈ xs, plainN n x = true) : plainN (n + 1) (.tup xs) = true := by
  show (decide (xs.length ≤ 100000) && xs.all (plainN n)) = true
  rw [decide_eq_true hl, List.all_eq_true.mpr h]
  rfl
theorem plain_lst {n : Nat} {xs : List D} (hl : xs.length ≤ 100000) (h : ∀ x ∈ xs, plainN n x = true) : plainN (n + 1) (.lst xs) = true := by
  show (decide (xs.length ≤ 100000) && xs.all (plainN n)) = true
  rw [decide_eq_true hl, List.all_eq_true.mpr h]
  rfl
theorem plain_pD {n : Nat} {x : Str × Str} (h1 : PyData.strOk x.1 = true) (h2 : PyData.strOk x.2 = true) : plainN (n + 2) (pD x) = true := plain_tup (by simp) fun y hy => by
  simp only [List.mem_cons, List.not_mem_nil, or_false] at hy
  rcases hy with rfl | rfl
  · exact h1
  · exact h2
theorem Parts.textOk {sp : Str} {parts : List Str} (h : Parts sp parts) : PyData.strOk (textOf sp parts) = true := by
  unfold textOf
  by_cases z : parts = []
  · rw [if_pos z]; decide +kernel
  · rw [if_neg z]; exact h.ok
end Law

set_option maxRecDepth 100000
set_option maxHeartbeats 1000000
set_option linter.all false
namespace Mir
open PySem L2
theorem seq_nx {a b : M Out} {e e1 : Mir.Env} (h : a e = .ok .nx e1) : sSeq a b e = b e1 := by rw [sSeq_at, h]
theorem asg_nx {m : M D} {g : D → Mir.Env → Option Mir.Env} {e e1 e2 : Mir.Env} {d : D} (h : m e = .ok d e1) (hg : g d e1 = some e2) : sAsg m g e = .ok .nx e2 := by
  rw [sAsg_at, h]
  show sDo (g d e1) e1 = _
  rw [hg]
  rfl
theorem par_nx {i j : Nat} {m : M (List Sl)} {e e1 e2 : Mir.Env} {s t : Sl} (h : m e = .ok [s, t] e1) (hp : putS [i, j] [s, t] e1 = some e2) : sPar i j m e = .ok .nx e2 := by
  unfold sPar
  rw [h]
  show sDo (putS [i, j] [s, t] e1) e1 = _
  rw [hp]
  rfl
theorem iDat_ok {m : M D} {r : M (List Sl)} {e e1 e2 : Mir.Env} {d : D} {ss : List Sl} (h : m e = .ok d e1) (hr : r e1 = .ok ss e2) : iDat m r e = .ok (.d d :: ss) e2 := by
  unfold iDat
  rw [h]
  show iDatk r d e1 = _
  unfold iDatk
  rw [hr]
theorem iNil_ok {e : Mir.Env} : iNil e = .ok [] e := rfl
theorem mF_ok {m : M (List D)} {e e1 : Mir.Env} {ds : List D} (h : m e = .ok ds e1) : mF m e = .ok (.lst ds) e1 := by rw [mF_at, aT_at, h]
theorem cons_ok {a : M D} {b : M (List D)} {e e1 e2 : Mir.Env} {x : D} {xs : List D} (ha : a e = .ok x e1) (hb : b e1 = .ok xs e2) : mCons a b e = .ok (x :: xs) e2 := by
  rw [mCons_at, aT_at, ha]
  show M.andThen b _ e1 = _
  rw [aT_at, hb]
theorem nil_ok {e : Mir.Env} : mNil e = .ok [] e := rfl
theorem lst_ok {a : M (List D)} {e e1 : Mir.Env} {xs : List D} (h : a e = .ok xs e1) (hl : xs.length ≤ 100000) : mLst a e = .ok (.lst xs) e1 := by
  have hm : mLine xs.length = true := decide_eq_true hl
  rw [mLst_at, aT_at, h]
  show M.lift (if mLine xs.length = true then some (D.lst xs) else none) e1 = _
  rw [if_pos hm]
  rfl
theorem tup_ok {a : M (List D)} {e e1 : Mir.Env} {xs : List D} (h : a e = .ok xs e1) (hl : xs.length ≤ 100000) : mTup a e = .ok (.tup xs) e1 := by
  have hm : mLine xs.length = true := decide_eq_true hl
  rw [mTup_at, aT_at, h]
  show M.lift (if mLine xs.length = true then some (D.tup xs) else none) e1 = _
  rw [if_pos hm]
  rfl
theorem bin_ok {f : D → D → Option D} {a b : M D} {e e1 e2 : Mir.Env} {x y r : D} (ha : a e = .ok x e1) (hb : b e1 = .ok y e2) (hf : f x y = some r) : mBin f a b e = .ok r e2 := by
  rw [mBin_at, aT_at, ha]
  show M.andThen b _ e1 = _
  rw [aT_at, hb]
  show M.lift (f x y) e2 = _
  rw [hf]
  rfl
theorem cb_ok {f : List D → Option D} {a : M (List D)} {e e1 : Mir.Env} {xs : List D} {r : D} (ha : a e = .ok xs e1) (hf : f xs = some r) : mCB f a e = .ok r e1 := by
  rw [mCB_at, aT_at, ha]
  show M.lift (f xs) e1 = _
  rw [hf]
  rfl
theorem ret_ok {m : M D} {e e1 : Mir.Env} {d : D} (h : m e = .ok d e1) : sRet m e = .ok (.rt d) e1 := by rw [sRet_at, aT_at, h]
theorem add_lst {xs ys : List D} (h : xs.length + ys.length ≤ 100000) : dAdd (.lst xs) (.lst ys) = some (.lst (xs ++ ys)) := by
  show (if mLine (xs.length + ys.length) = true then some (D.lst (xs ++ ys)) else none) = _
  rw [if_pos (show mLine _ = true from decide_eq_true h)]
theorem add_str {a b : Str} (h : a.length + b.length ≤ 100000) : dAdd (.str a) (.str b) = some (.str (a ++ b)) := by
  show (if mLine (a.length + b.length) = true then some (D.str (a ++ b)) else none) = _
  rw [if_pos (show mLine _ = true from decide_eq_true h)]
theorem eq_strs {a b : Str} (ha : PyData.strOk a = true) (hb : PyData.strOk b = true) : dEq (.str a) (.str b) = some (.bl (decide (a = b))) := by
  simp [dEq, eqD, toPy, SeqAt.shaped, PyData.canLay0, PyData.depth, PyData.eqv, ha, hb]
  rfl
theorem cond_tup {i : Nat} {xs : List D} {parts : List Str} {e : Mir.Env} (hv : mVar i e = .ok (.tup xs) e) (hp : ∀ x ∈ xs, plainN 8 x = true) (hx : xs = [] ↔ parts = []) : mB (mBin dNe (mVar i) (mTup (mNil))) e = .ok (decide (parts ≠ [])) e := by
  have q : mBin dNe (mVar i) (mTup (mNil)) e = .ok (.bl (decide (parts ≠ []))) e := bin_ok hv (tup_ok nil_ok (by simp)) (by rw [ne_tup hp]; exact congrArg (fun b => some (D.bl b)) (decide_eq_decide.mpr (not_congr hx)))
  rw [mB_at, q]
theorem cond_lst {i : Nat} {xs : List D} {parts : List Str} {e : Mir.Env} (hv : mVar i e = .ok (.lst xs) e) (hp : ∀ x ∈ xs, plainN 8 x = true) (hx : xs = [] ↔ parts = []) : mB (mBin dNe (mVar i) (mLst (mNil))) e = .ok (decide (parts ≠ [])) e := by
  have q : mBin dNe (mVar i) (mLst (mNil)) e = .ok (.bl (decide (parts ≠ []))) e := bin_ok hv (lst_ok nil_ok (by simp)) (by rw [ne_lst hp]; exact congrArg (fun b => some (D.bl b)) (decide_eq_decide.mpr (not_congr hx)))
  rw [mB_at, q]
theorem outI_of {m : M Out} {e e' : Mir.Env} {d : D} {ys : List D} (h : m e = .ok (.rt d) e') (hy : ioAt e' = some ys) : outI (m e) = some (d, ys) := by
  rw [h]
  show (ioAt e').map _ = _
  rw [hy]
  rfl
theorem all_true {ys : List D} (h : ∀ y ∈ ys, y = .bl true) : dAll [.lst ys] = some (.bl true) := by
  have e : ys = ys.map fun _ => D.bl true := by
    induction ys with
    | nil => rfl
    | cons y ys ih =>
      rw [List.map_cons, ← ih fun z hz => h z (List.mem_cons_of_mem _ hz), h y List.mem_cons_self]
  have b : blsD ys = some (ys.map fun _ => true) := by
    rw [e, bls_true]
    simp
  show (blsD ys).map _ = _
  rw [b]
  simp
theorem andT_ok {a b : M D} {e e1 : Mir.Env} {r : R D} (h : a e = .ok (.bl true) e1) (hb : b e1 = r) : mAndT a b e = r := by
  rw [mAndT_at, h]
  exact hb
mutual
def beqD : D → D → Bool
  | .str a, .str b => decide (a = b)
  | .int a, .int b => decide (a = b)
  | .bl a, .bl b => decide (a = b)
  | .tup xs, .tup ys => beqDs xs ys
  | .lst xs, .lst ys => beqDs xs ys
  | _, _ => false
def beqDs : List D → List D → Bool
  | [], [] => true
  | x :: xs, y :: ys => beqD x y && beqDs xs ys
  | _, _ => false
end
mutual
theorem beqD_ok : ∀ {a b : D}, beqD a b = true → a = b
  | .str a, b, h => by
    cases b <;> first | (cases h; done) | skip
    exact congrArg D.str (of_decide_eq_true h)
  | .int a, b, h => by
    cases b <;> first | (cases h; done) | skip
    exact congrArg D.int (of_decide_eq_true h)
  | .bl a, b, h => by
    cases b <;> first | (cases h; done) | skip
    exact congrArg D.bl (of_decide_eq_true h)
  | .tup xs, b, h => by
    cases b <;> first | (cases h; done) | skip
    exact congrArg D.tup (beqDs_ok h)
  | .lst xs, b, h => by
    cases b <;> first | (cases h; done) | skip
    exact congrArg D.lst (beqDs_ok h)
  | .non, b, h => by cases b <;> cases h
  | .dct _, b, h => by cases b <;> cases h
  | .ins _ _, b, h => by cases b <;> cases h
  | .fn _, b, h => by cases b <;> cases h
  | .fz _, b, h => by cases b <;> cases h
  | .xc _ _, b, h => by cases b <;> cases h
theorem beqDs_ok : ∀ {a b : List D}, beqDs a b = true → a = b
  | [], [], _ => rfl
  | [], _ :: _, h => by cases h
  | _ :: _, [], h => by cases h
  | x :: xs, y :: ys, h => by
    have h : (beqD x y && beqDs xs ys) = true := h
    rw [Bool.and_eq_true] at h
    rw [beqD_ok h.1, beqDs_ok h.2]
end
def beqO : Option D → D → Bool
  | some a, b => beqD a b
  | none, _ => false
theorem beqO_ok {o : Option D} {b : D} (h : beqO o b = true) : o = some b := by
  cases o with
  | none => cases h
  | some a => exact congrArg some (beqD_ok h)
def isT : Option D → Bool
  | some (.bl true) => true
  | _ => false
theorem isT_ok {o : Option D} (h : isT o = true) : o = some (.bl true) := by
  unfold isT at h
  split at h
  · rfl
  · cases h
def nxE : R Out → Mir.Env
  | .ok .nx e => e
  | _ => []
def isNx : R Out → Bool
  | .ok .nx _ => true
  | _ => false
theorem nx_of {r : R Out} (h : isNx r = true) : r = .ok .nx (nxE r) := by
  unfold isNx at h
  split at h
  · rfl
  · cases h
def lstAt (i : Nat) (e : Mir.Env) : List D := match e[i]? with
  | some (some (.d (.lst xs))) => xs
  | _ => []
def isLstAt (i : Nat) (e : Mir.Env) : Bool := match e[i]? with
  | some (some (.d (.lst xs))) => true
  | _ => false
theorem lstAt_of {i : Nat} {e : Mir.Env} (h : isLstAt i e = true) : e[i]? = some (some (.d (.lst (lstAt i e)))) := by
  unfold isLstAt at h
  unfold lstAt
  split at h
  · rename_i xs q
    rw [q]
  · cases h
def isNoneAt (i : Nat) (e : Mir.Env) : Bool := match e[i]? with
  | some none => true
  | _ => false
theorem noneAt_of {i : Nat} {e : Mir.Env} (h : isNoneAt i e = true) : e[i]? = some none := by
  unfold isNoneAt at h
  split at h
  · rename_i q
    exact q
  · cases h
theorem comp_zip {s : D → Mir.Env → Option Mir.Env} {x : M D} {vs : List Nat} {e : Mir.Env} : ∀ {ps : List (D × D)} {acc : List D}, acc.length + ps.length ≤ 100000 → (∀ p ∈ ps, ∃ e1 e2, s p.1 e = some e1 ∧ x e1 = .ok p.2 e2 ∧ ewipe e2 vs = e) →
    mComp s tYesM x vs acc (ps.map (·.1)) e = .ok (acc ++ ps.map (·.2)) e
  | [], acc, _, _ => by
    rw [List.map_nil, List.map_nil, List.append_nil]
    rfl
  | d :: ds, acc, hl, h => by
    obtain ⟨e1, e2, h1, h2, h3⟩ := h d List.mem_cons_self
    rw [List.length_cons] at hl
    have hm : mLine (acc.length + 1) = true := decide_eq_true (by omega)
    have ih := comp_zip (s := s) (x := x) (vs := vs) (e := e) (ps := ds) (acc := acc ++ [d.2]) (by rw [List.length_append, List.length_singleton]; omega) fun d' hd => h d' (List.mem_cons_of_mem _ hd)
    have ht : tYesM e1 = .ok true e1 := rfl
    rw [List.map_cons]
    unfold mComp
    simp only [h1, ht, h2, hm, if_true, h3, ih]
    simp
theorem lc_zip {w : M (List D)} {s : D → Mir.Env → Option Mir.Env} {x : M D} {vs : List Nat} {e e1 : Mir.Env} {ps : List (D × D)} (hw : w e = .ok (ps.map (·.1)) e1) (hl : ps.length ≤ 100000) (h0 : ewipe e1 vs = e1)
    (h : ∀ p ∈ ps, ∃ e2 e3, s p.1 e1 = some e2 ∧ x e2 = .ok p.2 e3 ∧ ewipe e3 vs = e1) : mLc w s tYesM x vs e = .ok (ps.map (·.2)) e1 := by
  have q := comp_zip (acc := []) (by simpa using hl) h
  show M.andThen w (fun ds => fun e => mComp s tYesM x vs [] ds (ewipe e vs)) e = _
  unfold M.andThen
  rw [hw]
  show mComp s tYesM x vs [] _ (ewipe e1 vs) = _
  rw [h0, q, List.nil_append]
theorem set_none {e : Mir.Env} {i : Nat} {x : Option Sl} (h : e[i]? = some none) : (e.set i x).set i none = e := by
  obtain ⟨hi, h⟩ := List.getElem?_eq_some_iff.mp h
  rw [List.set_set]
  apply List.ext_getElem?
  intro j
  by_cases z : i = j
  · subst z
    rw [List.getElem?_set_self hi, List.getElem?_eq_getElem hi, h]
  · rw [List.getElem?_set_ne z]
def pwB : List D → Bool
  | [] => true
  | v :: vs => vs.all (fun w => beqO (dLeB w v) (.bl false)) && pwB vs
theorem pwB_ok : ∀ {vs : List D}, pwB vs = true → vs.Pairwise fun z v => dLeB v z = some (.bl false)
  | [], _ => .nil
  | v :: vs, h => by
    have h : (vs.all (fun w => beqO (dLeB w v) (.bl false)) && pwB vs) = true := h
    rw [Bool.and_eq_true] at h
    exact .cons (fun w hw => beqO_ok (List.all_eq_true.mp h.1 w hw)) (pwB_ok h.2)
end Mir

set_option maxRecDepth 100000
set_option maxHeartbeats 1000000
set_option linter.all false
namespace Mir
open PySem L2
theorem callAt_of {fs : List Df} {k : M D} {a : M (List D)} {e e1 : Mir.Env} {i : Nat} {f : Df} (hk : k e = .ok (.int (i : Int)) e1) (hf : fs[i]? = some f) : mCallAt fs k a e = mCall f.2.1 f.2.2.length 1 a e1 := by
  show M.andThen k (callAtK fs a) e = _
  unfold M.andThen
  rw [hk]
  show callAtK fs a (.int i) e1 = _
  unfold callAtK
  dsimp only
  rw [if_pos (by omega), Int.toNat_natCast, hf]
theorem callX_of {b : M Out} {n np : Nat} {a : M (List D)} {e e1 e2 : Mir.Env} {ds : List D} {x : D} (ha : a e = .ok ds e1) (hn : ds.length = np) (h : b (startE n (ds.map .d)) = .ex x e2) : mCall b n np a e = .ex x e1 := by
  show M.andThen a _ e = _
  unfold M.andThen
  rw [ha]
  show (if ds.length = np then back e1 (runD b n (ds.map .d)) else .bad) = _
  rw [if_pos hn]
  unfold runD
  rw [h]
  rfl
theorem callSX_of {b : M Out} {n np : Nat} {a : M (List Sl)} {e e1 e2 : Mir.Env} {ss : List Sl} {x : D} (ha : a e = .ok ss e1) (hn : ss.length = np) (h : b (startE n ss) = .ex x e2) : mCallS b n np a e = .ex x e1 := by
  show M.andThen a (callS b n np) e = _
  unfold M.andThen
  rw [ha]
  show (if ss.length = np then back e1 (runD b n ss) else .bad) = _
  rw [if_pos hn]
  unfold runD
  rw [h]
  rfl
theorem asgX {m : M D} {g : D → Mir.Env → Option Mir.Env} {e e1 : Mir.Env} {x : D} (h : m e = .ex x e1) : sAsg m g e = .ex x e1 := by rw [sAsg_at, h]
theorem retX {m : M D} {e e1 : Mir.Env} {x : D} (h : m e = .ex x e1) : sRet m e = .ex x e1 := by rw [sRet_at, aT_at, h]
theorem if_t {c : M Bool} {m n : M D} {e e1 : Mir.Env} (h : c e = .ok true e1) : mIf c m n e = m e1 := by
  rw [mIf_at, aT_at, h]
  rfl
theorem if_f {c : M Bool} {m n : M D} {e e1 : Mir.Env} (h : c e = .ok false e1) : mIf c m n e = n e1 := by
  rw [mIf_at, aT_at, h]
  rfl
theorem sif_f {c : M Bool} {m n : M Out} {e e1 : Mir.Env} (h : c e = .ok false e1) : sIf c m n e = n e1 := by
  rw [sIf_at, aT_at, h]
  rfl
theorem sif_t {c : M Bool} {m n : M Out} {e e1 : Mir.Env} (h : c e = .ok true e1) : sIf c m n e = m e1 := by
  rw [sIf_at, aT_at, h]
  rfl
theorem b_ok {m : M D} {e e1 : Mir.Env} {b : Bool} (h : m e = .ok (.bl b) e1) : mB m e = .ok b e1 := by rw [mB_at, h]
theorem not_true {m : M D} {e e1 : Mir.Env} (h : m e = .ok (.bl true) e1) : mNot (mTru (vD m)) e = .ok false e1 := by
  simp [mNot_at, mTru_at, vD_at, aT_at, h, ret_at, rdv_at, truD, lift_at]
def isNonO : Option D → Bool
  | some .non => true
  | _ => false
theorem isNonO_ok {o : Option D} (h : isNonO o = true) : o = some .non := by
  unfold isNonO at h
  split at h
  · rfl
  · cases h
theorem fld_ok {cs : List Addr} {f : Str} {m : M D} {e e1 : Mir.Env} {C : Addr} {fs : List (Str × D)} {x : D} (h : m e = .ok (.xc C fs) e1) (hc : C ∈ cs) (hl : fs.lookup f = some x) : mFld cs f m e = .ok x e1 := by
  unfold mFld
  rw [bind_at, h]
  show fldK cs f (.xc C fs) e1 = _
  unfold fldK
  dsimp only
  rw [if_pos hc, hl]
end Mir
namespace Law
open PySem L2 Mir TL
abbrev fsOf (ad : Ad) : List Df := [(ad.steps_from, (b_steps_from ad), N_steps_from), (ad.pairs_from, (b_pairs_from ad), N_pairs_from), (ad.sizes_from, (b_sizes_from ad), N_sizes_from), (ad.run_from, (b_run_from ad), N_run_from)]
theorem heard_ok {ad : Ad} {i : Nat} {f : Df} {t : Str} {d : D} (hf : (fsOf ad)[i]? = some f) (hn : f.2.2.length = 1) (h : outD (f.2.1 (startE 1 [.d (.str t)])) = some d) : outD (b_l_heard ad (startE 5 [.d (.str t), .d (.int i)])) = some d := by
  have q : mCallAt (fsOf ad) (mVar 1) (mCons (mVar 0) (mNil)) [some (.d (.str t)), some (.d (.int i)), some (.d .non), some (.d .non), none] = .ok d [some (.d (.str t)), some (.d (.int i)), some (.d .non), some (.d .non), none] :=
    (callAt_of (e1 := [some (.d (.str t)), some (.d (.int i)), some (.d .non), some (.d .non), none]) rfl hf).trans (by rw [hn]; exact call_of (ds := [.str t]) rfl rfl h)
  have main : b_l_heard ad (startE 5 [.d (.str t), .d (.int i)]) = .ok (.rt d) [some (.d (.str t)), some (.d (.int i)), some (.d .non), some (.d d), none] := by
    unfold b_l_heard
    refine Eq.trans (seq_nx (e1 := [some (.d (.str t)), some (.d (.int i)), some (.d .non), some (.d .non), none]) (asg_nx (tup_ok (cons_ok rfl (cons_ok rfl nil_ok)) (by simp)) rfl)) ?_
    refine Eq.trans (seq_nx (e1 := [some (.d (.str t)), some (.d (.int i)), some (.d .non), some (.d d), none]) ?_) ?_
    · show tryK _ 4 2 (sAsg _ _ _) = _
      rw [asg_nx (e2 := [some (.d (.str t)), some (.d (.int i)), some (.d .non), some (.d d), none]) q rfl]
      rfl
    · exact ret_ok (Eq.trans (if_t (e1 := [some (.d (.str t)), some (.d (.int i)), some (.d .non), some (.d d), none]) (b_ok (bin_ok (x := .non) (y := .non) rfl rfl rfl))) rfl)
  exact congrArg outD main
theorem heard_bad {ad : Ad} {i k : Nat} {f : Df} {t : Str} (hf : (fsOf ad)[i]? = some f) (hn : f.2.2.length = 1) (h : ∃ e', f.2.1 (startE 1 [.d (.str t)]) = .ex (.ins ad.c_BadText [("piece", .int k)]) e') : outD (b_l_heard ad (startE 5 [.d (.str t), .d (.int i)])) = some (.lst [.int k]) := by
  obtain ⟨e', h⟩ := h
  have q : mCallAt (fsOf ad) (mVar 1) (mCons (mVar 0) (mNil)) [some (.d (.str t)), some (.d (.int i)), some (.d .non), some (.d .non), none] = .ex (.ins ad.c_BadText [("piece", .int k)]) [some (.d (.str t)), some (.d (.int i)), some (.d .non), some (.d .non), none] :=
    (callAt_of (e1 := [some (.d (.str t)), some (.d (.int i)), some (.d .non), some (.d .non), none]) rfl hf).trans (by rw [hn]; exact callX_of (ds := [.str t]) rfl rfl h)
  have main : b_l_heard ad (startE 5 [.d (.str t), .d (.int i)]) = .ok (.rt (.lst [.int k])) [some (.d (.str t)), some (.d (.int i)), some (.d (.xc ad.c_BadText [("piece", .int k)])), some (.d .non), none] := by
    unfold b_l_heard
    refine Eq.trans (seq_nx (e1 := [some (.d (.str t)), some (.d (.int i)), some (.d .non), some (.d .non), none]) (asg_nx (tup_ok (cons_ok rfl (cons_ok rfl nil_ok)) (by simp)) rfl)) ?_
    refine Eq.trans (seq_nx (e1 := [some (.d (.str t)), some (.d (.int i)), some (.d (.xc ad.c_BadText [("piece", .int k)])), some (.d .non), none]) ?_) ?_
    · show tryK _ 4 2 (sAsg _ _ _) = _
      rw [asgX q]
      exact if_pos ⟨List.mem_singleton.mpr rfl, rfl, rfl, by decide⟩
    · refine ret_ok (Eq.trans (if_f (e1 := [some (.d (.str t)), some (.d (.int i)), some (.d (.xc ad.c_BadText [("piece", .int k)])), some (.d .non), none]) (b_ok (bin_ok (x := .xc ad.c_BadText [("piece", .int k)]) (y := .non) rfl rfl rfl))) ?_)
      exact lst_ok (cons_ok (fld_ok (C := ad.c_BadText) (fs := [("piece", .int k)]) rfl (List.mem_singleton.mpr rfl) (by simp [List.lookup])) nil_ok) (by simp)
  exact congrArg outD main
def bgOf : Nat → M Out
  | 0 => b_name_from
  | 1 => b_pair_from
  | 2 => b_size_from
  | _ => b_deed_from
def ngOf : Nat → Nat
  | 0 => 1
  | 1 => 3
  | 2 => 2
  | _ => 1
def spOf : Nat → Str
  | 1 => sSc
  | _ => sSp
def rOf : Nat → Bool
  | 0 => true
  | 1 => true
  | _ => false
def gaOf (ad : Ad) : Nat → Addr
  | 0 => ad.name_from
  | 1 => ad.pair_from
  | 2 => ad.size_from
  | _ => ad.deed_from
abbrev EV8 (ad : Ad) (i : Nat) (t : Str) : Mir.Env := startE 8 [.d (.str t), .d (.str (spOf i)), .st (.ref (gaOf ad i)), .d (.bl (rOf i))]
abbrev bV (ad : Ad) (i : Nat) : M Out := b_values_from ad (gaOf ad i) (bgOf i) (ngOf i)
theorem said_ok {ad : Ad} {i : Nat} {t : Str} {d : D} (hi : i < 4) (h : outD (bV ad i (EV8 ad i t)) = some d) : outD (b_l_heard ad (startE 5 [.d (.str t), .d (.int i)])) = some d := by
  match i, hi, h with
  | 0, _, h => exact heard_ok (i := 0) (f := (ad.steps_from, (b_steps_from ad), N_steps_from)) rfl rfl (congrArg outD (ret_ok (callS_of (e := [some (.d (.str t))]) (ss := [.d (.str t), .d (.str sSp), .st (.ref ad.name_from), .d (.bl true)]) rfl rfl h)))
  | 1, _, h => exact heard_ok (i := 1) (f := (ad.pairs_from, (b_pairs_from ad), N_pairs_from)) rfl rfl (congrArg outD (ret_ok (callS_of (e := [some (.d (.str t))]) (ss := [.d (.str t), .d (.str sSc), .st (.ref ad.pair_from), .d (.bl true)]) rfl rfl h)))
  | 2, _, h => exact heard_ok (i := 2) (f := (ad.sizes_from, (b_sizes_from ad), N_sizes_from)) rfl rfl (congrArg outD (ret_ok (callS_of (e := [some (.d (.str t))]) (ss := [.d (.str t), .d (.str sSp), .st (.ref ad.size_from), .d (.bl false)]) rfl rfl h)))
  | 3, _, h => exact heard_ok (i := 3) (f := (ad.run_from, (b_run_from ad), N_run_from)) rfl rfl (congrArg outD (ret_ok (callS_of (e := [some (.d (.str t))]) (ss := [.d (.str t), .d (.str sSp), .st (.ref ad.deed_from), .d (.bl false)]) rfl rfl h)))
theorem said_bad {ad : Ad} {i k : Nat} {t : Str} (hi : i < 4) (h : ∃ e', bV ad i (EV8 ad i t) = .ex (.ins ad.c_BadText [("piece", .int k)]) e') : outD (b_l_heard ad (startE 5 [.d (.str t), .d (.int i)])) = some (.lst [.int k]) := by
  obtain ⟨e', h⟩ := h
  match i, hi, h with
  | 0, _, h => exact heard_bad (i := 0) (f := (ad.steps_from, (b_steps_from ad), N_steps_from)) rfl rfl ⟨_, retX (callSX_of (e := [some (.d (.str t))]) (ss := [.d (.str t), .d (.str sSp), .st (.ref ad.name_from), .d (.bl true)]) rfl rfl h)⟩
  | 1, _, h => exact heard_bad (i := 1) (f := (ad.pairs_from, (b_pairs_from ad), N_pairs_from)) rfl rfl ⟨_, retX (callSX_of (e := [some (.d (.str t))]) (ss := [.d (.str t), .d (.str sSc), .st (.ref ad.pair_from), .d (.bl true)]) rfl rfl h)⟩
  | 2, _, h => exact heard_bad (i := 2) (f := (ad.sizes_from, (b_sizes_from ad), N_sizes_from)) rfl rfl ⟨_, retX (callSX_of (e := [some (.d (.str t))]) (ss := [.d (.str t), .d (.str sSp), .st (.ref ad.size_from), .d (.bl false)]) rfl rfl h)⟩
  | 3, _, h => exact heard_bad (i := 3) (f := (ad.run_from, (b_run_from ad), N_run_from)) rfl rfl ⟨_, retX (callSX_of (e := [some (.d (.str t))]) (ss := [.d (.str t), .d (.str sSp), .st (.ref ad.deed_from), .d (.bl false)]) rfl rfl h)⟩
def piecesB (t sp : Str) : Option (List D) := match outD (b_pieces (startE 2 [.d (.str t), .d (.str sp)])) with
  | some (.lst ws) => some ws
  | _ => none
theorem piecesB_ok {t sp : Str} {ws : List D} (h : piecesB t sp = some ws) : PiecesAre t sp ws := by
  unfold piecesB at h
  split at h
  · rename_i q
    cases h
    exact q
  · cases h
def valsB (bg : M Out) (ng : Nat) : List D → Option (List D)
  | [] => some []
  | w :: ws => match outD (bg (startE ng [.d w])), valsB bg ng ws with
    | some v, some vs => if Mir.isNon v = true then none else some (v :: vs)
    | _, _ => none
theorem valsB_ok {bg : M Out} {ng : Nat} : ∀ {ws vs : List D}, valsB bg ng ws = some vs → ws.length = vs.length ∧ ∀ p ∈ ws.zip vs, outD (bg (startE ng [.d p.1])) = some p.2 ∧ Mir.isNon p.2 = false
  | [], vs, h => by cases h; exact ⟨rfl, by simp⟩
  | w :: ws, vs, h => by
    unfold valsB at h
    split at h
    · rename_i v vs' q1 q2
      split at h
      · cases h
      · rename_i z
        cases h
        obtain ⟨r1, r2⟩ := valsB_ok q2
        refine ⟨by simp [r1], fun p hp => ?_⟩
        rcases List.mem_cons.mp hp with y | y
        · rw [y]
          exact ⟨q1, by simpa using z⟩
        · exact r2 p y
    · cases h
def okB (i : Nat) (t : Str) (vs : List D) : Bool := match piecesB t (spOf i) with
  | some ws => match valsB (bgOf i) (ngOf i) ws with
    | some us => beqDs us vs && decide (ws.length < 1000) && (!rOf i || pwB us)
    | none => false
  | none => false
theorem okB_ok {ad : Ad} {i : Nat} {t : Str} {vs : List D} (hi : i < 4) (h : okB i t vs = true) : outD (b_l_heard ad (startE 5 [.d (.str t), .d (.int i)])) = some (.tup vs) := by
  unfold okB at h
  split at h
  · rename_i ws q1
    split at h
    · rename_i us q2
      simp only [Bool.and_eq_true, decide_eq_true_eq, Bool.or_eq_true] at h
      obtain ⟨⟨h1, h2⟩, h3⟩ := h
      obtain ⟨r1, r2⟩ := valsB_ok q2
      rw [← beqDs_ok h1]
      refine said_ok hi (values_ok (piecesB_ok q1) r1 h2 r2 fun hr => ?_)
      rcases h3 with z | z
      · rw [hr] at z; cases z
      · exact pwB_ok z
    · cases h
  · cases h
def badB (i : Nat) (t : Str) (k : Nat) : Bool := match piecesB t (spOf i) with
  | some all => match all.drop k with
    | w :: more => match valsB (bgOf i) (ngOf i) (all.take k), outD (bgOf i (startE (ngOf i) [.d w])) with
      | some vs, some v => decide (all.length < 800) && (!rOf i || pwB vs) && (Mir.isNon v || (!Mir.isNon v && rOf i && (match vs.getLast? with | some z => isT (dLeB v z) | none => false)))
      | _, _ => false
    | [] => false
  | none => false
theorem badB_ok {ad : Ad} {i k : Nat} {t : Str} (hi : i < 4) (h : badB i t k = true) : outD (b_l_heard ad (startE 5 [.d (.str t), .d (.int i)])) = some (.lst [.int k]) := by
  unfold badB at h
  split at h
  · rename_i all q1
    split at h
    · rename_i w more q2
      split at h
      · rename_i vs v q3 q4
        simp only [Bool.and_eq_true, decide_eq_true_eq, Bool.or_eq_true] at h
        obtain ⟨⟨h1, h2⟩, h3⟩ := h
        obtain ⟨r1, r2⟩ := valsB_ok q3
        have hk : k < all.length := by
          by_cases z : k < all.length
          · exact z
          · rw [List.drop_of_length_le (by omega)] at q2; cases q2
        have ha : all = all.take k ++ w :: more := by rw [← q2, List.take_append_drop]
        have hl : (all.take k).length = k := by rw [List.length_take]; omega
        have hm : more.length < 800 := by
          have := congrArg List.length q2
          simp at this
          omega
        have b := values_bad (ad := ad) (t := t) (sp := spOf i) (ga := gaOf ad i) (bg := bgOf i) (ng := ngOf i) (r := rOf i) (ws := all.take k) (vs := vs) (more := more) (w := w) (v := v) (by rw [← ha]; exact piecesB_ok q1) r1 (by
            have := congrArg List.length q2
            simp at this
            omega) r2 (fun hr => by
          rcases h2 with z | z
          · rw [hr] at z; cases z
          · exact pwB_ok z) q4 (by
          rcases h3 with z | ⟨⟨z1, z2⟩, z3⟩
          · exact .inl z
          · refine .inr ⟨by simpa using z1, z2, ?_⟩
            split at z3
            · rename_i z q
              exact ⟨z, q, isT_ok z3⟩
            · cases z3)
        rw [hl] at b
        exact said_bad hi b
      · cases h
    · cases h
  · cases h
end Law

set_option maxRecDepth 100000
set_option maxHeartbeats 1000000
set_option linter.all false
namespace Law
open PySem L2 Mir TL
abbrev tN (p : Str × Nat) : D := .tup [.str p.1, .int p.2]
def fN : D → D
  | .tup [_, .int k] => .lst [.int k]
  | d => d
theorem heard_right_ok {ad : Ad} {i : Nat} {ws : List (Str × Nat)} (hi : i < 4) (hl : ws.length ≤ 1000) (hw : ws.all (fun p => badB i p.1 p.2) = true) : outD (b_l_heard_right ad (startE 5 [.d (.lst (ws.map tN)), .d (.int i)])) = some (.bl true) := by
  have ef : (ws.map tN).map fN = ws.map fun p => D.lst [.int p.2] := by
    rw [List.map_map]
    rfl
  have q1 : mLc (wAny (mVar 0)) (gTupD 2 (gsCons (gSet 3) (gsCons (gSet 4) (gsNil)))) (tYesM) (mCall (b_l_heard ad) 5 2 (mCons (mVar 3) (mCons (mVar 1) (mNil)))) [3, 4] [some (.d (.lst (ws.map tN))), some (.d (.int i)), none, none, none] = .ok ((ws.map tN).map fN) [some (.d (.lst (ws.map tN))), some (.d (.int i)), none, none, none] := by
    refine lc_map (e1 := [some (.d (.lst (ws.map tN))), some (.d (.int i)), none, none, none]) rfl (by rw [List.length_map]; omega) rfl fun d hd => ?_
    obtain ⟨p, hp, rfl⟩ := List.mem_map.mp hd
    exact ⟨[some (.d (.lst (ws.map tN))), some (.d (.int i)), none, some (.d (.str p.1)), some (.d (.int p.2))], [some (.d (.lst (ws.map tN))), some (.d (.int i)), none, some (.d (.str p.1)), some (.d (.int p.2))], rfl, call_of (ds := [.str p.1, .int i]) rfl rfl (badB_ok hi (List.all_eq_true.mp hw p hp)), rfl⟩
  have q2 : mLc (wAny (mVar 0)) (gTupD 2 (gsCons (gSet 3) (gsCons (gSet 4) (gsNil)))) (tYesM) (mLst (mCons (mVar 4) (mNil))) [3, 4] [some (.d (.lst (ws.map tN))), some (.d (.int i)), some (.d (.lst ((ws.map tN).map fN))), none, none] = .ok ((ws.map tN).map fN) [some (.d (.lst (ws.map tN))), some (.d (.int i)), some (.d (.lst ((ws.map tN).map fN))), none, none] := by
    refine lc_map (e1 := [some (.d (.lst (ws.map tN))), some (.d (.int i)), some (.d (.lst ((ws.map tN).map fN))), none, none]) rfl (by rw [List.length_map]; omega) rfl fun d hd => ?_
    obtain ⟨p, hp, rfl⟩ := List.mem_map.mp hd
    exact ⟨[some (.d (.lst (ws.map tN))), some (.d (.int i)), some (.d (.lst ((ws.map tN).map fN))), some (.d (.str p.1)), some (.d (.int p.2))], [some (.d (.lst (ws.map tN))), some (.d (.int i)), some (.d (.lst ((ws.map tN).map fN))), some (.d (.str p.1)), some (.d (.int p.2))], rfl, rfl, rfl⟩
  have sm := same_ok 8 (.lst ((ws.map tN).map fN)) (plain_lst (by rw [List.length_map, List.length_map]; omega) fun x hx => by
    rw [ef] at hx
    obtain ⟨p, hp, rfl⟩ := List.mem_map.mp hx
    rfl)
  have main : b_l_heard_right ad (startE 5 [.d (.lst (ws.map tN)), .d (.int i)]) = .ok (.rt (.bl true)) [some (.d (.lst (ws.map tN))), some (.d (.int i)), some (.d (.lst ((ws.map tN).map fN))), none, none] := by
    unfold b_l_heard_right
    refine Eq.trans (seq_nx (e1 := [some (.d (.lst (ws.map tN))), some (.d (.int i)), some (.d (.lst ((ws.map tN).map fN))), none, none]) (asg_nx (mF_ok q1) rfl)) ?_
    exact ret_ok (call_of (ds := [.lst ((ws.map tN).map fN), .lst ((ws.map tN).map fN)]) (cons_ok rfl (cons_ok (mF_ok q2) nil_ok)) rfl sm)
  exact congrArg outD main
abbrev E4 (a : Option D) : Mir.Env := [a.map .d, none, none, none]
theorem hand_if {ad : Ad} {ARG : M D} {e : Mir.Env} {i : Nat} {L : List D} {ws : List (Str × Nat)} (hi : i < 4) (ha : ARG e = .ok (.lst L) e) (hL : L = ws.map tN) (hl : ws.length ≤ 1000) (hw : ws.all (fun p => badB i p.1 p.2) = true) :
    sIf (mNot (mTru (vD (mCall (b_l_heard_right ad) 5 2 (mCons ARG (mCons (M.ret (.int i)) (mNil))))))) (sRet (M.ret (.bl false))) (sNx) e = .ok .nx e := by
  subst hL
  exact Eq.trans (sif_f (not_true (call_of (ds := [.lst (ws.map tN), .int i]) (cons_ok ha (cons_ok rfl nil_ok)) rfl (heard_right_ok hi hl hw)))) rfl

def w0 : List (Str × Nat) := [(Str.ofString "", 0), (Str.ofString " ", 0), (Str.ofString "--", 0), (Str.ofString "- a", 0), (Str.ofString "a -", 1)]
def w1 : List (Str × Nat) := [(Str.ofString "a  b", 1), (Str.ofString " a", 0), (Str.ofString "a ", 1), (Str.ofString "a,b", 0), (Str.ofString "A", 0)]
def w2 : List (Str × Nat) := [(Str.ofString "a B", 1), (Str.ofString "a1", 0), (Str.ofString "b a", 1), (Str.ofString "a a", 1)]
def w3 : List (Str × Nat) := [(Str.ofString "a b ab", 2), (Str.ofString "a b abcdefghi", 2), (Str.ofString "a; b", 0), (Str.ofString "+a", 0)]
def w4 : List (Str × Nat) := [(Str.ofString "c a b", 1), (Str.ofString "a c b d", 2), (Str.ofString "ab a", 1)]
theorem hc0 : (w0 ++ w1 ++ w2 ++ w3 ++ w4).all (fun p => badB 0 p.1 p.2) = true := by decide +kernel
def w5 : List (Str × Nat) := [(Str.ofString "", 0), (Str.ofString " ", 0), (Str.ofString "a", 0), (Str.ofString "a a", 0), (Str.ofString "a b c", 0)]
def w6 : List (Str × Nat) := [(Str.ofString "a  b", 0), (Str.ofString " a b", 0), (Str.ofString "a b ", 0), (Str.ofString "A b", 0)]
def w7 : List (Str × Nat) := [(Str.ofString "a 1", 0), (Str.ofString "a b; a b", 1), (Str.ofString "b c; a b", 1)]
def w8 : List (Str × Nat) := [(Str.ofString "a b; b c; b a", 2), (Str.ofString "a b;b c", 0), (Str.ofString "a b; ", 1)]
def w9 : List (Str × Nat) := [(Str.ofString "a b; -", 1), (Str.ofString "-; a b", 0), (Str.ofString "--", 0)]
def w10 : List (Str × Nat) := [(Str.ofString "a > b", 0), (Str.ofString "a b, b c", 0), (Str.ofString "abcdefghi a", 0)]
def w11 : List (Str × Nat) := [(Str.ofString "a b; b c; b", 2), (Str.ofString "a c; a b; b c", 1), (Str.ofString "a b;; b c", 0)]
theorem hc1 : (w5 ++ w6 ++ w7 ++ w8 ++ w9 ++ w10 ++ w11).all (fun p => badB 1 p.1 p.2) = true := by decide +kernel
def w12 : List (Str × Nat) := [(Str.ofString "", 0), (Str.ofString " ", 0), (Str.ofString "--", 0), (Str.ofString "- 0", 0), (Str.ofString "0 -", 1)]
def w13 : List (Str × Nat) := [(Str.ofString "0  1", 1), (Str.ofString " 0", 0), (Str.ofString "0 ", 1), (Str.ofString "0,1", 0), (Str.ofString "a", 0)]
def w14 : List (Str × Nat) := [(Str.ofString "00", 0), (Str.ofString "01", 0), (Str.ofString "-1", 0), (Str.ofString "+1", 0)]
def w15 : List (Str × Nat) := [(Str.ofString "1.0", 0), (Str.ofString "0 1 02", 2), (Str.ofString "0; 1", 0), (Str.ofString "1 a 2 b", 1)]
theorem hc2 : (w12 ++ w13 ++ w14 ++ w15).all (fun p => badB 2 p.1 p.2) = true := by decide +kernel
def w16 : List (Str × Nat) := [(Str.ofString "", 0), (Str.ofString " ", 0), (Str.ofString "--", 0), (Str.ofString "+", 0), (Str.ofString "- +a", 0)]
def w17 : List (Str × Nat) := [(Str.ofString "+a -", 1), (Str.ofString "a", 0), (Str.ofString "+ a", 0), (Str.ofString "++a", 0), (Str.ofString "+A", 0)]
def w18 : List (Str × Nat) := [(Str.ofString "+a  -a", 1), (Str.ofString " +a", 0), (Str.ofString "+a ", 1), (Str.ofString "+a,-a", 0)]
def w19 : List (Str × Nat) := [(Str.ofString "+a1", 0), (Str.ofString "+a b", 1), (Str.ofString "+abcdefghi", 0), (Str.ofString "*a", 0)]
def w20 : List (Str × Nat) := [(Str.ofString "+a -a +", 2), (Str.ofString "+a-a", 0), (Str.ofString "+a; -a", 0)]
theorem hc3 : (w16 ++ w17 ++ w18 ++ w19 ++ w20).all (fun p => badB 3 p.1 p.2) = true := by decide +kernel
abbrev dA : D := .tup [.str (Str.ofString "begin"), .str (Str.ofString "end")]
abbrev dB : D := .tup [.tup [.str (Str.ofString "a"), .str (Str.ofString "b")], .tup [.str (Str.ofString "b"), .str (Str.ofString "a")]]
abbrev dC : D := .tup [.int 0, .int 0, .int 10]
abbrev dD : D := .tup [.tup [.str (Str.ofString "end"), .str (Str.ofString "a")], .tup [.str (Str.ofString "end"), .str (Str.ofString "a")]]
abbrev GOT : List D := [.tup [], .tup [], .tup [], .tup [], dA, dB, dC, dD]
theorem c_dash : ∀ j < 4, okB j (Str.ofString "-") [] = true := by decide +kernel
theorem c_A : okB 0 (Str.ofString "begin end") [.str (Str.ofString "begin"), .str (Str.ofString "end")] = true := by decide +kernel
theorem c_B : okB 1 (Str.ofString "a b; b a") [.tup [.str (Str.ofString "a"), .str (Str.ofString "b")], .tup [.str (Str.ofString "b"), .str (Str.ofString "a")]] = true := by decide +kernel
theorem c_C : okB 2 (Str.ofString "0 0 10") [.int 0, .int 0, .int 10] = true := by decide +kernel
theorem c_D : okB 3 (Str.ofString "-a -a") [.tup [.str (Str.ofString "end"), .str (Str.ofString "a")], .tup [.str (Str.ofString "end"), .str (Str.ofString "a")]] = true := by decide +kernel
theorem c_plain : plainN 8 (.lst GOT) = true := by decide +kernel
theorem dash_lc {ad : Ad} {x y z : Option Sl} : mLc (wRng1 (mCons (M.ret (.int 4)) (mNil))) (gSet 3) (tYesM) (mCall (b_l_heard ad) 5 2 (mCons (M.ret (.str (PySem.Str.ofString "-"))) (mCons (mVar 3) (mNil)))) [3] [x, y, z, none] = .ok [.tup [], .tup [], .tup [], .tup []] [x, y, z, none] := by
  have q := lc_map (w := wRng1 (mCons (M.ret (.int 4)) (mNil))) (s := gSet 3) (x := mCall (b_l_heard ad) 5 2 (mCons (M.ret (.str (PySem.Str.ofString "-"))) (mCons (mVar 3) (mNil)))) (vs := [3]) (e := [x, y, z, none]) (e1 := [x, y, z, none]) (ds := intsD 0 4) (f := fun _ => .tup []) (rng_ok (i := 4) (cons_ok rfl nil_ok) (by omega)) (by decide +kernel) rfl fun d hd => by
    obtain ⟨j, hj, rfl⟩ := List.mem_map.mp hd
    have hj : j < 4 := List.mem_range.mp hj
    rw [Int.zero_add]
    exact ⟨[x, y, z, some (.d (.int j))], [x, y, z, some (.d (.int j))], rfl, call_of (ds := [.str (Str.ofString "-"), .int j]) (cons_ok rfl (cons_ok rfl nil_ok)) rfl (okB_ok hj (c_dash j hj)), rfl⟩
  exact q

theorem by_hand_ok {ad : Ad} : outD (b_l_by_hand_right ad (startE 4 [])) = some (.bl true) := by
  have main : ∃ e', b_l_by_hand_right ad (E4 none) = .ok (.rt (.bl true)) e' := by
    refine ⟨[some (.d (.lst (w16.map tN ++ w17.map tN ++ w18.map tN ++ w19.map tN))), some (.d (.lst GOT)), some (.d (.lst GOT)), none], ?_⟩
    unfold b_l_by_hand_right
    refine Eq.trans (seq_nx (asg_nx (d := .lst (w0.map tN)) (e1 := E4 none) rfl rfl)) ?_
    refine Eq.trans (seq_nx (asg_nx (e1 := E4 (some (.lst (w0.map tN)))) (bin_ok (x := .lst (w0.map tN)) (y := .lst (w1.map tN)) rfl rfl (add_lst (by decide +kernel))) rfl)) ?_
    refine Eq.trans (seq_nx (asg_nx (e1 := E4 (some (.lst (w0.map tN ++ w1.map tN)))) (bin_ok (x := .lst (w0.map tN ++ w1.map tN)) (y := .lst (w2.map tN)) rfl rfl (add_lst (by decide +kernel))) rfl)) ?_
    refine Eq.trans (seq_nx (asg_nx (e1 := E4 (some (.lst (w0.map tN ++ w1.map tN ++ w2.map tN)))) (bin_ok (x := .lst (w0.map tN ++ w1.map tN ++ w2.map tN)) (y := .lst (w3.map tN)) rfl rfl (add_lst (by decide +kernel))) rfl)) ?_
    refine Eq.trans (seq_nx (hand_if (i := 0) (e := E4 (some (.lst (w0.map tN ++ w1.map tN ++ w2.map tN ++ w3.map tN)))) (ws := w0 ++ w1 ++ w2 ++ w3 ++ w4) (by decide) (bin_ok (x := .lst (w0.map tN ++ w1.map tN ++ w2.map tN ++ w3.map tN)) (y := .lst (w4.map tN)) rfl rfl (add_lst (by decide +kernel))) (by simp only [List.map_append]) (by decide +kernel) hc0)) ?_
    refine Eq.trans (seq_nx (asg_nx (d := .lst (w5.map tN)) (e1 := E4 (some (.lst (w0.map tN ++ w1.map tN ++ w2.map tN ++ w3.map tN)))) rfl rfl)) ?_
    refine Eq.trans (seq_nx (asg_nx (e1 := E4 (some (.lst (w5.map tN)))) (bin_ok (x := .lst (w5.map tN)) (y := .lst (w6.map tN)) rfl rfl (add_lst (by decide +kernel))) rfl)) ?_
    refine Eq.trans (seq_nx (asg_nx (e1 := E4 (some (.lst (w5.map tN ++ w6.map tN)))) (bin_ok (x := .lst (w5.map tN ++ w6.map tN)) (y := .lst (w7.map tN)) rfl rfl (add_lst (by decide +kernel))) rfl)) ?_
    refine Eq.trans (seq_nx (asg_nx (e1 := E4 (some (.lst (w5.map tN ++ w6.map tN ++ w7.map tN)))) (bin_ok (x := .lst (w5.map tN ++ w6.map tN ++ w7.map tN)) (y := .lst (w8.map tN)) rfl rfl (add_lst (by decide +kernel))) rfl)) ?_
    refine Eq.trans (seq_nx (asg_nx (e1 := E4 (some (.lst (w5.map tN ++ w6.map tN ++ w7.map tN ++ w8.map tN)))) (bin_ok (x := .lst (w5.map tN ++ w6.map tN ++ w7.map tN ++ w8.map tN)) (y := .lst (w9.map tN)) rfl rfl (add_lst (by decide +kernel))) rfl)) ?_
    refine Eq.trans (seq_nx (asg_nx (e1 := E4 (some (.lst (w5.map tN ++ w6.map tN ++ w7.map tN ++ w8.map tN ++ w9.map tN)))) (bin_ok (x := .lst (w5.map tN ++ w6.map tN ++ w7.map tN ++ w8.map tN ++ w9.map tN)) (y := .lst (w10.map tN)) rfl rfl (add_lst (by decide +kernel))) rfl)) ?_
    refine Eq.trans (seq_nx (hand_if (i := 1) (e := E4 (some (.lst (w5.map tN ++ w6.map tN ++ w7.map tN ++ w8.map tN ++ w9.map tN ++ w10.map tN)))) (ws := w5 ++ w6 ++ w7 ++ w8 ++ w9 ++ w10 ++ w11) (by decide) (bin_ok (x := .lst (w5.map tN ++ w6.map tN ++ w7.map tN ++ w8.map tN ++ w9.map tN ++ w10.map tN)) (y := .lst (w11.map tN)) rfl rfl (add_lst (by decide +kernel))) (by simp only [List.map_append]) (by decide +kernel) hc1)) ?_
    refine Eq.trans (seq_nx (asg_nx (d := .lst (w12.map tN)) (e1 := E4 (some (.lst (w5.map tN ++ w6.map tN ++ w7.map tN ++ w8.map tN ++ w9.map tN ++ w10.map tN)))) rfl rfl)) ?_
    refine Eq.trans (seq_nx (asg_nx (e1 := E4 (some (.lst (w12.map tN)))) (bin_ok (x := .lst (w12.map tN)) (y := .lst (w13.map tN)) rfl rfl (add_lst (by decide +kernel))) rfl)) ?_
    refine Eq.trans (seq_nx (asg_nx (e1 := E4 (some (.lst (w12.map tN ++ w13.map tN)))) (bin_ok (x := .lst (w12.map tN ++ w13.map tN)) (y := .lst (w14.map tN)) rfl rfl (add_lst (by decide +kernel))) rfl)) ?_
    refine Eq.trans (seq_nx (asg_nx (e1 := E4 (some (.lst (w12.map tN ++ w13.map tN ++ w14.map tN)))) (bin_ok (x := .lst (w12.map tN ++ w13.map tN ++ w14.map tN)) (y := .lst (w15.map tN)) rfl rfl (add_lst (by decide +kernel))) rfl)) ?_
    refine Eq.trans (seq_nx (hand_if (i := 2) (e := E4 (some (.lst (w12.map tN ++ w13.map tN ++ w14.map tN ++ w15.map tN)))) (ws := w12 ++ w13 ++ w14 ++ w15) (by decide) rfl (by simp only [List.map_append]) (by decide +kernel) hc2)) ?_
    refine Eq.trans (seq_nx (asg_nx (d := .lst (w16.map tN)) (e1 := E4 (some (.lst (w12.map tN ++ w13.map tN ++ w14.map tN ++ w15.map tN)))) rfl rfl)) ?_
    refine Eq.trans (seq_nx (asg_nx (e1 := E4 (some (.lst (w16.map tN)))) (bin_ok (x := .lst (w16.map tN)) (y := .lst (w17.map tN)) rfl rfl (add_lst (by decide +kernel))) rfl)) ?_
    refine Eq.trans (seq_nx (asg_nx (e1 := E4 (some (.lst (w16.map tN ++ w17.map tN)))) (bin_ok (x := .lst (w16.map tN ++ w17.map tN)) (y := .lst (w18.map tN)) rfl rfl (add_lst (by decide +kernel))) rfl)) ?_
    refine Eq.trans (seq_nx (asg_nx (e1 := E4 (some (.lst (w16.map tN ++ w17.map tN ++ w18.map tN)))) (bin_ok (x := .lst (w16.map tN ++ w17.map tN ++ w18.map tN)) (y := .lst (w19.map tN)) rfl rfl (add_lst (by decide +kernel))) rfl)) ?_
    refine Eq.trans (seq_nx (hand_if (i := 3) (e := E4 (some (.lst (w16.map tN ++ w17.map tN ++ w18.map tN ++ w19.map tN)))) (ws := w16 ++ w17 ++ w18 ++ w19 ++ w20) (by decide) (bin_ok (x := .lst (w16.map tN ++ w17.map tN ++ w18.map tN ++ w19.map tN)) (y := .lst (w20.map tN)) rfl rfl (add_lst (by decide +kernel))) (by simp only [List.map_append]) (by decide +kernel) hc3)) ?_
    refine Eq.trans (seq_nx (asg_nx (e1 := E4 (some (.lst (w16.map tN ++ w17.map tN ++ w18.map tN ++ w19.map tN)))) (bin_ok (mF_ok dash_lc) (lst_ok (cons_ok (call_of (ds := [.str (Str.ofString "begin end"), .int 0]) (cons_ok rfl (cons_ok rfl nil_ok)) rfl (okB_ok (i := 0) (by decide) c_A)) (cons_ok (call_of (ds := [.str (Str.ofString "a b; b a"), .int 1]) (cons_ok rfl (cons_ok rfl nil_ok)) rfl (okB_ok (i := 1) (by decide) c_B)) nil_ok)) (by simp)) (add_lst (by simp))) rfl)) ?_
    refine Eq.trans (seq_nx (asg_nx (bin_ok rfl (lst_ok (cons_ok (call_of (ds := [.str (Str.ofString "0 0 10"), .int 2]) (cons_ok rfl (cons_ok rfl nil_ok)) rfl (okB_ok (i := 2) (by decide) c_C)) (cons_ok (call_of (ds := [.str (Str.ofString "-a -a"), .int 3]) (cons_ok rfl (cons_ok rfl nil_ok)) rfl (okB_ok (i := 3) (by decide) c_D)) nil_ok)) (by simp)) (add_lst (by simp))) rfl)) ?_
    refine Eq.trans (seq_nx (asg_nx (d := .lst [.tup [], .tup [], .tup [], .tup []]) rfl rfl)) ?_
    refine Eq.trans (seq_nx (asg_nx (bin_ok (x := .lst [.tup [], .tup [], .tup [], .tup []]) (y := .lst [dA, dB, dC, dD]) rfl rfl (add_lst (by simp))) rfl)) ?_
    exact ret_ok (call_of (ds := [.lst GOT, .lst GOT]) (cons_ok rfl (cons_ok rfl nil_ok)) rfl (same_ok 8 (.lst GOT) c_plain))
  obtain ⟨e', h⟩ := main
  exact congrArg outD h
end Law

set_option maxRecDepth 100000
set_option maxHeartbeats 1000000
set_option linter.all false
namespace Mir
open PySem L2
theorem oSplit_ok {a b : M D} {e e1 e2 : Mir.Env} {x y : Str} {ds : List D} (ha : a e = .ok (.str x) e1) (hb : b e1 = .ok (.str y) e2) (hs : splitD (.str x) (.str y) = some ds) : oSplit a b e = .ok ds e2 := by
  show M.andThen a (splitK b) e = _
  unfold M.andThen
  rw [ha]
  show splitK b (.str x) e1 = _
  simp [splitK, Mir.isStr, bind_at, hb, hs, lift_at]
theorem own_nx {i : Nat} {m : M (List D)} {e e1 : Mir.Env} {ds : List D} (h : m e = .ok ds e1) (hp : noIo e1 i = true) : sOwn i m e = .ok .nx (e1.set i (some (.ol ds))) := by
  rw [sOwn_at, aT_at, h]
  show putO i ds e1 = _
  rw [putO_at, if_pos hp]
theorem mM1_own {f : D → D → Option D} {a : M D} {b : M Dv} {e e1 : Mir.Env} {s : Str} {d r : D} {i : Nat} (ha : a e = .ok (.str s) e1) (hb : b e1 = .ok (.slot i) e1) (hr : rd (.slot i) e1 = .ok d e1) (hf : f (.str s) d = some r) : mM1 f a b e = .ok r e1 := by
  have q : m1k f b (.str s) e1 = .ok r e1 := by
    simp [m1k, Mir.isStr, bind_at, hb, hr, hf, lift_at]
  show M.andThen a (m1k f b) e = _
  unfold M.andThen
  rw [ha]
  exact q
theorem zip_take {α β : Type} : ∀ {l : List α} {m : List β} {j : Nat} {p : α × β}, p ∈ (l.take j).zip (m.take j) → p ∈ l.zip m
  | [], m, j, p, h => by simp at h
  | a :: l, [], j, p, h => by simp at h
  | a :: l, b :: m, 0, p, h => by simp at h
  | a :: l, b :: m, j + 1, p, h => by
    have h : p ∈ (a, b) :: (l.take j).zip (m.take j) := h
    rcases List.mem_cons.mp h with z | z
    · rw [z]; exact List.mem_cons_self
    · exact List.mem_cons_of_mem _ (zip_take z)
end Mir
namespace Law
open PySem L2 Mir TL
structure PartsG (sp : Str) (parts : List Str) : Prop where
  sep : ∃ s S, tl sp = s :: S ∧ S.length ≤ 1 ∧ s ≠ 45 ∧ ∀ p ∈ parts, s ∉ tl p
  small : sp.cps.all (· < 256) = true
  len : parts.length ≤ 100
  ne : parts ≠ []
  each : ∀ p ∈ parts, p.length ≤ 200 ∧ PyData.strOk p = true
  dash : 2 ≤ parts.length ∨ ∀ p ∈ parts, p ≠ Str.ofString "-"
theorem tl_dash : tl (Str.ofString "-") = [45] := by decide +kernel
section
variable {sp : Str} {parts : List Str}
theorem PartsG.joinLen (h : PartsG sp parts) : (Txt.join sp parts).length ≤ 20300 := by
  obtain ⟨s, S, e, hS, _⟩ := h.sep
  rw [TL.join_eq, len_tl, tl_join]
  have h1 := joinL_len (tl sp) (B := 200) (parts.map tl) fun p hp => by
    obtain ⟨x, hx, rfl⟩ := List.mem_map.mp hp
    rw [← len_tl]
    exact (h.each x hx).1
  have h2 : (tl sp).length ≤ 2 := by rw [e]; simp; omega
  have h3 := h.len
  rw [List.length_map] at h1
  have h4 : parts.length * (200 + (tl sp).length) ≤ 100 * 202 := Nat.mul_le_mul h3 (by omega)
  omega
theorem PartsG.ok (h : PartsG sp parts) : PyData.strOk (Txt.join sp parts) = true := by
  rw [ok_tl, TL.join_eq, tl_join]
  refine joinL_all (fun c hc => ?_) _ fun p hp c hc => ?_
  · have := h.small
    rw [← Array.all_toList, List.all_eq_true] at this
    have := of_decide_eq_true (this c hc)
    omega
  · obtain ⟨x, hx, rfl⟩ := List.mem_map.mp hp
    exact ok_tl.mp (h.each x hx).2 c hc
theorem PartsG.split (h : PartsG sp parts) : Txt.split (Txt.join sp parts) sp = parts := by
  obtain ⟨s, S, e, hS, _, hp⟩ := h.sep
  exact TL.split_join e h.small h.ne hp
theorem PartsG.noDash (h : PartsG sp parts) : Txt.join sp parts ≠ Str.ofString "-" := by
  obtain ⟨s, S, e, hS, h45, _⟩ := h.sep
  match parts, h with
  | [], h => exact absurd rfl h.ne
  | [p], h =>
    have q : Txt.join sp [p] = p := by
      rw [TL.join_eq]
      rfl
    rw [q]
    rcases h.dash with z | z
    · simp at z
    · exact z p List.mem_cons_self
  | p :: q :: r, h =>
    intro z
    have z := congrArg tl z
    rw [TL.join_eq, tl_join, tl_dash] at z
    have m : s ∈ joinL (tl sp) ((p :: q :: r).map tl) := by
      show s ∈ tl p ++ (tl sp ++ joinL (tl sp) ((q :: r).map tl))
      rw [e]
      simp
    rw [z] at m
    exact h45 (by simpa using m)
theorem PartsG.dSplit (h : PartsG sp parts) : splitD (.str (Txt.join sp parts)) (.str sp) = some (parts.map .str) ∧ Mir.dSplit (.str (Txt.join sp parts)) (.str sp) = some (.lst (parts.map .str)) := by
  obtain ⟨s, S, e, hS, _, hp⟩ := h.sep
  have hsp : (sp.length == 0) = false := by rw [len_tl, e]; rfl
  have l := h.joinLen
  have hm : mLine ((Txt.join sp parts).length + 2) = true := decide_eq_true (by omega)
  have e2 : Mir.dSplit (.str (Txt.join sp parts)) (.str sp) = some (.lst (parts.map .str)) := by
    show (if ((sp.length == 0) == false && mLine ((Txt.join sp parts).length + 2)) = true then some (D.lst ((Txt.split (Txt.join sp parts) sp).map .str)) else none) = _
    rw [hsp, hm, h.split]
    rfl
  refine ⟨?_, e2⟩
  unfold splitD
  rw [e2]
theorem PartsG.pieces (h : PartsG sp parts) : PiecesAre (Txt.join sp parts) sp (parts.map .str) := by
  have e1 : dEq (.str (Txt.join sp parts)) (.str (Str.ofString "-")) = some (.bl false) := by
    have h2 : PyData.strOk (Str.ofString "-") = true := by decide +kernel
    simp [dEq, eqD, toPy, SeqAt.shaped, PyData.canLay0, PyData.depth, PyData.eqv, h.ok, h2, h.noDash]
  have e3 : mM1 Mir.dSplit (mVar 0) (vD (mVar 1)) [some (.d (.str (Txt.join sp parts))), some (.d (.str sp))] = .ok (.lst (parts.map .str)) [some (.d (.str (Txt.join sp parts))), some (.d (.str sp))] := mM1_ok rfl rfl h.dSplit.2
  unfold PiecesAre
  simp [b_pieces, outD, startE, mNil_at, mCons_at, wNil_at, wCons_at, mRd1_at, mBin_at, mBinV_at, mCB_at, mCW_at, mTup_at, mLst_at, oLst_at, mNot_at, mAnd_at, mOr_at, mBl_at, mF_at, vD_at, mTru_at, mIs1_at, mIs2_at, mNotT_at, mSl_at, sIf_at, sRet_at, sRetF_at, sExpr_at, sAsg_at, sOwn_at, sFor_at, wAny_at, wRng1_at, wRng2_at, wEnum_at, wZip_at, oCB_at, oCW_at, mUn_at, mFmt_at, aT_at, ret_at, mIf_at, ite_at, mB_at, sSeq_at, lift_at, mAndT_at, mOrT_at, bind_at, mVar_at, mOwn_at, rdv_at, rds_at, rdN_at, rdC_at, sApp_at, mPop_at, appO_at, sSet_at, putO_at, sRetO_at, sNx_at, loopN_at, oOr_at, oSome_at, oNone_at, e1, ↓e3]
theorem PartsG.dJoin (h : PartsG sp parts) : Mir.dJoin (.str sp) (.lst (parts.map .str)) = some (.str (Txt.join sp parts)) := by
  have hf : joinFits sp parts = true := by
    refine decide_eq_true ?_
    have h1 : (parts.map (·.length)).sum ≤ parts.length * 200 := sum_le fun p hp => (h.each p hp).1
    obtain ⟨s, S, e, hS, _⟩ := h.sep
    have h2 : sp.length ≤ 2 := by rw [len_tl, e]; simp; omega
    have h3 := h.len
    have h4 : parts.length * sp.length ≤ 100 * 2 := Nat.mul_le_mul h3 h2
    omega
  show (strsD (parts.map .str)).bind (fun ys => if joinFits sp ys = true then some (D.str (Txt.join sp ys)) else none) = _
  rw [strsD_map]
  show (if joinFits sp parts = true then some (D.str (Txt.join sp parts)) else none) = _
  rw [hf, if_pos rfl]
end
def sepC : Nat → Nat
  | 1 => 59
  | _ => 32
def goodP (i : Nat) (p : Str) : Bool := decide (p.length ≤ 200) && PyData.strOk p && decide (sepC i ∉ p.cps.toList)
def illB (i : Nat) (x : Str) : Bool := goodP i x && isNonO (outD (bgOf i (startE (ngOf i) [.d (.str x)])))
abbrev illOf (ill : List Str) (p : Str) : List Str := ill ++ [p ++ Str.ofString "_", Str.ofString "A" ++ p, Str.ofString ""]
structure Bent (i : Nat) (parts : List Str) (vs : List D) (ill : List Str) : Prop where
  i4 : i < 4
  ne : parts ≠ []
  len : parts.length ≤ 100
  vl : parts.length = vs.length
  val : ∀ p ∈ (parts.map D.str).zip vs, outD (bgOf i (startE (ngOf i) [.d p.1])) = some p.2 ∧ Mir.isNon p.2 = false
  asc : rOf i = true → vs.Pairwise fun z v => dLeB v z = some (.bl false)
  each : ∀ p ∈ parts, goodP i p = true
  illL : ill.length ≤ 100
  bad : ∀ p ∈ parts, ∀ x ∈ illOf ill p, illB i x = true
  dash : 2 ≤ parts.length ∨ ∀ p ∈ parts, p ≠ Str.ofString "-" ∧ ∀ x ∈ illOf ill p, x ≠ Str.ofString "-"
theorem sep_of {i : Nat} (hi : i < 4) : ∃ S, tl (spOf i) = sepC i :: S ∧ S.length ≤ 1 ∧ sepC i ≠ 45 ∧ (spOf i).cps.all (· < 256) = true := by
  match i, hi with
  | 0, _ => exact ⟨[], by decide +kernel, by decide, by decide, by decide +kernel⟩
  | 1, _ => exact ⟨[32], by decide +kernel, by decide, by decide, by decide +kernel⟩
  | 2, _ => exact ⟨[], by decide +kernel, by decide, by decide, by decide +kernel⟩
  | 3, _ => exact ⟨[], by decide +kernel, by decide, by decide, by decide +kernel⟩
theorem goodP_ok {i : Nat} {p : Str} (h : goodP i p = true) : p.length ≤ 200 ∧ PyData.strOk p = true ∧ sepC i ∉ tl p := by
  unfold goodP at h
  simp only [Bool.and_eq_true, decide_eq_true_eq] at h
  exact ⟨h.1.1, h.1.2, h.2⟩
theorem gparts {i : Nat} {parts : List Str} (hi : i < 4) (ne : parts ≠ []) (len : parts.length ≤ 100) (each : ∀ p ∈ parts, goodP i p = true) (dash : 2 ≤ parts.length ∨ ∀ p ∈ parts, p ≠ Str.ofString "-") : PartsG (spOf i) parts := by
  obtain ⟨S, s1, s2, s3, s4⟩ := sep_of hi
  exact ⟨⟨_, S, s1, s2, s3, fun p hp => (goodP_ok (each p hp)).2.2⟩, s4, len, ne, fun p hp => ⟨(goodP_ok (each p hp)).1, (goodP_ok (each p hp)).2.1⟩, dash⟩
theorem len_one : (Str.ofString "_").length = 1 ∧ (Str.ofString "A").length = 1 := by decide +kernel
theorem bent_ok {ad : Ad} {i n : Nat} {parts ill : List Str} {vs : List D} (B : Bent i parts vs ill) :
    Draws (b_l_bent_right ad) 7 [.str (Txt.join (spOf i) parts), .str (spOf i), .int i, .lst (ill.map .str)] (n + 2) n (· = .bl true) := fun l hl => by
  have hlen := B.len
  have hpos : 0 < parts.length := List.length_pos_iff.mpr B.ne
  have P0 := gparts B.i4 B.ne B.len B.each (by rcases B.dash with z | z; exact .inl z; exact .inr fun p hp => (z p hp).1)
  obtain ⟨d1, l1, ⟨r, rfl, r1, r2⟩, hb1, he1⟩ := take_ok (n := n + 1) (k := ((parts.map D.str).length : Nat)) (by simp; omega) (by simp; omega) l hl
  obtain ⟨j, rfl⟩ : ∃ j : Nat, r = j := ⟨r.toNat, by omega⟩
  have e0 : (parts.map D.str).length = parts.length := List.length_map ..
  have hj : j < parts.length := by omega
  have hp : parts[j] ∈ parts := List.getElem_mem hj
  obtain ⟨d2, l2, m2, hb2, he2⟩ := of_ok (n := n) (xs := (illOf ill parts[j]).map D.str) (by simp) (by have := B.illL; simp; omega) l1 hb1
  obtain ⟨x, hx, rfl⟩ := List.mem_map.mp m2
  have gx := B.bad _ hp x hx
  unfold illB at gx
  rw [Bool.and_eq_true] at gx
  have lp := (goodP_ok (B.each _ hp)).1
  have hset : ∀ p ∈ parts.set j x, p = x ∨ p ∈ parts := fun p h => by
    rcases List.mem_or_eq_of_mem_set h with z | z
    · exact .inr z
    · exact .inl z
  have P1 := gparts (parts := parts.set j x) B.i4 (fun z => B.ne (by have := congrArg List.length z; rw [List.length_set] at this; exact List.length_eq_zero_iff.mp this)) (by simpa using B.len) (fun p h => by
      rcases hset p h with z | z
      · rw [z]; exact gx.1
      · exact B.each p z) (by
      rcases B.dash with z | z
      · exact .inl (by simpa using z)
      · refine .inr fun p h => ?_
        rcases hset p h with y | y
        · rw [y]; exact (z _ hp).2 x hx
        · exact (z p y).1)
  have ecut : (parts.set j x).map D.str = (parts.take j).map D.str ++ D.str x :: (parts.drop (j + 1)).map D.str := by
    rw [List.set_eq_take_append_cons_drop, if_pos hj, List.map_append, List.map_cons]
  have hl1 : ((parts.take j).map D.str).length = j := by simp; omega
  have hb := values_bad (ad := ad) (t := Txt.join (spOf i) (parts.set j x)) (sp := spOf i) (ga := gaOf ad i) (bg := bgOf i) (ng := ngOf i) (r := rOf i) (ws := (parts.take j).map D.str) (vs := vs.take j) (more := (parts.drop (j + 1)).map D.str) (w := .str x) (v := .non)
    (by rw [← ecut]; exact P1.pieces) (by have := B.vl; simp; omega) (by simp; omega) (fun p h => B.val p (by rw [List.map_take] at h; exact zip_take h)) (fun hr => (B.asc hr).sublist (List.take_sublist _ _)) (isNonO_ok gx.2) (.inl rfl)
  rw [hl1] at hb
  have heard := said_bad B.i4 hb
  have ea : ∀ e : Mir.Env, e[5]? = some (some (.ol (parts.map D.str))) → e[6]? = some (some (.d (.int j))) → mBinV dIx (mOwn 5) (vD (mVar 6)) e = .ok (.str parts[j]) e := fun e h5 h6 => by
    have hix : dIx (.lst (parts.map D.str)) (.int j) = some (.str parts[j]) := by
      unfold dIx
      simp [atI, ixN, hj]
    simp [mBinV_at, mOwn_at, vD_at, mVar_at, aT_at, h5, h6, ret_at, rds_at, rdv_at, hix, lift_at]
  have main : ∃ e', b_l_bent_right ad (startE 7 [.io l, .d (.str (Txt.join (spOf i) parts)), .d (.str (spOf i)), .d (.int i), .d (.lst (ill.map .str))]) = .ok (.rt (.bl true)) e' ∧ ioAt e' = some l2 := by
    refine ⟨[some (.io l2), some (.d (.str (Txt.join (spOf i) parts))), some (.d (.str (spOf i))), some (.d (.int i)), some (.d (.lst (ill.map .str))), some (.ol ((parts.set j x).map D.str)), some (.d (.int j))], ?_, rfl⟩
    unfold b_l_bent_right
    refine Eq.trans (seq_nx (e1 := [some (.io l), some (.d (.str (Txt.join (spOf i) parts))), some (.d (.str (spOf i))), some (.d (.int i)), some (.d (.lst (ill.map .str))), some (.ol (parts.map D.str)), none]) (own_nx (oSplit_ok (x := Txt.join (spOf i) parts) (y := spOf i) rfl rfl P0.dSplit.1) rfl)) ?_
    refine Eq.trans (seq_nx (e1 := [some (.io l1), some (.d (.str (Txt.join (spOf i) parts))), some (.d (.str (spOf i))), some (.d (.int i)), some (.d (.lst (ill.map .str))), some (.ol (parts.map D.str)), some (.d (.int j))]) (asg_nx (callI_of (b := b_l_take) (n := 6) (np := 2) (j := 0) (e := [some (.io l), some (.d (.str (Txt.join (spOf i) parts))), some (.d (.str (spOf i))), some (.d (.int i)), some (.d (.lst (ill.map .str))), some (.ol (parts.map D.str)), none]) (xs0 := l) (xs := l) (ds := [.int ((parts.map D.str).length : Nat)]) rfl rfl rfl rfl he1) rfl)) ?_
    refine Eq.trans (seq_nx (e1 := [some (.io l2), some (.d (.str (Txt.join (spOf i) parts))), some (.d (.str (spOf i))), some (.d (.int i)), some (.d (.lst (ill.map .str))), some (.ol ((parts.set j x).map D.str)), some (.d (.int j))]) ?_) ?_
    · have q := callI_of (b := b_l_of) (n := 2) (np := 2) (j := 0) (a := mCons (mBin dAdd (mVar 4) (mLst (mCons (mBin dAdd (mBinV dIx (mOwn 5) (vD (mVar 6))) (M.ret (.str (PySem.Str.ofString "_")))) (mCons (mBin dAdd (M.ret (.str (PySem.Str.ofString "A"))) (mBinV dIx (mOwn 5) (vD (mVar 6)))) (mCons (M.ret (.str (PySem.Str.ofString ""))) (mNil)))))) (mNil))
        (e := [some (.io l1), some (.d (.str (Txt.join (spOf i) parts))), some (.d (.str (spOf i))), some (.d (.int i)), some (.d (.lst (ill.map .str))), some (.ol (parts.map D.str)), some (.d (.int j))]) (xs0 := l1) (xs := l1) (ds := [.lst ((illOf ill parts[j]).map D.str)]) rfl
        (cons_ok (x := .lst ((illOf ill parts[j]).map D.str)) (by
          rw [List.map_append]
          refine bin_ok (x := .lst (ill.map D.str)) rfl (lst_ok (cons_ok (bin_ok (ea _ rfl rfl) (y := .str (PySem.Str.ofString "_")) rfl (add_str (by have := len_one.1; omega))) (cons_ok (bin_ok (x := .str (PySem.Str.ofString "A")) rfl (ea _ rfl rfl) (add_str (by have := len_one.2; omega))) (cons_ok (x := .str (PySem.Str.ofString "")) rfl nil_ok))) (by simp)) (add_lst ?_)
          have := B.illL
          simp
          omega) nil_ok) rfl rfl he2
      rw [sSet_at, q]
      have hx2 : ixN (parts.map D.str).length (j : Int) = some j := by
        unfold ixN
        simp [hj]
      show M.andThen (mVar 6) (Mir.putAt 5 (.str x)) [some (.io l2), some (.d (.str (Txt.join (spOf i) parts))), some (.d (.str (spOf i))), some (.d (.int i)), some (.d (.lst (ill.map .str))), some (.ol (parts.map D.str)), some (.d (.int j))] = _
      show Mir.putAt 5 (.str x) (.int j) [some (.io l2), some (.d (.str (Txt.join (spOf i) parts))), some (.d (.str (spOf i))), some (.d (.int i)), some (.d (.lst (ill.map .str))), some (.ol (parts.map D.str)), some (.d (.int j))] = _
      unfold Mir.putAt
      simp only [ownAt, List.getElem?_cons_succ, List.getElem?_cons_zero, hx2, setSame, List.set_cons_succ, List.set_cons_zero, List.map_set]
    · exact ret_ok (call_of (ds := [.lst [.int j], .lst [.int j]]) (cons_ok (call_of (ds := [.str (Txt.join (spOf i) (parts.set j x)), .int i]) (cons_ok (mM1_own (s := spOf i) (d := .lst ((parts.set j x).map D.str)) (i := 5) rfl rfl rfl P1.dJoin) (cons_ok rfl nil_ok)) rfl heard) (cons_ok (lst_ok (cons_ok (x := .int j) rfl nil_ok) (by simp)) nil_ok)) rfl (same_ok 8 (.lst [.int j]) rfl))
  obtain ⟨e', h1, h2⟩ := main
  exact ⟨.bl true, l2, rfl, hb2, outI_of h1 h2⟩
end Law

set_option maxRecDepth 100000
set_option maxHeartbeats 1000000
set_option linter.all false
namespace Mir
open PySem L2
theorem eq_tup {xs : List D} (h : ∀ x ∈ xs, plainN 8 x = true) : dEq (.tup xs) (.tup []) = some (.bl (decide (xs = []))) := by
  have q := ne_tup h
  unfold dNe at q
  unfold dEq
  cases z : eqD (.tup xs) (.tup []) with
  | none => rw [z] at q; cases q
  | some r =>
    rw [z] at q
    simp only [Option.map_some, Option.some.injEq, D.bl.injEq] at q ⊢
    by_cases y : xs = []
    · simp [y] at q ⊢
      exact q
    · simp [y] at q ⊢
      exact q
theorem vD_ok {m : M D} {e e1 : Mir.Env} {d : D} (h : m e = .ok d e1) : vD m e = .ok (.val d) e1 := by rw [vD_at, aT_at, h]
theorem or_ok {a b : M Bool} {e : Mir.Env} {x y : Bool} (ha : a e = .ok x e) (hb : b e = .ok y e) : mOr a b e = .ok (x || y) e := by
  rw [mOr_at, aT_at, ha]
  cases x
  · exact hb
  · rfl
end Mir
namespace Law
open PySem L2 Mir TL
abbrev sPl : Str := Str.ofString "+"
abbrev sBe : Str := Str.ofString "begin"
abbrev illN : List Str := [oS "--", oS "1"]
abbrev illP : List Str := [oS "a", oS "a a", oS "a b c", oS "a  b"]
abbrev illR : List Str := [oS "a", oS "+", oS "-", oS "+-a"]
theorem c_illN : LISTS.all (fun L => L.all fun w => goodP 0 w && (illOf illN w).all fun x => illB 0 x) = true := by decide +kernel
theorem c_illR : LISTS.all (fun L => L.all fun w => goodP 3 (sPl ++ w) && (illOf illR (sPl ++ w)).all fun x => illB 3 x) = true := by decide +kernel
theorem c_illP : LISTS.all (fun L => L.all fun a => L.all fun b => decide (a = b) || (goodP 1 (pp (a, b)) && decide (pp (a, b) ≠ oS "-") && (illOf illP (pp (a, b))).all fun x => illB 1 x && decide (x ≠ oS "-"))) = true := by decide +kernel
theorem c_be : PyData.strOk sBe = true ∧ sPl.length = 1 ∧ sSp.length = 1 := by decide +kernel
section
variable {ss : List Str} {ps : List (Str × Str)}
theorem bentN (h : GoodSteps ss) (h2 : 2 ≤ ss.length) : Bent 0 ss (ss.map .str) illN where
  i4 := by decide
  ne := fun z => by rw [z] at h2; simp at h2
  len := by have := h.len; omega
  vl := by simp
  val := fun p hp => by
    obtain ⟨x, hx, rfl⟩ := zip_mem (f := D.str) (g := D.str) hp
    exact ⟨(name_of h hx).1, rfl⟩
  asc := fun _ => by
    rw [List.pairwise_map]
    exact h.asc.imp fun {a b} q => by
      show some (D.bl (!ltStr a b)) = _
      rw [q]
      rfl
  each := fun p hp => by
    obtain ⟨L, h1, h2⟩ := h.mem
    have q := List.all_eq_true.mp (List.all_eq_true.mp c_illN L h1) p (h2 _ hp)
    rw [Bool.and_eq_true] at q
    exact q.1
  illL := by decide
  bad := fun p hp x hx => by
    obtain ⟨L, h1, h2⟩ := h.mem
    have q := List.all_eq_true.mp (List.all_eq_true.mp c_illN L h1) p (h2 _ hp)
    rw [Bool.and_eq_true] at q
    exact List.all_eq_true.mp q.2 x hx
  dash := .inl h2
theorem bentP (h : GoodSteps ss) (g : GoodPairs ss ps) (h2 : ps ≠ []) : Bent 1 (ps.map pp) (ps.map pD) illP where
  i4 := by decide
  ne := fun z => h2 (List.map_eq_nil_iff.mp z)
  len := by have := g.len; simp; omega
  vl := by simp
  val := fun p hp => by
    rw [List.map_map] at hp
    obtain ⟨x, hx, rfl⟩ := zip_mem (f := D.str ∘ pp) (g := pD) hp
    exact ⟨(pair_of h g hx).1, rfl⟩
  asc := fun _ => by
    rw [List.pairwise_map]
    exact g.asc.imp fun {a b} q => le_pairs q
  each := fun p hp => by
    obtain ⟨y, hy, rfl⟩ := List.mem_map.mp hp
    obtain ⟨L, h1, h2⟩ := h.mem
    obtain ⟨g1, g2, g3⟩ := g.mem y hy
    have q := List.all_eq_true.mp (List.all_eq_true.mp (List.all_eq_true.mp c_illP L h1) y.1 (h2 _ g1)) y.2 (h2 _ g2)
    rw [Bool.or_eq_true] at q
    rcases q with z | z
    · exact absurd (of_decide_eq_true z) g3
    · simp only [Bool.and_eq_true] at z
      exact z.1.1
  illL := by decide
  bad := fun p hp x hx => by
    obtain ⟨y, hy, rfl⟩ := List.mem_map.mp hp
    obtain ⟨L, h1, h2⟩ := h.mem
    obtain ⟨g1, g2, g3⟩ := g.mem y hy
    have q := List.all_eq_true.mp (List.all_eq_true.mp (List.all_eq_true.mp c_illP L h1) y.1 (h2 _ g1)) y.2 (h2 _ g2)
    rw [Bool.or_eq_true] at q
    rcases q with z | z
    · exact absurd (of_decide_eq_true z) g3
    · rw [Bool.and_eq_true] at z
      have := List.all_eq_true.mp z.2 x hx
      rw [Bool.and_eq_true] at this
      exact this.1
  dash := .inr fun p hp => by
    obtain ⟨y, hy, rfl⟩ := List.mem_map.mp hp
    obtain ⟨L, h1, h2⟩ := h.mem
    obtain ⟨g1, g2, g3⟩ := g.mem y hy
    have q := List.all_eq_true.mp (List.all_eq_true.mp (List.all_eq_true.mp c_illP L h1) y.1 (h2 _ g1)) y.2 (h2 _ g2)
    rw [Bool.or_eq_true] at q
    rcases q with z | z
    · exact absurd (of_decide_eq_true z) g3
    · simp only [Bool.and_eq_true, decide_eq_true_eq] at z
      refine ⟨z.1.2, fun x hx => ?_⟩
      have := List.all_eq_true.mp z.2 x hx
      rw [Bool.and_eq_true] at this
      exact of_decide_eq_true this.2
theorem bentR (h : GoodSteps ss) (h2 : 2 ≤ ss.length) : Bent 3 (ss.map fun s => sPl ++ s) (ss.map fun s => pD (sBe, s)) illR where
  i4 := by decide
  ne := fun z => by rw [List.map_eq_nil_iff.mp z] at h2; simp at h2
  len := by have := h.len; simp; omega
  vl := by simp
  val := fun p hp => by
    rw [List.map_map] at hp
    obtain ⟨x, hx, rfl⟩ := zip_mem (f := D.str ∘ fun s => sPl ++ s) (g := fun s => pD (sBe, s)) hp
    obtain ⟨L, h1, h2⟩ := h.mem
    have q := List.all_eq_true.mp (List.all_eq_true.mp c_deed L h1) x (h2 _ hx)
    simp only [Bool.and_eq_true] at q
    exact ⟨isPairD_ok q.1.1.1, rfl⟩
  asc := fun z => by cases z
  each := fun p hp => by
    obtain ⟨y, hy, rfl⟩ := List.mem_map.mp hp
    obtain ⟨L, h1, h2⟩ := h.mem
    have q := List.all_eq_true.mp (List.all_eq_true.mp c_illR L h1) y (h2 _ hy)
    rw [Bool.and_eq_true] at q
    exact q.1
  illL := by decide
  bad := fun p hp x hx => by
    obtain ⟨y, hy, rfl⟩ := List.mem_map.mp hp
    obtain ⟨L, h1, h2⟩ := h.mem
    have q := List.all_eq_true.mp (List.all_eq_true.mp c_illR L h1) y (h2 _ hy)
    rw [Bool.and_eq_true] at q
    exact List.all_eq_true.mp q.2 x hx
  dash := .inl (by simpa using h2)
theorem Bent.parts {i : Nat} {parts : List Str} {vs : List D} {ill : List Str} (B : Bent i parts vs ill) : PartsG (spOf i) parts := gparts B.i4 B.ne B.len B.each (by rcases B.dash with z | z; exact .inl z; exact .inr fun p hp => (z p hp).1)
theorem Bent.heard {ad : Ad} {i : Nat} {parts : List Str} {vs : List D} {ill : List Str} (B : Bent i parts vs ill) : outD (b_l_heard ad (startE 5 [.d (.str (Txt.join (spOf i) parts)), .d (.int i)])) = some (.tup vs) :=
  said_ok B.i4 (values_ok (ws := parts.map D.str) B.parts.pieces (by rw [List.length_map]; exact B.vl) (by have := B.len; simp; omega) B.val B.asc)
theorem joinT {sp : Str} {parts : List Str} (h : PartsG sp parts) : Mir.dJoin (.str sp) (.tup (parts.map .str)) = some (.str (Txt.join sp parts)) := h.dJoin
end
theorem two_of {ss : List Str} {a b : Str} (h1 : a ∈ ss) (h2 : b ∈ ss) (h : a ≠ b) : 2 ≤ ss.length := by
  match ss, h1, h2 with
  | [c], h1, h2 =>
    rw [List.mem_singleton] at h1 h2
    exact absurd (h1.trans h2.symm) h
  | c :: d :: r, _, _ => simp
abbrev E9 (l : List D) (a1 a2 a3 a4 a5 : Option D) : Mir.Env := [some (.io l), a1.map .d, a2.map .d, a3.map .d, a4.map .d, a5.map .d, none, none, none]
theorem words_lc {ss : List Str} {ps : List (Str × Str)} {l : List D} {a1 : Option D} (h : GoodSteps ss) (g : GoodPairs ss ps) :
    mLc (wAny (mVar 2)) (gTupD 2 (gsCons (gSet 7) (gsCons (gSet 8) (gsNil)))) (tYesM) (mBin dAdd (mBin dAdd (mVar 7) (M.ret (.str (PySem.Str.ofString " ")))) (mVar 8)) [7, 8] (E9 l a1 (some (.tup (ps.map pD))) none none none) = .ok ((ps.map pp).map .str) (E9 l a1 (some (.tup (ps.map pD))) none none none) := by
  have e : ((ps.map pp).map D.str) = (ps.map pD).map fD := by
    rw [List.map_map, List.map_map]
    rfl
  rw [e]
  refine lc_map (e1 := E9 l a1 (some (.tup (ps.map pD))) none none none) rfl (by rw [List.length_map]; have := g.len; omega) rfl fun d hd => ?_
  obtain ⟨x, hx, rfl⟩ := List.mem_map.mp hd
  obtain ⟨_, _, l1, l2⟩ := pair_of h g hx
  refine ⟨_, _, rfl, bin_ok (bin_ok (x := .str x.1) rfl rfl (add_str ?_)) (y := .str x.2) rfl (add_str ?_), rfl⟩
  · have := c_be.2.2; show x.1.length + sSp.length ≤ _; omega
  · have := c_be.2.2
    show (x.1 ++ sSp).length + x.2.length ≤ _
    rw [len_app]
    omega
def fP : D → D
  | .str s => .str (sPl ++ s)
  | d => d
def fB : D → D
  | .str s => pD (sBe, s)
  | d => d
theorem signs_lc {ss : List Str} {l : List D} {a2 a3 : Option D} (h : GoodSteps ss) :
    mLc (wAny (mVar 1)) (gSet 6) (tYesM) (mBin dAdd (M.ret (.str (PySem.Str.ofString "+"))) (mVar 6)) [6] (E9 l (some (.tup (ss.map .str))) a2 a3 none none) = .ok ((ss.map fun s => sPl ++ s).map .str) (E9 l (some (.tup (ss.map .str))) a2 a3 none none) := by
  have e : ((ss.map fun s => sPl ++ s).map D.str) = (ss.map D.str).map fP := by
    rw [List.map_map, List.map_map]
    rfl
  rw [e]
  refine lc_map (e1 := E9 l (some (.tup (ss.map .str))) a2 a3 none none) rfl (by rw [List.length_map]; have := h.len; omega) rfl fun d hd => ?_
  obtain ⟨s, hs, rfl⟩ := List.mem_map.mp hd
  refine ⟨_, _, rfl, bin_ok (x := .str sPl) (y := .str s) rfl rfl (add_str ?_), rfl⟩
  have := c_be.2.1
  have := (good_of (name_of h hs).2).2.1
  omega
theorem begins_lc {ss : List Str} {l : List D} {a2 a3 a4 a5 : Option D} (h : GoodSteps ss) :
    mLc (wAny (mVar 1)) (gSet 6) (tYesM) (mTup (mCons (M.ret (.str (PySem.Str.ofString "begin"))) (mCons (mVar 6) (mNil)))) [6] (E9 l (some (.tup (ss.map .str))) a2 a3 a4 a5) = .ok (ss.map fun s => pD (sBe, s)) (E9 l (some (.tup (ss.map .str))) a2 a3 a4 a5) := by
  have e : (ss.map fun s => pD (sBe, s)) = (ss.map D.str).map fB := by
    rw [List.map_map]
    rfl
  rw [e]
  refine lc_map (e1 := E9 l (some (.tup (ss.map .str))) a2 a3 a4 a5) rfl (by rw [List.length_map]; have := h.len; omega) rfl fun d hd => ?_
  obtain ⟨s, hs, rfl⟩ := List.mem_map.mp hd
  exact ⟨_, _, rfl, tup_ok (cons_ok (x := .str sBe) rfl (cons_ok (x := .str s) rfl nil_ok)) (by simp), rfl⟩
theorem case_ok {ad : Ad} {n : Nat} : Draws (b_l_case_right ad) 9 [] (n + 100) n (· = .bl true) := fun l hl => by
  obtain ⟨d1, l1, ⟨ss, rfl, hs⟩, hb1, he1⟩ := steps_ok (n := n + 92) l hl
  obtain ⟨d2, l2, ⟨ps, qs, rfl, hp, _⟩, hb2, he2⟩ := webs_ok (n := n + 43) hs l1 (hb1.mono (by omega))
  have hsl := hs.len
  have hpl := hp.len
  have hso : ∀ s ∈ ss, PyData.strOk s = true := fun s h => (good_of (name_of hs h).2).2.2.2.1
  have hpo : ∀ x ∈ ps, PyData.strOk x.1 = true ∧ PyData.strOk x.2 = true := fun x h => ⟨hso _ (hp.mem x h).1, hso _ (hp.mem x h).2.1⟩
  have p1 : ∀ {m : Nat}, ∀ x ∈ ss.map D.str, plainN (m + 1) x = true := fun {m} => plain_strs hso
  have p2 : ∀ {m : Nat}, ∀ x ∈ ps.map pD, plainN (m + 2) x = true := fun {m} x hx => by
    obtain ⟨y, hy, rfl⟩ := List.mem_map.mp hx
    exact plain_pD (hpo y hy).1 (hpo y hy).2
  have w1 : mCallI b_l_webs 8 2 0 (mCons (mVar 1) (mNil)) (E9 l1 (some (.tup (ss.map .str))) none none none none) = .ok (.tup [.tup (ps.map pD), .tup (qs.map pD)]) (E9 l2 (some (.tup (ss.map .str))) none none none none) :=
    callI_of (e := E9 l1 (some (.tup (ss.map .str))) none none none none) (e1 := E9 l1 (some (.tup (ss.map .str))) none none none none) (j := 0) (xs0 := l1) (xs := l1) (ds := [.tup (ss.map .str)]) rfl rfl rfl rfl he2
  have c1 : mB (mBin dEq (mVar 1) (mTup (mNil))) (E9 l2 (some (.tup (ss.map .str))) (some (.tup (ps.map pD))) none none none) = .ok (decide (ss.map D.str = [])) (E9 l2 (some (.tup (ss.map .str))) (some (.tup (ps.map pD))) none none none) :=
    b_ok (bin_ok (x := .tup (ss.map .str)) rfl (tup_ok nil_ok (by simp)) (eq_tup p1))
  have c2 : mB (mBin dEq (mVar 2) (mTup (mNil))) (E9 l2 (some (.tup (ss.map .str))) (some (.tup (ps.map pD))) none none none) = .ok (decide (ps.map pD = [])) (E9 l2 (some (.tup (ss.map .str))) (some (.tup (ps.map pD))) none none none) :=
    b_ok (bin_ok (x := .tup (ps.map pD)) rfl (tup_ok nil_ok (by simp)) (eq_tup p2))
  have c3 := or_ok c1 c2
  by_cases hn : ss = [] ∨ ps = []
  · have ht : (decide (ss.map D.str = []) || decide (ps.map pD = [])) = true := by
      rcases hn with z | z <;> simp [z]
    rw [ht] at c3
    have hd : outD (b_l_heard ad (startE 5 [.d (.str (textOf sSp ss)), .d (.int (0 : Nat))])) = some (.tup (ss.map .str)) := heard_ok (i := 0) (f := (ad.steps_from, (b_steps_from ad), N_steps_from)) rfl rfl (steps_from_ok hs)
    have main : ∃ e', b_l_case_right ad (startE 9 [.io l]) = .ok (.rt (.bl true)) e' ∧ ioAt e' = some l2 := by
      refine ⟨E9 l2 (some (.tup (ss.map .str))) (some (.tup (ps.map pD))) none none none, ?_, rfl⟩
      unfold b_l_case_right
      refine Eq.trans (seq_nx (asg_nx (callI_of (e := startE 9 [.io l]) (xs0 := l) (xs := l) (ds := [.int 6]) rfl rfl rfl rfl he1) rfl)) ?_
      refine Eq.trans (seq_nx (e1 := E9 l2 (some (.tup (ss.map .str))) (some (.tup (ps.map pD))) none none none) (asg_nx (bin_ok w1 rfl rfl) rfl)) ?_
      have q : sIf (mOr (mB (mBin dEq (mVar 1) (mTup (mNil)))) (mB (mBin dEq (mVar 2) (mTup (mNil))))) (sRet (mCall (b_l_same 8) 4 2 (mCons (mLst (mCons (mCall (b_l_heard ad) 5 2 (mCons (mIf (mB (mBin dNe (mVar 1) (mTup (mNil)))) (mM1 Mir.dJoin (M.ret (.str (PySem.Str.ofString " "))) (vD (mVar 1))) (M.ret (.str (PySem.Str.ofString "-")))) (mCons (M.ret (.int 0)) (mNil)))) (mNil))) (mCons (mLst (mCons (mVar 1) (mNil))) (mNil))))) (sNx) (E9 l2 (some (.tup (ss.map .str))) (some (.tup (ps.map pD))) none none none) = .ok (.rt (.bl true)) (E9 l2 (some (.tup (ss.map .str))) (some (.tup (ps.map pD))) none none none) := by
        refine Eq.trans (sif_t c3) ?_
        refine ret_ok (call_of (ds := [.lst [.tup (ss.map .str)], .lst [.tup (ss.map .str)]]) (cons_ok (lst_ok (cons_ok (call_of (ds := [.str (textOf sSp ss), .int (0 : Nat)]) (cons_ok (if_text hs.parts (cond_tup (xs := ss.map .str) rfl p1 (by simp)) (d := .tup (ss.map .str)) rfl (.inr rfl)) (cons_ok rfl nil_ok)) rfl hd) nil_ok) (by simp)) (cons_ok (lst_ok (cons_ok (x := .tup (ss.map .str)) rfl nil_ok) (by simp)) nil_ok)) rfl (same_ok 8 _ (plain_lst (by simp) fun x hx => ?_)))
        rw [List.mem_singleton] at hx
        subst hx
        exact plain_tup (by rw [List.length_map]; omega) p1
      rw [sSeq_at, q]
    obtain ⟨e', h1, h2⟩ := main
    exact ⟨.bl true, l2, rfl, hb2.mono (by omega), outI_of h1 h2⟩
  · have ht : (decide (ss.map D.str = []) || decide (ps.map pD = [])) = false := by
      simp only [not_or] at hn
      simp [hn.1, hn.2]
    rw [ht] at c3
    have hs2 : 2 ≤ ss.length := by
      obtain ⟨x, hx⟩ := List.exists_mem_of_ne_nil ps (fun z => hn (.inr z))
      exact two_of (hp.mem x hx).1 (hp.mem x hx).2.1 (hp.mem x hx).2.2
    have B0 := bentN hs hs2
    have B1 := bentP hs hp (fun z => hn (.inr z))
    have B3 := bentR hs hs2
    obtain ⟨d3, l3, rfl, hb3, he3⟩ := bent_ok (ad := ad) (n := n + 4) B0 l2 (hb2.mono (by omega))
    obtain ⟨d4, l4, rfl, hb4, he4⟩ := bent_ok (ad := ad) (n := n + 2) B1 l3 hb3
    obtain ⟨d5, l5, rfl, hb5, he5⟩ := bent_ok (ad := ad) (n := n) B3 l4 hb4
    have sm := same_ok 8 (.lst [.tup (ss.map .str), .tup (ps.map pD), .tup (ss.map fun s => pD (sBe, s))]) (plain_lst (by simp) fun x hx => by
      simp only [List.mem_cons, List.not_mem_nil, or_false] at hx
      rcases hx with rfl | rfl | rfl
      · exact plain_tup (by rw [List.length_map]; omega) p1
      · exact plain_tup (by rw [List.length_map]; omega) p2
      · refine plain_tup (by rw [List.length_map]; omega) fun y hy => ?_
        obtain ⟨s, hs', rfl⟩ := List.mem_map.mp hy
        exact plain_pD c_be.1 (hso s hs'))
    have jn : ∀ {l' : List D} {a2 a3 a4 a5 : Option D}, mM1 Mir.dJoin (M.ret (.str (PySem.Str.ofString " "))) (vD (mVar 1)) (E9 l' (some (.tup (ss.map .str))) a2 a3 a4 a5) = .ok (.str (Txt.join (spOf 0) ss)) (E9 l' (some (.tup (ss.map .str))) a2 a3 a4 a5) :=
      fun {l' a2 a3 a4 a5} => mM1_ok (s := spOf 0) (d := .tup (ss.map .str)) rfl (vD_ok rfl) (joinT B0.parts)
    have main : ∃ e', b_l_case_right ad (startE 9 [.io l]) = .ok (.rt (.bl true)) e' ∧ ioAt e' = some l5 := by
      refine ⟨E9 l5 (some (.tup (ss.map .str))) (some (.tup (ps.map pD))) (some (.str (Txt.join (spOf 1) (ps.map pp)))) (some (.str (Txt.join (spOf 3) (ss.map fun s => sPl ++ s)))) (some (.lst [.tup (ss.map .str), .tup (ps.map pD), .tup (ss.map fun s => pD (sBe, s))])), ?_, rfl⟩
      unfold b_l_case_right
      refine Eq.trans (seq_nx (asg_nx (callI_of (e := startE 9 [.io l]) (xs0 := l) (xs := l) (ds := [.int 6]) rfl rfl rfl rfl he1) rfl)) ?_
      refine Eq.trans (seq_nx (e1 := E9 l2 (some (.tup (ss.map .str))) (some (.tup (ps.map pD))) none none none) (asg_nx (bin_ok w1 rfl rfl) rfl)) ?_
      refine Eq.trans (seq_nx (e1 := E9 l2 (some (.tup (ss.map .str))) (some (.tup (ps.map pD))) none none none) (Eq.trans (sif_f c3) rfl)) ?_
      refine Eq.trans (seq_nx (e1 := E9 l2 (some (.tup (ss.map .str))) (some (.tup (ps.map pD))) (some (.str (Txt.join (spOf 1) (ps.map pp)))) none none) (asg_nx (mM1_ok (s := spOf 1) (d := .lst ((ps.map pp).map .str)) rfl (vD_ok (mF_ok (words_lc hs hp))) B1.parts.dJoin) rfl)) ?_
      refine Eq.trans (seq_nx (e1 := E9 l2 (some (.tup (ss.map .str))) (some (.tup (ps.map pD))) (some (.str (Txt.join (spOf 1) (ps.map pp)))) (some (.str (Txt.join (spOf 3) (ss.map fun s => sPl ++ s)))) none) (asg_nx (mM1_ok (s := spOf 3) (d := .lst ((ss.map fun s => sPl ++ s).map .str)) rfl (vD_ok (mF_ok (signs_lc hs))) B3.parts.dJoin) rfl)) ?_
      refine Eq.trans (seq_nx (e1 := E9 l2 (some (.tup (ss.map .str))) (some (.tup (ps.map pD))) (some (.str (Txt.join (spOf 1) (ps.map pp)))) (some (.str (Txt.join (spOf 3) (ss.map fun s => sPl ++ s)))) (some (.lst [.tup (ss.map .str), .tup (ps.map pD), .tup (ss.map fun s => pD (sBe, s))]))) (asg_nx (lst_ok (cons_ok (call_of (ds := [.str (Txt.join (spOf 0) ss), .int (0 : Nat)]) (cons_ok jn (cons_ok rfl nil_ok)) rfl B0.heard) (cons_ok (call_of (ds := [.str (Txt.join (spOf 1) (ps.map pp)), .int (1 : Nat)]) (cons_ok rfl (cons_ok rfl nil_ok)) rfl B1.heard) (cons_ok (call_of (ds := [.str (Txt.join (spOf 3) (ss.map fun s => sPl ++ s)), .int (3 : Nat)]) (cons_ok rfl (cons_ok rfl nil_ok)) rfl B3.heard) nil_ok))) (by simp)) rfl)) ?_
      refine Eq.trans (seq_nx (e1 := E9 l2 (some (.tup (ss.map .str))) (some (.tup (ps.map pD))) (some (.str (Txt.join (spOf 1) (ps.map pp)))) (some (.str (Txt.join (spOf 3) (ss.map fun s => sPl ++ s)))) (some (.lst [.tup (ss.map .str), .tup (ps.map pD), .tup (ss.map fun s => pD (sBe, s))]))) (Eq.trans (sif_f (not_true (call_of (ds := [.lst [.tup (ss.map .str), .tup (ps.map pD), .tup (ss.map fun s => pD (sBe, s))], .lst [.tup (ss.map .str), .tup (ps.map pD), .tup (ss.map fun s => pD (sBe, s))]]) (cons_ok rfl (cons_ok (lst_ok (cons_ok (x := .tup (ss.map .str)) rfl (cons_ok (x := .tup (ps.map pD)) rfl (cons_ok (cb_ok (xs := [.lst (ss.map fun s => pD (sBe, s))]) (cons_ok (mF_ok (begins_lc hs)) nil_ok) (r := .tup (ss.map fun s => pD (sBe, s))) (by first | (simp [dTupleB, dTuple]; done) | (simp [dTupleB, dTuple]; omega))) nil_ok))) (by simp)) nil_ok)) rfl sm))) rfl)) ?_
      refine Eq.trans (seq_nx (e1 := E9 l3 (some (.tup (ss.map .str))) (some (.tup (ps.map pD))) (some (.str (Txt.join (spOf 1) (ps.map pp)))) (some (.str (Txt.join (spOf 3) (ss.map fun s => sPl ++ s)))) (some (.lst [.tup (ss.map .str), .tup (ps.map pD), .tup (ss.map fun s => pD (sBe, s))]))) (Eq.trans (sif_f (not_true (callI_of (e := E9 l2 (some (.tup (ss.map .str))) (some (.tup (ps.map pD))) (some (.str (Txt.join (spOf 1) (ps.map pp)))) (some (.str (Txt.join (spOf 3) (ss.map fun s => sPl ++ s)))) (some (.lst [.tup (ss.map .str), .tup (ps.map pD), .tup (ss.map fun s => pD (sBe, s))]))) (e1 := E9 l2 (some (.tup (ss.map .str))) (some (.tup (ps.map pD))) (some (.str (Txt.join (spOf 1) (ps.map pp)))) (some (.str (Txt.join (spOf 3) (ss.map fun s => sPl ++ s)))) (some (.lst [.tup (ss.map .str), .tup (ps.map pD), .tup (ss.map fun s => pD (sBe, s))]))) (j := 0) (xs0 := l2) (xs := l2) (ds := [.str (Txt.join (spOf 0) ss), .str (spOf 0), .int (0 : Nat), .lst (illN.map .str)]) rfl (cons_ok jn rfl) rfl rfl he3))) rfl)) ?_
      refine Eq.trans (seq_nx (e1 := E9 l4 (some (.tup (ss.map .str))) (some (.tup (ps.map pD))) (some (.str (Txt.join (spOf 1) (ps.map pp)))) (some (.str (Txt.join (spOf 3) (ss.map fun s => sPl ++ s)))) (some (.lst [.tup (ss.map .str), .tup (ps.map pD), .tup (ss.map fun s => pD (sBe, s))]))) (Eq.trans (sif_f (not_true (callI_of (e := E9 l3 (some (.tup (ss.map .str))) (some (.tup (ps.map pD))) (some (.str (Txt.join (spOf 1) (ps.map pp)))) (some (.str (Txt.join (spOf 3) (ss.map fun s => sPl ++ s)))) (some (.lst [.tup (ss.map .str), .tup (ps.map pD), .tup (ss.map fun s => pD (sBe, s))]))) (e1 := E9 l3 (some (.tup (ss.map .str))) (some (.tup (ps.map pD))) (some (.str (Txt.join (spOf 1) (ps.map pp)))) (some (.str (Txt.join (spOf 3) (ss.map fun s => sPl ++ s)))) (some (.lst [.tup (ss.map .str), .tup (ps.map pD), .tup (ss.map fun s => pD (sBe, s))]))) (j := 0) (xs0 := l3) (xs := l3) (ds := [.str (Txt.join (spOf 1) (ps.map pp)), .str (spOf 1), .int (1 : Nat), .lst (illP.map .str)]) rfl rfl rfl rfl he4))) rfl)) ?_
      exact ret_ok (callI_of (e := E9 l4 (some (.tup (ss.map .str))) (some (.tup (ps.map pD))) (some (.str (Txt.join (spOf 1) (ps.map pp)))) (some (.str (Txt.join (spOf 3) (ss.map fun s => sPl ++ s)))) (some (.lst [.tup (ss.map .str), .tup (ps.map pD), .tup (ss.map fun s => pD (sBe, s))]))) (e1 := E9 l4 (some (.tup (ss.map .str))) (some (.tup (ps.map pD))) (some (.str (Txt.join (spOf 1) (ps.map pp)))) (some (.str (Txt.join (spOf 3) (ss.map fun s => sPl ++ s)))) (some (.lst [.tup (ss.map .str), .tup (ps.map pD), .tup (ss.map fun s => pD (sBe, s))]))) (j := 0) (xs0 := l4) (xs := l4) (ds := [.str (Txt.join (spOf 3) (ss.map fun s => sPl ++ s)), .str (spOf 3), .int (3 : Nat), .lst (illR.map .str)]) rfl rfl rfl rfl he5)
    obtain ⟨e', h1, h2⟩ := main
    exact ⟨.bl true, l5, rfl, hb5, outI_of h1 h2⟩
end Law

set_option maxRecDepth 100000
set_option maxHeartbeats 1000000
set_option linter.all false
namespace Law
open PySem L2 Mir TL
theorem right_ok {ad : Ad} {l : List D} (hl : Box 1000 l) : outD (b_l_right ad (startE 2 [.io l])) = some (.bl true) := by
  have q0 : wRng1 (mCons (M.ret (.int 6)) (mNil)) (startE 2 [.io l]) = .ok (intsD 0 6) (startE 2 [.io l]) := rng_ok (i := 6) (cons_ok rfl nil_ok) (by omega)
  obtain ⟨ys, e', q, _, hy, l', rfl, _⟩ := lc_inv (w := wRng1 (mCons (M.ret (.int 6)) (mNil))) (s := gSet 1) (x := mCallI (b_l_case_right ad) 9 1 0 (mNil)) (vs := [1]) (e := startE 2 [.io l]) (ds := intsD 0 6) (n := 0)
    (fun m e => ∃ l', e = [some (.io l'), none] ∧ Box (m * 100) l') (· = .bl true) q0 (by simp [intsD]) ⟨l, rfl, hl.mono (by simp [intsD])⟩ fun m e d h => by
      obtain ⟨l', rfl, hb⟩ := h
      obtain ⟨r, l2, rfl, hb2, he⟩ := case_ok (ad := ad) (n := m * 100) l' (by rw [show m * 100 + 100 = (m + 1) * 100 by omega]; exact hb)
      exact ⟨_, _, .bl true, rfl, callI_of (e := [some (.io l'), some (.d d)]) (xs0 := l') (xs := l') (ds := []) rfl rfl rfl rfl he, rfl, l2, rfl, hb2⟩
  exact congrArg outD (ret_ok (cb_ok (cons_ok (mF_ok q) nil_ok) (all_true hy)))
theorem law_true (ad : Ad) (ns : List Int) (h : ns.length ≤ 63) : ∃ e', b_law ad (startE N_law.length [.d (.fz (ns.map D.int))]) = .ok (.rt (.bl true)) e' := by
  obtain ⟨cs, hc, c1, c2, ci⟩ := cells_ok (xs := ns.map D.int) (fun d hd => by
    obtain ⟨i, _, rfl⟩ := List.mem_map.mp hd
    exact ⟨i, rfl⟩) (by simpa using h)
  have q1 : mCall b_l_cells 6 2 (mCons (mVar 0) (mCons (M.ret (.int 3)) (mNil))) [some (.d (.fz (ns.map D.int))), none, none] = .ok (.lst cs) [some (.d (.fz (ns.map D.int))), none, none] :=
    call_of (ds := [.fz (ns.map D.int), .int 3]) rfl rfl hc
  have qh : mCall (b_l_by_hand_right ad) 4 0 mNil [some (.d (.fz (ns.map D.int))), some (.d (.lst cs)), none] = .ok (.bl true) [some (.d (.fz (ns.map D.int))), some (.d (.lst cs)), none] :=
    call_of (ds := []) rfl rfl by_hand_ok
  have qw : wRng1 (mCons (mCB dLen (mCons (mVar 1) (mNil))) (mNil)) [some (.d (.fz (ns.map D.int))), some (.d (.lst cs)), none] = .ok (intsD 0 cs.length) [some (.d (.fz (ns.map D.int))), some (.d (.lst cs)), none] :=
    rng_ok (cons_ok (cb_ok (cons_ok (x := .lst cs) rfl nil_ok) (r := .int cs.length) (by simp [dLen])) nil_ok) (by omega)
  have ql : mLc (wRng1 (mCons (mCB dLen (mCons (mVar 1) (mNil))) (mNil))) (gSet 2) (tYesM) (mCallF (b_l_right ad) 2 1 (oCall b_l_box 3 2 (mCons (mVar 1) (mCons (mVar 2) (mNil))))) [2] [some (.d (.fz (ns.map D.int))), some (.d (.lst cs)), none] = .ok ((intsD 0 cs.length).map fun _ => .bl true) [some (.d (.fz (ns.map D.int))), some (.d (.lst cs)), none] := by
    refine lc_map (e1 := [some (.d (.fz (ns.map D.int))), some (.d (.lst cs)), none]) (f := fun _ => .bl true) qw (by simp [intsD]; omega) rfl fun d hd => ?_
    obtain ⟨j, hj, rfl⟩ := List.mem_map.mp hd
    have hj : j < cs.length := List.mem_range.mp hj
    rw [Int.zero_add]
    obtain ⟨l, hl, hb⟩ := box_ok (xs := cs) (k := j) ci hj (by omega)
    exact ⟨_, _, rfl, callF_of (e1 := [some (.d (.fz (ns.map D.int))), some (.d (.lst cs)), some (.d (.int j))]) (oCall_of (ds := [.lst cs, .int j]) rfl rfl hl) (right_ok (hb.mono (by omega))), rfl⟩
  refine ⟨[some (.d (.fz (ns.map D.int))), some (.d (.lst cs)), none], ?_⟩
  show b_law ad [some (.d (.fz (ns.map D.int))), none, none] = _
  unfold b_law
  refine Eq.trans (seq_nx (asg_nx q1 rfl)) ?_
  refine ret_ok (andT_ok qh ?_)
  exact cb_ok (cons_ok (mF_ok ql) nil_ok) (all_true fun y hy => by
    obtain ⟨_, _, rfl⟩ := List.mem_map.mp hy
    rfl)
end Law

namespace Law
open PySem L2 Mir
set_option maxHeartbeats 4000000
section
variable {P : Program} {w : World} {K : PySem.W.Frag} {mg : Str → Option Value}
def mkT {h : Heap} (X : K.In h) (G : h.Ns mainGlobals mg)
    {a_steps_from : Addr} {od_steps_from an_steps_from : Option Addr} {sl_steps_from : Array (Option Value)} {oc_steps_from kV_steps_from dc_steps_from pm_steps_from cd_steps_from ct_steps_from : Value}
    (a1_steps_from : PySem.W.nsIn K mainGlobals "steps_from" = some (some (.ref a_steps_from))) (l1_steps_from : K.lookup a_steps_from = some ⟨oc_steps_from, od_steps_from, .func (PySem.W.fnOf "steps_from" "steps_from" (defArgs s_steps_from) (defBody s_steps_from) (defScope s_steps_from) .none kV_steps_from dc_steps_from pm_steps_from an_steps_from cd_steps_from ct_steps_from), sl_steps_from⟩) (c1_steps_from : PySem.W.codeIn K cd_steps_from "steps_from" = true) (k1_steps_from : PySem.W.keepIn K (.ref a_steps_from) = true)
    {a_pairs_from : Addr} {od_pairs_from an_pairs_from : Option Addr} {sl_pairs_from : Array (Option Value)} {oc_pairs_from kV_pairs_from dc_pairs_from pm_pairs_from cd_pairs_from ct_pairs_from : Value}
    (a1_pairs_from : PySem.W.nsIn K mainGlobals "pairs_from" = some (some (.ref a_pairs_from))) (l1_pairs_from : K.lookup a_pairs_from = some ⟨oc_pairs_from, od_pairs_from, .func (PySem.W.fnOf "pairs_from" "pairs_from" (defArgs s_pairs_from) (defBody s_pairs_from) (defScope s_pairs_from) .none kV_pairs_from dc_pairs_from pm_pairs_from an_pairs_from cd_pairs_from ct_pairs_from), sl_pairs_from⟩) (c1_pairs_from : PySem.W.codeIn K cd_pairs_from "pairs_from" = true) (k1_pairs_from : PySem.W.keepIn K (.ref a_pairs_from) = true)
    {a_sizes_from : Addr} {od_sizes_from an_sizes_from : Option Addr} {sl_sizes_from : Array (Option Value)} {oc_sizes_from kV_sizes_from dc_sizes_from pm_sizes_from cd_sizes_from ct_sizes_from : Value}
    (a1_sizes_from : PySem.W.nsIn K mainGlobals "sizes_from" = some (some (.ref a_sizes_from))) (l1_sizes_from : K.lookup a_sizes_from = some ⟨oc_sizes_from, od_sizes_from, .func (PySem.W.fnOf "sizes_from" "sizes_from" (defArgs s_sizes_from) (defBody s_sizes_from) (defScope s_sizes_from) .none kV_sizes_from dc_sizes_from pm_sizes_from an_sizes_from cd_sizes_from ct_sizes_from), sl_sizes_from⟩) (c1_sizes_from : PySem.W.codeIn K cd_sizes_from "sizes_from" = true) (k1_sizes_from : PySem.W.keepIn K (.ref a_sizes_from) = true)
    {a_run_from : Addr} {od_run_from an_run_from : Option Addr} {sl_run_from : Array (Option Value)} {oc_run_from kV_run_from dc_run_from pm_run_from cd_run_from ct_run_from : Value}
    (a1_run_from : PySem.W.nsIn K mainGlobals "run_from" = some (some (.ref a_run_from))) (l1_run_from : K.lookup a_run_from = some ⟨oc_run_from, od_run_from, .func (PySem.W.fnOf "run_from" "run_from" (defArgs s_run_from) (defBody s_run_from) (defScope s_run_from) .none kV_run_from dc_run_from pm_run_from an_run_from cd_run_from ct_run_from), sl_run_from⟩) (c1_run_from : PySem.W.codeIn K cd_run_from "run_from" = true) (k1_run_from : PySem.W.keepIn K (.ref a_run_from) = true)
    {a_is_name : Addr} {od_is_name an_is_name : Option Addr} {sl_is_name : Array (Option Value)} {oc_is_name kV_is_name dc_is_name pm_is_name cd_is_name ct_is_name : Value}
    (a1_is_name : PySem.W.nsIn K mainGlobals "is_name" = some (some (.ref a_is_name))) (l1_is_name : K.lookup a_is_name = some ⟨oc_is_name, od_is_name, .func (PySem.W.fnOf "is_name" "is_name" (defArgs s_is_name) (defBody s_is_name) (defScope s_is_name) .none kV_is_name dc_is_name pm_is_name an_is_name cd_is_name ct_is_name), sl_is_name⟩) (c1_is_name : PySem.W.codeIn K cd_is_name "is_name" = true) (k1_is_name : PySem.W.keepIn K (.ref a_is_name) = true)
    {a_values_from : Addr} {od_values_from an_values_from : Option Addr} {sl_values_from : Array (Option Value)} {oc_values_from kV_values_from dc_values_from pm_values_from cd_values_from ct_values_from : Value}
    (a1_values_from : PySem.W.nsIn K mainGlobals "_values_from" = some (some (.ref a_values_from))) (l1_values_from : K.lookup a_values_from = some ⟨oc_values_from, od_values_from, .func (PySem.W.fnOf "_values_from" "_values_from" (defArgs s_values_from) (defBody s_values_from) (defScope s_values_from) .none kV_values_from dc_values_from pm_values_from an_values_from cd_values_from ct_values_from), sl_values_from⟩) (c1_values_from : PySem.W.codeIn K cd_values_from "_values_from" = true) (k1_values_from : PySem.W.keepIn K (.ref a_values_from) = true)
    {a_pieces : Addr} {od_pieces an_pieces : Option Addr} {sl_pieces : Array (Option Value)} {oc_pieces kV_pieces dc_pieces pm_pieces cd_pieces ct_pieces : Value}
    (a1_pieces : PySem.W.nsIn K mainGlobals "_pieces" = some (some (.ref a_pieces))) (l1_pieces : K.lookup a_pieces = some ⟨oc_pieces, od_pieces, .func (PySem.W.fnOf "_pieces" "_pieces" (defArgs s_pieces) (defBody s_pieces) (defScope s_pieces) .none kV_pieces dc_pieces pm_pieces an_pieces cd_pieces ct_pieces), sl_pieces⟩) (c1_pieces : PySem.W.codeIn K cd_pieces "_pieces" = true) (k1_pieces : PySem.W.keepIn K (.ref a_pieces) = true)
    {a_name_from : Addr} {od_name_from an_name_from : Option Addr} {sl_name_from : Array (Option Value)} {oc_name_from kV_name_from dc_name_from pm_name_from cd_name_from ct_name_from : Value}
    (a1_name_from : PySem.W.nsIn K mainGlobals "_name_from" = some (some (.ref a_name_from))) (l1_name_from : K.lookup a_name_from = some ⟨oc_name_from, od_name_from, .func (PySem.W.fnOf "_name_from" "_name_from" (defArgs s_name_from) (defBody s_name_from) (defScope s_name_from) .none kV_name_from dc_name_from pm_name_from an_name_from cd_name_from ct_name_from), sl_name_from⟩) (c1_name_from : PySem.W.codeIn K cd_name_from "_name_from" = true) (k1_name_from : PySem.W.keepIn K (.ref a_name_from) = true)
    {a_pair_from : Addr} {od_pair_from an_pair_from : Option Addr} {sl_pair_from : Array (Option Value)} {oc_pair_from kV_pair_from dc_pair_from pm_pair_from cd_pair_from ct_pair_from : Value}
    (a1_pair_from : PySem.W.nsIn K mainGlobals "_pair_from" = some (some (.ref a_pair_from))) (l1_pair_from : K.lookup a_pair_from = some ⟨oc_pair_from, od_pair_from, .func (PySem.W.fnOf "_pair_from" "_pair_from" (defArgs s_pair_from) (defBody s_pair_from) (defScope s_pair_from) .none kV_pair_from dc_pair_from pm_pair_from an_pair_from cd_pair_from ct_pair_from), sl_pair_from⟩) (c1_pair_from : PySem.W.codeIn K cd_pair_from "_pair_from" = true) (k1_pair_from : PySem.W.keepIn K (.ref a_pair_from) = true)
    {a_size_from : Addr} {od_size_from an_size_from : Option Addr} {sl_size_from : Array (Option Value)} {oc_size_from kV_size_from dc_size_from pm_size_from cd_size_from ct_size_from : Value}
    (a1_size_from : PySem.W.nsIn K mainGlobals "_size_from" = some (some (.ref a_size_from))) (l1_size_from : K.lookup a_size_from = some ⟨oc_size_from, od_size_from, .func (PySem.W.fnOf "_size_from" "_size_from" (defArgs s_size_from) (defBody s_size_from) (defScope s_size_from) .none kV_size_from dc_size_from pm_size_from an_size_from cd_size_from ct_size_from), sl_size_from⟩) (c1_size_from : PySem.W.codeIn K cd_size_from "_size_from" = true) (k1_size_from : PySem.W.keepIn K (.ref a_size_from) = true)
    {a_deed_from : Addr} {od_deed_from an_deed_from : Option Addr} {sl_deed_from : Array (Option Value)} {oc_deed_from kV_deed_from dc_deed_from pm_deed_from cd_deed_from ct_deed_from : Value}
    (a1_deed_from : PySem.W.nsIn K mainGlobals "_deed_from" = some (some (.ref a_deed_from))) (l1_deed_from : K.lookup a_deed_from = some ⟨oc_deed_from, od_deed_from, .func (PySem.W.fnOf "_deed_from" "_deed_from" (defArgs s_deed_from) (defBody s_deed_from) (defScope s_deed_from) .none kV_deed_from dc_deed_from pm_deed_from an_deed_from cd_deed_from ct_deed_from), sl_deed_from⟩) (c1_deed_from : PySem.W.codeIn K cd_deed_from "_deed_from" = true) (k1_deed_from : PySem.W.keepIn K (.ref a_deed_from) = true)
    {a_l_box : Addr} {od_l_box an_l_box : Option Addr} {sl_l_box : Array (Option Value)} {oc_l_box kV_l_box dc_l_box pm_l_box cd_l_box ct_l_box : Value}
    (a1_l_box : PySem.W.nsIn K mainGlobals "_law_box" = some (some (.ref a_l_box))) (l1_l_box : K.lookup a_l_box = some ⟨oc_l_box, od_l_box, .func (PySem.W.fnOf "_law_box" "_law_box" (defArgs s_l_box) (defBody s_l_box) (defScope s_l_box) .none kV_l_box dc_l_box pm_l_box an_l_box cd_l_box ct_l_box), sl_l_box⟩) (c1_l_box : PySem.W.codeIn K cd_l_box "_law_box" = true) (k1_l_box : PySem.W.keepIn K (.ref a_l_box) = true)
    {a_l_take : Addr} {od_l_take an_l_take : Option Addr} {sl_l_take : Array (Option Value)} {oc_l_take kV_l_take dc_l_take pm_l_take cd_l_take ct_l_take : Value}
    (a1_l_take : PySem.W.nsIn K mainGlobals "_law_take" = some (some (.ref a_l_take))) (l1_l_take : K.lookup a_l_take = some ⟨oc_l_take, od_l_take, .func (PySem.W.fnOf "_law_take" "_law_take" (defArgs s_l_take) (defBody s_l_take) (defScope s_l_take) .none kV_l_take dc_l_take pm_l_take an_l_take cd_l_take ct_l_take), sl_l_take⟩) (c1_l_take : PySem.W.codeIn K cd_l_take "_law_take" = true) (k1_l_take : PySem.W.keepIn K (.ref a_l_take) = true)
    {a_l_cells : Addr} {od_l_cells an_l_cells : Option Addr} {sl_l_cells : Array (Option Value)} {oc_l_cells kV_l_cells dc_l_cells pm_l_cells cd_l_cells ct_l_cells : Value}
    (a1_l_cells : PySem.W.nsIn K mainGlobals "_law_cells" = some (some (.ref a_l_cells))) (l1_l_cells : K.lookup a_l_cells = some ⟨oc_l_cells, od_l_cells, .func (PySem.W.fnOf "_law_cells" "_law_cells" (defArgs s_l_cells) (defBody s_l_cells) (defScope s_l_cells) .none kV_l_cells dc_l_cells pm_l_cells an_l_cells cd_l_cells ct_l_cells), sl_l_cells⟩) (c1_l_cells : PySem.W.codeIn K cd_l_cells "_law_cells" = true) (k1_l_cells : PySem.W.keepIn K (.ref a_l_cells) = true)
    {a_l_of : Addr} {od_l_of an_l_of : Option Addr} {sl_l_of : Array (Option Value)} {oc_l_of kV_l_of dc_l_of pm_l_of cd_l_of ct_l_of : Value}
    (a1_l_of : PySem.W.nsIn K mainGlobals "_law_of" = some (some (.ref a_l_of))) (l1_l_of : K.lookup a_l_of = some ⟨oc_l_of, od_l_of, .func (PySem.W.fnOf "_law_of" "_law_of" (defArgs s_l_of) (defBody s_l_of) (defScope s_l_of) .none kV_l_of dc_l_of pm_l_of an_l_of cd_l_of ct_l_of), sl_l_of⟩) (c1_l_of : PySem.W.codeIn K cd_l_of "_law_of" = true) (k1_l_of : PySem.W.keepIn K (.ref a_l_of) = true)
    {a_l_pick : Addr} {od_l_pick an_l_pick : Option Addr} {sl_l_pick : Array (Option Value)} {oc_l_pick kV_l_pick dc_l_pick pm_l_pick cd_l_pick ct_l_pick : Value}
    (a1_l_pick : PySem.W.nsIn K mainGlobals "_law_pick" = some (some (.ref a_l_pick))) (l1_l_pick : K.lookup a_l_pick = some ⟨oc_l_pick, od_l_pick, .func (PySem.W.fnOf "_law_pick" "_law_pick" (defArgs s_l_pick) (defBody s_l_pick) (defScope s_l_pick) .none kV_l_pick dc_l_pick pm_l_pick an_l_pick cd_l_pick ct_l_pick), sl_l_pick⟩) (c1_l_pick : PySem.W.codeIn K cd_l_pick "_law_pick" = true) (k1_l_pick : PySem.W.keepIn K (.ref a_l_pick) = true)
    {a_l_same : Addr} {od_l_same an_l_same : Option Addr} {sl_l_same : Array (Option Value)} {oc_l_same kV_l_same dc_l_same pm_l_same cd_l_same ct_l_same : Value}
    (a1_l_same : PySem.W.nsIn K mainGlobals "_law_same" = some (some (.ref a_l_same))) (l1_l_same : K.lookup a_l_same = some ⟨oc_l_same, od_l_same, .func (PySem.W.fnOf "_law_same" "_law_same" (defArgs s_l_same) (defBody s_l_same) (defScope s_l_same) .none kV_l_same dc_l_same pm_l_same an_l_same cd_l_same ct_l_same), sl_l_same⟩) (c1_l_same : PySem.W.codeIn K cd_l_same "_law_same" = true) (k1_l_same : PySem.W.keepIn K (.ref a_l_same) = true)
    {a_l_steps : Addr} {od_l_steps an_l_steps : Option Addr} {sl_l_steps : Array (Option Value)} {oc_l_steps kV_l_steps dc_l_steps pm_l_steps cd_l_steps ct_l_steps : Value}
    (a1_l_steps : PySem.W.nsIn K mainGlobals "_law_steps" = some (some (.ref a_l_steps))) (l1_l_steps : K.lookup a_l_steps = some ⟨oc_l_steps, od_l_steps, .func (PySem.W.fnOf "_law_steps" "_law_steps" (defArgs s_l_steps) (defBody s_l_steps) (defScope s_l_steps) .none kV_l_steps dc_l_steps pm_l_steps an_l_steps cd_l_steps ct_l_steps), sl_l_steps⟩) (c1_l_steps : PySem.W.codeIn K cd_l_steps "_law_steps" = true) (k1_l_steps : PySem.W.keepIn K (.ref a_l_steps) = true)
    {a_l_webs : Addr} {od_l_webs an_l_webs : Option Addr} {sl_l_webs : Array (Option Value)} {oc_l_webs kV_l_webs dc_l_webs pm_l_webs cd_l_webs ct_l_webs : Value}
    (a1_l_webs : PySem.W.nsIn K mainGlobals "_law_webs" = some (some (.ref a_l_webs))) (l1_l_webs : K.lookup a_l_webs = some ⟨oc_l_webs, od_l_webs, .func (PySem.W.fnOf "_law_webs" "_law_webs" (defArgs s_l_webs) (defBody s_l_webs) (defScope s_l_webs) .none kV_l_webs dc_l_webs pm_l_webs an_l_webs cd_l_webs ct_l_webs), sl_l_webs⟩) (c1_l_webs : PySem.W.codeIn K cd_l_webs "_law_webs" = true) (k1_l_webs : PySem.W.keepIn K (.ref a_l_webs) = true)
    {a_l_heard : Addr} {od_l_heard an_l_heard : Option Addr} {sl_l_heard : Array (Option Value)} {oc_l_heard kV_l_heard dc_l_heard pm_l_heard cd_l_heard ct_l_heard : Value}
    (a1_l_heard : PySem.W.nsIn K mainGlobals "_law_heard" = some (some (.ref a_l_heard))) (l1_l_heard : K.lookup a_l_heard = some ⟨oc_l_heard, od_l_heard, .func (PySem.W.fnOf "_law_heard" "_law_heard" (defArgs s_l_heard) (defBody s_l_heard) (defScope s_l_heard) .none kV_l_heard dc_l_heard pm_l_heard an_l_heard cd_l_heard ct_l_heard), sl_l_heard⟩) (c1_l_heard : PySem.W.codeIn K cd_l_heard "_law_heard" = true) (k1_l_heard : PySem.W.keepIn K (.ref a_l_heard) = true)
    {a_l_heard_right : Addr} {od_l_heard_right an_l_heard_right : Option Addr} {sl_l_heard_right : Array (Option Value)} {oc_l_heard_right kV_l_heard_right dc_l_heard_right pm_l_heard_right cd_l_heard_right ct_l_heard_right : Value}
    (a1_l_heard_right : PySem.W.nsIn K mainGlobals "_law_heard_right" = some (some (.ref a_l_heard_right))) (l1_l_heard_right : K.lookup a_l_heard_right = some ⟨oc_l_heard_right, od_l_heard_right, .func (PySem.W.fnOf "_law_heard_right" "_law_heard_right" (defArgs s_l_heard_right) (defBody s_l_heard_right) (defScope s_l_heard_right) .none kV_l_heard_right dc_l_heard_right pm_l_heard_right an_l_heard_right cd_l_heard_right ct_l_heard_right), sl_l_heard_right⟩) (c1_l_heard_right : PySem.W.codeIn K cd_l_heard_right "_law_heard_right" = true) (k1_l_heard_right : PySem.W.keepIn K (.ref a_l_heard_right) = true)
    {a_l_by_hand_right : Addr} {od_l_by_hand_right an_l_by_hand_right : Option Addr} {sl_l_by_hand_right : Array (Option Value)} {oc_l_by_hand_right kV_l_by_hand_right dc_l_by_hand_right pm_l_by_hand_right cd_l_by_hand_right ct_l_by_hand_right : Value}
    (a1_l_by_hand_right : PySem.W.nsIn K mainGlobals "_law_by_hand_right" = some (some (.ref a_l_by_hand_right))) (l1_l_by_hand_right : K.lookup a_l_by_hand_right = some ⟨oc_l_by_hand_right, od_l_by_hand_right, .func (PySem.W.fnOf "_law_by_hand_right" "_law_by_hand_right" (defArgs s_l_by_hand_right) (defBody s_l_by_hand_right) (defScope s_l_by_hand_right) .none kV_l_by_hand_right dc_l_by_hand_right pm_l_by_hand_right an_l_by_hand_right cd_l_by_hand_right ct_l_by_hand_right), sl_l_by_hand_right⟩) (c1_l_by_hand_right : PySem.W.codeIn K cd_l_by_hand_right "_law_by_hand_right" = true) (k1_l_by_hand_right : PySem.W.keepIn K (.ref a_l_by_hand_right) = true)
    {a_l_bent_right : Addr} {od_l_bent_right an_l_bent_right : Option Addr} {sl_l_bent_right : Array (Option Value)} {oc_l_bent_right kV_l_bent_right dc_l_bent_right pm_l_bent_right cd_l_bent_right ct_l_bent_right : Value}
    (a1_l_bent_right : PySem.W.nsIn K mainGlobals "_law_bent_right" = some (some (.ref a_l_bent_right))) (l1_l_bent_right : K.lookup a_l_bent_right = some ⟨oc_l_bent_right, od_l_bent_right, .func (PySem.W.fnOf "_law_bent_right" "_law_bent_right" (defArgs s_l_bent_right) (defBody s_l_bent_right) (defScope s_l_bent_right) .none kV_l_bent_right dc_l_bent_right pm_l_bent_right an_l_bent_right cd_l_bent_right ct_l_bent_right), sl_l_bent_right⟩) (c1_l_bent_right : PySem.W.codeIn K cd_l_bent_right "_law_bent_right" = true) (k1_l_bent_right : PySem.W.keepIn K (.ref a_l_bent_right) = true)
    {a_l_case_right : Addr} {od_l_case_right an_l_case_right : Option Addr} {sl_l_case_right : Array (Option Value)} {oc_l_case_right kV_l_case_right dc_l_case_right pm_l_case_right cd_l_case_right ct_l_case_right : Value}
    (a1_l_case_right : PySem.W.nsIn K mainGlobals "_law_case_right" = some (some (.ref a_l_case_right))) (l1_l_case_right : K.lookup a_l_case_right = some ⟨oc_l_case_right, od_l_case_right, .func (PySem.W.fnOf "_law_case_right" "_law_case_right" (defArgs s_l_case_right) (defBody s_l_case_right) (defScope s_l_case_right) .none kV_l_case_right dc_l_case_right pm_l_case_right an_l_case_right cd_l_case_right ct_l_case_right), sl_l_case_right⟩) (c1_l_case_right : PySem.W.codeIn K cd_l_case_right "_law_case_right" = true) (k1_l_case_right : PySem.W.keepIn K (.ref a_l_case_right) = true)
    {a_l_right : Addr} {od_l_right an_l_right : Option Addr} {sl_l_right : Array (Option Value)} {oc_l_right kV_l_right dc_l_right pm_l_right cd_l_right ct_l_right : Value}
    (a1_l_right : PySem.W.nsIn K mainGlobals "_law_right" = some (some (.ref a_l_right))) (l1_l_right : K.lookup a_l_right = some ⟨oc_l_right, od_l_right, .func (PySem.W.fnOf "_law_right" "_law_right" (defArgs s_l_right) (defBody s_l_right) (defScope s_l_right) .none kV_l_right dc_l_right pm_l_right an_l_right cd_l_right ct_l_right), sl_l_right⟩) (c1_l_right : PySem.W.codeIn K cd_l_right "_law_right" = true) (k1_l_right : PySem.W.keepIn K (.ref a_l_right) = true)
    {a_law : Addr} {od_law an_law : Option Addr} {sl_law : Array (Option Value)} {oc_law kV_law dc_law pm_law cd_law ct_law : Value}
    (a1_law : PySem.W.nsIn K mainGlobals "law" = some (some (.ref a_law))) (l1_law : K.lookup a_law = some ⟨oc_law, od_law, .func (PySem.W.fnOf "law" "law" (defArgs s_law) (defBody s_law) (defScope s_law) .none kV_law dc_law pm_law an_law cd_law ct_law), sl_law⟩) (c1_law : PySem.W.codeIn K cd_law "law" = true) (k1_law : PySem.W.keepIn K (.ref a_law) = true)
    {t_DEEDS : Addr} {es_DEEDS : Array DictEntry} {n_DEEDS : Nat} (x_DEEDS : PySem.W.nsIn K mainGlobals "DEEDS" = some (some (.ref t_DEEDS))) (h_DEEDS : K.lookup t_DEEDS = some ⟨.type "dict", none, .dict es_DEEDS n_DEEDS, #[]⟩) (b_DEEDS : PySem.W.KeysLit w.params es_DEEDS.toList) (o_DEEDS : (t_DEEDS == sysModules) = false) (g_DEEDS : TabL es_DEEDS.toList [(PySem.Str.ofString "+", PySem.Str.ofString "begin"), (PySem.Str.ofString "-", PySem.Str.ofString "end")])
    (z_abs : PySem.W.nsIn K mainGlobals "abs" = some none)
    (z_all : PySem.W.nsIn K mainGlobals "all" = some none)
    (z_bool : PySem.W.nsIn K mainGlobals "bool" = some none)
    (z_enumerate : PySem.W.nsIn K mainGlobals "enumerate" = some none)
    (z_int : PySem.W.nsIn K mainGlobals "int" = some none)
    (z_isinstance : PySem.W.nsIn K mainGlobals "isinstance" = some none)
    (z_len : PySem.W.nsIn K mainGlobals "len" = some none)
    (z_list : PySem.W.nsIn K mainGlobals "list" = some none)
    (z_min : PySem.W.nsIn K mainGlobals "min" = some none)
    (z_range : PySem.W.nsIn K mainGlobals "range" = some none)
    (z_sorted : PySem.W.nsIn K mainGlobals "sorted" = some none)
    (z_str : PySem.W.nsIn K mainGlobals "str" = some none)
    (z_tuple : PySem.W.nsIn K mainGlobals "tuple" = some none)
    (z_zip : PySem.W.nsIn K mainGlobals "zip" = some none)
    {t_MOST_LETTERS : Tok} (y_MOST_LETTERS : PySem.W.nsIn K mainGlobals "MOST_LETTERS" = some (some (.int 8 t_MOST_LETTERS)))
    {t_NOTHING : Tok} (y_NOTHING : PySem.W.nsIn K mainGlobals "NOTHING" = some (some (.str (PySem.Str.ofString "-") t_NOTHING)))
    {c_BadText fi_BadText : Addr} {fdi_BadText : FuncData} (X_BadText : XCls K mg "BadText" "BadText.__init__" "piece" si_BadText c_BadText fi_BadText fdi_BadText) : Tx K mg w where
  a_steps_from := a_steps_from
  fd_steps_from := _
  F_steps_from := fun_mk (st := s_steps_from) l1_steps_from c1_steps_from k1_steps_from
  B_steps_from := (fun_mk (st := s_steps_from) l1_steps_from c1_steps_from k1_steps_from).binds fun _ _ _ _ _ _ us hl => match us, hl with | [_], _ => rfl
  m_steps_from := PySem.W.mg_of X G a1_steps_from
  a_pairs_from := a_pairs_from
  fd_pairs_from := _
  F_pairs_from := fun_mk (st := s_pairs_from) l1_pairs_from c1_pairs_from k1_pairs_from
  B_pairs_from := (fun_mk (st := s_pairs_from) l1_pairs_from c1_pairs_from k1_pairs_from).binds fun _ _ _ _ _ _ us hl => match us, hl with | [_], _ => rfl
  m_pairs_from := PySem.W.mg_of X G a1_pairs_from
  a_sizes_from := a_sizes_from
  fd_sizes_from := _
  F_sizes_from := fun_mk (st := s_sizes_from) l1_sizes_from c1_sizes_from k1_sizes_from
  B_sizes_from := (fun_mk (st := s_sizes_from) l1_sizes_from c1_sizes_from k1_sizes_from).binds fun _ _ _ _ _ _ us hl => match us, hl with | [_], _ => rfl
  m_sizes_from := PySem.W.mg_of X G a1_sizes_from
  a_run_from := a_run_from
  fd_run_from := _
  F_run_from := fun_mk (st := s_run_from) l1_run_from c1_run_from k1_run_from
  B_run_from := (fun_mk (st := s_run_from) l1_run_from c1_run_from k1_run_from).binds fun _ _ _ _ _ _ us hl => match us, hl with | [_], _ => rfl
  m_run_from := PySem.W.mg_of X G a1_run_from
  a_is_name := a_is_name
  fd_is_name := _
  F_is_name := fun_mk (st := s_is_name) l1_is_name c1_is_name k1_is_name
  B_is_name := (fun_mk (st := s_is_name) l1_is_name c1_is_name k1_is_name).binds fun _ _ _ _ _ _ us hl => match us, hl with | [_], _ => rfl
  m_is_name := PySem.W.mg_of X G a1_is_name
  a_values_from := a_values_from
  fd_values_from := _
  F_values_from := fun_mk (st := s_values_from) l1_values_from c1_values_from k1_values_from
  B_values_from := (fun_mk (st := s_values_from) l1_values_from c1_values_from k1_values_from).binds fun _ _ _ _ _ _ us hl => match us, hl with | [_, _, _, _], _ => rfl
  m_values_from := PySem.W.mg_of X G a1_values_from
  a_pieces := a_pieces
  fd_pieces := _
  F_pieces := fun_mk (st := s_pieces) l1_pieces c1_pieces k1_pieces
  B_pieces := (fun_mk (st := s_pieces) l1_pieces c1_pieces k1_pieces).binds fun _ _ _ _ _ _ us hl => match us, hl with | [_, _], _ => rfl
  m_pieces := PySem.W.mg_of X G a1_pieces
  a_name_from := a_name_from
  fd_name_from := _
  F_name_from := fun_mk (st := s_name_from) l1_name_from c1_name_from k1_name_from
  B_name_from := (fun_mk (st := s_name_from) l1_name_from c1_name_from k1_name_from).binds fun _ _ _ _ _ _ us hl => match us, hl with | [_], _ => rfl
  m_name_from := PySem.W.mg_of X G a1_name_from
  a_pair_from := a_pair_from
  fd_pair_from := _
  F_pair_from := fun_mk (st := s_pair_from) l1_pair_from c1_pair_from k1_pair_from
  B_pair_from := (fun_mk (st := s_pair_from) l1_pair_from c1_pair_from k1_pair_from).binds fun _ _ _ _ _ _ us hl => match us, hl with | [_], _ => rfl
  m_pair_from := PySem.W.mg_of X G a1_pair_from
  a_size_from := a_size_from
  fd_size_from := _
  F_size_from := fun_mk (st := s_size_from) l1_size_from c1_size_from k1_size_from
  B_size_from := (fun_mk (st := s_size_from) l1_size_from c1_size_from k1_size_from).binds fun _ _ _ _ _ _ us hl => match us, hl with | [_], _ => rfl
  m_size_from := PySem.W.mg_of X G a1_size_from
  a_deed_from := a_deed_from
  fd_deed_from := _
  F_deed_from := fun_mk (st := s_deed_from) l1_deed_from c1_deed_from k1_deed_from
  B_deed_from := (fun_mk (st := s_deed_from) l1_deed_from c1_deed_from k1_deed_from).binds fun _ _ _ _ _ _ us hl => match us, hl with | [_], _ => rfl
  m_deed_from := PySem.W.mg_of X G a1_deed_from
  a_l_box := a_l_box
  fd_l_box := _
  F_l_box := fun_mk (st := s_l_box) l1_l_box c1_l_box k1_l_box
  B_l_box := (fun_mk (st := s_l_box) l1_l_box c1_l_box k1_l_box).binds fun _ _ _ _ _ _ us hl => match us, hl with | [_, _], _ => rfl
  m_l_box := PySem.W.mg_of X G a1_l_box
  a_l_take := a_l_take
  fd_l_take := _
  F_l_take := fun_mk (st := s_l_take) l1_l_take c1_l_take k1_l_take
  B_l_take := (fun_mk (st := s_l_take) l1_l_take c1_l_take k1_l_take).binds fun _ _ _ _ _ _ us hl => match us, hl with | [_, _], _ => rfl
  m_l_take := PySem.W.mg_of X G a1_l_take
  a_l_cells := a_l_cells
  fd_l_cells := _
  F_l_cells := fun_mk (st := s_l_cells) l1_l_cells c1_l_cells k1_l_cells
  B_l_cells := (fun_mk (st := s_l_cells) l1_l_cells c1_l_cells k1_l_cells).binds fun _ _ _ _ _ _ us hl => match us, hl with | [_, _], _ => rfl
  m_l_cells := PySem.W.mg_of X G a1_l_cells
  a_l_of := a_l_of
  fd_l_of := _
  F_l_of := fun_mk (st := s_l_of) l1_l_of c1_l_of k1_l_of
  B_l_of := (fun_mk (st := s_l_of) l1_l_of c1_l_of k1_l_of).binds fun _ _ _ _ _ _ us hl => match us, hl with | [_, _], _ => rfl
  m_l_of := PySem.W.mg_of X G a1_l_of
  a_l_pick := a_l_pick
  fd_l_pick := _
  F_l_pick := fun_mk (st := s_l_pick) l1_l_pick c1_l_pick k1_l_pick
  B_l_pick := (fun_mk (st := s_l_pick) l1_l_pick c1_l_pick k1_l_pick).binds fun _ _ _ _ _ _ us hl => match us, hl with | [_, _, _], _ => rfl
  m_l_pick := PySem.W.mg_of X G a1_l_pick
  a_l_same := a_l_same
  fd_l_same := _
  F_l_same := fun_mk (st := s_l_same) l1_l_same c1_l_same k1_l_same
  B_l_same := (fun_mk (st := s_l_same) l1_l_same c1_l_same k1_l_same).binds fun _ _ _ _ _ _ us hl => match us, hl with | [_, _], _ => rfl
  m_l_same := PySem.W.mg_of X G a1_l_same
  a_l_steps := a_l_steps
  fd_l_steps := _
  F_l_steps := fun_mk (st := s_l_steps) l1_l_steps c1_l_steps k1_l_steps
  B_l_steps := (fun_mk (st := s_l_steps) l1_l_steps c1_l_steps k1_l_steps).binds fun _ _ _ _ _ _ us hl => match us, hl with | [_, _], _ => rfl
  m_l_steps := PySem.W.mg_of X G a1_l_steps
  a_l_webs := a_l_webs
  fd_l_webs := _
  F_l_webs := fun_mk (st := s_l_webs) l1_l_webs c1_l_webs k1_l_webs
  B_l_webs := (fun_mk (st := s_l_webs) l1_l_webs c1_l_webs k1_l_webs).binds fun _ _ _ _ _ _ us hl => match us, hl with | [_, _], _ => rfl
  m_l_webs := PySem.W.mg_of X G a1_l_webs
  a_l_heard := a_l_heard
  fd_l_heard := _
  F_l_heard := fun_mk (st := s_l_heard) l1_l_heard c1_l_heard k1_l_heard
  B_l_heard := (fun_mk (st := s_l_heard) l1_l_heard c1_l_heard k1_l_heard).binds fun _ _ _ _ _ _ us hl => match us, hl with | [_, _], _ => rfl
  m_l_heard := PySem.W.mg_of X G a1_l_heard
  a_l_heard_right := a_l_heard_right
  fd_l_heard_right := _
  F_l_heard_right := fun_mk (st := s_l_heard_right) l1_l_heard_right c1_l_heard_right k1_l_heard_right
  B_l_heard_right := (fun_mk (st := s_l_heard_right) l1_l_heard_right c1_l_heard_right k1_l_heard_right).binds fun _ _ _ _ _ _ us hl => match us, hl with | [_, _], _ => rfl
  m_l_heard_right := PySem.W.mg_of X G a1_l_heard_right
  a_l_by_hand_right := a_l_by_hand_right
  fd_l_by_hand_right := _
  F_l_by_hand_right := fun_mk (st := s_l_by_hand_right) l1_l_by_hand_right c1_l_by_hand_right k1_l_by_hand_right
  B_l_by_hand_right := (fun_mk (st := s_l_by_hand_right) l1_l_by_hand_right c1_l_by_hand_right k1_l_by_hand_right).binds fun _ _ _ _ _ _ us hl => match us, hl with | [], _ => rfl
  m_l_by_hand_right := PySem.W.mg_of X G a1_l_by_hand_right
  a_l_bent_right := a_l_bent_right
  fd_l_bent_right := _
  F_l_bent_right := fun_mk (st := s_l_bent_right) l1_l_bent_right c1_l_bent_right k1_l_bent_right
  B_l_bent_right := (fun_mk (st := s_l_bent_right) l1_l_bent_right c1_l_bent_right k1_l_bent_right).binds fun _ _ _ _ _ _ us hl => match us, hl with | [_, _, _, _, _], _ => rfl
  m_l_bent_right := PySem.W.mg_of X G a1_l_bent_right
  a_l_case_right := a_l_case_right
  fd_l_case_right := _
  F_l_case_right := fun_mk (st := s_l_case_right) l1_l_case_right c1_l_case_right k1_l_case_right
  B_l_case_right := (fun_mk (st := s_l_case_right) l1_l_case_right c1_l_case_right k1_l_case_right).binds fun _ _ _ _ _ _ us hl => match us, hl with | [_], _ => rfl
  m_l_case_right := PySem.W.mg_of X G a1_l_case_right
  a_l_right := a_l_right
  fd_l_right := _
  F_l_right := fun_mk (st := s_l_right) l1_l_right c1_l_right k1_l_right
  B_l_right := (fun_mk (st := s_l_right) l1_l_right c1_l_right k1_l_right).binds fun _ _ _ _ _ _ us hl => match us, hl with | [_], _ => rfl
  m_l_right := PySem.W.mg_of X G a1_l_right
  a_law := a_law
  fd_law := _
  F_law := fun_mk (st := s_law) l1_law c1_law k1_law
  B_law := (fun_mk (st := s_law) l1_law c1_law k1_law).binds fun _ _ _ _ _ _ us hl => match us, hl with | [_], _ => rfl
  m_law := PySem.W.mg_of X G a1_law
  t_DEEDS := t_DEEDS
  m_DEEDS := PySem.W.mg_of X G x_DEEDS
  v_DEEDS := ⟨⟨es_DEEDS, n_DEEDS, h_DEEDS, b_DEEDS, o_DEEDS⟩, tab_at h_DEEDS g_DEEDS⟩
  n_abs := PySem.W.mg_none_of X G z_abs
  n_all := PySem.W.mg_none_of X G z_all
  n_bool := PySem.W.mg_none_of X G z_bool
  n_enumerate := PySem.W.mg_none_of X G z_enumerate
  n_int := PySem.W.mg_none_of X G z_int
  n_isinstance := PySem.W.mg_none_of X G z_isinstance
  n_len := PySem.W.mg_none_of X G z_len
  n_list := PySem.W.mg_none_of X G z_list
  n_min := PySem.W.mg_none_of X G z_min
  n_range := PySem.W.mg_none_of X G z_range
  n_sorted := PySem.W.mg_none_of X G z_sorted
  n_str := PySem.W.mg_none_of X G z_str
  n_tuple := PySem.W.mg_none_of X G z_tuple
  n_zip := PySem.W.mg_none_of X G z_zip
  t_MOST_LETTERS := t_MOST_LETTERS
  c_MOST_LETTERS := PySem.W.mg_of X G y_MOST_LETTERS
  t_NOTHING := t_NOTHING
  c_NOTHING := PySem.W.mg_of X G y_NOTHING
  c_BadText := c_BadText
  fi_BadText := fi_BadText
  fdi_BadText := _
  X_BadText := X_BadText
end
theorem walk {l : PySem.W.OpenLaw} {q : Program} {loose : List Str} {XP : (Str → Option Value) → Heap → Prop} {YP : World → Heap → Prop} {d : DefRec} {K : Params → PySem.W.Frag} (hn : l.most = some 63) (hdf : d.params.defaults = [])
    (hY : ∀ (w : World) (h : Heap), YP w h → (K w.params).In h) (hd : d.name = "law")
    (F : ∀ (w : World) (mg : Str → Option Value) (h : Heap), (K w.params).In h → h.Ns mainGlobals mg → Nonempty (Tx (K w.params) mg w)) :
    PySem.W.WalkO q loose XP YP l.row.toRowW d [] (fun f vs => PySem.call f vs) :=
  L2.walk_of (n := 63) (k := 13) (x := "_law_script") (CX := fun _ => CX0) (sp := fun w => spLaw (K w.params)) hn (by decide) hdf ⟨rfl, by decide, by decide⟩ hY (fun w mg fa h KX G hmg => by
    obtain ⟨T⟩ := F w mg h KX G
    rw [hd] at hmg
    have e := hmg.symm.trans T.m_law
    cases e
    exact ⟨T.fd_law, fun s v => bind_one T.F_law (fun _ _ _ _ _ _ _ => rfl) s v, fun base _ _ => law_sp (G_law T) (law_true T.ad)⟩) (fun _ _ a ns hl _ hS => ⟨a, ns, rfl, hS, hl, fun _ => rfl⟩) fun _ _ _ _ _ z => z
end Law
open PySem PySem.W PyProof.Rows in
set_option maxRecDepth 100000 in
set_option maxHeartbeats 0 in
theorem PySem.Challenge.cw_seatsahead_k02_wrong_texts_holds : PySem.Challenge.rw_seatsahead_k02_wrong_texts.Holds := by
  w_on; o_law; k_head; (case hw => w_witness2)
  k_fill
  refine Law.walk (l := PySem.Challenge.rw_seatsahead_k02_wrong_texts) rfl rfl (fun w h Y => PySem.W.kIn_of Y) rfl ?F
  case F =>
    intro w mg h KX G
    refine ⟨?_⟩
    refine' Law.mkT KX G ?a1_steps_from ?l1_steps_from ?c1_steps_from ?k1_steps_from ?a1_pairs_from ?l1_pairs_from ?c1_pairs_from ?k1_pairs_from ?a1_sizes_from ?l1_sizes_from ?c1_sizes_from ?k1_sizes_from ?a1_run_from ?l1_run_from ?c1_run_from ?k1_run_from ?a1_is_name ?l1_is_name ?c1_is_name ?k1_is_name ?a1_values_from ?l1_values_from ?c1_values_from ?k1_values_from ?a1_pieces ?l1_pieces ?c1_pieces ?k1_pieces ?a1_name_from ?l1_name_from ?c1_name_from ?k1_name_from ?a1_pair_from ?l1_pair_from ?c1_pair_from ?k1_pair_from ?a1_size_from ?l1_size_from ?c1_size_from ?k1_size_from ?a1_deed_from ?l1_deed_from ?c1_deed_from ?k1_deed_from ?a1_l_box ?l1_l_box ?c1_l_box ?k1_l_box ?a1_l_take ?l1_l_take ?c1_l_take ?k1_l_take ?a1_l_cells ?l1_l_cells ?c1_l_cells ?k1_l_cells ?a1_l_of ?l1_l_of ?c1_l_of ?k1_l_of ?a1_l_pick ?l1_l_pick ?c1_l_pick ?k1_l_pick ?a1_l_same ?l1_l_same ?c1_l_same ?k1_l_same ?a1_l_steps ?l1_l_steps ?c1_l_steps ?k1_l_steps ?a1_l_webs ?l1_l_webs ?c1_l_webs ?k1_l_webs ?a1_l_heard ?l1_l_heard ?c1_l_heard ?k1_l_heard ?a1_l_heard_right ?l1_l_heard_right ?c1_l_heard_right ?k1_l_heard_right ?a1_l_by_hand_right ?l1_l_by_hand_right ?c1_l_by_hand_right ?k1_l_by_hand_right ?a1_l_bent_right ?l1_l_bent_right ?c1_l_bent_right ?k1_l_bent_right ?a1_l_case_right ?l1_l_case_right ?c1_l_case_right ?k1_l_case_right ?a1_l_right ?l1_l_right ?c1_l_right ?k1_l_right ?a1_law ?l1_law ?c1_law ?k1_law ?x_DEEDS ?h_DEEDS ?b_DEEDS ?o_DEEDS ?g_DEEDS ?z_abs ?z_all ?z_bool ?z_enumerate ?z_int ?z_isinstance ?z_len ?z_list ?z_min ?z_range ?z_sorted ?z_str ?z_tuple ?z_zip ?y_MOST_LETTERS ?y_NOTHING ?X_BadText
    (case a1_steps_from => k_is)
    (case l1_steps_from => k_is)
    (case c1_steps_from => k_is)
    (case k1_steps_from => k_is)
    (case a1_pairs_from => k_is)
    (case l1_pairs_from => k_is)
    (case c1_pairs_from => k_is)
    (case k1_pairs_from => k_is)
    (case a1_sizes_from => k_is)
    (case l1_sizes_from => k_is)
    (case c1_sizes_from => k_is)
    (case k1_sizes_from => k_is)
    (case a1_run_from => k_is)
    (case l1_run_from => k_is)
    (case c1_run_from => k_is)
    (case k1_run_from => k_is)
    (case a1_is_name => k_is)
    (case l1_is_name => k_is)
    (case c1_is_name => k_is)
    (case k1_is_name => k_is)
    (case a1_values_from => k_is)
    (case l1_values_from => k_is)
    (case c1_values_from => k_is)
    (case k1_values_from => k_is)
    (case a1_pieces => k_is)
    (case l1_pieces => k_is)
    (case c1_pieces => k_is)
    (case k1_pieces => k_is)
    (case a1_name_from => k_is)
    (case l1_name_from => k_is)
    (case c1_name_from => k_is)
    (case k1_name_from => k_is)
    (case a1_pair_from => k_is)
    (case l1_pair_from => k_is)
    (case c1_pair_from => k_is)
    (case k1_pair_from => k_is)
    (case a1_size_from => k_is)
    (case l1_size_from => k_is)
    (case c1_size_from => k_is)
    (case k1_size_from => k_is)
    (case a1_deed_from => k_is)
    (case l1_deed_from => k_is)
    (case c1_deed_from => k_is)
    (case k1_deed_from => k_is)
    (case a1_l_box => k_is)
    (case l1_l_box => k_is)
    (case c1_l_box => k_is)
    (case k1_l_box => k_is)
    (case a1_l_take => k_is)
    (case l1_l_take => k_is)
    (case c1_l_take => k_is)
    (case k1_l_take => k_is)
    (case a1_l_cells => k_is)
    (case l1_l_cells => k_is)
    (case c1_l_cells => k_is)
    (case k1_l_cells => k_is)
    (case a1_l_of => k_is)
    (case l1_l_of => k_is)
    (case c1_l_of => k_is)
    (case k1_l_of => k_is)
    (case a1_l_pick => k_is)
    (case l1_l_pick => k_is)
    (case c1_l_pick => k_is)
    (case k1_l_pick => k_is)
    (case a1_l_same => k_is)
    (case l1_l_same => k_is)
    (case c1_l_same => k_is)
    (case k1_l_same => k_is)
    (case a1_l_steps => k_is)
    (case l1_l_steps => k_is)
    (case c1_l_steps => k_is)
    (case k1_l_steps => k_is)
    (case a1_l_webs => k_is)
    (case l1_l_webs => k_is)
    (case c1_l_webs => k_is)
    (case k1_l_webs => k_is)
    (case a1_l_heard => k_is)
    (case l1_l_heard => k_is)
    (case c1_l_heard => k_is)
    (case k1_l_heard => k_is)
    (case a1_l_heard_right => k_is)
    (case l1_l_heard_right => k_is)
    (case c1_l_heard_right => k_is)
    (case k1_l_heard_right => k_is)
    (case a1_l_by_hand_right => k_is)
    (case l1_l_by_hand_right => k_is)
    (case c1_l_by_hand_right => k_is)
    (case k1_l_by_hand_right => k_is)
    (case a1_l_bent_right => k_is)
    (case l1_l_bent_right => k_is)
    (case c1_l_bent_right => k_is)
    (case k1_l_bent_right => k_is)
    (case a1_l_case_right => k_is)
    (case l1_l_case_right => k_is)
    (case c1_l_case_right => k_is)
    (case k1_l_case_right => k_is)
    (case a1_l_right => k_is)
    (case l1_l_right => k_is)
    (case c1_l_right => k_is)
    (case k1_l_right => k_is)
    (case a1_law => k_is)
    (case l1_law => k_is)
    (case c1_law => k_is)
    (case k1_law => k_is)
    (case x_DEEDS => k_is)
    (case h_DEEDS => k_is)
    (case b_DEEDS => repeat (first | exact True.intro | refine ⟨⟨_, _, rfl, rfl⟩, ?_⟩))
    (case o_DEEDS => rfl)
    (case g_DEEDS => repeat (first | exact Mir.TabL.nil | refine Mir.TabL.cons rfl rfl ?_))
    (case z_abs => k_is)
    (case z_all => k_is)
    (case z_bool => k_is)
    (case z_enumerate => k_is)
    (case z_int => k_is)
    (case z_isinstance => k_is)
    (case z_len => k_is)
    (case z_list => k_is)
    (case z_min => k_is)
    (case z_range => k_is)
    (case z_sorted => k_is)
    (case z_str => k_is)
    (case z_tuple => k_is)
    (case z_zip => k_is)
    (case y_MOST_LETTERS => k_is)
    (case y_NOTHING => k_is)
    (case X_BadText =>
      refine' Mir.XCls.mk1 KX G ?aC ?xL ?sa ?ga ?gg ?nb ?a1 ?t1 ?l1 ?c1 ?k1 ?kC ?eC ?tC ?hC ?sC ?hB
      (case aC => k_is)
      (case xL => k_is)
      (case sa => k_is)
      (case ga => k_is)
      (case gg => k_is)
      (case nb => k_is)
      (case a1 => k_is)
      (case t1 => k_is)
      (case l1 => k_is)
      (case c1 => k_is)
      (case k1 => k_is)
      (case kC => k_is)
      (case eC => k_is)
      (case tC => k_is)
      (case hC => k_is)
      (case sC => first | rfl | k_is)
      (case hB => exact fun us hl => match us, hl with | [_, _], _ => rfl))

