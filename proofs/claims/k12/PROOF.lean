import PyProof.Rows.All
import Wide.All
import OpenK.AllK
import Wide.FinOn
import HandS.ForMost
import HandS.IsInst
import HandS.Property
import HandS.Conv
import HandS.Exc
import HandS.ExcOwn
import HandS.WordsExc
import HandS.ExcIs
import HandS.Style
import KE.KExcSuper
import KE.KExcIs
import HandS.ExcInit
import HandS.ExcField
import HandS.FStr
import HandS.More
import HandS.SortKw
import KE.DatumOrd
import HandS.Rev
import KE.GoesEnumKw
import KE.BitLaws
import HandS.RevRange
import HandS.Star
import KE.DataMinMax
import HandS.Zip
import HandS.TryMany
import KE.SortData
import HandS.Sort
import HandS.TupLe
import HandS.DictComp
import HandS.OwnEq
import HandS.CallLocal
import HandS.RaiseMore
import HandS.Text
import KE.KUnpackStar
import PySem.Challenge.RW_suregate_k12_circuit_texts
set_option Elab.async false
set_option maxRecDepth 100000
set_option maxHeartbeats 0
set_option linter.all false
/-! Values by what they hold: data, the state of a def as data, and what its readings ask of it. -/
namespace PL
open PySem L2

/-- what a value holds, through the heap -/
inductive D where
  | non | bl (b : Bool) | int (i : Int) | str (s : Str) | ref (v : V)
  | tup (ds : List D) | lst (ds : List D) | ins (C : Addr) (fs : List (Str × D))
  /-- a tuple, a constant of the module perhaps -/
  | ktp (ds : List D)
  /-- an error that is caught: where it stands, where its attributes do -/
  | err (a dd : Addr) (fs : List (Str × D))

inductive Is (K : PySem.W.Frag) (H : Hp) : V → D → Prop
  | non : Is K H .non .non
  | bl (b : Bool) : Is K H (.bl b) (.bl b)
  | int (i : Int) : Is K H (.int i) (.int i)
  | str (s : Str) : Is K H (.str s) (.str s)
  | ref (v : V) : Is K H v (.ref v)
  | tup {a : Addr} {vs : List V} {ds : List D} : H a = some (.tup vs) → vs.length = ds.length → (∀ (i : Nat) (v : V) (d : D), vs[i]? = some v → ds[i]? = some d → Is K H v d) → Is K H (.ref a) (.tup ds)
  | lst {a : Addr} {vs : List V} {ds : List D} : SqL K H a vs → vs.length = ds.length → (∀ (i : Nat) (v : V) (d : D), vs[i]? = some v → ds[i]? = some d → Is K H v d) → Is K H (.ref a) (.lst ds)
  | ktp {a : Addr} {vs : List V} {ds : List D} : SqT K H a vs → vs.length = ds.length → (∀ (i : Nat) (v : V) (d : D), vs[i]? = some v → ds[i]? = some d → Is K H v d) → Is K H (.ref a) (.ktp ds)
  | err {a dd : Addr} {vs : List (Str × V)} {fs : List (Str × D)} : H dd = some (.xd vs) → vs.map (·.1) = fs.map (·.1) → (∀ (i : Nat) (p : Str × V) (q : Str × D), vs[i]? = some p → fs[i]? = some q → Is K H p.2 q.2) → Is K H (.ref a) (.err a dd fs)
  | ins {a C dx : Addr} {vs : List (Str × V)} {fs : List (Str × D)} : H a = some (.ins C dx vs) → vs.map (·.1) = fs.map (·.1) → (∀ (i : Nat) (p : Str × V) (q : Str × D), vs[i]? = some p → fs[i]? = some q → Is K H p.2 q.2) → Is K H (.ref a) (.ins C fs)

section
variable {K : PySem.W.Frag} {H H1 H2 F F0 F1 F2 Z : Hp} {v : V} {d : D} {vs ws : List V} {ds es : List D} {p : Addr} {o : HO}

theorem same_t {a : Addr} {xs : List V} (e : Same H H1) (h : SqT K H a xs) : SqT K H1 a xs := by
  rcases h with (h | ⟨o, h⟩) | h
  · exact .inl (.inl (e _ _ h))
  · exact .inl (.inr ⟨o, e _ _ h⟩)
  · exact .inr h
theorem same_new (h : H p = none) : Same H (upd H p o) := fun b u e => by
  rw [upd_ne (ne_of_none e h)]
  exact e
theorem same_up (h : Same F H) (hn : H p = none) : Same (upd F p o) (upd H p o) := fun b u e => by
  by_cases hb : b = p
  · subst hb
    rw [upd_same] at e ⊢
    exact e
  · rw [upd_ne hb] at e ⊢
    exact h _ _ e
theorem same_at (h : Same F H) (hp : H p = some o) : Same (upd F p o) H := fun b u e => by
  by_cases hb : b = p
  · subst hb
    rw [upd_same] at e
    cases e
    exact hp
  · rw [upd_ne hb] at e
    exact h _ _ e
theorem same_mut {H' : Hp} (h : Same F H') (hn : F p = none) : Same F (upd H' p o) := fun b u e => by
  rw [upd_ne (ne_of_none e hn)]
  exact h _ _ e
theorem Is.mono (e : Same H H1) (h : Is K H v d) : Is K H1 v d := by
  induction h with
  | non => exact .non
  | bl b => exact .bl b
  | int i => exact .int i
  | str s => exact .str s
  | ref v => exact .ref v
  | tup a b _ ih => exact .tup (e _ _ a) b ih
  | ktp a b _ ih => exact .ktp (same_t e a) b ih
  | err a b _ ih => exact .err (e _ _ a) b ih
  | lst a b _ ih => exact .lst (e.seq a) b ih
  | ins a b _ ih => exact .ins (e _ _ a) b ih

def IsL (K : PySem.W.Frag) (H : Hp) (vs : List V) (ds : List D) : Prop := vs.length = ds.length ∧ ∀ (i : Nat) (v : V) (d : D), vs[i]? = some v → ds[i]? = some d → Is K H v d
theorem IsL.mono (e : Same H H1) (h : IsL K H vs ds) : IsL K H1 vs ds := ⟨h.1, fun i v d a b => (h.2 i v d a b).mono e⟩
theorem IsL.nil : IsL K H [] [] := ⟨rfl, fun i v d a _ => by simp at a⟩
theorem IsL.cons (h : Is K H v d) (t : IsL K H vs ds) : IsL K H (v :: vs) (d :: ds) := by
  refine ⟨by simp [t.1], fun i x y a b => ?_⟩
  cases i with
  | zero =>
    simp at a b
    subst a
    subst b
    exact h
  | succ i => exact t.2 i x y (by simpa using a) (by simpa using b)
theorem IsL.snoc (t : IsL K H vs ds) (h : Is K H v d) : IsL K H (vs ++ [v]) (ds ++ [d]) := by
  refine ⟨by simp [t.1], fun i x y a b => ?_⟩
  have hl := t.1
  by_cases hi : i < vs.length
  · rw [List.getElem?_append_left hi] at a
    rw [List.getElem?_append_left (by omega)] at b
    exact t.2 i x y a b
  · rw [List.getElem?_append_right (by omega)] at a
    rw [List.getElem?_append_right (by omega)] at b
    have h0 : i - vs.length = 0 := by
      have := (List.getElem?_eq_some_iff.mp a).1
      simp at this
      omega
    rw [h0] at a
    rw [show i - ds.length = 0 by omega] at b
    simp at a b
    subst a
    subst b
    exact h
theorem IsL.app (t : IsL K H vs ds) (u : IsL K H ws es) : IsL K H (vs ++ ws) (ds ++ es) := by
  refine ⟨by simp [t.1, u.1], fun i x y a b => ?_⟩
  have hl := t.1
  by_cases hi : i < vs.length
  · rw [List.getElem?_append_left hi] at a
    rw [List.getElem?_append_left (by omega)] at b
    exact t.2 i x y a b
  · rw [List.getElem?_append_right (by omega)] at a
    rw [List.getElem?_append_right (by omega)] at b
    rw [show i - ds.length = i - vs.length by omega] at b
    exact u.2 _ x y a b
theorem IsL.get {i : Nat} (h : IsL K H vs ds) (hd : ds[i]? = some d) : ∃ v, vs[i]? = some v ∧ Is K H v d := by
  have hi := (List.getElem?_eq_some_iff.mp hd).1
  have hl := h.1
  have hv : vs[i]? = some (vs[i]'(by omega)) := List.getElem?_eq_getElem _
  exact ⟨_, hv, h.2 i _ _ hv hd⟩
theorem IsL.inv_cons (h : IsL K H vs (d :: ds)) : ∃ v ws, vs = v :: ws ∧ Is K H v d ∧ IsL K H ws ds := by
  cases vs with
  | nil => exact absurd h.1 (by simp)
  | cons v ws => exact ⟨v, ws, rfl, h.2 0 v d rfl rfl, by have := h.1; simpa using this, fun i x y a b => h.2 (i + 1) x y (by simpa using a) (by simpa using b)⟩
theorem IsL.inv_nil (h : IsL K H vs []) : vs = [] := by
  cases vs with
  | nil => rfl
  | cons v ws => exact absurd h.1 (by simp)
theorem is_lst (a : SqL K H p vs) (b : IsL K H vs ds) : Is K H (.ref p) (.lst ds) := .lst a b.1 b.2
theorem is_tup (a : H p = some (.tup vs)) (b : IsL K H vs ds) : Is K H (.ref p) (.tup ds) := .tup a b.1 b.2
theorem Is.lst_inv (h : Is K H v (.lst ds)) : ∃ a vs, v = .ref a ∧ SqL K H a vs ∧ IsL K H vs ds := by
  cases h with
  | lst a b c => exact ⟨_, _, rfl, a, b, c⟩
theorem Is.tup_inv (h : Is K H v (.tup ds)) : ∃ a vs, v = .ref a ∧ SqT K H a vs ∧ IsL K H vs ds := by
  cases h with
  | tup a b c => exact ⟨_, _, rfl, .of a, b, c⟩
theorem Is.tup_inv0 (h : Is K H v (.tup ds)) : ∃ a vs, v = .ref a ∧ H a = some (.tup vs) ∧ IsL K H vs ds := by
  cases h with
  | tup a b c => exact ⟨_, _, rfl, a, b, c⟩
theorem Is.ktp_inv (h : Is K H v (.ktp ds)) : ∃ a vs, v = .ref a ∧ SqT K H a vs ∧ IsL K H vs ds := by
  cases h with
  | ktp a b c => exact ⟨_, _, rfl, a, b, c⟩
theorem Is.int_inv {i : Int} (h : Is K H v (.int i)) : v = .int i := by
  cases h
  rfl
theorem Is.bl_inv {b : Bool} (h : Is K H v (.bl b)) : v = .bl b := by
  cases h
  rfl
theorem Is.str_inv {s : Str} (h : Is K H v (.str s)) : v = .str s := by
  cases h
  rfl
theorem Is.non_inv (h : Is K H v .non) : v = .non := by
  cases h
  rfl

/-- from (F, H) to (F', H'): nothing that stood has changed; F' holds no more of what stood -/
structure Nx (F H F' H' : Hp) : Prop where
  f : Same F F'
  h : Same H H'
  g : ∀ p, H p ≠ none → F p = none → F' p = none
  s : Same F' H'
theorem Nx.refl (s : Same F H) : Nx F H F H := ⟨.refl _, .refl _, fun _ _ h => h, s⟩
theorem Nx.trans (a : Nx F H F1 H1) (b : Nx F1 H1 F2 H2) : Nx F H F2 H2 := ⟨a.f.trans b.f, a.h.trans b.h, fun p h n => b.g p (fun z => h (by
  cases e : H p with
  | none => rfl
  | some o => rw [a.h p o e] at z; cases z)) (a.g p h n), b.s⟩
theorem some_ne (e : Same F H) (h : H p = none) : F p = none := by
  cases q : F p with
  | none => rfl
  | some u =>
    rw [e p u q] at h
    cases h
/-- a new datum, a new object of one's own -/
theorem Nx.new (s : Same F H) (h : H p = none) : Nx F H (upd F p o) (upd H p o) := ⟨same_new (some_ne s h), same_new h, fun q hq n => by
  rw [upd_ne (fun z => hq (by rw [z]; exact h))]
  exact n, same_up s h⟩
theorem Nx.own (s : Same F H) (h : H p = none) : Nx F H F (upd H p o) := ⟨.refl _, same_new h, fun _ _ n => n, s.trans (same_new h)⟩
/-- an object of one's own becomes a datum -/
theorem Nx.frz (n : Nx F H F1 H1) (h : H p = none) (hp : H1 p = some o) (hf : F1 p = none) : Nx F H (upd F1 p o) H1 := ⟨n.f.trans (same_new hf), n.h, fun q hq hn => by
  rw [upd_ne (fun z => hq (by rw [z]; exact h))]
  exact n.g q hq hn, same_at n.s hp⟩

/-- a thing of one's own that may hold others of one's own: what is true of it over the data F, in the heap H, at its address, with the addresses that it holds -/
structure Big where
  P : Hp → Hp → Addr → List Addr → Prop
  st : ∀ {F F' H H' : Hp} {p : Addr} {fp : List Addr}, Same F F' → (∀ q ∈ fp, H' q = H q) → P F H p fp → P F' H' p fp
/-- a thing that is lent, and only read -/
structure Lob where
  P : Hp → Hp → Addr → Prop
  st : ∀ {F F' H H' : Hp} {p : Addr}, Same F F' → (∀ q o, H q = some o → (∀ C dx, o ≠ .ins C dx []) → H' q = some o) → P F H p → P F' H' p
/-- what is known of a name: nothing; a datum; a list of one's own; a list that is lent; an instance; any thing of one's own -/
inductive Ent where
  | no | dat (d : D) | own (ds : List D) | bor (ds : List D) | obj (p C : Addr) (fs : List (Str × D)) | big (B : Big) (fp : List Addr) | lob (L : Lob)
/-- the addresses that are one's own by a name -/
def Ent.has : Ent → Option (Option V) → Addr → Prop
  | .own _, x, q => x = some (some (.ref q))
  | .obj _ _ _, x, q => x = some (some (.ref q))
  | .big _ fp, _, q => q ∈ fp
  | _, _, _ => False
/-- the attributes of an instance -/
def IsF (K : PySem.W.Frag) (H : Hp) (vs : List (Str × V)) (fs : List (Str × D)) : Prop := vs.map (·.1) = fs.map (·.1) ∧ ∀ (i : Nat) (p : Str × V) (q : Str × D), vs[i]? = some p → fs[i]? = some q → Is K H p.2 q.2
theorem IsF.mono {vs : List (Str × V)} {fs : List (Str × D)} (e : Same H H1) (h : IsF K H vs fs) : IsF K H1 vs fs := ⟨h.1, fun i p q a b => (h.2 i p q a b).mono e⟩

def nth : List Ent → Nat → Ent
  | [], _ => .no
  | e :: _, 0 => e
  | _ :: r, n + 1 => nth r n
def put : List Ent → Nat → Ent → List Ent
  | [], _, _ => []
  | _ :: r, 0, x => x :: r
  | e :: r, n + 1, x => e :: put r n x
theorem put_len : ∀ (δ : List Ent) (i : Nat) (x : Ent), (put δ i x).length = δ.length
  | [], _, _ => rfl
  | _ :: _, 0, _ => rfl
  | _ :: r, n + 1, x => by simp [put, put_len r n x]
theorem nth_put : ∀ (δ : List Ent) (i j : Nat) (x : Ent), nth (put δ i x) j = if i = j then (if i < δ.length then x else .no) else nth δ j
  | [], i, j, x => by simp [put, nth]
  | _ :: r, 0, 0, x => by simp [put, nth]
  | _ :: r, 0, j + 1, x => by simp [put, nth]
  | _ :: r, i + 1, 0, x => by simp [put, nth]
  | _ :: r, i + 1, j + 1, x => by simp [put, nth, nth_put r i j x]
theorem nth_ne {δ : List Ent} {i : Nat} (h : nth δ i ≠ .no) : i < δ.length := by
  induction δ generalizing i with
  | nil => exact absurd rfl h
  | cons e r ih =>
    cases i with
    | zero => simp
    | succ i =>
      have := ih (i := i) h
      simp
      omega

def SlotOk (K : PySem.W.Frag) (Z F H : Hp) (x : Option (Option V)) : Ent → Prop
  | .no => True
  | .dat d => ∃ v, x = some (some v) ∧ Is K F v d
  | .own ds => ∃ p vs, x = some (some (.ref p)) ∧ H p = some (.lst vs) ∧ F p = none ∧ Z p = none ∧ IsL K F vs ds
  | .bor ds => ∃ p vs, x = some (some (.ref p)) ∧ SqL K Z p vs ∧ IsL K F vs ds
  | .obj p C fs => ∃ dx vs, x = some (some (.ref p)) ∧ H p = some (.ins C dx vs) ∧ F p = none ∧ Z p = none ∧ IsF K F vs fs
  | .big B fp => ∃ p, x = some (some (.ref p)) ∧ p ∈ fp ∧ (∀ q ∈ fp, H q ≠ none ∧ F q = none ∧ Z q = none) ∧ B.P F H p fp
  | .lob L => ∃ p, x = some (some (.ref p)) ∧ L.P F Z p

/-- the state: F what is known as data, H the heap; Z what is another's and stays; F0 the data at the entry -/
structure Ok (K : PySem.W.Frag) (Z F0 F H : Hp) (σ : St) (δ : List Ent) : Prop where
  nx : Nx F0 Z F H
  len : σ.length = δ.length
  at_ : ∀ (i : Nat), SlotOk K Z F H σ[i]? (nth δ i)
  ow : ∀ (i j : Nat) (q : Addr), (nth δ i).has σ[i]? q → (nth δ j).has σ[j]? q → i = j

variable {σ : St} {δ : List Ent}
theorem Same.ne_none (e : Same H H1) (h : H p ≠ none) : H1 p ≠ none := fun z => h (by
  cases q : H p with
  | none => rfl
  | some o => rw [e p o q] at z; cases z)
theorem Same.eq_some (e : Same H H1) (h : H p ≠ none) : H1 p = H p := by
  cases q : H p with
  | none => exact absurd q h
  | some o => exact e p o q
/-- what is one's own stands in the heap, and is no datum and no other's -/
theorem SlotOk.mine {x : Option (Option V)} {e : Ent} {q : Addr} (h : SlotOk K Z F H x e) (hq : e.has x q) : H q ≠ none ∧ F q = none ∧ Z q = none := by
  cases e with
  | no => exact hq.elim
  | dat d => exact hq.elim
  | bor ds => exact hq.elim
  | lob L => exact hq.elim
  | own ds =>
    obtain ⟨p, vs, a, b, c, z, l⟩ := h
    have hq : x = some (some (.ref q)) := hq
    rw [a] at hq
    cases hq
    exact ⟨by rw [b]; simp, c, z⟩
  | obj p C fs =>
    obtain ⟨dx, vs, a, b, c, z, l⟩ := h
    have hq : x = some (some (.ref q)) := hq
    rw [a] at hq
    cases hq
    exact ⟨by rw [b]; simp, c, z⟩
  | big B fp =>
    obtain ⟨p, a, b, c, l⟩ := h
    exact c q hq
theorem SlotOk.frame {F' H' : Hp} {x : Option (Option V)} {e : Ent} (h : SlotOk K Z F H x e) (hF : Same F F') (hn : ∀ q, e.has x q → F' q = none) (hH : ∀ q, e.has x q → H' q = H q) : SlotOk K Z F' H' x e := by
  cases e with
  | no => trivial
  | dat d =>
    obtain ⟨v, a, b⟩ := h
    exact ⟨v, a, b.mono hF⟩
  | bor ds =>
    obtain ⟨p, vs, a, b, l⟩ := h
    exact ⟨p, vs, a, b, l.mono hF⟩
  | lob L =>
    obtain ⟨p, a, b⟩ := h
    exact ⟨p, a, L.st hF (fun q o e _ => e) b⟩
  | own ds =>
    obtain ⟨p, vs, a, b, c, z, l⟩ := h
    exact ⟨p, vs, a, (hH p a).trans b, hn p a, z, l.mono hF⟩
  | obj p C fs =>
    obtain ⟨dx, vs, a, b, c, z, l⟩ := h
    exact ⟨dx, vs, a, (hH p a).trans b, hn p a, z, l.mono hF⟩
  | big B fp =>
    obtain ⟨p, a, b, c, l⟩ := h
    exact ⟨p, a, b, fun q hq => ⟨by rw [hH q hq]; exact (c q hq).1, hn q hq, (c q hq).2.2⟩, B.st hF hH l⟩
theorem Ok.next (k : Ok K Z F0 F H σ δ) (n : Nx F H F1 H1) : Ok K Z F0 F1 H1 σ δ :=
  ⟨k.nx.trans n, k.len, fun i => (k.at_ i).frame n.f (fun q hq => by
    have m := (k.at_ i).mine hq
    exact n.g q m.1 m.2.1) (fun q hq => Same.eq_some n.h ((k.at_ i).mine hq).1), k.ow⟩

theorem set_get {i j : Nat} {x : Option V} (hi : i < σ.length) : (σ.set i x)[j]? = if i = j then some x else σ[j]? := by
  by_cases h : i = j
  · subst h
    rw [if_pos rfl]
    exact List.getElem?_set_self hi
  · rw [if_neg h]
    exact List.getElem?_set_ne h
/-- one name's entry changes -/
theorem Ok.chgE {i : Nat} {e : Ent} {σ' : St} {F' H' : Hp} (k : Ok K Z F0 F H σ δ) (nx : Nx F0 Z F' H') (hl : σ'.length = σ.length) (hs : ∀ j, j ≠ i → σ'[j]? = σ[j]?) (he : i < δ.length → SlotOk K Z F' H' σ'[i]? e)
    (ho : ∀ j, j ≠ i → SlotOk K Z F' H' σ[j]? (nth δ j)) (hd : ∀ j q, j ≠ i → (nth δ j).has σ[j]? q → i < δ.length → ¬ e.has σ'[i]? q) : Ok K Z F0 F' H' σ' (put δ i e) := by
  refine ⟨nx, by rw [hl, put_len]; exact k.len, fun j => ?_, fun a b q h1 h2 => ?_⟩
  · rw [nth_put]
    by_cases hij : i = j
    · subst hij
      rw [if_pos rfl]
      by_cases hi : i < δ.length
      · rw [if_pos hi]
        exact he hi
      · rw [if_neg hi]
        trivial
    · rw [if_neg hij, hs j (Ne.symm hij)]
      exact ho j (Ne.symm hij)
  · rw [nth_put] at h1 h2
    by_cases hia : i = a
    · by_cases hib : i = b
      · exact hia.symm.trans hib
      · rw [if_pos hia] at h1
        rw [if_neg hib, hs b (Ne.symm hib)] at h2
        by_cases hi : i < δ.length
        · rw [if_pos hi, ← hia] at h1
          exact absurd h1 (hd b q (Ne.symm hib) h2 hi)
        · rw [if_neg hi] at h1
          exact h1.elim
    · rw [if_neg hia, hs a (Ne.symm hia)] at h1
      by_cases hib : i = b
      · rw [if_pos hib] at h2
        by_cases hi : i < δ.length
        · rw [if_pos hi, ← hib] at h2
          exact absurd h2 (hd a q (Ne.symm hia) h1 hi)
        · rw [if_neg hi] at h2
          exact h2.elim
      · rw [if_neg hib, hs b (Ne.symm hib)] at h2
        exact k.ow a b q h1 h2
/-- a name takes a datum -/
theorem Ok.setD {i : Nat} (k : Ok K Z F0 F H σ δ) (h : Is K F v d) : Ok K Z F0 F H (σ.set i (some v)) (put δ i (.dat d)) :=
  k.chgE k.nx (by rw [List.length_set]) (fun j hj => List.getElem?_set_ne (Ne.symm hj)) (fun hi => ⟨v, by rw [List.getElem?_set_self (by rw [k.len]; exact hi)], h⟩) (fun j _ => k.at_ j) (fun _ _ _ _ _ z => z)
/-- a name takes a new list -/
theorem Ok.setL {i : Nat} (k : Ok K Z F0 F H σ δ) (hp : H p = some (.lst vs)) (hf : F p = none) (hz : Z p = none) (hl : IsL K F vs ds)
    (hn : ∀ (j : Nat), ¬ (nth δ j).has σ[j]? p) : Ok K Z F0 F H (σ.set i (some (.ref p))) (put δ i (.own ds)) := by
  refine k.chgE k.nx (by rw [List.length_set]) (fun j hj => List.getElem?_set_ne (Ne.symm hj)) (fun hi => ⟨p, vs, by rw [List.getElem?_set_self (by rw [k.len]; exact hi)], hp, hf, hz, hl⟩) (fun j _ => k.at_ j) (fun j q _ h1 hi h2 => ?_)
  have h2 : (σ.set i (some (.ref p)))[i]? = some (some (.ref q)) := h2
  rw [List.getElem?_set_self (by rw [k.len]; exact hi)] at h2
  cases h2
  exact hn j h1
/-- a thing of one's own is stored at its address alone -/
theorem Ok.only {i : Nat} {e : Ent} {o : HO} (k : Ok K Z F0 F H σ δ) (hz : Z p = none) (hf : F p = none) (hi : (nth δ i).has σ[i]? p) (he : SlotOk K Z F (upd H p o) σ[i]? e) (hh : ∀ q, e.has σ[i]? q → (nth δ i).has σ[i]? q) : Ok K Z F0 F (upd H p o) σ (put δ i e) := by
  refine k.chgE ⟨k.nx.f, same_mut k.nx.h hz, k.nx.g, same_mut k.nx.s hf⟩ rfl (fun _ _ => rfl) (fun _ => he) (fun j hj => (k.at_ j).frame (.refl _) (fun q hq => ((k.at_ j).mine hq).2.1) (fun q hq => upd_ne (fun z => hj ?_))) (fun j q hj h1 _ h2 => hj ?_)
  · rw [z] at hq
    exact k.ow j i p hq hi
  · exact k.ow j i q h1 (hh q h2)
/-- one's own list changes its items -/
theorem Ok.chg {i : Nat} (k : Ok K Z F0 F H σ δ) (hi : nth δ i = .own es) (hx : σ[i]? = some (some (.ref p))) (hl : IsL K F vs ds) : Ok K Z F0 F (upd H p (.lst vs)) σ (put δ i (.own ds)) := by
  have hm := (k.at_ i).mine (q := p) (by rw [hi]; exact hx)
  exact k.only hm.2.2 hm.2.1 (by rw [hi]; exact hx) ⟨p, vs, hx, upd_same, hm.2.1, hm.2.2, hl⟩ (fun q hq => by rw [hi]; exact hq)
/-- one's own list becomes a datum -/
theorem Ok.frz {i : Nat} (k : Ok K Z F0 F H σ δ) (hi : nth δ i = .own ds) : ∃ F', Ok K Z F0 F' H σ (put δ i (.dat (.lst ds))) ∧ Same F F' := by
  have hs := k.at_ i
  rw [hi] at hs
  obtain ⟨p, vs, a, b, c, z, l⟩ := hs
  have sf : Same F (upd F p (.lst vs)) := same_new c
  refine ⟨upd F p (.lst vs), k.chgE ⟨k.nx.f.trans sf, k.nx.h, fun q hq hn => ?_, same_at k.nx.s b⟩ rfl (fun _ _ => rfl) (fun _ => ⟨_, a, is_lst (.of upd_same) (l.mono sf)⟩) (fun j hj => (k.at_ j).frame sf (fun q hq => ?_) (fun _ _ => rfl)) (fun _ _ _ _ _ z => z), sf⟩
  · rw [upd_ne (fun e => hq (by rw [e]; exact z))]
    exact k.nx.g q hq hn
  · rw [upd_ne]
    · exact ((k.at_ j).mine hq).2.1
    · intro z
      rw [z] at hq
      exact hj (k.ow j i p hq (by rw [hi]; exact a))
/-- an attribute of an instance of one's own -/
theorem Ok.fput {i : Nat} {C dx : Addr} {fs : List (Str × D)} {gs : List (Str × D)} {us : List (Str × V)} (k : Ok K Z F0 F H σ δ) (hi : nth δ i = .obj p C fs) (hl : IsF K F us gs) :
    Ok K Z F0 F (upd H p (.ins C dx us)) σ (put δ i (.obj p C gs)) := by
  have hs := k.at_ i
  rw [hi] at hs
  obtain ⟨dy, us0, hx, b, c, z, l⟩ := hs
  exact k.only z c (by rw [hi]; exact hx) ⟨dx, us, hx, upd_same, c, z, hl⟩ (fun q hq => by rw [hi]; exact hq)
end

/-! ### what a reading asks of data -/
def DE (K : PySem.W.Frag) (t : TE) (δ : List Ent) (Q : D → Prop) : Prop := ∀ Z F0 F H σ, Ok K Z F0 F H σ δ → ∀ Q' : VK, (∀ d v F' H', Nx F H F' H' → Is K F' v d → Q d → Q' v H') → t σ H Q'
/-- a new list of one's own -/
def DL (K : PySem.W.Frag) (t : TE) (δ : List Ent) (Q : List D → Prop) : Prop := ∀ Z F0 F H σ, Ok K Z F0 F H σ δ → ∀ Q' : VK, (∀ ds p vs F' H', Nx F H F' H' → H p = none → H' p = some (.lst vs) → F' p = none → IsL K F' vs ds → Q ds → Q' (.ref p) H') → t σ H Q'
/-- a list to be read -/
def DR (K : PySem.W.Frag) (t : TE) (δ : List Ent) (Q : List D → Prop) : Prop := ∀ Z F0 F H σ, Ok K Z F0 F H σ δ → ∀ Q' : VK, (∀ ds p vs F' H', Nx F H F' H' → SqL K H' p vs → IsL K F' vs ds → Q ds → Q' (.ref p) H') → t σ H Q'
def DT (K : PySem.W.Frag) (t : TT) (δ : List Ent) (Q : Bool → Prop) : Prop := ∀ Z F0 F H σ, Ok K Z F0 F H σ δ → ∀ Q' : Bool → Hp → Prop, (∀ b F' H', Nx F H F' H' → Q b → Q' b H') → t σ H Q'
/-- an argument: a datum, a list that is lent -/
inductive Ar where
  | dat (d : D) | bor (ds : List D) | lob (L : Lob)
def ArOk (K : PySem.W.Frag) (F H : Hp) (v : V) : Ar → Prop
  | .dat d => Is K F v d
  | .bor ds => ∃ p vs, v = .ref p ∧ SqL K H p vs ∧ IsL K F vs ds
  | .lob L => ∃ p, v = .ref p ∧ L.P F H p
def ArsOk (K : PySem.W.Frag) (F H : Hp) : List V → List Ar → Prop
  | [], [] => True
  | v :: vs, a :: as => ArOk K F H v a ∧ ArsOk K F H vs as
  | _, _ => False
def DA (K : PySem.W.Frag) (t : TA) (δ : List Ent) (Q : List Ar → Prop) : Prop := ∀ Z F0 F H σ, Ok K Z F0 F H σ δ → ∀ Q' : List V → Hp → Prop, (∀ as vs F' H', Nx F H F' H' → ArsOk K F' H' vs as → Q as → Q' vs H') → t σ H Q'
theorem ArOk.mono {K : PySem.W.Frag} {F H F' H' : Hp} {v : V} {a : Ar} (n : Nx F H F' H') (h : ArOk K F H v a) : ArOk K F' H' v a := by
  cases a with
  | dat d => exact Is.mono n.f h
  | bor ds =>
    obtain ⟨p, vs, e, s, l⟩ := h
    exact ⟨p, vs, e, n.h.seq s, l.mono n.f⟩
  | lob L =>
    obtain ⟨p, e, b⟩ := h
    exact ⟨p, e, L.st n.f (fun q o e _ => n.h q o e) b⟩

/-- the ends of a statement -/
structure Ke where
  nx : List Ent → Prop
  rt : D → Prop
  bk : List Ent → Prop := fun _ => False
  ct : List Ent → Prop := fun _ => False
  /-- a list of one's own is returned -/
  rl : List D → Prop := fun _ => False
  /-- a pair of lists of one's own is returned -/
  r2 : List D → List D → Prop := fun _ _ => False
  /-- a datum is returned, with the state then -/
  rm : D → List Ent → Prop := fun _ _ => False
  /-- a thing of one's own (a dict, an instance) is returned: where it is, what it is, its footprint -/
  rb : Addr → Big → List Addr → Prop := fun _ _ _ => False
  /-- an error of a class, with its attributes, is raised at a state; and what is wished of it -/
  xw : Addr → List (Str × D) → List Ent → Prop := fun _ _ _ => False
  W : WX := fun _ _ _ _ => True
/-- the attributes of an error -/
def ErrOk (K : PySem.W.Frag) (F H : Hp) : Option Addr → List (Str × D) → Prop
  | none, fs => fs = []
  | some p, fs => fs ≠ [] ∧ ∃ vs, F p = some (.xd vs) ∧ IsF K F vs fs
structure KeOk (K : PySem.W.Frag) (Z F0 : Hp) (E : Ke) (D : Ends) : Prop where
  nx : ∀ δ F H σ, Ok K Z F0 F H σ δ → E.nx δ → D.nx σ H
  rt : ∀ d v F H, Nx F0 Z F H → Is K F v d → E.rt d → D.rt v H
  bk : ∀ δ F H σ, Ok K Z F0 F H σ δ → E.bk δ → D.bk σ H
  ct : ∀ δ F H σ, Ok K Z F0 F H σ δ → E.ct δ → D.ct σ H
  rl : ∀ ds p vs F H, Nx F0 Z F H → Z p = none → H p = some (.lst vs) → F p = none → IsL K F vs ds → E.rl ds → D.rt (.ref p) H
  r2 : ∀ ds es p x y vs us F H, Nx F0 Z F H → (∀ q ∈ [p, x, y], Z q = none ∧ F q = none) → x ≠ y → H p = some (.tup [.ref x, .ref y]) → H x = some (.lst vs) → H y = some (.lst us) → IsL K F vs ds → IsL K F us es → E.r2 ds es → D.rt (.ref p) H
  rm : ∀ d v δ F H σ, Ok K Z F0 F H σ δ → Is K F v d → E.rm d δ → D.rt v H
  rb : ∀ p (B : Big) fp F H, Nx F0 Z F H → p ∈ fp → (∀ q ∈ fp, H q ≠ none ∧ F q = none ∧ Z q = none) → B.P F H p fp → E.rb p B fp → D.rt (.ref p) H
  xs : ∀ C fs d δ F H σ, Ok K Z F0 F H σ δ → ErrOk K F H d fs → E.xw C fs δ → E.W (.ref C) d σ H
def DS (K : PySem.W.Frag) (t : TS) (δ : List Ent) (E : Ke) : Prop := ∀ Z F0 F H σ D, Ok K Z F0 F H σ δ → KeOk K Z F0 E D → t D σ H

/-- expressions, readable lists, new lists, tests, arguments, statements: the reading with what it asks -/
structure EX (K : PySem.W.Frag) where
  t : TE
  w : List Ent → (D → Prop) → Prop
  ok : ∀ δ Q, w δ Q → DE K t δ Q
structure LX (K : PySem.W.Frag) where
  t : TE
  w : List Ent → (List D → Prop) → Prop
  ok : ∀ δ Q, w δ Q → DL K t δ Q
structure RX (K : PySem.W.Frag) where
  t : TE
  w : List Ent → (List D → Prop) → Prop
  ok : ∀ δ Q, w δ Q → DR K t δ Q
structure TX (K : PySem.W.Frag) where
  t : TT
  w : List Ent → (Bool → Prop) → Prop
  ok : ∀ δ Q, w δ Q → DT K t δ Q
structure AX (K : PySem.W.Frag) where
  t : TA
  w : List Ent → (List Ar → Prop) → Prop
  ok : ∀ δ Q, w δ Q → DA K t δ Q
structure SX (K : PySem.W.Frag) where
  t : TS
  w : List Ent → Ke → Prop
  ok : ∀ δ E, w δ E → DS K t δ E
end PL
namespace PL
open PySem L2

/-! ### expressions -/
section
variable {K : PySem.W.Frag}

def datD : Ent → (D → Prop) → Prop
  | .dat d, Q => Q d
  | _, _ => False
def eVar (i : Nat) : EX K := ⟨tVar i, fun δ Q => datD (nth δ i) Q, fun δ Q hw Z F0 F H σ ok Q' k => by
  have h := ok.at_ i
  cases e : nth δ i with
  | dat d =>
    rw [e] at h hw
    obtain ⟨v, a, b⟩ := h
    exact ⟨v, a, k d v F H (.refl ok.nx.s) b hw⟩
  | no => rw [e] at hw; exact hw.elim
  | own ds => rw [e] at hw; exact hw.elim
  | bor ds => rw [e] at hw; exact hw.elim
  | obj p C fs => rw [e] at hw; exact hw.elim
  | big B fp => rw [e] at hw; exact hw.elim
  | lob L => rw [e] at hw; exact hw.elim⟩
def eC (v : V) (d : D) (h : ∀ H : Hp, Is K H v d) : EX K := ⟨tC v, fun _ Q => Q d, fun δ Q hw Z F0 F H σ ok Q' k => k d v F H (.refl ok.nx.s) (h F) hw⟩
def eI (i : Int) : EX K := eC (.int i) (.int i) fun _ => .int i
def eB (b : Bool) : EX K := eC (.bl b) (.bl b) fun _ => .bl b
def eS (s : Str) : EX K := eC (.str s) (.str s) fun _ => .str s
def eN : EX K := eC .non .non fun _ => .non
def eRef (v : V) : EX K := eC v (.ref v) fun _ => .ref v

/-- two operands -/
structure Op2 (K : PySem.W.Frag) where
  r : R2
  g : D → D → (D → Prop) → Prop
  ok : ∀ (d e : D) (v u : V) (F H : Hp) (Q : D → Prop) (Q' : VK), Is K F v d → Is K F u e → Same F H → g d e Q → (∀ d' v' F' H', Nx F H F' H' → Is K F' v' d' → Q d' → Q' v' H') → r v u H Q'
def eOp (o : Op2 K) (a b : EX K) : EX K := ⟨tOp o.r a.t b.t, fun δ Q => a.w δ fun d => b.w δ fun e => o.g d e Q, fun δ Q hw Z F0 F H σ ok Q' k => by
  refine a.ok δ _ hw Z F0 F H σ ok _ fun d v F1 H1 n1 i1 hw1 => ?_
  refine b.ok δ _ hw1 Z F0 F1 H1 σ (ok.next n1) _ fun e u F2 H2 n2 i2 hg => ?_
  exact o.ok d e v u F2 H2 Q Q' (i1.mono n2.f) i2 n2.s hg fun d' v' F' H' n i q => k d' v' F' H' ((n1.trans n2).trans n) i q⟩
def gII (C : Int → Int → Prop) (f : Int → Int → D) : D → D → (D → Prop) → Prop
  | .int i, .int j, Q => C i j ∧ Q (f i j)
  | _, _, _ => False
theorem gII_inv {C : Int → Int → Prop} {f : Int → Int → D} : ∀ {d e : D} {Q : D → Prop}, gII C f d e Q → ∃ i j, d = .int i ∧ e = .int j ∧ C i j ∧ Q (f i j)
  | .int i, .int j, _, h => ⟨i, j, rfl, rfl, h⟩
/-- ints to an int -/
def oI (C : Int → Int → Prop) (f : Int → Int → Int) : Op2 K := ⟨rI C fun i j => .int (f i j), gII C fun i j => .int (f i j), fun d e v u F H Q Q' a b s h k => by
  obtain ⟨i, j, rfl, rfl, c, q⟩ := gII_inv h
  exact ⟨i, j, a.int_inv, b.int_inv, c, k _ _ F H (.refl s) (.int _) q⟩⟩
def gI0 (f : Int → Int → D) : D → D → (D → Prop) → Prop
  | .int i, .int j, Q => Q (f i j)
  | _, _, _ => False
theorem gI0_inv {f : Int → Int → D} : ∀ {d e : D} {Q : D → Prop}, gI0 f d e Q → ∃ i j, d = .int i ∧ e = .int j ∧ Q (f i j)
  | .int i, .int j, _, h => ⟨i, j, rfl, rfl, h⟩
def oI0 (f : Int → Int → Int) : Op2 K := ⟨rI0 fun i j => .int (f i j), gI0 fun i j => .int (f i j), fun d e v u F H Q Q' a b s h k => by
  obtain ⟨i, j, rfl, rfl, q⟩ := gI0_inv h
  exact ⟨i, j, a.int_inv, b.int_inv, k _ _ F H (.refl s) (.int _) q⟩⟩
def oB0 (f : Int → Int → Bool) : Op2 K := ⟨rI0 fun i j => .bl (f i j), gI0 fun i j => .bl (f i j), fun d e v u F H Q Q' a b s h k => by
  obtain ⟨i, j, rfl, rfl, q⟩ := gI0_inv h
  exact ⟨i, j, a.int_inv, b.int_inv, k _ _ F H (.refl s) (.bl _) q⟩⟩
/-- + of ints or of texts -/
def gAdd : D → D → (D → Prop) → Prop
  | .int i, .int j, Q => Q (.int (i + j))
  | .str i, .str j, Q => i.length + j.length ≤ sizeLine ∧ Q (.str (i ++ j))
  | _, _, _ => False
theorem gAdd_inv : ∀ {d e : D} {Q : D → Prop}, gAdd d e Q → (∃ i j, d = .int i ∧ e = .int j ∧ Q (.int (i + j))) ∨ ∃ i j, d = .str i ∧ e = .str j ∧ i.length + j.length ≤ sizeLine ∧ Q (.str (i ++ j))
  | .int i, .int j, _, h => .inl ⟨i, j, rfl, rfl, h⟩
  | .str i, .str j, _, h => .inr ⟨i, j, rfl, rfl, h⟩
def rAddP : R2 := fun x y H Q => (∃ i j, x = .int i ∧ y = .int j ∧ Q (.int (i + j)) H) ∨ ∃ i j, x = .str i ∧ y = .str j ∧ i.length + j.length ≤ sizeLine ∧ Q (.str (i ++ j)) H
theorem op_addP {X : Cx} : OpR X (binaryOp .Add) rAddP := by
  intro pins s σ H x y v u Q I rx ry h
  rcases h with h | h
  · exact op_add pins s σ H x y v u Q I rx ry h
  · exact op_add_str pins s σ H x y v u Q I rx ry h
def oAdd : Op2 K := ⟨rAddP, gAdd, fun d e v u F H Q Q' a b s h k => by
  rcases gAdd_inv h with ⟨i, j, rfl, rfl, q⟩ | ⟨i, j, rfl, rfl, l, q⟩
  · exact .inl ⟨i, j, a.int_inv, b.int_inv, k _ _ F H (.refl s) (.int _) q⟩
  · exact .inr ⟨i, j, a.str_inv, b.str_inv, l, k _ _ F H (.refl s) (.str _) q⟩⟩

/-- == and != : the data compared -/
inductive DpA where | mk
def pyD : D → Option PyData
  | .non => some .none
  | .bl b => some (.bool b)
  | .int i => some (.int i)
  | .str s => some (.str s)
  | .tup ds => (pyL ds).map .tuple
  | .lst ds => (pyL ds).map .list
  | .ktp ds => (pyL ds).map .tuple
  | _ => none
where pyL : List D → Option (List PyData)
  | [] => some []
  | d :: ds => (pyD d).bind fun x => (pyL ds).map fun xs => x :: xs
mutual
theorem dp_of {F : Hp} : ∀ (d : D) (v : V) (p : PyData), Is K F v d → pyD d = some p → Dp K F v p
  | .non, v, p, h, e => by
    cases e
    rw [h.non_inv]
    exact .non
  | .bl b, v, p, h, e => by
    cases e
    rw [h.bl_inv]
    exact .bl b
  | .int b, v, p, h, e => by
    cases e
    rw [h.int_inv]
    exact .int b
  | .str b, v, p, h, e => by
    cases e
    rw [h.str_inv]
    exact .str b
  | .ref w, v, p, h, e => by cases e
  | .ins C fs, v, p, h, e => by cases e
  | .tup ds, v, p, h, e => by
    simp only [pyD, Option.map_eq_some_iff] at e
    obtain ⟨ps, e1, rfl⟩ := e
    obtain ⟨a, vs, rfl, s, l⟩ := h.tup_inv
    exact .tup s (dps_of ds vs ps l e1)
  | .ktp ds, v, p, h, e => by
    simp only [pyD, Option.map_eq_some_iff] at e
    obtain ⟨ps, e1, rfl⟩ := e
    obtain ⟨a, vs, rfl, s, l⟩ := h.ktp_inv
    exact .tup s (dps_of ds vs ps l e1)
  | .lst ds, v, p, h, e => by
    simp only [pyD, Option.map_eq_some_iff] at e
    obtain ⟨ps, e1, rfl⟩ := e
    obtain ⟨a, vs, rfl, s, l⟩ := h.lst_inv
    exact .lst s (dps_of ds vs ps l e1)
theorem dps_of {F : Hp} : ∀ (ds : List D) (vs : List V) (ps : List PyData), IsL K F vs ds → pyD.pyL ds = some ps → DpAll K F vs ps
  | [], vs, ps, l, e => by
    cases e
    rw [l.inv_nil]
    exact .nil
  | d :: ds, vs, ps, l, e => by
    simp only [pyD.pyL, Option.bind_eq_some_iff, Option.map_eq_some_iff] at e
    obtain ⟨x, e1, xs, e2, rfl⟩ := e
    obtain ⟨v, ws, rfl, h1, h2⟩ := l.inv_cons
    exact .cons (dp_of d v x h1 e1) (dps_of ds ws xs h2 e2)
end
mutual
theorem dp_mono {F H : Hp} (s : Same F H) : ∀ {v : V} {p : PyData}, Dp K F v p → Dp K H v p
  | _, _, .non => .non
  | _, _, .bl b => .bl b
  | _, _, .int i => .int i
  | _, _, .str x => .str x
  | _, _, .lst a b => .lst (s.seq a) (dps_mono s b)
  | _, _, .tup a b => .tup (same_t s a) (dps_mono s b)
theorem dps_mono {F H : Hp} (s : Same F H) : ∀ {vs : List V} {ps : List PyData}, DpAll K F vs ps → DpAll K H vs ps
  | _, _, .nil => .nil
  | _, _, .cons a b => .cons (dp_mono s a) (dps_mono s b)
end
/-- Python's == of two data (no instance in them) -/
inductive gEq (d e : D) (Q : D → Prop) : Prop where
  | mk (p q : PyData) (h1 : pyD d = some p) (h2 : pyD e = some q) (h3 : SeqAt.shaped p = true) (h4 : SeqAt.shaped q = true) (h5 : Q (.bl (PyData.eqv p q))) : gEq d e Q
inductive gNe (d e : D) (Q : D → Prop) : Prop where
  | mk (p q : PyData) (h1 : pyD d = some p) (h2 : pyD e = some q) (h3 : SeqAt.shaped p = true) (h4 : SeqAt.shaped q = true) (h5 : Q (.bl (!PyData.eqv p q))) : gNe d e Q
/-- scalars told at once -/
def gEqS : D → D → (D → Prop) → Prop
  | .int i, .int j, Q => Q (.bl (decide (i = j)))
  | .bl i, .bl j, Q => Q (.bl (decide (i = j)))
  | .str i, .str j, Q => Q (.bl (decide (i = j)))
  | d, e, Q => gEq d e Q
def gNeS : D → D → (D → Prop) → Prop
  | .int i, .int j, Q => Q (.bl (!decide (i = j)))
  | .bl i, .bl j, Q => Q (.bl (!decide (i = j)))
  | .str i, .str j, Q => Q (.bl (!decide (i = j)))
  | d, e, Q => gNe d e Q
def rEqP (K : PySem.W.Frag) : R2 := fun x y H Q => rEq x y H Q ∨ rEqD K x y H Q
def rNeP (K : PySem.W.Frag) : R2 := fun x y H Q => rNe x y H Q ∨ rNeD K x y H Q
theorem op_eqP {X : Cx} (hu : X.A.units + 64 < cLine) : OpR X (compareOp .Eq) (rEqP X.K) := by
  intro pins s σ H x y v u Q I rx ry h
  rcases h with h | h
  · exact op_eq pins s σ H x y v u Q I rx ry h
  · exact op_eqD hu pins s σ H x y v u Q I rx ry h
theorem op_neP {X : Cx} (hu : X.A.units + 64 < cLine) : OpR X (compareOp .NotEq) (rNeP X.K) := by
  intro pins s σ H x y v u Q I rx ry h
  rcases h with h | h
  · exact op_ne pins s σ H x y v u Q I rx ry h
  · exact op_neD hu pins s σ H x y v u Q I rx ry h
theorem gEq_ok {d e : D} {v u : V} {F H : Hp} {Q : D → Prop} {Q' : VK} (a : Is K F v d) (b : Is K F u e) (s : Same F H) (h : gEq d e Q) (k : ∀ d' v' F' H', Nx F H F' H' → Is K F' v' d' → Q d' → Q' v' H') : rEqP K v u H Q' := by
  obtain ⟨p, q, e1, e2, s1, s2, hq⟩ := h
  exact .inr ⟨p, q, dp_mono s (dp_of _ _ _ a e1), dp_mono s (dp_of _ _ _ b e2), s1, s2, k _ _ F H (.refl s) (.bl _) hq⟩
theorem gNe_ok {d e : D} {v u : V} {F H : Hp} {Q : D → Prop} {Q' : VK} (a : Is K F v d) (b : Is K F u e) (s : Same F H) (h : gNe d e Q) (k : ∀ d' v' F' H', Nx F H F' H' → Is K F' v' d' → Q d' → Q' v' H') : rNeP K v u H Q' := by
  obtain ⟨p, q, e1, e2, s1, s2, hq⟩ := h
  exact .inr ⟨p, q, dp_mono s (dp_of _ _ _ a e1), dp_mono s (dp_of _ _ _ b e2), s1, s2, k _ _ F H (.refl s) (.bl _) hq⟩
theorem vdec_int {i j : Int} : decide (V.int i = V.int j) = decide (i = j) := by simp
theorem vdec_bl {i j : Bool} : decide (V.bl i = V.bl j) = decide (i = j) := by simp
theorem vdec_str {i j : Str} : decide (V.str i = V.str j) = decide (i = j) := by simp
def oEq : Op2 K := ⟨rEqP K, gEqS, fun d e v u F H Q Q' a b s h k => by
  unfold gEqS at h
  split at h
  · rw [a.int_inv, b.int_inv]
    exact .inl ⟨rfl, by rw [vdec_int]; exact k _ _ F H (.refl s) (.bl _) h⟩
  · rw [a.bl_inv, b.bl_inv]
    exact .inl ⟨rfl, by rw [vdec_bl]; exact k _ _ F H (.refl s) (.bl _) h⟩
  · rw [a.str_inv, b.str_inv]
    exact .inl ⟨rfl, by rw [vdec_str]; exact k _ _ F H (.refl s) (.bl _) h⟩
  · exact gEq_ok a b s h k⟩
def oNe : Op2 K := ⟨rNeP K, gNeS, fun d e v u F H Q Q' a b s h k => by
  unfold gNeS at h
  split at h
  · rw [a.int_inv, b.int_inv]
    exact .inl ⟨rfl, by rw [vdec_int]; exact k _ _ F H (.refl s) (.bl _) h⟩
  · rw [a.bl_inv, b.bl_inv]
    exact .inl ⟨rfl, by rw [vdec_bl]; exact k _ _ F H (.refl s) (.bl _) h⟩
  · rw [a.str_inv, b.str_inv]
    exact .inl ⟨rfl, by rw [vdec_str]; exact k _ _ F H (.refl s) (.bl _) h⟩
  · exact gNe_ok a b s h k⟩

/-! ### arguments and displays -/
def aNil : AX K := ⟨tNil, fun _ Q => Q [], fun δ Q hw Z F0 F H σ ok Q' k => k [] [] F H (.refl ok.nx.s) trivial hw⟩
def aD (a : EX K) (r : AX K) : AX K := ⟨tCons a.t r.t, fun δ Q => a.w δ fun d => r.w δ fun as => Q (.dat d :: as), fun δ Q hw Z F0 F H σ ok Q' k => by
  refine a.ok δ _ hw Z F0 F H σ ok _ fun d v F1 H1 n1 i1 hw1 => ?_
  refine r.ok δ _ hw1 Z F0 F1 H1 σ (ok.next n1) _ fun as vs F2 H2 n2 i2 hq => ?_
  exact k (.dat d :: as) (v :: vs) F2 H2 (n1.trans n2) ⟨i1.mono n2.f, i2⟩ hq⟩
def aB (a : RX K) (r : AX K) : AX K := ⟨tCons a.t r.t, fun δ Q => a.w δ fun d => r.w δ fun as => Q (.bor d :: as), fun δ Q hw Z F0 F H σ ok Q' k => by
  refine a.ok δ _ hw Z F0 F H σ ok _ fun d p vs F1 H1 n1 s1 i1 hw1 => ?_
  refine r.ok δ _ hw1 Z F0 F1 H1 σ (ok.next n1) _ fun as us F2 H2 n2 i2 hq => ?_
  exact k (.bor d :: as) (.ref p :: us) F2 H2 (n1.trans n2) ⟨⟨p, _, rfl, n2.h.seq s1, i1.mono n2.f⟩, i2⟩ hq⟩
/-- all data -/
def dats : List Ar → Option (List D)
  | [] => some []
  | .dat d :: r => (dats r).map (d :: ·)
  | .bor _ :: _ => none
  | .lob _ :: _ => none
theorem dats_ok {F H : Hp} : ∀ {as : List Ar} {vs : List V} {ds : List D}, ArsOk K F H vs as → dats as = some ds → IsL K F vs ds
  | [], [], ds, _, e => by
    cases e
    exact .nil
  | .dat d :: r, v :: vs, ds, h, e => by
    simp only [dats, Option.map_eq_some_iff] at e
    obtain ⟨es, e1, rfl⟩ := e
    exact .cons h.1 (dats_ok h.2 e1)
  | .bor _ :: r, v :: vs, ds, h, e => by cases e
  | .lob _ :: r, v :: vs, ds, h, e => by cases e
def dsD (as : List Ar) (Q : List D → Prop) : Prop := match dats as with
  | some ds => ds.length ≤ 1000 ∧ Q ds
  | none => False
theorem dsD_inv {as : List Ar} {Q : List D → Prop} (h : dsD as Q) : ∃ ds, dats as = some ds ∧ ds.length ≤ 1000 ∧ Q ds := by
  unfold dsD at h
  cases e : dats as with
  | none => rw [e] at h; exact h.elim
  | some ds => rw [e] at h; exact ⟨ds, rfl, h.1, h.2⟩
theorem small {n : Nat} (h : n ≤ 1000) : n ≤ sizeLine := Nat.le_trans h (by decide)
def eTup (a : AX K) : EX K := ⟨tTup a.t, fun δ Q => a.w δ fun as => dsD as fun ds => Q (.tup ds), fun δ Q hw Z F0 F H σ ok Q' k => by
  refine a.ok δ _ hw Z F0 F H σ ok _ fun as vs F1 H1 n1 i1 hw1 => ?_
  obtain ⟨ds, e, hl, hq⟩ := dsD_inv hw1
  have l := dats_ok i1 e
  refine ⟨by rw [l.1]; exact small hl, fun p hp => ?_⟩
  have n2 : Nx F1 H1 _ _ := Nx.new (o := .tup vs) n1.s hp
  exact k _ _ _ _ (n1.trans n2) (is_tup upd_same (l.mono n2.f)) hq⟩
/-- a new list -/
def lDisp (a : AX K) : LX K := ⟨tLst a.t, fun δ Q => a.w δ fun as => dsD as Q, fun δ Q hw Z F0 F H σ ok Q' k => by
  refine a.ok δ _ hw Z F0 F H σ ok _ fun as vs F1 H1 n1 i1 hw1 => ?_
  obtain ⟨ds, e, hl, hq⟩ := dsD_inv hw1
  have l := dats_ok i1 e
  refine ⟨by rw [l.1]; exact small hl, fun p hp => ?_⟩
  have n2 : Nx F1 H1 _ _ := Nx.own (o := .lst vs) n1.s hp
  have h0 := n1.h.free hp
  exact k ds p vs _ _ (n1.trans n2) h0 upd_same (some_ne n1.s hp) l hq⟩
/-- a new list as a datum, a datum as a list to be read -/
def eL (a : LX K) : EX K := ⟨a.t, fun δ Q => a.w δ fun ds => Q (.lst ds), fun δ Q hw Z F0 F H σ ok Q' k => by
  refine a.ok δ _ hw Z F0 F H σ ok _ fun ds p vs F1 H1 n1 h0 hp hf l hq => ?_
  have n2 := n1.frz h0 hp hf
  exact k _ _ _ _ n2 (is_lst (.of upd_same) (l.mono (same_new hf))) hq⟩
def lstD : D → (List D → Prop) → Prop
  | .lst ds, Q => Q ds
  | _, _ => False
theorem lstD_inv : ∀ {d : D} {Q : List D → Prop}, lstD d Q → ∃ ds, d = .lst ds ∧ Q ds
  | .lst ds, _, h => ⟨ds, rfl, h⟩
def rE (a : EX K) : RX K := ⟨a.t, fun δ Q => a.w δ fun d => lstD d Q, fun δ Q hw Z F0 F H σ ok Q' k => by
  refine a.ok δ _ hw Z F0 F H σ ok _ fun d v F1 H1 n1 i1 hw1 => ?_
  obtain ⟨ds, rfl, hq⟩ := lstD_inv hw1
  obtain ⟨p, vs, rfl, s, l⟩ := i1.lst_inv
  exact k ds p vs F1 H1 n1 (n1.s.seq s) l hq⟩
def lisD : Ent → (List D → Prop) → Prop
  | .dat (.lst ds), Q => Q ds
  | .own ds, Q => Q ds
  | .bor ds, Q => Q ds
  | _, _ => False
/-- a name that holds a list, whoever owns it -/
def rVar (i : Nat) : RX K := ⟨tVar i, fun δ Q => lisD (nth δ i) Q, fun δ Q hw Z F0 F H σ ok Q' k => by
  have h := ok.at_ i
  cases e : nth δ i with
  | dat d =>
    rw [e] at h hw
    obtain ⟨v, a, b⟩ := h
    cases d with
    | lst ds =>
      obtain ⟨p, vs, rfl, s, l⟩ := b.lst_inv
      exact ⟨_, a, k ds p vs F H (.refl ok.nx.s) (ok.nx.s.seq s) l hw⟩
    | _ => exact hw.elim
  | no => rw [e] at hw; exact hw.elim
  | own ds =>
    rw [e] at h hw
    obtain ⟨p, vs, a, b, c, z, l⟩ := h
    exact ⟨_, a, k ds p vs F H (.refl ok.nx.s) (.of b) l hw⟩
  | bor ds =>
    rw [e] at h hw
    obtain ⟨p, vs, a, b, l⟩ := h
    exact ⟨_, a, k ds p vs F H (.refl ok.nx.s) (ok.nx.h.seq b) l hw⟩
  | obj p C fs => rw [e] at hw; exact hw.elim
  | big B fp => rw [e] at hw; exact hw.elim
  | lob L => rw [e] at hw; exact hw.elim⟩

/-! ### calls of built-ins -/
def rLenS (K : PySem.W.Frag) : List V → Hp → VK → Prop := fun xs H Q => ∃ p ys, xs = [.ref p] ∧ (SqL K H p ys ∨ SqT K H p ys) ∧ Q (.int ys.length) H
def rListS (K : PySem.W.Frag) : List V → Hp → VK → Prop := fun xs H Q => ∃ p ys, xs = [.ref p] ∧ (SqL K H p ys ∨ SqT K H p ys) ∧ ∀ l, H l = none → Q (.ref l) (upd H l (.lst ys))
/-- len(xs) -/
def eLen (a : RX K) : EX K := ⟨tCB (rLenS K) (tCons a.t tNil), fun δ Q => a.w δ fun ds => Q (.int (ds.length : Int)), fun δ Q hw Z F0 F H σ ok Q' k => by
  refine a.ok δ _ hw Z F0 F H σ ok _ fun ds p vs F1 H1 n1 s1 l hq => ?_
  refine ⟨p, vs, rfl, .inl s1, ?_⟩
  rw [l.1]
  exact k _ _ F1 H1 n1 (.int _) hq⟩
/-- list(xs) -/
def lList (a : RX K) : LX K := ⟨tCB (rListS K) (tCons a.t tNil), fun δ Q => a.w δ Q, fun δ Q hw Z F0 F H σ ok Q' k => by
  refine a.ok δ _ hw Z F0 F H σ ok _ fun ds p vs F1 H1 n1 s1 l hq => ?_
  refine ⟨p, vs, rfl, .inl s1, fun q hq' => ?_⟩
  have n2 : Nx F1 H1 _ _ := Nx.own (o := .lst vs) n1.s hq'
  exact k ds q vs _ _ (n1.trans n2) (n1.h.free hq') upd_same (some_ne n1.s hq') l hq⟩
/-- int(x) -/
def gInt : D → (D → Prop) → Prop
  | .int i, Q => Q (.int i)
  | .bl b, Q => Q (.int (if b then 1 else 0))
  | _, _ => False
def rInt1 : List V → Hp → VK → Prop := fun xs H Q => (∃ i, xs = [.int i] ∧ Q (.int i) H) ∨ ∃ k, xs = [.bl k] ∧ Q (.int (if k then 1 else 0)) H
def eInt (a : EX K) : EX K := ⟨tCB rInt1 (tCons a.t tNil), fun δ Q => a.w δ fun d => gInt d Q, fun δ Q hw Z F0 F H σ ok Q' k => by
  refine a.ok δ _ hw Z F0 F H σ ok _ fun d v F1 H1 n1 i1 hq => ?_
  cases d with
  | int i => exact .inl ⟨i, by rw [i1.int_inv], k _ _ F1 H1 n1 (.int _) hq⟩
  | bl b => exact .inr ⟨b, by rw [i1.bl_inv], k _ _ F1 H1 n1 (.int _) hq⟩
  | _ => exact hq.elim⟩
/-- a call of a built-in with two ints: max, min -/
def rII (g : Int → Int → Int) : List V → Hp → VK → Prop := fun xs H Q => ∃ i j, xs = [.int i, .int j] ∧ Q (.int (g i j)) H
def eII (g : Int → Int → Int) (a b : EX K) : EX K := ⟨tCB (rII g) (tCons a.t (tCons b.t tNil)), fun δ Q => a.w δ fun d => b.w δ fun e => gI0 (fun i j => .int (g i j)) d e Q, fun δ Q hw Z F0 F H σ ok Q' k => by
  refine a.ok δ _ hw Z F0 F H σ ok _ fun d v F1 H1 n1 i1 hw1 => ?_
  refine b.ok δ _ hw1 Z F0 F1 H1 σ (ok.next n1) _ fun e u F2 H2 n2 i2 hq => ?_
  obtain ⟨i, j, rfl, rfl, q⟩ := gI0_inv hq
  exact ⟨i, j, by rw [i1.int_inv, i2.int_inv], k _ _ F2 H2 (n1.trans n2) (.int _) q⟩⟩
/-- xs[i] of a list -/
def gIx (ds : List D) : D → (D → Prop) → Prop
  | .int i, Q => ∃ d, atI ds i = some d ∧ Q d
  | _, _ => False
theorem atI_is {F : Hp} {vs : List V} {ds : List D} {i : Int} {d : D} (l : IsL K F vs ds) (h : atI ds i = some d) : ∃ v, atI vs i = some v ∧ Is K F v d := by
  unfold atI at h ⊢
  rw [l.1]
  cases e : ixN ds.length i with
  | none => rw [e] at h; cases h
  | some j =>
    rw [e] at h
    exact l.get h
def eIxL (a : RX K) (b : EX K) : EX K := ⟨tOp (rIxL K) a.t b.t, fun δ Q => a.w δ fun ds => b.w δ fun e => gIx ds e Q, fun δ Q hw Z F0 F H σ ok Q' k => by
  refine a.ok δ _ hw Z F0 F H σ ok _ fun ds p vs F1 H1 n1 s1 l hw1 => ?_
  refine b.ok δ _ hw1 Z F0 F1 H1 σ (ok.next n1) _ fun e u F2 H2 n2 i2 hq => ?_
  cases e with
  | int i =>
    obtain ⟨d, ha, hq⟩ := hq
    obtain ⟨v, hv, hi⟩ := atI_is l ha
    exact ⟨p, vs, i, v, rfl, i2.int_inv, n2.h.seq s1, hv, k d v F2 H2 (n1.trans n2) (hi.mono n2.f) hq⟩
  | _ => exact hq.elim⟩
/-- t[i] of a tuple, s[i] of a text -/
def gIt : D → D → (D → Prop) → Prop
  | .tup ds, .int i, Q => ∃ d, atI ds i = some d ∧ Q d
  | .str z, .int i, Q => z.length ≤ sizeLine ∧ ∃ c, atI z.cps.toList i = some c ∧ Q (.str ⟨#[c]⟩)
  | .lst ds, .int i, Q => ∃ d, atI ds i = some d ∧ Q d
  | _, _, _ => False
def oIx : Op2 K := ⟨rIx K, gIt, fun d e v u F H Q Q' a b s h k => by
  unfold gIt at h
  split at h
  · obtain ⟨d, ha, hq⟩ := h
    obtain ⟨p, vs, rfl, st, l⟩ := a.tup_inv
    obtain ⟨x, hx, hi⟩ := atI_is l ha
    exact .inr (.inl ⟨p, vs, _, x, rfl, b.int_inv, same_t s st, hx, k d x F H (.refl s) hi hq⟩)
  · obtain ⟨hz, c, hc, hq⟩ := h
    rw [a.str_inv, b.int_inv]
    exact .inr (.inr ⟨_, _, c, rfl, rfl, hz, hc, k _ _ F H (.refl s) (.str _) hq⟩)
  · obtain ⟨d, ha, hq⟩ := h
    obtain ⟨p, vs, rfl, st, l⟩ := a.lst_inv
    obtain ⟨x, hx, hi⟩ := atI_is l ha
    exact .inl ⟨p, vs, _, x, rfl, b.int_inv, s.seq st, hx, k d x F H (.refl s) hi hq⟩
  · exact h.elim⟩
/-- isinstance(x, T) of a built-in class -/
def tyD (T : String) : D → Option Bool
  | .int _ => some (T == "int")
  | .bl _ => some (T == "bool" || T == "int")
  | .str _ => some (T == "str")
  | .non => some false
  | .lst _ => some (T == "list")
  | .tup _ => some (T == "tuple")
  | _ => none

/-! ### attributes -/
def fldD (f : Str) : D → (D → Prop) → Prop
  | .ins _ fs, Q => ∃ d, fs.lookup f = some d ∧ Q d
  | _, _ => False
theorem lookup_is {F : Hp} : ∀ {vs : List (Str × V)} {fs : List (Str × D)} {f : Str} {d : D}, vs.map (·.1) = fs.map (·.1) → (∀ (i : Nat) (p : Str × V) (q : Str × D), vs[i]? = some p → fs[i]? = some q → Is K F p.2 q.2) → fs.lookup f = some d → ∃ v, vs.lookup f = some v ∧ Is K F v d
  | [], [], f, d, _, _, e => by cases e
  | (a, x) :: vs, (b, y) :: fs, f, d, h, k, e => by
    simp only [List.map_cons, List.cons.injEq] at h
    obtain ⟨rfl, h⟩ := h
    rw [List.lookup_cons] at e ⊢
    cases hf : (f == a) with
    | true =>
      rw [hf] at e
      cases e
      exact ⟨x, rfl, k 0 (a, x) (a, y) rfl rfl⟩
    | false =>
      rw [hf] at e
      exact lookup_is h (fun i p q h1 h2 => k (i + 1) p q (by simpa using h1) (by simpa using h2)) e
/-- o.f of an instance of C -/
def eFld (C : Addr) (hc : Cls K C) (f : Str) (hn : NoAttr K C f) (a : EX K) : EX K := ⟨tFld K a.t f, fun δ Q => a.w δ fun d => match d with | .ins C' fs => C' = C ∧ ∃ d, fs.lookup f = some d ∧ Q d | _ => False, fun δ Q hw Z F0 F H σ ok Q' k => by
  refine a.ok δ _ hw Z F0 F H σ ok _ fun d v F1 H1 n1 i1 hw1 => ?_
  cases d with
  | ins C' fs =>
    obtain ⟨rfl, d, hd, hq⟩ := hw1
    cases i1 with
    | ins h1 h2 h3 =>
      obtain ⟨v, hv, hi⟩ := lookup_is h2 h3 hd
      exact ⟨_, _, _, _, v, rfl, n1.s _ _ h1, hc, hn, hv, k d v F1 H1 n1 hi hq⟩
  | _ => exact hw1.elim⟩

/-! ### tests -/
/-- a value that is a bool -/
def blD : D → (Bool → Prop) → Prop
  | .bl b, Q => Q b
  | _, _ => False
theorem blD_inv : ∀ {d : D} {Q : Bool → Prop}, blD d Q → ∃ b, d = .bl b ∧ Q b
  | .bl b, _, h => ⟨b, rfl, h⟩
def tVal (a : EX K) : TX K := ⟨tB a.t, fun δ Q => a.w δ fun d => blD d Q, fun δ Q hw Z F0 F H σ ok Q' k => by
  refine a.ok δ _ hw Z F0 F H σ ok _ fun d v F1 H1 n1 i1 hq => ?_
  obtain ⟨b, rfl, q⟩ := blD_inv hq
  exact ⟨b, i1.bl_inv, k b F1 H1 n1 q⟩⟩
def tAn (a b : TX K) : TX K := ⟨tAnd a.t b.t, fun δ Q => a.w δ fun c => (c = true → b.w δ Q) ∧ (c = false → Q false), fun δ Q hw Z F0 F H σ ok Q' k => by
  refine a.ok δ _ hw Z F0 F H σ ok _ fun c F1 H1 n1 hw1 => ?_
  cases c with
  | true => exact b.ok δ _ (hw1.1 rfl) Z F0 F1 H1 σ (ok.next n1) _ fun e F2 H2 n2 q => k e F2 H2 (n1.trans n2) q
  | false => exact k false F1 H1 n1 (hw1.2 rfl)⟩
def tOR (a b : TX K) : TX K := ⟨tOr a.t b.t, fun δ Q => a.w δ fun c => (c = true → Q true) ∧ (c = false → b.w δ Q), fun δ Q hw Z F0 F H σ ok Q' k => by
  refine a.ok δ _ hw Z F0 F H σ ok _ fun c F1 H1 n1 hw1 => ?_
  cases c with
  | true => exact k true F1 H1 n1 (hw1.1 rfl)
  | false => exact b.ok δ _ (hw1.2 rfl) Z F0 F1 H1 σ (ok.next n1) _ fun e F2 H2 n2 q => k e F2 H2 (n1.trans n2) q⟩
def tNo (a : TX K) : TX K := ⟨tNot a.t, fun δ Q => a.w δ fun c => Q (!c), fun δ Q hw Z F0 F H σ ok Q' k => by
  refine a.ok δ _ hw Z F0 F H σ ok _ fun c F1 H1 n1 hw1 => ?_
  exact k (!c) F1 H1 n1 hw1⟩
def tYs : TX K := ⟨tYes, fun _ Q => Q true, fun δ Q hw Z F0 F H σ ok Q' k => k true F H (.refl ok.nx.s) hw⟩
/-- a test, with a word about its answer -/
def tCt (a : TX K) : TX K := ⟨a.t, fun δ Q => ∃ P : Bool → Prop, a.w δ P ∧ ∀ c, P c → Q c, fun δ Q hw Z F0 F H σ ok Q' k => by
  obtain ⟨P, h1, h2⟩ := hw
  exact a.ok δ _ h1 Z F0 F H σ ok _ fun c F1 H1 n1 hp => k c F1 H1 n1 (h2 c hp)⟩
/-- a value, with a word about it -/
def eCt (a : EX K) : EX K := ⟨a.t, fun δ Q => ∃ P : D → Prop, a.w δ P ∧ ∀ c, P c → Q c, fun δ Q hw Z F0 F H σ ok Q' k => by
  obtain ⟨P, h1, h2⟩ := hw
  exact a.ok δ _ h1 Z F0 F H σ ok _ fun d v F1 H1 n1 i1 hp => k d v F1 H1 n1 i1 (h2 d hp)⟩
/-- and, or, not as values; a if t else b -/
def eAn (a b : EX K) : EX K := ⟨tAndV a.t b.t, fun δ Q => a.w δ fun d => blD d fun c => (c = true → b.w δ Q) ∧ (c = false → Q (.bl false)), fun δ Q hw Z F0 F H σ ok Q' k => by
  refine a.ok δ _ hw Z F0 F H σ ok _ fun d v F1 H1 n1 i1 hw1 => ?_
  obtain ⟨c, rfl, hw1⟩ := blD_inv hw1
  refine ⟨c, i1.bl_inv, ?_⟩
  cases c with
  | true => exact b.ok δ _ (hw1.1 rfl) Z F0 F1 H1 σ (ok.next n1) _ fun e u F2 H2 n2 i q => k e u F2 H2 (n1.trans n2) i q
  | false => exact k _ _ F1 H1 n1 (.bl false) (hw1.2 rfl)⟩
def eOR (a b : EX K) : EX K := ⟨tOrV a.t b.t, fun δ Q => a.w δ fun d => blD d fun c => (c = true → Q (.bl true)) ∧ (c = false → b.w δ Q), fun δ Q hw Z F0 F H σ ok Q' k => by
  refine a.ok δ _ hw Z F0 F H σ ok _ fun d v F1 H1 n1 i1 hw1 => ?_
  obtain ⟨c, rfl, hw1⟩ := blD_inv hw1
  refine ⟨c, i1.bl_inv, ?_⟩
  cases c with
  | true => exact k _ _ F1 H1 n1 (.bl true) (hw1.1 rfl)
  | false => exact b.ok δ _ (hw1.2 rfl) Z F0 F1 H1 σ (ok.next n1) _ fun e u F2 H2 n2 i q => k e u F2 H2 (n1.trans n2) i q⟩
def eNo (a : EX K) : EX K := ⟨tNotV a.t, fun δ Q => a.w δ fun d => blD d fun c => Q (.bl (!c)), fun δ Q hw Z F0 F H σ ok Q' k => by
  refine a.ok δ _ hw Z F0 F H σ ok _ fun d v F1 H1 n1 i1 hw1 => ?_
  obtain ⟨c, rfl, hw1⟩ := blD_inv hw1
  exact ⟨c, i1.bl_inv, k _ _ F1 H1 n1 (.bl _) hw1⟩⟩
def eIf (t : TX K) (a b : EX K) : EX K := ⟨tIf t.t a.t b.t, fun δ Q => t.w δ fun c => (c = true → a.w δ Q) ∧ (c = false → b.w δ Q), fun δ Q hw Z F0 F H σ ok Q' k => by
  refine t.ok δ _ hw Z F0 F H σ ok _ fun c F1 H1 n1 hw1 => ?_
  cases c with
  | true => exact a.ok δ _ (hw1.1 rfl) Z F0 F1 H1 σ (ok.next n1) _ fun e u F2 H2 n2 i q => k e u F2 H2 (n1.trans n2) i q
  | false => exact b.ok δ _ (hw1.2 rfl) Z F0 F1 H1 σ (ok.next n1) _ fun e u F2 H2 n2 i q => k e u F2 H2 (n1.trans n2) i q⟩
end
end PL
namespace PL
open PySem L2
section
variable {K : PySem.W.Frag}

/-! ### calls of own defs -/
/-- what a def promises over data -/
abbrev FSp := List Ar → (D → Prop) → Prop
def spOf (K : PySem.W.Frag) (R : FSp) : Sp := fun vs H Q _ => ∃ (F : Hp) (as : List Ar) (P : D → Prop), Same F H ∧ ArsOk K F H vs as ∧ R as P ∧ ∀ d v F' H', P d → Nx F H F' H' → Is K F' v d → Q v H'
def eCall (R : FSp) (a : AX K) : EX K := ⟨tCall (spOf K R) [] E0 a.t, fun δ Q => a.w δ fun as => R as Q, fun δ Q hw Z F0 F H σ ok Q' k => by
  refine a.ok δ _ hw Z F0 F H σ ok _ fun as vs F1 H1 n1 i1 hw1 => ?_
  show spOf K R (vs ++ []) H1 Q' E0
  rw [List.append_nil]
  exact ⟨F1, as, Q, n1.s, i1, hw1, fun d v F' H' q n i => k d v F' H' (n1.trans n) i q⟩⟩
/-- a property of an instance -/
def eProp (C : Addr) (R : FSp) (a : EX K) : EX K := ⟨tProp C (spOf K R) [] E0 a.t, fun δ Q => a.w δ fun d => (∃ fs, d = .ins C fs) ∧ R [.dat d] Q, fun δ Q hw Z F0 F H σ ok Q' k => by
  refine a.ok δ _ hw Z F0 F H σ ok _ fun d v F1 H1 n1 i1 hw1 => ?_
  obtain ⟨⟨fs, rfl⟩, hr⟩ := hw1
  have i2 := i1
  cases i1 with
  | ins h1 h2 h3 => exact ⟨_, _, _, rfl, n1.s _ _ h1, F1, [.dat (.ins C fs)], Q, n1.s, ⟨i2, trivial⟩, hr, fun d v F' H' q n i => k d v F' H' (n1.trans n) i q⟩⟩
/-- a method of an instance that is only read -/
def eMeth (C : Addr) (m : Str) (R : FSp) (o : EX K) (a : AX K) : EX K := ⟨tMeth C m (spOf K R) [] E0 o.t a.t, fun δ Q => o.w δ fun d => (∃ fs, d = .ins C fs ∧ fs.lookup m = none) ∧ a.w δ fun as => R (.dat d :: as) Q, fun δ Q hw Z F0 F H σ ok Q' k => by
  refine o.ok δ _ hw Z F0 F H σ ok _ fun d v F1 H1 n1 i1 hw1 => ?_
  obtain ⟨⟨fs, rfl, hm⟩, hw2⟩ := hw1
  have i2 := i1
  cases i1 with
  | @ins a0 C0 dx vs fs0 h1 h2 h3 =>
    refine ⟨a0, dx, vs, rfl, n1.s _ _ h1, ?_, ?_⟩
    · have : ∀ {vs : List (Str × V)} {fs : List (Str × D)}, vs.map (·.1) = fs.map (·.1) → fs.lookup m = none → vs.lookup m = none := by
        intro vs
        induction vs with
        | nil => intro fs _ _; rfl
        | cons p r ih =>
          intro fs e1 e2
          cases fs with
          | nil => simp at e1
          | cons q t =>
            simp only [List.map_cons, List.cons.injEq] at e1
            rw [List.lookup_cons] at e2 ⊢
            rw [e1.1]
            cases hf : (m == q.1) with
            | true => rw [hf] at e2; cases e2
            | false =>
              rw [hf] at e2
              exact ih e1.2 e2
      exact this h2 hm
    · refine a.ok δ _ hw2 Z F0 F1 H1 σ (ok.next n1) _ fun as us F2 H2 n2 i3 hr => ?_
      show spOf K R (.ref a0 :: (us ++ [])) H2 Q' E0
      rw [List.append_nil]
      exact ⟨F2, .dat (.ins C fs) :: as, Q, n2.s, ⟨i2.mono n2.f, i3⟩, hr, fun d v F' H' q n i => k d v F' H' ((n1.trans n2).trans n) i q⟩⟩

/-! ### targets -/
structure GX (K : PySem.W.Frag) where
  t : TG
  own : List Nat
  w : D → List Ent → (List Ent → Prop) → Prop
  ok : ∀ (d : D) (δ : List Ent) (Q : List Ent → Prop), w d δ Q → ∀ (Z F0 F H : Hp) (σ : St) (v : V), Ok K Z F0 F H σ δ → Is K F v d → ∀ Q' : St → Hp → Prop,
    (∀ δ' F' H' σ', Ok K Z F0 F' H' σ' δ' → Nx F H F' H' → ((∀ j : Nat, j ∉ own → σ'[j]? = σ[j]?) ∧ ∀ (j : Nat) (q : Addr), (nth δ' j).has σ'[j]? q → (nth δ j).has σ[j]? q) → σ'.length = σ.length → Q δ' → Q' σ' H') → t v σ H Q'
theorem setD_has {i j : Nat} {d : D} {q : Addr} {σ : L2.St} {v : Option V} {δ : List Ent} (h : (nth (put δ i (.dat d)) j).has (σ.set i v)[j]? q) : (nth δ j).has σ[j]? q := by
  rw [nth_put] at h
  by_cases e : i = j
  · rw [if_pos e] at h
    split at h <;> exact h.elim
  · rw [if_neg e, List.getElem?_set_ne e] at h
    exact h
def gNm (i : Nat) : GX K := ⟨gName i, [i], fun d δ Q => Q (put δ i (.dat d)), fun d δ Q hw Z F0 F H σ v ok h Q' k =>
  k _ F H _ (ok.setD h) (.refl ok.nx.s) ⟨fun j hj => List.getElem?_set_ne (fun e => hj (by simp [e])), fun j q hq => setD_has hq⟩ (by simp) hw⟩
structure GsX (K : PySem.W.Frag) where
  t : TGs
  own : List Nat
  w : List D → List Ent → (List Ent → Prop) → Prop
  ok : ∀ (ds : List D) (δ : List Ent) (Q : List Ent → Prop), w ds δ Q → ∀ (Z F0 F H : Hp) (σ : St) (vs : List V), Ok K Z F0 F H σ δ → IsL K F vs ds → ∀ Q' : St → Hp → Prop,
    (∀ δ' F' H' σ', Ok K Z F0 F' H' σ' δ' → Nx F H F' H' → ((∀ j : Nat, j ∉ own → σ'[j]? = σ[j]?) ∧ ∀ (j : Nat) (q : Addr), (nth δ' j).has σ'[j]? q → (nth δ j).has σ[j]? q) → σ'.length = σ.length → Q δ' → Q' σ' H') → t vs σ H Q'
def gsNil : GsX K := ⟨gNil, [], fun ds δ Q => match ds with | [] => Q δ | _ => False, fun ds δ Q hw Z F0 F H σ vs ok h Q' k => by
  cases ds with
  | nil => exact ⟨h.inv_nil, k δ F H σ ok (.refl ok.nx.s) ⟨fun _ _ => rfl, fun _ _ h => h⟩ rfl hw⟩
  | cons d r => exact hw.elim⟩
def gsCons (g : GX K) (u : GsX K) : GsX K := ⟨gCons g.t u.t, g.own ++ u.own, fun ds δ Q => match ds with | d :: r => g.w d δ fun δ' => u.w r δ' Q | _ => False, fun ds δ Q hw Z F0 F H σ vs ok h Q' k => by
  cases ds with
  | nil => exact hw.elim
  | cons d r =>
    obtain ⟨v, ws, rfl, h1, h2⟩ := h.inv_cons
    refine ⟨v, ws, rfl, ?_⟩
    refine g.ok d δ _ hw Z F0 F H σ v ok h1 _ fun δ1 F1 H1 σ1 ok1 n1 a1 l1 hw1 => ?_
    refine u.ok r δ1 _ hw1 Z F0 F1 H1 σ1 ws ok1 (h2.mono n1.f) _ fun δ2 F2 H2 σ2 ok2 n2 a2 l2 hq => ?_
    exact k δ2 F2 H2 σ2 ok2 (n1.trans n2) ⟨fun j hj => by
      rw [a2.1 j (fun z => hj (List.mem_append_right _ z)), a1.1 j (fun z => hj (List.mem_append_left _ z))], fun j q h => a1.2 j q (a2.2 j q h)⟩ (l2.trans l1) hq⟩
/-- (a, b): the datum a tuple of n -/
def gTp (n : Nat) (u : GsX K) : GX K := ⟨gTup K n u.t, u.own, fun d δ Q => match d with | .tup ds => ds.length = n ∧ u.w ds δ Q | .ktp ds => ds.length = n ∧ u.w ds δ Q | _ => False, fun d δ Q hw Z F0 F H σ v ok h Q' k => by
  cases d with
  | tup ds =>
    obtain ⟨hn, hw⟩ := hw
    obtain ⟨a, vs, rfl, s, l⟩ := h.tup_inv
    exact ⟨a, vs, rfl, same_t ok.nx.s s, l.1.trans hn, u.ok ds δ Q hw Z F0 F H σ vs ok l Q' k⟩
  | ktp ds =>
    obtain ⟨hn, hw⟩ := hw
    obtain ⟨a, vs, rfl, s, l⟩ := h.ktp_inv
    exact ⟨a, vs, rfl, same_t ok.nx.s s, l.1.trans hn, u.ok ds δ Q hw Z F0 F H σ vs ok l Q' k⟩
  | _ => exact hw.elim⟩

/-! ### what is walked -/
/-- J yields the n items at, whatever else happens: b: only while nothing of the heap changes -/
def Walk (K : PySem.W.Frag) (b : Bool) (Z F H : Hp) (J : It) (n : Nat) (at_ : Nat → D → Prop) : Prop := ∀ (i : Nat) (F1 H1 : Hp), Same F F1 → Same F1 H1 → Same Z H1 → (b = true → Same H H1) →
  (i < n → J.go i H1 ∧ ∀ x H2, J.yld i H1 x H2 → ∃ d F2, Nx F1 H1 F2 H2 ∧ Is K F2 x d ∧ at_ i d) ∧ (i = n → J.stop i H1)
structure IX (K : PySem.W.Frag) where
  b : Bool
  t : TI
  w : List Ent → (Nat → (Nat → D → Prop) → Prop) → Prop
  ok : ∀ δ Q, w δ Q → ∀ (Z F0 F H : Hp) (σ : St), Ok K Z F0 F H σ δ → ∀ R : It → Hp → Prop, (∀ n at_ J F' H', Nx F H F' H' → Walk K b Z F' H' J n at_ → n ≤ 4000000 → Q n at_ → R J H') → t σ H R
theorem walk_list {b : Bool} {Z F H B : Hp} {a : Addr} {vs : List V} {ds : List D} (l : IsL K F vs ds) (hs : ∀ F1 H1, Same F F1 → Same F1 H1 → Same Z H1 → (b = true → Same H H1) → SqL K H1 a vs) : Walk K b Z F H (Itl K a) ds.length (fun i d => ds[i]? = some d) := by
  intro i F1 H1 s1 s2 s3 s4
  have hq := hs F1 H1 s1 s2 s3 s4
  refine ⟨fun hi => ⟨⟨vs, vs[i]'(by rw [l.1]; exact hi), hq, List.getElem?_eq_getElem _⟩, fun x H2 y => ?_⟩, fun hi => ⟨vs, hq, by rw [l.1, hi]; exact Nat.le_refl _⟩⟩
  obtain ⟨rfl, y⟩ := y
  have hx := y vs hq
  have hd : ds[i]? = some (ds[i]'hi) := List.getElem?_eq_getElem _
  exact ⟨_, F1, .refl s2, (l.2 i _ _ hx hd).mono s1, hd⟩
def big (n : Nat) : Prop := n ≤ 4000000
/-- a list that is a datum -/
def iE (a : EX K) : IX K := ⟨false, iList K a.t, fun δ Q => a.w δ fun d => lstD d fun ds => ds.length ≤ 4000000 ∧ Q ds.length fun i d => ds[i]? = some d, fun δ Q hw Z F0 F H σ ok R k => by
  refine a.ok δ _ hw Z F0 F H σ ok _ fun d v F1 H1 n1 i1 hw1 => ?_
  obtain ⟨ds, rfl, hb, hq⟩ := lstD_inv hw1
  obtain ⟨p, vs, rfl, s, l⟩ := i1.lst_inv
  exact ⟨p, rfl, ⟨vs, n1.s.seq s⟩, k _ _ _ F1 H1 n1 (walk_list (B := H1) l fun F2 H2 a b _ _ => b.seq (a.seq s)) hb hq⟩⟩
/-- any list, nothing of the heap being changed meanwhile -/
def iR (a : RX K) : IX K := ⟨true, iList K a.t, fun δ Q => a.w δ fun ds => ds.length ≤ 4000000 ∧ Q ds.length fun i d => ds[i]? = some d, fun δ Q hw Z F0 F H σ ok R k => by
  refine a.ok δ _ hw Z F0 F H σ ok _ fun ds p vs F1 H1 n1 s l hq => ?_
  exact ⟨p, rfl, ⟨vs, s⟩, k _ _ _ F1 H1 n1 (walk_list (B := H1) l fun F2 H2 _ _ _ b => (b rfl).seq s) hq.1 hq.2⟩⟩
/-- a list that is lent -/
def borD : Ent → (List D → Prop) → Prop
  | .bor ds, Q => Q ds
  | _, _ => False
def iBor (i : Nat) : IX K := ⟨false, iList K (tVar i), fun δ Q => borD (nth δ i) fun ds => ds.length ≤ 4000000 ∧ Q ds.length fun i d => ds[i]? = some d, fun δ Q hw Z F0 F H σ ok R k => by
  have h := ok.at_ i
  cases e : nth δ i with
  | bor ds =>
    rw [e] at h hw
    obtain ⟨p, vs, a, b, l⟩ := h
    exact ⟨_, a, p, rfl, ⟨vs, ok.nx.h.seq b⟩, k _ _ _ F H (.refl ok.nx.s) (walk_list (B := H) l fun F2 H2 _ _ z _ => z.seq b) hw.1 hw.2⟩
  | _ => rw [e] at hw; exact hw.elim⟩
theorem walk_range {b : Bool} {Z F H : Hp} {lo : Int} {n : Nat} : Walk K b Z F H (Itr lo n) n (fun i d => d = .int (lo + (i : Int))) := by
  intro i F1 H1 s1 s2 s3 s4
  refine ⟨fun hi => ⟨hi, fun x H2 y => ?_⟩, fun hi => by rw [hi]; exact Nat.le_refl _⟩
  obtain ⟨rfl, rfl⟩ := y
  exact ⟨_, F1, .refl s2, .int _, rfl⟩
def intD : D → (Int → Prop) → Prop
  | .int i, Q => Q i
  | _, _ => False
theorem intD_inv : ∀ {d : D} {Q : Int → Prop}, intD d Q → ∃ i, d = .int i ∧ Q i
  | .int i, _, h => ⟨i, rfl, h⟩
def iRg1 (a : EX K) : IX K := ⟨false, iRng1 (tCons a.t tNil), fun δ Q => a.w δ fun d => intD d fun n => (-4000000 ≤ n ∧ n ≤ 4000000) ∧ Q n.toNat fun i d => d = .int (0 + (i : Int)), fun δ Q hw Z F0 F H σ ok R k => by
  refine a.ok δ _ hw Z F0 F H σ ok _ fun d v F1 H1 n1 i1 hw1 => ?_
  obtain ⟨n, rfl, hb, hq⟩ := intD_inv hw1
  exact ⟨n, by rw [i1.int_inv], by omega, by omega, k _ _ _ F1 H1 n1 walk_range (by omega) hq⟩⟩
def iRg2 (a b : EX K) : IX K := ⟨false, iRng2 (tCons a.t (tCons b.t tNil)), fun δ Q => a.w δ fun d => b.w δ fun e => intD d fun lo => intD e fun hi => (-2000000 ≤ lo ∧ lo ≤ 2000000 ∧ -2000000 ≤ hi ∧ hi ≤ 2000000) ∧ Q (hi - lo).toNat fun i d => d = .int (lo + (i : Int)), fun δ Q hw Z F0 F H σ ok R k => by
  refine a.ok δ _ hw Z F0 F H σ ok _ fun d v F1 H1 n1 i1 hw1 => ?_
  refine b.ok δ _ hw1 Z F0 F1 H1 σ (ok.next n1) _ fun e u F2 H2 n2 i2 hw2 => ?_
  obtain ⟨lo, rfl, hw3⟩ := intD_inv hw2
  obtain ⟨hi, rfl, hb, hq⟩ := intD_inv hw3
  exact ⟨lo, hi, by rw [i1.int_inv, i2.int_inv], ⟨by omega, by omega, by omega, by omega⟩, k _ _ _ F2 H2 (n1.trans n2) walk_range (by omega) hq⟩⟩
theorem walk_zip {c : Bool} {Z F H : Hp} {a b : Addr} {vs us : List V} {ds es : List D} (l : IsL K F vs ds) (m : IsL K F us es) (hs : ∀ F1 H1, Same F F1 → Same F1 H1 → Same Z H1 → (c = true → Same H H1) → SqL K H1 a vs ∧ SqL K H1 b us) :
    Walk K c Z F H (Itz K a b) (min ds.length es.length) (fun i d => ∃ x y, d = .tup [x, y] ∧ ds[i]? = some x ∧ es[i]? = some y) := by
  intro i F1 H1 s1 s2 s3 s4
  obtain ⟨h1, h2⟩ := hs F1 H1 s1 s2 s3 s4
  have l1 := l.1
  have m1 := m.1
  refine ⟨fun hi => ⟨⟨vs, us, vs[i]'(by omega), us[i]'(by omega), h1, h2, List.getElem?_eq_getElem _, List.getElem?_eq_getElem _⟩, fun x H2 y => ?_⟩, fun hi => ⟨vs, us, h1, h2, by omega⟩⟩
  obtain ⟨T, p, q, rfl, hT, rfl, y1, y2⟩ := y
  have hp := y1 vs h1
  have hq := y2 us h2
  have hd : ds[i]? = some (ds[i]'(by omega)) := List.getElem?_eq_getElem _
  have he : es[i]? = some (es[i]'(by omega)) := List.getElem?_eq_getElem _
  have n2 : Nx F1 H1 _ _ := Nx.new (o := .tup [p, q]) s2 hT
  exact ⟨_, _, n2, is_tup upd_same (.cons ((l.2 i _ _ hp hd).mono (s1.trans n2.f)) (.cons ((m.2 i _ _ hq he).mono (s1.trans n2.f)) .nil)), _, _, rfl, hd, he⟩
/-- zip of two lists: data; any, while nothing changes -/
def iZp (a b : EX K) : IX K := ⟨false, iZip K (tCons a.t (tCons b.t tNil)), fun δ Q => a.w δ fun d => b.w δ fun e => lstD d fun ds => lstD e fun es => min ds.length es.length ≤ 4000000 ∧ Q (min ds.length es.length) fun i d => ∃ x y, d = .tup [x, y] ∧ ds[i]? = some x ∧ es[i]? = some y, fun δ Q hw Z F0 F H σ ok R k => by
  refine a.ok δ _ hw Z F0 F H σ ok _ fun d v F1 H1 n1 i1 hw1 => ?_
  refine b.ok δ _ hw1 Z F0 F1 H1 σ (ok.next n1) _ fun e u F2 H2 n2 i2 hw2 => ?_
  obtain ⟨ds, rfl, hw3⟩ := lstD_inv hw2
  obtain ⟨es, rfl, hb, hq⟩ := lstD_inv hw3
  obtain ⟨p, vs, rfl, s, l⟩ := (i1.mono n2.f).lst_inv
  obtain ⟨q, us, rfl, t, m⟩ := i2.lst_inv
  exact ⟨p, q, vs, us, rfl, n2.s.seq s, n2.s.seq t, k _ _ _ F2 H2 (n1.trans n2) (walk_zip l m fun F3 H3 x y _ _ => ⟨y.seq (x.seq s), y.seq (x.seq t)⟩) hb hq⟩⟩
def iZpR (a b : RX K) : IX K := ⟨true, iZip K (tCons a.t (tCons b.t tNil)), fun δ Q => a.w δ fun ds => b.w δ fun es => min ds.length es.length ≤ 4000000 ∧ Q (min ds.length es.length) fun i d => ∃ x y, d = .tup [x, y] ∧ ds[i]? = some x ∧ es[i]? = some y, fun δ Q hw Z F0 F H σ ok R k => by
  refine a.ok δ _ hw Z F0 F H σ ok _ fun ds p vs F1 H1 n1 s l hw1 => ?_
  refine b.ok δ _ hw1 Z F0 F1 H1 σ (ok.next n1) _ fun es q us F2 H2 n2 t m hq => ?_
  exact ⟨p, q, vs, us, rfl, n2.h.seq s, t, k _ _ _ F2 H2 (n1.trans n2) (walk_zip (l.mono n2.f) m fun F3 H3 _ _ _ z => ⟨(z rfl).seq (n2.h.seq s), (z rfl).seq t⟩) hq.1 hq.2⟩⟩
theorem walk_enum {c : Bool} {Z F H : Hp} {a : Addr} {vs : List V} {ds : List D} (l : IsL K F vs ds) (hs : ∀ F1 H1, Same F F1 → Same F1 H1 → Same Z H1 → (c = true → Same H H1) → SqL K H1 a vs) :
    Walk K c Z F H (Ite K a) ds.length (fun i d => ∃ x, d = .tup [.int (i : Nat), x] ∧ ds[i]? = some x) := by
  intro i F1 H1 s1 s2 s3 s4
  have h1 := hs F1 H1 s1 s2 s3 s4
  have l1 := l.1
  refine ⟨fun hi => ⟨⟨vs, vs[i]'(by omega), h1, List.getElem?_eq_getElem _⟩, fun x H2 y => ?_⟩, fun hi => ⟨vs, h1, by omega⟩⟩
  obtain ⟨T, p, rfl, hT, rfl, y1⟩ := y
  have hp := y1 vs h1
  have hd : ds[i]? = some (ds[i]'(by omega)) := List.getElem?_eq_getElem _
  have n2 : Nx F1 H1 _ _ := Nx.new (o := .tup [.int (i : Nat), p]) s2 hT
  exact ⟨_, _, n2, is_tup upd_same (.cons (.int _) (.cons ((l.2 i _ _ hp hd).mono (s1.trans n2.f)) .nil)), _, rfl, hd⟩
def iEn (a : EX K) : IX K := ⟨false, iEnum K (tCons a.t tNil), fun δ Q => a.w δ fun d => lstD d fun ds => ds.length ≤ 4000000 ∧ Q ds.length fun i d => ∃ x, d = .tup [.int (i : Nat), x] ∧ ds[i]? = some x, fun δ Q hw Z F0 F H σ ok R k => by
  refine a.ok δ _ hw Z F0 F H σ ok _ fun d v F1 H1 n1 i1 hw1 => ?_
  obtain ⟨ds, rfl, hb, hq⟩ := lstD_inv hw1
  obtain ⟨p, vs, rfl, s, l⟩ := i1.lst_inv
  exact ⟨p, vs, rfl, n1.s.seq s, k _ _ _ F1 H1 n1 (walk_enum l fun F2 H2 a b _ _ => b.seq (a.seq s)) hb hq⟩⟩

/-! ### comprehensions -/
def wipeE : List Ent → List Nat → List Ent
  | δ, [] => δ
  | δ, v :: vs => put (wipeE δ vs) v .no
theorem Ok.wipe {Z F0 F H : Hp} {σ : St} {δ : List Ent} (ok : Ok K Z F0 F H σ δ) : ∀ vs : List Nat, Ok K Z F0 F H (L2.wipe σ vs) (wipeE δ vs)
  | [] => ok
  | v :: vs => by
    have h := Ok.wipe ok vs
    exact h.chgE (σ' := (L2.wipe σ vs).set v none) h.nx (by rw [List.length_set]) (fun j hj => List.getElem?_set_ne (Ne.symm hj)) (fun _ => trivial) (fun j _ => h.at_ j) (fun _ _ _ _ _ z => z)
theorem wipe_get (σ : St) : ∀ (vs : List Nat) (j : Nat), (L2.wipe σ vs)[j]? = if j ∈ vs then (if j < σ.length then some none else none) else σ[j]?
  | [], j => by simp [L2.wipe]
  | v :: vs, j => by
    show ((L2.wipe σ vs).set v none)[j]? = _
    by_cases e : v = j
    · subst e
      by_cases hl : v < σ.length
      · rw [List.getElem?_set_self (by rw [wipe_length]; exact hl)]
        simp [hl]
      · rw [List.getElem?_eq_none (by rw [List.length_set, wipe_length]; omega)]
        simp [hl]
    · rw [List.getElem?_set_ne e, wipe_get σ vs j]
      have : j ≠ v := fun z => e z.symm
      simp [this]
theorem wipe_back {σ σ2 : St} {vs own : List Nat} (hs : ∀ j ∈ own, j ∈ vs) (h : ∀ j : Nat, j ∉ own → σ2[j]? = (L2.wipe σ vs)[j]?) (hl : σ2.length = (L2.wipe σ vs).length) : L2.wipe σ2 vs = L2.wipe σ vs := by
  rw [wipe_length] at hl
  refine List.ext_getElem? fun j => ?_
  rw [wipe_get, wipe_get, hl]
  by_cases hj : j ∈ vs
  · rw [if_pos hj, if_pos hj]
  · rw [if_neg hj, if_neg hj, h j (fun z => hj (hs j z)), wipe_get, if_neg hj]
/-- [e for g in it if tt]: f i: what turn i gives -/
def lComp (it : IX K) (g : GX K) (tt : TX K) (e : EX K) (vs : List Nat) : LX K := ⟨tLc it.t g.t tt.t e.t vs,
  fun δ Q => (g.own.all fun j => vs.contains j) = true ∧ it.w δ fun n at_ => ∃ f : Nat → List D, (∀ (i : Nat) (d : D), i < n → at_ i d → g.w d (wipeE δ vs) fun δ2 => tt.w δ2 fun b => (b = true → e.w δ2 fun d' => f i = [d']) ∧ (b = false → f i = [])) ∧ Q ((List.range n).flatMap f), fun δ Q hw Z F0 F H σ ok Q' k => by
  obtain ⟨hs, hw⟩ := hw
  have hs : ∀ j ∈ g.own, j ∈ vs := fun j hj => by simpa using List.all_eq_true.mp hs j hj
  refine it.ok δ _ hw Z F0 F H σ ok _ fun n at_ J F1 H1 n1 wk hn hw1 => ?_
  obtain ⟨f, hf, hq⟩ := hw1
  intro Dl hD
  have h0 := n1.h.free hD
  let W : Nat → Hp → Prop := fun i H' => i ≤ n ∧ ∃ F' ws, Nx F1 H1 F' H' ∧ H' Dl = some (.lst ws) ∧ F' Dl = none ∧ IsL K F' ws ((List.range i).flatMap f) ∧ ws.length ≤ i
  refine ⟨fun i m H' => m = n - i ∧ W i H', ⟨n, rfl, Nat.zero_le _, F1, [], .own n1.s hD, upd_same, some_ne n1.s hD, .nil, Nat.le_refl _⟩, ?_⟩
  rintro i m H' ⟨rfl, hi, F', ws, n2, hDl, hFD, l, hlen⟩
  have wk1 := wk i F' H' n2.f n2.s ((ok.next n1).nx.h.trans n2.h) fun _ => n2.h
  by_cases hlt : i < n
  · right
    obtain ⟨go, yl⟩ := wk1.1 hlt
    refine ⟨go, W (i + 1), fun H'' w => ⟨n - (i + 1), by omega, rfl, w⟩, fun x H2 y => ?_⟩
    obtain ⟨d, F2, n3, hd, hat⟩ := yl x H2 y
    have ok2 := (((ok.next n1).next n2).next n3).wipe vs
    refine g.ok d _ _ (hf i d hlt hat) Z F0 F2 H2 _ x ok2 hd _ fun δ2 F3 H3 σ2 ok3 n4 ha hl hw2 => ?_
    refine ⟨wipe_back hs ha.1 hl, ?_⟩
    refine tt.ok δ2 _ hw2 Z F0 F3 H3 σ2 ok3 _ fun b F4 H4 n5 hw3 => ?_
    have nA := (n3.trans n4).trans n5
    have hDn : H' Dl ≠ none := by rw [hDl]; simp
    cases b with
    | true =>
      show e.t σ2 H4 _
      refine e.ok δ2 _ (hw3.1 rfl) Z F0 F4 H4 σ2 (ok3.next n5) _ fun d' y F5 H5 n6 i6 hfi => ?_
      have nB := nA.trans n6
      have hF5 := nB.g Dl hDn hFD
      refine ⟨ws, nB.h _ _ hDl, Nat.lt_of_le_of_lt (Nat.le_trans hlen hi) (Nat.lt_of_le_of_lt hn (by decide)), by omega, F5, ws ++ [y], ⟨(n2.trans nB).f, same_mut (n2.trans nB).h hD, (n2.trans nB).g, same_mut nB.s hF5⟩, upd_same, hF5, ?_, by simp; omega⟩
      rw [List.range_succ, List.flatMap_append]
      refine (l.mono nB.f).app ?_
      rw [show List.flatMap f [i] = f i by simp, hfi]
      exact .cons i6 .nil
    | false =>
      show W (i + 1) H4
      refine ⟨by omega, F4, ws, n2.trans nA, nA.h _ _ hDl, nA.g Dl hDn hFD, ?_, by omega⟩
      rw [List.range_succ, List.flatMap_append, show List.flatMap f [i] = f i by simp, hw3.2 rfl, List.append_nil]
      exact l.mono nA.f
  · left
    have e1 : i = n := by omega
    subst e1
    exact ⟨wk1.2 rfl, k _ Dl ws F' H' (n1.trans n2) h0 hDl hFD l hq⟩⟩
/-- without a test -/
def lComp0 (it : IX K) (g : GX K) (e : EX K) (vs : List Nat) : LX K := ⟨tLc it.t g.t tYes e.t vs,
  fun δ Q => (g.own.all fun j => vs.contains j) = true ∧ it.w δ fun n at_ => ∃ f : Nat → D, (∀ (i : Nat) (d : D), i < n → at_ i d → g.w d (wipeE δ vs) fun δ2 => e.w δ2 fun d' => f i = d') ∧ Q ((List.range n).map f), fun δ Q hw Z F0 F H σ ok Q' k => by
  obtain ⟨hs, hw⟩ := hw
  have hs : ∀ j ∈ g.own, j ∈ vs := fun j hj => by simpa using List.all_eq_true.mp hs j hj
  refine it.ok δ _ hw Z F0 F H σ ok _ fun n at_ J F1 H1 n1 wk hn hw1 => ?_
  obtain ⟨f, hf, hq⟩ := hw1
  intro Dl hD
  have h0 := n1.h.free hD
  let W : Nat → Hp → Prop := fun i H' => i ≤ n ∧ ∃ F' ws, Nx F1 H1 F' H' ∧ H' Dl = some (.lst ws) ∧ F' Dl = none ∧ IsL K F' ws ((List.range i).map f) ∧ ws.length ≤ i
  refine ⟨fun i m H' => m = n - i ∧ W i H', ⟨n, rfl, Nat.zero_le _, F1, [], .own n1.s hD, upd_same, some_ne n1.s hD, .nil, Nat.le_refl _⟩, ?_⟩
  rintro i m H' ⟨rfl, hi, F', ws, n2, hDl, hFD, l, hlen⟩
  have wk1 := wk i F' H' n2.f n2.s ((ok.next n1).nx.h.trans n2.h) fun _ => n2.h
  by_cases hlt : i < n
  · right
    obtain ⟨go, yl⟩ := wk1.1 hlt
    refine ⟨go, W (i + 1), fun H'' w => ⟨n - (i + 1), by omega, rfl, w⟩, fun x H2 y => ?_⟩
    obtain ⟨d, F2, n3, hd, hat⟩ := yl x H2 y
    have ok2 := (((ok.next n1).next n2).next n3).wipe vs
    refine g.ok d _ _ (hf i d hlt hat) Z F0 F2 H2 _ x ok2 hd _ fun δ2 F3 H3 σ2 ok3 n4 ha hl hw2 => ?_
    refine ⟨wipe_back hs ha.1 hl, ?_⟩
    have nA := n3.trans n4
    have hDn : H' Dl ≠ none := by rw [hDl]; simp
    show e.t σ2 H3 _
    refine e.ok δ2 _ hw2 Z F0 F3 H3 σ2 ok3 _ fun d' y F5 H5 n6 i6 hfi => ?_
    have nB := nA.trans n6
    have hF5 := nB.g Dl hDn hFD
    refine ⟨ws, nB.h _ _ hDl, Nat.lt_of_le_of_lt (Nat.le_trans hlen hi) (Nat.lt_of_le_of_lt hn (by decide)), by omega, F5, ws ++ [y], ⟨(n2.trans nB).f, same_mut (n2.trans nB).h hD, (n2.trans nB).g, same_mut nB.s hF5⟩, upd_same, hF5, ?_, by simp; omega⟩
    rw [List.range_succ, List.map_append]
    refine (l.mono nB.f).app ?_
    rw [show List.map f [i] = [f i] by simp, hfi]
    exact .cons i6 .nil
  · left
    have e1 : i = n := by omega
    subst e1
    exact ⟨wk1.2 rfl, k _ Dl ws F' H' (n1.trans n2) h0 hDl hFD l hq⟩⟩
end
end PL
namespace PL
open PySem PySem.Spec PyProof.Rows L2
section
variable {K : PySem.W.Frag}
/-! ### isinstance -/
def tyN : D → Option String
  | .int _ => some "int"
  | .bl _ => some "bool"
  | .str _ => some "str"
  | .non => some "NoneType"
  | .lst _ => some "list"
  | .tup _ => some "tuple"
  | .ktp _ => some "tuple"
  | _ => none
theorem ty_is {F H : Hp} {v : V} {d : D} {n : String} (h : Is K F v d) (s : Same F H) (e : tyN d = some n) : TyX K H v (.type n) := by
  cases h with
  | non => cases e; exact .base .non
  | bl b => cases e; exact .base (.bl b)
  | int i => cases e; exact .base (.int i)
  | str x => cases e; exact .base (.str x)
  | ref v => cases e
  | ins a b c => cases e
  | err a b c => cases e
  | tup a b c =>
    cases e
    rcases same_t s (.of a) with (h | ⟨o, h⟩) | ⟨o, its, n, hk, hc, _⟩
    · exact .base (.tup h)
    · exact .fTuple h
    · exact .kTuple hk hc
  | ktp a b c =>
    cases e
    rcases same_t s a with (h | ⟨o, h⟩) | ⟨o, its, n, hk, hc, _⟩
    · exact .base (.tup h)
    · exact .fTuple h
    · exact .kTuple hk hc
  | lst a b c =>
    cases e
    rcases s.seq a with (h | ⟨o, h⟩) | ⟨o, its, n, hk, hc, _⟩
    · exact .base (.lst h)
    · exact .base (.frz h)
    · exact .kList hk hc
def isD (T : String) (d : D) (Q : D → Prop) : Prop := match tyN d with
  | some n => ∃ b, kitB n T = some b ∧ Q (.bl b)
  | none => False
def eIs (T : String) (a : EX K) : EX K := ⟨tCB (rIsi K) (tCons a.t (tCons (tC (.ty T)) tNil)), fun δ Q => a.w δ fun d => isD T d Q, fun δ Q hw Z F0 F H σ ok Q' k => by
  refine a.ok δ _ hw Z F0 F H σ ok _ fun d v F1 H1 n1 i1 hq => ?_
  unfold isD at hq
  cases e : tyN d with
  | none => rw [e] at hq; exact hq.elim
  | some n =>
    rw [e] at hq
    obtain ⟨b, hb, hq⟩ := hq
    exact ⟨v, .ty T, .type n, .type T, b, rfl, .ty T, ty_is i1 n1.s e, kit_ty hb, k _ _ F1 H1 n1 (.bl b) hq⟩⟩

/-! ### statements -/
def sNext : SX K := ⟨tNext, fun δ E => E.nx δ, fun δ E hw Z F0 F H σ D ok ke => ke.nx δ F H σ ok hw⟩
def sSeq (a b : SX K) : SX K := ⟨tSeq a.t b.t, fun δ E => a.w δ { E with nx := fun δ' => b.w δ' E }, fun δ E hw Z F0 F H σ D ok ke => by
  refine a.ok δ _ hw Z F0 F H σ _ ok ⟨fun δ' F' H' σ' ok' h => ?_, ke.rt, ke.bk, ke.ct, ke.rl, ke.r2, ke.rm, ke.rb, ke.xs⟩
  exact b.ok δ' E h Z F0 F' H' σ' D ok' ke⟩
def sSet (g : GX K) (e : EX K) : SX K := ⟨tAsg e.t g.t, fun δ E => e.w δ fun d => g.w d δ E.nx, fun δ E hw Z F0 F H σ D ok ke => by
  refine e.ok δ _ hw Z F0 F H σ ok _ fun d v F1 H1 n1 i1 hw1 => ?_
  exact g.ok d δ _ hw1 Z F0 F1 H1 σ v (ok.next n1) i1 _ fun δ' F' H' σ' ok' _ _ _ h => ke.nx δ' F' H' σ' ok' h⟩
def sSetL (i : Nat) (l : LX K) : SX K := ⟨tAsg l.t (gName i), fun δ E => l.w δ fun ds => E.nx (put δ i (.own ds)), fun δ E hw Z F0 F H σ D ok ke => by
  refine l.ok δ _ hw Z F0 F H σ ok _ fun ds p vs F1 H1 n1 h0 hp hf hl hq => ?_
  exact ke.nx _ F1 H1 _ ((ok.next n1).setL hp hf (some_ne ok.nx.h h0) hl fun j hj => ((ok.at_ j).mine hj).1 h0) hq⟩
def sDrop (e : EX K) : SX K := ⟨tDrop e.t, fun δ E => e.w δ fun _ => E.nx δ, fun δ E hw Z F0 F H σ D ok ke => by
  refine e.ok δ _ hw Z F0 F H σ ok _ fun d v F1 H1 n1 i1 hw1 => ?_
  exact ke.nx δ F1 H1 σ (ok.next n1) hw1⟩
def sRet (e : EX K) : SX K := ⟨tRet e.t, fun δ E => e.w δ E.rt, fun δ E hw Z F0 F H σ D ok ke => by
  refine e.ok δ _ hw Z F0 F H σ ok _ fun d v F1 H1 n1 i1 hw1 => ?_
  exact ke.rt d v F1 H1 (ok.next n1).nx i1 hw1⟩
def sRetN : SX K := ⟨tRetN, fun δ E => E.rt .non, fun δ E hw Z F0 F H σ D ok ke => ke.rt .non .non F H ok.nx .non hw⟩
def ownD : Ent → (List D → Prop) → Prop
  | .own ds, Q => Q ds
  | _, _ => False
theorem ownD_inv : ∀ {e : Ent} {Q : List D → Prop}, ownD e Q → ∃ ds, e = .own ds ∧ Q ds
  | .own ds, _, h => ⟨ds, rfl, h⟩
/-- one's own list at slot i is a datum from here on -/
def sFrz (i : Nat) (s : SX K) : SX K := ⟨s.t, fun δ E => ownD (nth δ i) fun ds => s.w (put δ i (.dat (.lst ds))) E, fun δ E hw Z F0 F H σ D ok ke => by
  obtain ⟨ds, e, hw⟩ := ownD_inv hw
  obtain ⟨F', ok', _⟩ := ok.frz e
  exact s.ok _ E hw Z F0 F' H σ D ok' ke⟩
def sIf (t : TX K) (a b : SX K) : SX K := ⟨tIfS t.t a.t b.t, fun δ E => t.w δ fun c => (c = true → a.w δ E) ∧ (c = false → b.w δ E), fun δ E hw Z F0 F H σ D ok ke => by
  refine t.ok δ _ hw Z F0 F H σ ok _ fun c F1 H1 n1 hw1 => ?_
  cases c with
  | true => exact a.ok δ E (hw1.1 rfl) Z F0 F1 H1 σ D (ok.next n1) ke
  | false => exact b.ok δ E (hw1.2 rfl) Z F0 F1 H1 σ D (ok.next n1) ke⟩
def sBrk : SX K := ⟨tBreak, fun δ E => E.bk δ, fun δ E hw Z F0 F H σ D ok ke => ke.bk δ F H σ ok hw⟩
def sCnt : SX K := ⟨tCont, fun δ E => E.ct δ, fun δ E hw Z F0 F H σ D ok ke => ke.ct δ F H σ ok hw⟩
/-- xs.append(e), xs a list of one's own -/
def sApp (i : Nat) (e : EX K) : SX K := ⟨tDrop (tBM K "list" rAppend (tVar i) (tCons e.t tNil)), fun δ E => ownD (nth δ i) fun ds => ds.length < 4000000 ∧ e.w δ fun d => E.nx (put δ i (.own (ds ++ [d]))), fun δ E hw Z F0 F H σ D ok ke => by
  obtain ⟨ds, hi, hb, hw⟩ := ownD_inv hw
  have hs := ok.at_ i
  rw [hi] at hs
  obtain ⟨p, vs, a, b, c, z, l⟩ := hs
  refine ⟨_, a, .inl ⟨rfl, _, SqL.of b⟩, ?_⟩
  refine e.ok δ _ hw Z F0 F H σ ok _ fun d v F1 H1 n1 i1 hq => ?_
  refine ⟨p, vs, v, rfl, rfl, n1.h _ _ b, ?_, ?_⟩
  · rw [l.1]
    exact Nat.lt_trans hb (by decide)
  · exact ke.nx _ F1 _ σ ((ok.next n1).chg hi a ((l.mono n1.f).snoc i1)) hq⟩
/-- x op= e, ints -/
def sAug (i : Nat) (f : Int → Int → Int) (e : EX K) : SX K := ⟨tAug i e.t (ipI f), fun δ E => datD (nth δ i) fun x => e.w δ fun y => gI0 (fun i j => .int (f i j)) x y fun z => E.nx (put δ i (.dat z)), fun δ E hw Z F0 F H σ D ok ke => by
  have hs := ok.at_ i
  cases e1 : nth δ i with
  | dat x =>
    rw [e1] at hs hw
    obtain ⟨v, a, b⟩ := hs
    refine ⟨v, a, ?_⟩
    refine e.ok δ _ hw Z F0 F H σ ok _ fun y u F1 H1 n1 i1 hq => ?_
    obtain ⟨m, n, rfl, rfl, q⟩ := gI0_inv hq
    exact ⟨m, n, b.int_inv, i1.int_inv, ke.nx _ F1 H1 _ ((ok.next n1).setD (.int _)) q⟩
  | _ => rw [e1] at hw; exact hw.elim⟩
theorem Ok.base {Z F0 F1 F H1 H : Hp} {σ : L2.St} {δ : List Ent} (n : Nx F0 Z F1 H1) (ok : Ok K Z F1 F H σ δ) : Ok K Z F0 F H σ δ :=
  ⟨⟨n.f.trans ok.nx.f, ok.nx.h, fun p hz hf => ok.nx.g p hz (n.g p hz hf), ok.nx.s⟩, ok.len, ok.at_, ok.ow⟩
/-- for g in it: body. I i: what is known ahead of turn i -/
def sFor (it : IX K) (g : GX K) (body : SX K) (hb : it.b = false) : SX K := ⟨tFor it.t g.t body.t, fun δ E => it.w δ fun n at_ => ∃ I : Nat → List Ent → Prop, I 0 δ ∧
    (∀ (i : Nat) (d : D) (δ' : List Ent), i < n → at_ i d → I i δ' → g.w d δ' fun δ2 => body.w δ2 ⟨I (i + 1), E.rt, E.nx, I (i + 1), E.rl, E.r2, E.rm, E.rb, E.xw, E.W⟩) ∧ (∀ δ', I n δ' → E.nx δ'), fun δ E hw Z F0 F H σ D ok ke => by
  refine it.ok δ _ hw Z F0 F H σ ok _ fun n at_ J F1 H1 n1 wk _ hw1 => ?_
  obtain ⟨I, h0, hs, hd⟩ := hw1
  have ok1 := ok.next n1
  have okB : Ok K Z F1 F1 H1 σ δ := ⟨⟨.refl _, ok1.nx.h, fun _ _ h => h, ok1.nx.s⟩, ok1.len, ok1.at_, ok1.ow⟩
  refine ⟨fun i m σ' H' => m = n - i ∧ i ≤ n ∧ ∃ F' δ', Ok K Z F1 F' H' σ' δ' ∧ I i δ', ⟨n, rfl, Nat.zero_le _, F1, δ, okB, h0⟩, ?_⟩
  rintro i m σ' H' ⟨rfl, hi, F', δ', ok', hI⟩
  have wk1 := wk i F' H' ok'.nx.f ok'.nx.s ok'.nx.h fun z => by rw [hb] at z; cases z
  by_cases hlt : i < n
  · right
    obtain ⟨go, yl⟩ := wk1.1 hlt
    refine ⟨go, fun σ2 H2 => ∃ F2 δ2, Ok K Z F1 F2 H2 σ2 δ2 ∧ I (i + 1) δ2, fun σ2 H2 ⟨F2, δ2, o2, q⟩ => ⟨n - (i + 1), by omega, rfl, hlt, F2, δ2, o2, q⟩, fun x H2 y => ?_⟩
    obtain ⟨d, F2, n3, hd', hat⟩ := yl x H2 y
    refine g.ok d δ' _ (hs i d δ' hlt hat hI) Z F1 F2 H2 σ' x (ok'.next n3) hd' _ fun δ2 F3 H3 σ2 ok3 n4 _ _ hw2 => ?_
    refine body.ok δ2 _ hw2 Z F1 F3 H3 σ2 _ ok3 ⟨fun δ4 F4 H4 σ4 ok4 h => ⟨F4, δ4, ok4, h⟩, fun d v F4 H4 n5 i5 h => ?_, fun δ4 F4 H4 σ4 ok4 h => ke.nx δ4 F4 H4 σ4 (Ok.base ok1.nx ok4) h, fun δ4 F4 H4 σ4 ok4 h => ⟨F4, δ4, ok4, h⟩, fun ds p vs F4 H4 n5 hz hp hf hl h => ke.rl ds p vs F4 H4 ⟨ok1.nx.f.trans n5.f, n5.h, fun p hz hf => n5.g p hz (ok1.nx.g p hz hf), n5.s⟩ hz hp hf hl h, fun ds es p x y vs us F4 H4 n5 h1 h2 h3 h4 h5 h6 h7 h => ke.r2 ds es p x y vs us F4 H4 ⟨ok1.nx.f.trans n5.f, n5.h, fun p hz hf => n5.g p hz (ok1.nx.g p hz hf), n5.s⟩ h1 h2 h3 h4 h5 h6 h7 h, fun d v δ4 F4 H4 σ4 ok4 i4 h => ke.rm d v δ4 F4 H4 σ4 (Ok.base ok1.nx ok4) i4 h, fun p B fp F4 H4 n5 h1 h2 h3 h => ke.rb p B fp F4 H4 ⟨ok1.nx.f.trans n5.f, n5.h, fun p hz hf => n5.g p hz (ok1.nx.g p hz hf), n5.s⟩ h1 h2 h3 h, fun C fs d δ4 F4 H4 σ4 ok4 i4 h => ke.xs C fs d δ4 F4 H4 σ4 (Ok.base ok1.nx ok4) i4 h⟩
    exact ke.rt d v F4 H4 ⟨ok1.nx.f.trans n5.f, n5.h, fun p hz hf => n5.g p hz (ok1.nx.g p hz hf), n5.s⟩ i5 h
  · left
    have e1 : i = n := by omega
    subst e1
    exact ⟨wk1.2 rfl, ke.nx δ' F' H' σ' (Ok.base ok1.nx ok') (hd δ' hI)⟩⟩
/-- while t: body. I m: m falls -/
def sWhile (t : TX K) (body : SX K) : SX K := ⟨tWhile t.t body.t, fun δ E => ∃ I : Nat → List Ent → Prop, (∃ m, I m δ) ∧ ∀ m δ', I m δ' →
    t.w δ' fun b => (b = true → body.w δ' ⟨fun δ2 => ∃ m', m' < m ∧ I m' δ2, E.rt, E.nx, fun δ2 => ∃ m', m' < m ∧ I m' δ2, E.rl, E.r2, E.rm, E.rb, E.xw, E.W⟩) ∧ (b = false → E.nx δ'), fun δ E hw Z F0 F H σ D ok ke => by
  obtain ⟨I, ⟨m0, h0⟩, hs⟩ := hw
  refine ⟨fun m σ' H' => ∃ F' δ', Ok K Z F0 F' H' σ' δ' ∧ I m δ', ⟨m0, F, δ, ok, h0⟩, ?_⟩
  rintro m σ' H' ⟨F', δ', ok', hI⟩
  refine t.ok δ' _ (hs m δ' hI) Z F0 F' H' σ' ok' _ fun b F1 H1 n1 hw1 => ?_
  have ok1 := ok'.next n1
  cases b with
  | true =>
    rw [if_pos rfl]
    refine ⟨fun σ2 H2 => ∃ F2 δ2, Ok K Z F0 F2 H2 σ2 δ2 ∧ ∃ m', m' < m ∧ I m' δ2, fun σ2 H2 ⟨F2, δ2, o2, m', hm, q⟩ => ⟨m', hm, F2, δ2, o2, q⟩, ?_⟩
    exact body.ok δ' _ (hw1.1 rfl) Z F0 F1 H1 σ' _ ok1 ⟨fun δ4 F4 H4 σ4 ok4 h => ⟨F4, δ4, ok4, h⟩, ke.rt, ke.nx, fun δ4 F4 H4 σ4 ok4 h => ⟨F4, δ4, ok4, h⟩, ke.rl, ke.r2, ke.rm, ke.rb, ke.xs⟩
  | false =>
    rw [if_neg Bool.false_ne_true]
    exact ke.nx δ' F1 H1 σ' ok1 (hw1.2 rfl)⟩

/-- a, then b, with a word between them -/
def sJ (a b : SX K) : SX K := ⟨tSeq a.t b.t, fun δ E => ∃ M : List Ent → Prop, a.w δ { E with nx := M } ∧ ∀ δ', M δ' → b.w δ' E, fun δ E hw Z F0 F H σ D ok ke => by
  obtain ⟨M, h1, h2⟩ := hw
  refine a.ok δ _ h1 Z F0 F H σ _ ok ⟨fun δ' F' H' σ' ok' h => ?_, ke.rt, ke.bk, ke.ct, ke.rl, ke.r2, ke.rm, ke.rb, ke.xs⟩
  exact b.ok δ' E (h2 δ' h) Z F0 F' H' σ' D ok' ke⟩

/-! ### instances of one's own -/
def objD (C : Addr) : Ent → (Addr → List (Str × D) → Prop) → Prop
  | .obj p C' fs, Q => C' = C ∧ Q p fs
  | _, _ => False
theorem objD_inv {C : Addr} : ∀ {e : Ent} {Q : Addr → List (Str × D) → Prop}, objD C e Q → ∃ p fs, e = .obj p C fs ∧ Q p fs
  | .obj p C' fs, Q, ⟨e, h⟩ => ⟨p, fs, by rw [e], h⟩
def attD (C : Addr) : Ent → (List (Str × D) → Prop) → Prop
  | .obj _ C' fs, Q => C' = C ∧ Q fs
  | .dat (.ins C' fs), Q => C' = C ∧ Q fs
  | _, _ => False
def putD (f : Str) (d : D) : List (Str × D) → List (Str × D)
  | [] => [(f, d)]
  | (g, e) :: r => if g = f then (g, d) :: r else (g, e) :: putD f d r
theorem put_lt {f : Str} {d : D} : ∀ {fs : List (Str × D)} {n : Nat}, fs.length < n → (putD f d fs).length < n + 1
  | [], n, h => by simp [putD]; omega
  | (g, e) :: r, n, h => by
    unfold putD
    split
    · simp at h ⊢
      omega
    · have := put_lt (f := f) (d := d) (fs := r) (n := n - 1) (by simp at h; omega)
      simp at h ⊢
      omega
theorem isF_put {F : Hp} {f : Str} {v : V} {d : D} (h : Is K F v d) : ∀ {vs : List (Str × V)} {fs : List (Str × D)}, IsF K F vs fs → IsF K F (putF f v vs) (putD f d fs)
  | [], [], _ => ⟨rfl, fun i p q a b => by
    cases i with
    | zero =>
      cases a
      cases b
      exact h
    | succ i => simp [putF] at a⟩
  | [], _ :: _, k => by cases k.1
  | _ :: _, [], k => by cases k.1
  | (g, x) :: vs, (g', y) :: fs, k => by
    have e := k.1
    simp only [List.map_cons, List.cons.injEq] at e
    obtain ⟨rfl, e⟩ := e
    have t : IsF K F vs fs := ⟨e, fun i p q a b => k.2 (i + 1) p q (by simpa using a) (by simpa using b)⟩
    unfold putF putD
    by_cases hg : g = f
    · rw [if_pos hg, if_pos hg]
      refine ⟨by simp [e], fun i p q a b => ?_⟩
      cases i with
      | zero =>
        cases a
        cases b
        exact h
      | succ i => exact t.2 i p q (by simpa using a) (by simpa using b)
    · rw [if_neg hg, if_neg hg]
      have ih := isF_put (f := f) h t
      refine ⟨by simp [ih.1], fun i p q a b => ?_⟩
      cases i with
      | zero =>
        cases a
        cases b
        exact k.2 0 _ _ rfl rfl
      | succ i => exact ih.2 i p q (by simpa using a) (by simpa using b)
theorem isF_len {F : Hp} {vs : List (Str × V)} {fs : List (Str × D)} (h : IsF K F vs fs) : vs.length = fs.length := by
  have := congrArg List.length h.1
  simpa using this
/-- x.f = e, x an instance of one's own -/
def sFld' (C : Addr) (hc : Cls K C) (f : Str) (hn : NoAttr K C f) (i : Nat) (e : EX K) : SX K := ⟨sFld K (tVar i) e.t f, fun δ E => e.w δ fun d => objD C (nth δ i) fun p fs => fs.length < 1000 ∧ E.nx (put δ i (.obj p C (putD f d fs))), fun δ E hw Z F0 F H σ D ok ke => by
  refine e.ok δ _ hw Z F0 F H σ ok _ fun d v F1 H1 n1 i1 hw1 => ?_
  obtain ⟨p, fs, hi, hb, hq⟩ := objD_inv hw1
  have ok1 := ok.next n1
  have hs := ok1.at_ i
  rw [hi] at hs
  obtain ⟨dx, vs, a, b, c, z, l⟩ := hs
  exact ⟨_, a, p, C, dx, vs, rfl, b, hc, hn, by rw [isF_len l]; exact hb, ke.nx _ F1 _ σ (ok1.fput hi (isF_put i1 l)) hq⟩⟩
/-- x.f -/
def eFldN (C : Addr) (hc : Cls K C) (f : Str) (hn : NoAttr K C f) (i : Nat) : EX K := ⟨tFld K (tVar i) f, fun δ Q => attD C (nth δ i) fun fs => ∃ d, fs.lookup f = some d ∧ Q d, fun δ Q hw Z F0 F H σ ok Q' k => by
  have hs := ok.at_ i
  cases e : nth δ i with
  | obj p C' fs =>
    rw [e] at hs hw
    obtain ⟨rfl, d, hd, hq⟩ := hw
    obtain ⟨dx, vs, a, b, c, z, l⟩ := hs
    obtain ⟨v, hv, hi⟩ := lookup_is l.1 l.2 hd
    exact ⟨_, a, p, _, dx, vs, v, rfl, b, hc, hn, hv, k d v F H (.refl ok.nx.s) hi hq⟩
  | dat d =>
    rw [e] at hs hw
    cases d with
    | ins C' fs =>
      obtain ⟨rfl, d, hd, hq⟩ := hw
      obtain ⟨v, a, b⟩ := hs
      cases b with
      | ins h1 h2 h3 =>
        obtain ⟨v, hv, hi⟩ := lookup_is h2 h3 hd
        exact ⟨_, a, _, _, _, _, v, rfl, ok.nx.s _ _ h1, hc, hn, hv, k d v F H (.refl ok.nx.s) hi hq⟩
    | _ => exact hw.elim
  | _ => rw [e] at hw; exact hw.elim⟩
/-- an __init__ over data: what the attributes are behind it -/
abbrev ISp := List Ar → (List (Str × D) → Prop) → Prop
def spInit (K : PySem.W.Frag) (C : Addr) (R : ISp) : Sp := fun vs H Q _ => ∃ (p dx : Addr) (rest : List V) (F : Hp) (as : List Ar) (P : List (Str × D) → Prop), vs = .ref p :: rest ∧ H p = some (.ins C dx []) ∧ F p = none ∧ Same F H ∧ ArsOk K F H rest as ∧ R as P ∧
  ∀ fs us dx' F' H', P fs → Same F F' → Same F' H' → (∀ q o, q ≠ p → H q = some o → H' q = some o) → (∀ q, H q ≠ none → F q = none → F' q = none) → H' p = some (.ins C dx' us) → IsF K F' us fs → Q .non H'
/-- C(..) -/
def lMake (C : Addr) (R : ISp) (a : AX K) : EX K := ⟨tMake C (spInit K C R) [] E0 a.t, fun δ Q => a.w δ fun as => R as fun fs => Q (.ins C fs), fun δ Q hw Z F0 F H σ ok Q' k => by
  refine a.ok δ _ hw Z F0 F H σ ok _ fun as vs F1 H1 n1 i1 hw1 => ?_
  intro x dx nx ndx nex
  show spInit K C R (.ref x :: (vs ++ [])) _ _ E0
  rw [List.append_nil]
  have s1 : Same H1 (upd (upd H1 dx (.own x)) x (.ins C dx [])) := fun b o e => by
    rw [upd_ne (ne_of_none e nx), upd_ne (ne_of_none e ndx)]
    exact e
  refine ⟨x, dx, vs, F1, as, _, rfl, upd_same, some_ne n1.s nx, n1.s.trans s1, ?_, hw1, fun fs us dx' F' H' hq h1 h2 h3 h4 h5 h6 => ⟨rfl, ?_⟩⟩
  · have : ∀ {vs : List V} {as : List Ar}, ArsOk K F1 H1 vs as → ArsOk K F1 (upd (upd H1 dx (.own x)) x (.ins C dx [])) vs as := by
      intro vs
      induction vs with
      | nil => intro as h; cases as <;> exact h
      | cons v r ih =>
        intro as h
        cases as with
        | nil => exact h
        | cons a t =>
          refine ⟨?_, ih h.2⟩
          cases a with
          | dat d => exact h.1
          | bor ds =>
            obtain ⟨p, ws, e, s, l⟩ := h.1
            exact ⟨p, ws, e, s1.seq s, l⟩
          | lob L =>
            obtain ⟨p, e, b⟩ := h.1
            exact ⟨p, e, L.st (.refl _) (fun q o e _ => s1 q o e) b⟩
    exact this i1
  · have hx0 : F' x = none := h4 x (by rw [upd_same]; simp) (some_ne n1.s nx)
    have sH : Same H1 H' := fun b o e => h3 b o (fun z => by rw [z, nx] at e; cases e) (s1 b o e)
    have n2 : Nx F1 H1 F' H' := ⟨h1, sH, fun q hq hf => h4 q (Same.ne_none s1 hq) hf, h2⟩
    have n3 : Nx F1 H1 (upd F' x (.ins C dx' us)) H' := n2.frz nx h5 hx0
    exact k _ _ _ _ (n1.trans n3) (.ins upd_same h6.1 (fun i p q a b => (h6.2 i p q a b).mono (same_new hx0))) hq⟩

end
structure pE (K : PySem.W.Frag) (X : Cx) (e : Expr) (x : EX K) : Prop where
  k : X.K = K
  h : PE X e x.t
structure pL (K : PySem.W.Frag) (X : Cx) (e : Expr) (x : LX K) : Prop where
  k : X.K = K
  h : PE X e x.t
structure pR (K : PySem.W.Frag) (X : Cx) (e : Expr) (x : RX K) : Prop where
  k : X.K = K
  h : PE X e x.t
structure pT (K : PySem.W.Frag) (X : Cx) (e : Expr) (x : TX K) : Prop where
  k : X.K = K
  h : PT X e x.t
structure pW (K : PySem.W.Frag) (X : Cx) (e : Expr) (x : TX K) : Prop where
  k : X.K = K
  h : PW X e x.t
structure pA (K : PySem.W.Frag) (X : Cx) (e : List Expr) (x : AX K) : Prop where
  k : X.K = K
  h : PA X e x.t
structure pG (K : PySem.W.Frag) (X : Cx) (e : Expr) (x : GX K) : Prop where
  k : X.K = K
  h : PG X e x.t
structure pGs (K : PySem.W.Frag) (X : Cx) (e : List Expr) (x : GsX K) : Prop where
  k : X.K = K
  h : PGs X e x.t
structure pI (K : PySem.W.Frag) (X : Cx) (tg e : Expr) (x : IX K) : Prop where
  k : X.K = K
  h : PI X tg e x.t
structure pS (K : PySem.W.Frag) (X : Cx) (e : Stmt) (x : SX K) : Prop where
  k : X.K = K
  h : PS X e x.t
structure pB (K : PySem.W.Frag) (X : Cx) (e : List Stmt) (x : SX K) : Prop where
  k : X.K = K
  h : PSs X e x.t
section
variable {K : PySem.W.Frag}
/-! ### a def by its body -/
def arE : Ar → Ent
  | .dat d => .dat d
  | .bor ds => .bor ds
  | .lob L => .lob L
def nos : Nat → List Ent
  | 0 => []
  | n + 1 => .no :: nos n
def ents (as : List Ar) (n : Nat) : List Ent := as.map arE ++ nos (n - as.length)
theorem nos_len : ∀ n, (nos n).length = n
  | 0 => rfl
  | n + 1 => by simp [nos, nos_len n]
theorem nth_nos : ∀ n i, nth (nos n) i = .no
  | 0, _ => rfl
  | _ + 1, 0 => rfl
  | n + 1, i + 1 => nth_nos n i
theorem ars_len {F H : Hp} : ∀ {vs : List V} {as : List Ar}, ArsOk K F H vs as → vs.length = as.length
  | [], [], _ => rfl
  | _ :: _, _ :: _, h => by simp [ars_len h.2]
theorem nth_app : ∀ (a b : List Ent) (i : Nat), nth (a ++ b) i = if i < a.length then nth a i else nth b (i - a.length)
  | [], b, i => by simp
  | e :: r, b, 0 => by simp [nth]
  | e :: r, b, i + 1 => by
    show nth (r ++ b) i = _
    rw [nth_app r b i]
    by_cases h : i < r.length
    · rw [if_pos h, if_pos (by simp; omega)]
      rfl
    · rw [if_neg h, if_neg (by simp; omega)]
      congr 1
      simp
theorem ars_at {Z F H : Hp} : ∀ {vs : List V} {as : List Ar}, ArsOk K F Z vs as → ∀ i, i < as.length → SlotOk K Z F H (vs.map some)[i]? (nth (as.map arE) i)
  | v :: vs, a :: as, h, 0, _ => by
    show SlotOk K Z F H (some (some v)) (arE a)
    cases a with
    | dat d => exact ⟨v, rfl, h.1⟩
    | bor ds =>
      obtain ⟨p, us, rfl, s, l⟩ := h.1
      exact ⟨p, us, rfl, s, l⟩
    | lob L =>
      obtain ⟨p, rfl, b⟩ := h.1
      exact ⟨p, rfl, b⟩
  | v :: vs, a :: as, h, i + 1, hi => ars_at (vs := vs) (as := as) h.2 i (by simpa using hi)
  | [], [], h, i, hi => by simp at hi
theorem ar_own : ∀ {as : List Ar} {i : Nat} {x : Option (Option V)} {q : Addr}, ¬ (nth (as.map arE) i).has x q
  | [], _, _, _, h => h.elim
  | a :: r, 0, _, _, h => by cases a <;> exact h.elim
  | a :: r, i + 1, _, _, h => ar_own (as := r) (i := i) h
theorem ok_start {F H : Hp} {vs : List V} {as : List Ar} {N : List Str} (s : Same F H) (h : ArsOk K F H vs as) (hl : as.length ≤ N.length) : Ok K H F F H (start N vs) (ents as N.length) := by
  have e := ars_len h
  refine ⟨⟨.refl _, .refl _, fun _ _ h => h, s⟩, ?_, fun i => ?_, fun i j p h1 _ => ?_⟩
  · simp [L2.start, ents, nos_len, e]
  · show SlotOk K H F H (start N vs)[i]? (nth (as.map arE ++ nos (N.length - as.length)) i)
    rw [nth_app]
    by_cases hi : i < (as.map arE).length
    · rw [if_pos hi]
      rw [List.length_map] at hi
      have : (start N vs)[i]? = (vs.map some)[i]? := by
        unfold L2.start
        rw [List.getElem?_append_left (by simp; omega)]
      rw [this]
      exact ars_at h i hi
    · rw [if_neg hi, nth_nos]
      trivial
  · exfalso
    have h2 : (nth (as.map arE ++ nos (N.length - as.length)) i).has _ p := h1
    rw [nth_app] at h2
    split at h2
    · exact ar_own h2
    · rw [nth_nos] at h2
      exact h2.elim
theorem fnok {P : Program} {w : World} {mg : Str → Option Value} {base : Heap} {x qual : Str} {st : Stmt} {f : Addr} {fd : FuncData} {N ps : List Str} {k : Nat} {R : FSp} (Fn : Fun K x qual st f fd) (S : FnScope N ps (defScope st))
    (len : ∀ as P, R as P → as.length = ps.length) (hl : ps.length ≤ N.length)
    (h : ∀ (cdv : Value) (A : Around) (outer : List Env) (s : Shared) (H : Hp) (E : XK), Room k (A.deeper (envOfC qual (defScope st) s.heap.objs.size f cdv)) → ∃ B : SX K,
      pB K (cxOf CX0 P w K mg base N qual (defScope st) f cdv A outer s H E).nox (defBody st) B ∧ ∀ as Q, R as Q → B.w (ents as N.length) { nx := fun _ => Q .non, rt := Q }) : FnOk P w K mg base CX0 (k + 1) f fd ps (spOf K R) := by
  refine Fn.ok S (fun vs H Q E h => ?_) (fun cdv A outer s H vs Q E hr hsp => ?_)
  · obtain ⟨F, as, P, _, ha, hR, _⟩ := h
    rw [ars_len ha]
    exact len as P hR
  · obtain ⟨F, as, P, sf, ha, hR, kk⟩ := hsp
    obtain ⟨B, hB, hw⟩ := h cdv A outer s H E hr
    refine ⟨B.t, hB.h, B.ok _ _ (hw as P hR) H F F H _ _ (ok_start sf ha (by rw [len as P hR]; exact hl)) ⟨fun δ F' H' σ' ok' q => kk _ _ F' H' q ok'.nx .non, fun d v F' H' n i q => kk d v F' H' q n i, fun _ _ _ _ _ q => q.elim, fun _ _ _ _ _ q => q.elim, fun _ _ _ _ _ _ _ _ _ _ q => q.elim, fun _ _ _ _ _ _ _ _ _ _ _ _ _ _ _ _ _ q => q.elim, fun _ _ _ _ _ _ _ _ q => q.elim, fun _ _ _ _ _ _ _ _ _ q => q.elim, fun _ _ _ _ _ _ _ _ _ q => q.elim⟩⟩
theorem initok {P : Program} {w : World} {mg : Str → Option Value} {base : Heap} {x qual : Str} {st : Stmt} {f C : Addr} {fd : FuncData} {N ps : List Str} {k : Nat} {R : ISp} (Fn : Fun K x qual st f fd) (S : FnScope N ps (defScope st))
    (len : ∀ as P, R as P → as.length + 1 = ps.length) (hl : ps.length ≤ N.length)
    (h : ∀ (cdv : Value) (A : Around) (outer : List Env) (s : Shared) (H : Hp) (E : XK), Room k (A.deeper (envOfC qual (defScope st) s.heap.objs.size f cdv)) → ∃ B : SX K,
      pB K (cxOf CX0 P w K mg base N qual (defScope st) f cdv A outer s H E).nox (defBody st) B ∧ ∀ p as Q, R as Q → B.w (.obj p C [] :: ents as (N.length - 1)) { nx := fun δ => objD C (nth δ 0) fun q fs => q = p ∧ Q fs, rt := fun _ => False }) : FnOk P w K mg base CX0 (k + 1) f fd ps (spInit K C R) := by
  refine Fn.ok S (fun vs H Q E h => ?_) (fun cdv A outer s H vs Q E hr hsp => ?_)
  · obtain ⟨p, dx, rest, F, as, P, rfl, _, _, _, ha, hR, _⟩ := h
    have := len as P hR
    simp [ars_len ha]
    omega
  · obtain ⟨p, dx, rest, F, as, P, rfl, hp, hf, sf, ha, hR, kk⟩ := hsp
    obtain ⟨B, hB, hw⟩ := h cdv A outer s H E hr
    have hlen := len as P hR
    have hrl := ars_len ha
    -- the frame: all but the new instance
    let Z : Hp := fun q => if q = p then none else H q
    have zp : Z p = none := if_pos rfl
    have zn : ∀ q, q ≠ p → Z q = H q := fun q hq => if_neg hq
    have zs : Same Z H := fun q o e => by
      by_cases hq : q = p
      · rw [hq, zp] at e
        cases e
      · rw [← zn q hq]
        exact e
    have aZ : ∀ {vs : List V} {as : List Ar}, ArsOk K F H vs as → ArsOk K F Z vs as := by
      intro vs
      induction vs with
      | nil => intro as h; cases as <;> exact h
      | cons v r ih =>
        intro as h
        cases as with
        | nil => exact h
        | cons a t =>
          refine ⟨?_, ih h.2⟩
          cases a with
          | dat d => exact h.1
          | bor ds =>
            obtain ⟨q, ws, e, s, l⟩ := h.1
            refine ⟨q, ws, e, ?_, l⟩
            rcases s with (s | ⟨o, s⟩) | s
            · exact .inl (.inl (by rw [zn q (fun z => by rw [z, hp] at s; cases s)]; exact s))
            · exact .inl (.inr ⟨o, by rw [zn q (fun z => by rw [z, hp] at s; cases s)]; exact s⟩)
            · exact .inr s
          | lob L =>
            obtain ⟨q, e, b⟩ := h.1
            refine ⟨q, e, L.st (.refl _) (fun r o e ho => ?_) b⟩
            by_cases hr : r = p
            · rw [hr, hp] at e
              cases e
              exact absurd rfl (ho C dx)
            · rw [zn r hr]
              exact e
    have okS : Ok K Z F F H (L2.start N (.ref p :: rest)) (.obj p C [] :: ents as (N.length - 1)) := by
      refine ⟨⟨.refl _, zs, fun _ _ h => h, sf⟩, ?_, fun i => ?_, fun i j q h1 h2 => ?_⟩
      · simp [L2.start, ents, nos_len, hrl]
        omega
      · cases i with
        | zero => exact ⟨dx, [], rfl, hp, hf, zp, rfl, fun i p q a _ => by simp at a⟩
        | succ i =>
          show SlotOk K Z F H (L2.start N (.ref p :: rest))[i + 1]? (nth (as.map arE ++ nos (N.length - 1 - as.length)) i)
          rw [nth_app]
          by_cases hi : i < (as.map arE).length
          · rw [if_pos hi]
            rw [List.length_map] at hi
            have : (L2.start N (.ref p :: rest))[i + 1]? = (rest.map some)[i]? := by
              unfold L2.start
              rw [List.map_cons, List.cons_append, List.getElem?_cons_succ, List.getElem?_append_left (by simp; omega)]
            rw [this]
            exact ars_at (aZ ha) i hi
          · rw [if_neg hi, nth_nos]
            trivial
      · have m0 : ∀ i x, (nth (.obj p C [] :: ents as (N.length - 1)) i).has x q → i = 0 := fun i x h => by
          cases i with
          | zero => rfl
          | succ i =>
            exfalso
            have h2 : (nth (as.map arE ++ nos (N.length - 1 - as.length)) i).has x q := h
            rw [nth_app] at h2
            split at h2
            · exact ar_own h2
            · rw [nth_nos] at h2
              exact h2.elim
        rw [m0 i _ h1, m0 j _ h2]
    refine ⟨B.t, hB.h, B.ok _ _ (hw p as P hR) Z F F H _ _ okS ⟨fun δ F' H' σ' ok' q => ?_, fun d v F' H' n i q => q.elim, fun _ _ _ _ _ q => q.elim, fun _ _ _ _ _ q => q.elim, fun _ _ _ _ _ _ _ _ _ _ q => q.elim, fun _ _ _ _ _ _ _ _ _ _ _ _ _ _ _ _ _ q => q.elim, fun _ _ _ _ _ _ _ _ q => q.elim, fun _ _ _ _ _ _ _ _ _ q => q.elim, fun _ _ _ _ _ _ _ _ _ q => q.elim⟩⟩
    obtain ⟨p', fs, e0, e1, hq⟩ := objD_inv q
    have hs := ok'.at_ 0
    rw [e0] at hs
    obtain ⟨dx', us, a, b, c, z, l⟩ := hs
    subst e1
    refine kk fs us dx' F' H' hq ok'.nx.f ok'.nx.s (fun q o hq' hH => ok'.nx.h q o (by rw [zn q hq']; exact hH)) (fun q hH hF => ?_) b l
    · by_cases hq' : q = p'
      · rw [hq']
        exact c
      · exact ok'.nx.g q (by rw [zn q hq']; exact hH) hF
end
end PL
namespace PL
open PySem PySem.Spec PyProof.Rows L2
/-! ### what is written for a construct -/
section
variable {K : PySem.W.Frag} {X : Cx} {a b c : Expr} {es : List Expr} {pos p q : Pos}
theorem x_v (i : Nat) {x : Str} (hN : X.N[i]? = some x := by rfl) (hv : Vis X.env.scope x := by first | exact Or.inl rfl | exact Or.inr (Or.inl rfl) | exact Or.inr (Or.inr rfl)) (hd : (x == ("__debug__" : Str)) = false := by decide +kernel)
    (hcd : (x == ("__classdict__" : Str)) = false := by decide +kernel) (hk : X.K = K := by rfl) : pE K X (.Name x pos) (eVar i) := by
  have hk0 : X.K = K := hk
  subst hk0
  exact ⟨rfl, pe_var hN hv hd hcd⟩
theorem r_v (i : Nat) {x : Str} (hN : X.N[i]? = some x := by rfl) (hv : Vis X.env.scope x := by first | exact Or.inl rfl | exact Or.inr (Or.inl rfl) | exact Or.inr (Or.inr rfl)) (hd : (x == ("__debug__" : Str)) = false := by decide +kernel)
    (hcd : (x == ("__classdict__" : Str)) = false := by decide +kernel) (hk : X.K = K := by rfl) : pR K X (.Name x pos) (rVar i) := by
  have hk0 : X.K = K := hk
  subst hk0
  exact ⟨rfl, pe_var hN hv hd hcd⟩
theorem r_e {x : EX K} (h : pE K X a x) : pR K X a (rE x) := by
  have hk0 : X.K = K := h.k
  subst hk0
  exact ⟨rfl, h.h⟩
theorem x_l {x : LX K} (h : pL K X a x) : pE K X a (eL x) := by
  have hk0 : X.K = K := h.k
  subst hk0
  exact ⟨rfl, h.h⟩
theorem x_i {i : Int} {j} (hk : X.K = K := by rfl) : pE K X (.Constant (.int i) j pos) (eI i) := by
  have hk0 : X.K = K := hk
  subst hk0
  exact ⟨rfl, pe_int⟩
theorem x_b {i : Bool} {j} (hk : X.K = K := by rfl) : pE K X (.Constant (.bool i) j pos) (eB i) := by
  have hk0 : X.K = K := hk
  subst hk0
  exact ⟨rfl, pe_bl⟩
theorem x_s {i : Str} {j} (hk : X.K = K := by rfl) : pE K X (.Constant (.str i) j pos) (eS i) := by
  have hk0 : X.K = K := hk
  subst hk0
  exact ⟨rfl, pe_str⟩
theorem x_n {j} (hk : X.K = K := by rfl) : pE K X (.Constant .none j pos) eN := by
  have hk0 : X.K = K := hk
  subst hk0
  exact ⟨rfl, pe_non⟩
theorem x_bin {op : Operator} {o : Op2 K} {x y : EX K} (ho : OpR X (binaryOp op) o.r) (ha : pE K X a x) (hb : pE K X b y) : pE K X (.BinOp a op b pos) (eOp o x y) := by
  have hk0 : X.K = K := ha.k
  subst hk0
  exact ⟨rfl, pe_op ho ha.h hb.h⟩
theorem x_add {x y : EX K} (ha : pE K X a x) (hb : pE K X b y) : pE K X (.BinOp a .Add b pos) (eOp oAdd x y) := x_bin op_addP ha hb
theorem x_sub {x y : EX K} (ha : pE K X a x) (hb : pE K X b y) : pE K X (.BinOp a .Sub b pos) (eOp (oI0 fun i j => i - j) x y) := x_bin op_sub ha hb
theorem x_mul {x y : EX K} (ha : pE K X a x) (hb : pE K X b y) : pE K X (.BinOp a .Mult b pos) (eOp (oI CMul fun i j => i * j) x y) := x_bin op_mul ha hb
theorem x_fdiv {x y : EX K} (ha : pE K X a x) (hb : pE K X b y) : pE K X (.BinOp a .FloorDiv b pos) (eOp (oI CDiv fun i j => i / j) x y) := x_bin op_fdiv ha hb
theorem x_mod {x y : EX K} (ha : pE K X a x) (hb : pE K X b y) : pE K X (.BinOp a .Mod b pos) (eOp (oI (fun _ j => 0 < j) fun i j => i % j) x y) := x_bin op_mod ha hb
theorem x_pow {x y : EX K} (ha : pE K X a x) (hb : pE K X b y) : pE K X (.BinOp a .Pow b pos) (eOp (oI CPow fun i j => i ^ j.toNat) x y) := x_bin op_pow ha hb
theorem x_shl {x y : EX K} (ha : pE K X a x) (hb : pE K X b y) : pE K X (.BinOp a .LShift b pos) (eOp (oI CPow fun i j => i * 2 ^ j.toNat) x y) := x_bin op_shl ha hb
theorem x_shr {x y : EX K} (ha : pE K X a x) (hb : pE K X b y) : pE K X (.BinOp a .RShift b pos) (eOp (oI (fun _ j => 0 ≤ j) fun i j => i / 2 ^ j.toNat) x y) := x_bin op_shr ha hb
theorem x_xor {x y : EX K} (ha : pE K X a x) (hb : pE K X b y) : pE K X (.BinOp a .BitXor b pos) (eOp (oI0 Builtin.bitXor) x y) := x_bin op_xor ha hb
theorem x_band {x y : EX K} (ha : pE K X a x) (hb : pE K X b y) : pE K X (.BinOp a .BitAnd b pos) (eOp (oI0 Builtin.bitAnd) x y) := x_bin op_and ha hb
theorem x_bor {x y : EX K} (ha : pE K X a x) (hb : pE K X b y) : pE K X (.BinOp a .BitOr b pos) (eOp (oI0 Builtin.bitOr) x y) := x_bin op_or ha hb
theorem x_cmp {op : CmpOp} {o : Op2 K} {x y : EX K} (ho : OpR X (compareOp op) o.r) (ha : pE K X a x) (hb : pE K X b y) (hm : behindInMarks op b = false := by exact nomark _) : pE K X (.Compare a [op] [b] pos) (eOp o x y) := by
  have hk0 : X.K = K := ha.k
  subst hk0
  exact ⟨rfl, pe_cmpR ho ha.h hb.h hm⟩
theorem t_cmp {op : CmpOp} {o : Op2 K} {x y : EX K} (ho : OpR X (compareOp op) o.r) (ha : pE K X a x) (hb : pE K X b y) (hm : behindInMarks op b = false := by exact nomark _) : pT K X (.Compare a [op] [b] pos) (tVal (eOp o x y)) := by
  have hk0 : X.K = K := ha.k
  subst hk0
  exact ⟨rfl, pt_cmpR ho ha.h hb.h hm⟩
theorem h_lt : OpR X (compareOp .Lt) (oB0 (K := K) fun i j => decide (i < j)).r := op_lt
theorem h_le : OpR X (compareOp .LtE) (oB0 (K := K) fun i j => decide (i ≤ j)).r := op_le
theorem h_gt : OpR X (compareOp .Gt) (oB0 (K := K) fun i j => decide (j < i)).r := op_gt
theorem h_ge : OpR X (compareOp .GtE) (oB0 (K := K) fun i j => decide (j ≤ i)).r := op_ge
theorem h_eq {k : Nat} (hr : Room k X.A) (hk : X.K = K := by rfl) : OpR X (compareOp .Eq) (oEq (K := K)).r := by subst hk; exact op_eqP hr.units
theorem h_ne {k : Nat} (hr : Room k X.A) (hk : X.K = K := by rfl) : OpR X (compareOp .NotEq) (oNe (K := K)).r := by subst hk; exact op_neP hr.units
theorem t_val {x : EX K} (h : pE K X a x) (he : ∀ whole, isTrue a X.env whole = (do let v ← whole; standAt a.pos; holding [v] (truthy v)) := by intro _; rfl) : pT K X a (tVal x) := by
  have hk0 : X.K = K := h.k
  subst hk0
  exact ⟨rfl, pt_val h.h he⟩
theorem t_cut {x : TX K} (h : pT K X a x) : pT K X a (tCt x) := by
  have hk0 : X.K = K := h.k
  subst hk0
  exact ⟨rfl, h.h⟩
theorem x_cut {x : EX K} (h : pE K X a x) : pE K X a (eCt x) := by
  have hk0 : X.K = K := h.k
  subst hk0
  exact ⟨rfl, h.h⟩
theorem t_pw {x : TX K} (h : pW K X a x) : pT K X a x := by
  have hk0 : X.K = K := h.k
  subst hk0
  exact ⟨rfl, h.h.pt⟩
theorem t_and1 {x : TX K} (h : pT K X a x) : pW K X (.BoolOp .And [a] pos) x := by
  have hk0 : X.K = K := h.k
  subst hk0
  exact ⟨rfl, pw_and1 h.h⟩
theorem t_or1 {x : TX K} (h : pT K X a x) : pW K X (.BoolOp .Or [a] pos) x := by
  have hk0 : X.K = K := h.k
  subst hk0
  exact ⟨rfl, pw_or1 h.h⟩
theorem t_and {x y : TX K} (h : pT K X a x) (r : pW K X (.BoolOp .And (b :: es) pos) y) : pW K X (.BoolOp .And (a :: b :: es) pos) (tAn x y) := by
  have hk0 : X.K = K := h.k
  subst hk0
  exact ⟨rfl, pw_and h.h r.h⟩
theorem t_or {x y : TX K} (h : pT K X a x) (r : pW K X (.BoolOp .Or (b :: es) pos) y) : pW K X (.BoolOp .Or (a :: b :: es) pos) (tOR x y) := by
  have hk0 : X.K = K := h.k
  subst hk0
  exact ⟨rfl, pw_or h.h r.h⟩
theorem t_not {x : TX K} (h : pT K X a x) : pT K X (.UnaryOp .Not a pos) (tNo x) := by
  have hk0 : X.K = K := h.k
  subst hk0
  exact ⟨rfl, pt_not h.h⟩
theorem x_one {op} {x : EX K} (h : pE K X a x) : pE K X (.BoolOp op [a] pos) x := by
  have hk0 : X.K = K := h.k
  subst hk0
  exact ⟨rfl, pe_one h.h⟩
theorem x_and {x y : EX K} (h : pE K X a x) (r : pE K X (.BoolOp .And (b :: es) pos) y) : pE K X (.BoolOp .And (a :: b :: es) pos) (eAn x y) := by
  have hk0 : X.K = K := h.k
  subst hk0
  exact ⟨rfl, pe_and h.h r.h⟩
theorem x_or {x y : EX K} (h : pE K X a x) (r : pE K X (.BoolOp .Or (b :: es) pos) y) : pE K X (.BoolOp .Or (a :: b :: es) pos) (eOR x y) := by
  have hk0 : X.K = K := h.k
  subst hk0
  exact ⟨rfl, pe_or h.h r.h⟩
theorem x_not {x : EX K} (h : pE K X a x) : pE K X (.UnaryOp .Not a pos) (eNo x) := by
  have hk0 : X.K = K := h.k
  subst hk0
  exact ⟨rfl, pe_not h.h⟩
theorem x_if {t : TX K} {x y : EX K} (ht : pT K X c t) (ha : pE K X a x) (hb : pE K X b y) : pE K X (.IfExp c a b pos) (eIf t x y) := by
  have hk0 : X.K = K := ht.k
  subst hk0
  exact ⟨rfl, pe_ifExp ht.h ha.h hb.h⟩
/-! arguments -/
theorem a_nil (hk : X.K = K := by rfl) : pA K X [] aNil := by
  have hk0 : X.K = K := hk
  subst hk0
  exact ⟨rfl, pa_nil⟩
theorem a_d {x : EX K} {y : AX K} (h : pE K X a x) (r : pA K X es y) (hs : starEach (a :: es) X.env = (false, eval a X.env) :: starEach es X.env := by rfl) : pA K X (a :: es) (aD x y) := by
  have hk0 : X.K = K := h.k
  subst hk0
  exact ⟨rfl, pa_cons h.h r.h hs⟩
theorem a_b {x : RX K} {y : AX K} (h : pR K X a x) (r : pA K X es y) (hs : starEach (a :: es) X.env = (false, eval a X.env) :: starEach es X.env := by rfl) : pA K X (a :: es) (aB x y) := by
  have hk0 : X.K = K := h.k
  subst hk0
  exact ⟨rfl, pa_cons h.h r.h hs⟩
theorem x_tup {k} {x : AX K} (h : pA K X es x) : pE K X (.Tuple es k pos) (eTup x) := by
  have hk0 : X.K = K := h.k
  subst hk0
  exact ⟨rfl, pe_tup h.h⟩
theorem l_disp {x : AX K} (h : pA K X es x) : pL K X (.List es pos) (lDisp x) := by
  have hk0 : X.K = K := h.k
  subst hk0
  exact ⟨rfl, pe_lst h.h⟩
/-! built-ins -/
theorem pa1 {t : TE} (h : PE X a t) (hs : starEach [a] X.env = [(false, eval a X.env)]) : PA X [a] (tCons t tNil) := pa_cons h pa_nil hs
theorem x_len {x : RX K} (hm : X.mg "len" = none) (h : pR K X a x) (hg : Gl X "len" := by rfl) (hs : starEach [a] X.env = [(false, eval a X.env)] := by rfl) : pE K X (.Call (.Name "len" p) [a] [] pos) (eLen x) := by
  have hk0 : X.K = K := h.k
  subst hk0
  exact ⟨rfl, pe_callB call_len_seq hg hm boot_len (pa1 h.h hs) (by decide +kernel) (by decide +kernel) hs (by rfl)⟩
theorem l_list {x : RX K} (hm : X.mg "list" = none) (h : pR K X a x) (hg : Gl X "list" := by rfl) (hs : starEach [a] X.env = [(false, eval a X.env)] := by rfl) : pL K X (.Call (.Name "list" p) [a] [] pos) (lList x) := by
  have hk0 : X.K = K := h.k
  subst hk0
  exact ⟨rfl, pe_callTy call_list_of hg hm (by decide +kernel) (pa1 h.h hs) (by decide +kernel) (by decide +kernel) hs (by rfl)⟩
theorem x_int {x : EX K} (hm : X.mg "int" = none) (h : pE K X a x) (hg : Gl X "int" := by rfl) (hs : starEach [a] X.env = [(false, eval a X.env)] := by rfl) : pE K X (.Call (.Name "int" p) [a] [] pos) (eInt x) := by
  have hk0 : X.K = K := h.k
  subst hk0
  exact ⟨rfl, pe_callTy call_int1 hg hm (by decide +kernel) (pa1 h.h hs) (by decide +kernel) (by decide +kernel) hs (by rfl)⟩
theorem pa2 {t u : TE} (h : PE X a t) (h2 : PE X b u) (hs : starEach [a, b] X.env = [(false, eval a X.env), (false, eval b X.env)]) (hs2 : starEach [b] X.env = [(false, eval b X.env)]) : PA X [a, b] (tCons t (tCons u tNil)) := pa_cons h (pa1 h2 hs2) (by rw [hs, hs2])
theorem x_max {x y : EX K} (hc : X.calm = true) (hm : X.mg "max" = none) (h : pE K X a x) (h2 : pE K X b y) (hg : Gl X "max" := by rfl) (hs : starEach [a, b] X.env = [(false, eval a X.env), (false, eval b X.env)] := by rfl) (hs2 : starEach [b] X.env = [(false, eval b X.env)] := by rfl) :
    pE K X (.Call (.Name "max" p) [a, b] [] pos) (eII (fun i j => if j > i then j else i) x y) := by
  have hk0 : X.K = K := h.k
  subst hk0
  exact ⟨rfl, pe_callB (call_max2 hc) hg hm (by decide +kernel) (pa2 h.h h2.h hs hs2) (by decide +kernel) (by decide +kernel) (by rw [hs, hs2]) (by rw [hs2]; rfl)⟩
theorem x_min {x y : EX K} (hc : X.calm = true) (hm : X.mg "min" = none) (h : pE K X a x) (h2 : pE K X b y) (hg : Gl X "min" := by rfl) (hs : starEach [a, b] X.env = [(false, eval a X.env), (false, eval b X.env)] := by rfl) (hs2 : starEach [b] X.env = [(false, eval b X.env)] := by rfl) :
    pE K X (.Call (.Name "min" p) [a, b] [] pos) (eII (fun i j => if j < i then j else i) x y) := by
  have hk0 : X.K = K := h.k
  subst hk0
  exact ⟨rfl, pe_callB (call_min2 hc) hg hm (by decide +kernel) (pa2 h.h h2.h hs hs2) (by decide +kernel) (by decide +kernel) (by rw [hs, hs2]) (by rw [hs2]; rfl)⟩
/-- isinstance(x, T) -/
theorem x_isi (T : String) {x : EX K} {n : Str} (hm : X.mg "isinstance" = none) (hT : X.mg n = none) (hv : bootBuiltins n = some (.type T)) (h : pE K X a x) (hg : Gl X "isinstance" := by rfl) (hgT : Gl X n := by rfl) (hn : n ≠ "__name__" := by decide +kernel)
    (hd : (n == ("__debug__" : Str)) = false := by decide +kernel) (hs : starEach [a, .Name n q] X.env = [(false, eval a X.env), (false, eval (.Name n q) X.env)] := by rfl) : pE K X (.Call (.Name "isinstance" p) [a, .Name n q] [] pos) (eIs T x) := by
  have hk0 : X.K = K := h.k
  subst hk0
  exact ⟨rfl, pe_callB call_isi hg hm (by decide +kernel) (pa_cons h.h (pa_cons (pe_bltn hgT hT hv (v := .ty T) rfl hn hd) pa_nil rfl) hs) (by decide +kernel) (by decide +kernel) hs (by rfl)⟩
theorem x_ixL {x : RX K} {y : EX K} (h : pR K X a x) (h2 : pE K X b y) (hs : PlainIx b := by intro _ _; rfl) : pE K X (.Subscript a b pos) (eIxL x y) := by
  have hk0 : X.K = K := h.k
  subst hk0
  exact ⟨rfl, pe_ix ix_list h.h h2.h hs⟩
theorem x_ix {x y : EX K} (h : pE K X a x) (h2 : pE K X b y) (hs : PlainIx b := by intro _ _; rfl) : pE K X (.Subscript a b pos) (eOp oIx x y) := by
  have hk0 : X.K = K := h.k
  subst hk0
  exact ⟨rfl, pe_ix ix_seq h.h h2.h hs⟩
/-! two lists compared, whoever owns them -/
def cmpL (neg : Bool) (a b : RX K) : EX K := ⟨tOp (if neg then rNeP K else rEqP K) a.t b.t, fun δ Q => a.w δ fun ds => b.w δ fun es => if neg then gNe (.lst ds) (.lst es) Q else gEq (.lst ds) (.lst es) Q, fun δ Q hw Z F0 F H σ ok Q' k => by
  refine a.ok δ _ hw Z F0 F H σ ok _ fun ds p vs F1 H1 n1 s1 l hw1 => ?_
  refine b.ok δ _ hw1 Z F0 F1 H1 σ (ok.next n1) _ fun es q us F2 H2 n2 s2 m hq => ?_
  have l2 := l.mono n2.f
  have dl : ∀ (ds : List D) (vs : List V) (r : Addr) (P : PyData), SqL K H2 r vs → IsL K F2 vs ds → pyD (.lst ds) = some P → Dp K H2 (.ref r) P := fun ds vs r P s l e => by
    simp only [pyD, Option.map_eq_some_iff] at e
    obtain ⟨ps, e1, rfl⟩ := e
    exact .lst s (dps_mono n2.s (dps_of ds vs ps l e1))
  cases neg with
  | true =>
    obtain ⟨P, P', e1, e2, h1, h2, hq⟩ := hq
    exact .inr ⟨P, P', dl _ _ _ _ (n2.h.seq s1) l2 e1, dl _ _ _ _ s2 m e2, h1, h2, k _ _ F2 H2 (n1.trans n2) (.bl _) hq⟩
  | false =>
    obtain ⟨P, P', e1, e2, h1, h2, hq⟩ := hq
    exact .inr ⟨P, P', dl _ _ _ _ (n2.h.seq s1) l2 e1, dl _ _ _ _ s2 m e2, h1, h2, k _ _ F2 H2 (n1.trans n2) (.bl _) hq⟩⟩
theorem x_eqR {k : Nat} (hr : Room k X.A) {x y : RX K} (ha : pR K X a x) (hb : pR K X b y) : pE K X (.Compare a [.Eq] [b] pos) (cmpL false x y) := by
  have hk0 : X.K = K := ha.k
  subst hk0
  exact ⟨rfl, pe_cmpR (op_eqP hr.units) ha.h hb.h (nomark _)⟩
theorem x_neR {k : Nat} (hr : Room k X.A) {x y : RX K} (ha : pR K X a x) (hb : pR K X b y) : pE K X (.Compare a [.NotEq] [b] pos) (cmpL true x y) := by
  have hk0 : X.K = K := ha.k
  subst hk0
  exact ⟨rfl, pe_cmpR (op_neP hr.units) ha.h hb.h (nomark _)⟩
theorem t_eqR {k : Nat} (hr : Room k X.A) {x y : RX K} (ha : pR K X a x) (hb : pR K X b y) : pT K X (.Compare a [.Eq] [b] pos) (tVal (cmpL false x y)) := by
  have hk0 : X.K = K := ha.k
  subst hk0
  exact ⟨rfl, pt_cmpR (op_eqP hr.units) ha.h hb.h (nomark _)⟩
theorem t_neR {k : Nat} (hr : Room k X.A) {x y : RX K} (ha : pR K X a x) (hb : pR K X b y) : pT K X (.Compare a [.NotEq] [b] pos) (tVal (cmpL true x y)) := by
  have hk0 : X.K = K := ha.k
  subst hk0
  exact ⟨rfl, pt_cmpR (op_neP hr.units) ha.h hb.h (nomark _)⟩
/-! attributes, calls -/
theorem x_fld {C : Addr} {f : Str} (hc : Cls K C) (hn : NoAttr K C f) {x : EX K} (h : pE K X a x) (hb : attributeBase a f X.env (eval a X.env) = eval a X.env := by rfl) : pE K X (.Attribute a f pos) (eFld C hc f hn x) := by
  have hk0 : X.K = K := h.k
  subst hk0
  exact ⟨rfl, pe_fld h.h hb⟩
theorem x_fldN (i : Nat) {C : Addr} {f n : Str} (hc : Cls K C) (hn : NoAttr K C f) (hN : X.N[i]? = some n := by rfl) (hv : Vis X.env.scope n := by first | exact Or.inl rfl | exact Or.inr (Or.inl rfl) | exact Or.inr (Or.inr rfl)) (hd : (n == ("__debug__" : Str)) = false := by decide +kernel)
    (hcd : (n == ("__classdict__" : Str)) = false := by decide +kernel) (hb : attributeBase (.Name n q) f X.env (eval (.Name n q) X.env) = eval (.Name n q) X.env := by rfl) (hk : X.K = K := by rfl) : pE K X (.Attribute (.Name n q) f pos) (eFldN C hc f hn i) := by
  have hk0 : X.K = K := hk
  subst hk0
  exact ⟨rfl, pe_fld (pe_var hN hv hd hcd) hb⟩
theorem x_call {x : Str} {f : Addr} {fd : FuncData} {ps : List Str} {k : Nat} {R : FSp} {y : AX K} {e : Expr} (F : FnOk X.prog X.w K X.mg X.base CX0 k f fd ps (spOf K R)) (hr : Room k X.A) (hm : X.mg x = some (.ref f)) (hk : PySem.W.keepIn K (.ref f) = true) (hb : Binds K fd ps [])
    (h : pA K X (e :: es) y) (hg : Gl X x := by rfl) (hd : (x == ("__debug__" : Str)) = false := by decide +kernel) (hst : starEach (e :: es) X.env = (false, eval e X.env) :: starEach es X.env := by rfl) (hpl : (backTo pos (starEach es X.env)).any (·.1) = false := by rfl) : pE K X (.Call (.Name x p) (e :: es) [] pos) (eCall R y) := by
  have hk0 : X.K = K := h.k
  subst hk0
  exact ⟨rfl, pe_call F hr hg hm hk hb .nil pass0 h.h (hdb := hd) (he := hst) (hpl := hpl)⟩
theorem x_make {x : Str} {f C : Addr} {fd : FuncData} {ps : List Str} {k : Nat} {R : ISp} {y : AX K} {e : Expr} (M : Mk K C f) (F : FnOk X.prog X.w K X.mg X.base CX0 k f fd ps (spInit K C R)) (hr : Room (k + 1) X.A) (hm : X.mg x = some (.ref C)) (hb : Binds K fd ps [])
    (h : pA K X (e :: es) y) (hg : Gl X x := by rfl) (hd : (x == ("__debug__" : Str)) = false := by decide +kernel) (hst : starEach (e :: es) X.env = (false, eval e X.env) :: starEach es X.env := by rfl) (hpl : (backTo pos (starEach es X.env)).any (·.1) = false := by rfl) : pE K X (.Call (.Name x p) (e :: es) [] pos) (lMake C R y) := by
  have hk0 : X.K = K := h.k
  subst hk0
  exact ⟨rfl, pe_make M F hr hg hm hb .nil pass0 h.h (hdb := hd) (he := hst) (hpl := hpl)⟩
/-! targets, walks -/
theorem g_n (i : Nat) {x : Str} (hN : X.N.Nodup) (hi : X.N[i]? = some x := by rfl) (hx : Loc X.env.scope x := by first | exact Or.inl rfl | exact Or.inr rfl) (hf : X.fn x = true ∨ X.env.scope.names.lookup x = some .local := by first | exact .inl rfl | exact .inr rfl | assumption) (hk : X.K = K := by rfl) : pG K X (.Name x pos) (gNm i) := by
  have hk0 : X.K = K := hk
  subst hk0
  exact ⟨rfl, pg_name hN hi hx hf⟩
theorem g_nil (hk : X.K = K := by rfl) : pGs K X [] gsNil := by
  have hk0 : X.K = K := hk
  subst hk0
  exact ⟨rfl, pgs_nil⟩
theorem g_cons {x : GX K} {y : GsX K} (h : pG K X a x) (r : pGs K X es y) (hs : (assignEach (a :: es) X.env).map (·.2) = assign a X.env :: (assignEach es X.env).map (·.2) := by rfl) : pGs K X (a :: es) (gsCons x y) := by
  have hk0 : X.K = K := h.k
  subst hk0
  exact ⟨rfl, pgs_cons h.h r.h hs⟩
theorem g_tup {n k : Nat} {x : GsX K} (hc : X.calm = true) (h : pGs K X es x) (hn : (assignEach es X.env).length = n := by rfl) (hst : (assignEach es X.env).findIdx? (·.1) = none := by rfl) : pG K X (.Tuple es k pos) (gTp n x) := by
  have hk0 : X.K = K := h.k
  subst hk0
  exact ⟨rfl, pg_tup hc h.h hn hst⟩
theorem i_e {tg : Expr} {x : EX K} (h : pE K X a x) : pI K X tg a (iE x) := by
  have hk0 : X.K = K := h.k
  subst hk0
  exact ⟨rfl, pi_list h.h⟩
theorem i_r {tg : Expr} {x : RX K} (h : pR K X a x) : pI K X tg a (iR x) := by
  have hk0 : X.K = K := h.k
  subst hk0
  exact ⟨rfl, pi_list h.h⟩
theorem i_bor (i : Nat) {tg : Expr} {x : Str} (hN : X.N[i]? = some x := by rfl) (hv : Vis X.env.scope x := by first | exact Or.inl rfl | exact Or.inr (Or.inl rfl) | exact Or.inr (Or.inr rfl)) (hd : (x == ("__debug__" : Str)) = false := by decide +kernel)
    (hcd : (x == ("__classdict__" : Str)) = false := by decide +kernel) (hk : X.K = K := by rfl) : pI K X tg (.Name x pos) (iBor i) := by
  have hk0 : X.K = K := hk
  subst hk0
  exact ⟨rfl, pi_list (pe_var hN hv hd hcd)⟩
theorem i_rg1 {tg : Expr} {x : EX K} (hm : X.mg "range" = none) (h : pE K X a x) (hg : Gl X "range" := by rfl) (hs : starEach [a] X.env = [(false, eval a X.env)] := by rfl) : pI K X tg (.Call (.Name "range" p) [a] [] pos) (iRg1 x) := by
  have hk0 : X.K = K := h.k
  subst hk0
  exact ⟨rfl, pi_range1 hg hm (pa1 h.h hs) hs⟩
theorem i_rg2 {tg : Expr} {x y : EX K} (hm : X.mg "range" = none) (h : pE K X a x) (h2 : pE K X b y) (hg : Gl X "range" := by rfl) (hs : starEach [a, b] X.env = [(false, eval a X.env), (false, eval b X.env)] := by rfl) (hs2 : starEach [b] X.env = [(false, eval b X.env)] := by rfl) :
    pI K X tg (.Call (.Name "range" p) [a, b] [] pos) (iRg2 x y) := by
  have hk0 : X.K = K := h.k
  subst hk0
  exact ⟨rfl, pi_range2 hg hm (pa2 h.h h2.h hs hs2) hs hs2⟩
/-! comprehensions -/
theorem l_comp {elt tg iter : Expr} {ifs : List Expr} {scope : Scope} {own : List (Str × Nat)} {it : IX K} {g : GX K} {tt : TX K} {e : EX K} (hc : X.calm = true) (hN : X.N.Nodup) (ok : BlkOk X.N X.env.scope scope own) (hi : pI K X tg iter it)
    (hg : ∀ (s : Shared) (H : Hp) (C : Addr) (cl : List (Str × Addr)) (fp : List Addr), pG K (X.blk s H scope (compEnvC scope cl C X.env) fp) tg g)
    (ht : ∀ (s : Shared) (H : Hp) (C : Addr) (cl : List (Str × Addr)) (fp : List Addr), PTs (X.blk s H scope (compEnvC scope cl C X.env) fp) ifs tt.t)
    (he : ∀ (s : Shared) (H : Hp) (C : Addr) (cl : List (Str × Addr)) (fp : List Addr), pE K (X.blk s H scope (compEnvC scope cl C X.env) fp) elt e) (hf : ∀ x, foldedSetIterable iter X.env x = pure x) :
    pL K X (.ListComp elt [⟨tg, iter, ifs, 0⟩] scope pos) (lComp it g tt e (own.map (·.2))) := by
  have hk0 : X.K = K := hi.k
  subst hk0
  exact ⟨rfl, pe_lc hc hN hi.h ok (fun s H C cl fp => (hg s H C cl fp).h) ht (fun s H C cl fp => (he s H C cl fp).h) hf⟩
theorem l_comp0 {elt tg iter : Expr} {scope : Scope} {own : List (Str × Nat)} {it : IX K} {g : GX K} {e : EX K} (hc : X.calm = true) (hN : X.N.Nodup) (ok : BlkOk X.N X.env.scope scope own) (hi : pI K X tg iter it)
    (hg : ∀ (s : Shared) (H : Hp) (C : Addr) (cl : List (Str × Addr)) (fp : List Addr), pG K (X.blk s H scope (compEnvC scope cl C X.env) fp) tg g)
    (he : ∀ (s : Shared) (H : Hp) (C : Addr) (cl : List (Str × Addr)) (fp : List Addr), pE K (X.blk s H scope (compEnvC scope cl C X.env) fp) elt e) (hf : ∀ x, foldedSetIterable iter X.env x = pure x) :
    pL K X (.ListComp elt [⟨tg, iter, [], 0⟩] scope pos) (lComp0 it g e (own.map (·.2))) := by
  have hk0 : X.K = K := hi.k
  subst hk0
  exact ⟨rfl, pe_lc hc hN hi.h ok (fun s H C cl fp => (hg s H C cl fp).h) (fun _ _ _ _ _ => pts_nil) (fun s H C cl fp => (he s H C cl fp).h) hf⟩
/-! statements -/
variable {st : Stmt} {sts : List Stmt}
theorem b_nil (hk : X.K = K := by rfl) : pB K X [] sNext := by
  have hk0 : X.K = K := hk
  subst hk0
  exact ⟨rfl, pss_nil⟩
theorem b_one {x : SX K} (h : pS K X st x) : pB K X [st] x := by
  have hk0 : X.K = K := h.k
  subst hk0
  exact ⟨rfl, pss_one h.h⟩
theorem b_cons {x y : SX K} (h : pS K X st x) (r : pB K X sts y) : pB K X (st :: sts) (sSeq x y) := by
  have hk0 : X.K = K := h.k
  subst hk0
  exact ⟨rfl, show PSs X (st :: sts) (tSeq x.t y.t) from pss_cons h.h r.h⟩
theorem b_join {x y : SX K} (h : pS K X st x) (r : pB K X sts y) : pB K X (st :: sts) (sJ x y) := by
  have hk0 : X.K = K := h.k
  subst hk0
  exact ⟨rfl, show PSs X (st :: sts) (tSeq x.t y.t) from pss_cons h.h r.h⟩
theorem b_frz (i : Nat) {x : SX K} (h : pB K X sts x) : pB K X sts (sFrz i x) := by
  have hk0 : X.K = K := h.k
  subst hk0
  exact ⟨rfl, h.h⟩
theorem s_set (i : Nat) {x : Str} {e : EX K} (hN : X.N.Nodup) (he : pE K X a e) (hi : X.N[i]? = some x := by rfl) (hx : Loc X.env.scope x := by first | exact Or.inl rfl | exact Or.inr rfl) (hs : swapsWith a (some (.Name x p)) pos.line X.env = pure false := by rfl)
    (hf : X.fn x = true ∨ X.env.scope.names.lookup x = some .local := by first | exact .inl rfl | exact .inr rfl | assumption) : pS K X (.Assign [.Name x p] a pos) (sSet (gNm i) e) := by
  have hk0 : X.K = K := he.k
  subst hk0
  exact ⟨rfl, ps_set hN hi hx he.h hs hf⟩
theorem s_setL (i : Nat) {x : Str} {e : LX K} (hN : X.N.Nodup) (he : pL K X a e) (hi : X.N[i]? = some x := by rfl) (hx : Loc X.env.scope x := by first | exact Or.inl rfl | exact Or.inr rfl) (hs : swapsWith a (some (.Name x p)) pos.line X.env = pure false := by rfl)
    (hf : X.fn x = true ∨ X.env.scope.names.lookup x = some .local := by first | exact .inl rfl | exact .inr rfl | assumption) : pS K X (.Assign [.Name x p] a pos) (sSetL i e) := by
  have hk0 : X.K = K := he.k
  subst hk0
  exact ⟨rfl, ps_set hN hi hx he.h hs hf⟩
theorem s_asg {tg : Expr} {g : GX K} {e : EX K} (he : pE K X a e) (hg : pG K X tg g) (hs : swapsWithSole [tg] a pos.line X.env = pure false := by rfl) (hw : swappedStores [tg] a X.env = pure none := by rfl)
    (h1 : (assignEach [tg] X.env).map (·.2) = [assign tg X.env] := by rfl) : pS K X (.Assign [tg] a pos) (sSet g e) := by
  have hk0 : X.K = K := he.k
  subst hk0
  exact ⟨rfl, ps_asg he.h hg.h hs hw h1⟩
theorem s_comp (i : Nat) {y : Str} {elt tg iter : Expr} {ifs : List Expr} {scope : Scope} {own : List (Str × Nat)} {spos : Pos} {it : IX K} {g : GX K} {tt : TX K} {e : EX K} (hc : X.calm = true) (hN : X.N.Nodup)
    (hsw : swapsWith (.ListComp elt [⟨tg, iter, ifs, 0⟩] scope pos) (some (.Name y p)) spos.line X.env = pure true) (ok : BlkOk X.N X.env.scope scope own) (hi : pI K X tg iter it)
    (hg : ∀ (s : Shared) (H : Hp) (C : Addr) (cl : List (Str × Addr)) (fp : List Addr), pG K (X.blk s H scope (compEnvC scope cl C X.env) fp) tg g)
    (ht : ∀ (s : Shared) (H : Hp) (C : Addr) (cl : List (Str × Addr)) (fp : List Addr), PTs (X.blk s H scope (compEnvC scope cl C X.env) fp) ifs tt.t)
    (he : ∀ (s : Shared) (H : Hp) (C : Addr) (cl : List (Str × Addr)) (fp : List Addr), pE K (X.blk s H scope (compEnvC scope cl C X.env) fp) elt e) (hy : X.N[i]? = some y) (hyl : X.env.scope.names.lookup y = some .local) (hf : ∀ x, foldedSetIterable iter X.env x = pure x) :
    pS K X (.Assign [.Name y p] (.ListComp elt [⟨tg, iter, ifs, 0⟩] scope pos) spos) (sSetL i (lComp it g tt e (own.map (·.2)))) := by
  have hk0 : X.K = K := hi.k
  subst hk0
  exact ⟨rfl, ps_setLc hc hN hy hyl hsw hi.h ok (fun s H C cl fp => (hg s H C cl fp).h) ht (fun s H C cl fp => (he s H C cl fp).h) hf⟩
theorem s_comp0 (i : Nat) {y : Str} {elt tg iter : Expr} {scope : Scope} {own : List (Str × Nat)} {spos : Pos} {it : IX K} {g : GX K} {e : EX K} (hc : X.calm = true) (hN : X.N.Nodup)
    (hsw : swapsWith (.ListComp elt [⟨tg, iter, [], 0⟩] scope pos) (some (.Name y p)) spos.line X.env = pure true) (ok : BlkOk X.N X.env.scope scope own) (hi : pI K X tg iter it)
    (hg : ∀ (s : Shared) (H : Hp) (C : Addr) (cl : List (Str × Addr)) (fp : List Addr), pG K (X.blk s H scope (compEnvC scope cl C X.env) fp) tg g)
    (he : ∀ (s : Shared) (H : Hp) (C : Addr) (cl : List (Str × Addr)) (fp : List Addr), pE K (X.blk s H scope (compEnvC scope cl C X.env) fp) elt e) (hy : X.N[i]? = some y) (hyl : X.env.scope.names.lookup y = some .local) (hf : ∀ x, foldedSetIterable iter X.env x = pure x) :
    pS K X (.Assign [.Name y p] (.ListComp elt [⟨tg, iter, [], 0⟩] scope pos) spos) (sSetL i (lComp0 it g e (own.map (·.2)))) := by
  have hk0 : X.K = K := hi.k
  subst hk0
  exact ⟨rfl, ps_setLc hc hN hy hyl hsw hi.h ok (fun s H C cl fp => (hg s H C cl fp).h) (fun _ _ _ _ _ => pts_nil) (fun s H C cl fp => (he s H C cl fp).h) hf⟩
theorem s_fld (i : Nat) {C : Addr} {f n : Str} {e : EX K} (hc : Cls K C) (hn : NoAttr K C f) (he : pE K X a e) (hN : X.N[i]? = some n := by rfl) (hv : Vis X.env.scope n := by first | exact Or.inl rfl | exact Or.inr (Or.inl rfl)) (hd : (n == ("__debug__" : Str)) = false := by decide +kernel)
    (hcd : (n == ("__classdict__" : Str)) = false := by decide +kernel) (hs : swapsWith a (some (.Attribute (.Name n q) f p)) pos.line X.env = pure false := by rfl) : pS K X (.Assign [.Attribute (.Name n q) f p] a pos) (sFld' C hc f hn i e) := by
  have hk0 : X.K = K := he.k
  subst hk0
  exact ⟨rfl, ps_fld (pe_var hN hv hd hcd) he.h hs⟩
theorem s_ret {e : EX K} (he : pE K X a e) : pS K X (.Return (some a) pos) (sRet e) := by
  have hk0 : X.K = K := he.k
  subst hk0
  exact ⟨rfl, ps_ret he.h⟩
theorem s_retN (hk : X.K = K := by rfl) : pS K X (.Return none pos) sRetN := by
  have hk0 : X.K = K := hk
  subst hk0
  exact ⟨rfl, ps_retN⟩
theorem s_if {t : TX K} {x y : SX K} {as bs : List Stmt} (ht : pT K X c t) (ha : pB K X as x) (hb : pB K X bs y) : pS K X (.If c as bs pos) (sIf t x y) := by
  have hk0 : X.K = K := ht.k
  subst hk0
  exact ⟨rfl, ps_if ht.h ha.h hb.h⟩
theorem s_drop {e : EX K} (he : pE K X a e) (hs : swapsWith a none pos.line X.env = pure false := by rfl) : pS K X (.Expr a pos) (sDrop e) := by
  have hk0 : X.K = K := he.k
  subst hk0
  exact ⟨rfl, ps_expr he.h hs⟩
theorem s_app (i : Nat) {x : Str} {e : EX K} {apos cpos : Pos} (he : pE K X a e) (hN : X.N[i]? = some x := by rfl) (hv : Vis X.env.scope x := by first | exact Or.inl rfl | exact Or.inr (Or.inl rfl)) (hd : (x == ("__debug__" : Str)) = false := by decide +kernel)
    (hcd : (x == ("__classdict__" : Str)) = false := by decide +kernel) (hbase : attributeBase (.Name x q) "append" X.env (eval (.Name x q) X.env) = eval (.Name x q) X.env := by rfl)
    (hfew : ((backTo cpos (starEach [a] X.env)).all (fun x => !x.1) && (backToKw cpos (keywordEach [] X.env)).all (fun x => x.1.isSome) && decide (([a] : List Expr).length + ([] : List Keyword).length + (if ([] : List Keyword).isEmpty then 0 else 1) < 30)) = true := by rfl)
    (hline : (apos.endLine == cpos.line) = true := by rfl) (hs : starEach [a] X.env = [(false, eval a X.env)] := by rfl) (hsw : swapsWith (.Call (.Attribute (.Name x q) "append" apos) [a] [] cpos) none pos.line X.env = pure false := by rfl) :
    pS K X (.Expr (.Call (.Attribute (.Name x q) "append" apos) [a] [] cpos) pos) (sApp i e) := by
  have hk0 : X.K = K := he.k
  subst hk0
  exact ⟨rfl, ps_expr (pe_bm PySem.F.plainAttrs_list PySem.F.slot_list_append PySem.F.type_list_append mt_append (pe_var hN hv hd hcd) (pa1 he.h hs) hbase hfew hline hs (by rfl)) hsw⟩
theorem s_augadd (i : Nat) {x : Str} {e : EX K} (hN : X.N.Nodup) (he : pE K X a e) (hi : X.N[i]? = some x := by rfl) (hx : Loc X.env.scope x := by first | exact Or.inl rfl | exact Or.inr rfl) (hf : X.fn x = true ∨ X.env.scope.names.lookup x = some .local := by first | exact .inl rfl | exact .inr rfl | assumption) :
    pS K X (.AugAssign (.Name x p) .Add a pos) (sAug i (fun i j => i + j) e) := by
  have hk0 : X.K = K := he.k
  subst hk0
  exact ⟨rfl, ps_aug hN hi hx he.h ip_add hf⟩
theorem s_for {tg iter : Expr} {body : List Stmt} {it : IX K} {g : GX K} {s : SX K} (hb : it.b = false) (hp : PassesOwn (model X.prog X.w) X.A X.env X.xe) (hc : X.calm = true) (hi : pI K X tg iter it) (hg : pG K X tg g) (hs : pB K X body s) (hf : ∀ x, foldedSetIterable iter X.env x = pure x := by intro _; rfl) :
    pS K X (.For tg iter body [] pos) (sFor it g s hb) := by
  have hk0 : X.K = K := hi.k
  subst hk0
  exact ⟨rfl, ps_for hp hc hi.h hg.h hs.h hf⟩
theorem s_while {t : TX K} {body : List Stmt} {s : SX K} (hp : PassesOwn (model X.prog X.w) X.A X.env X.xe) (ht : pT K X c t) (hs : pB K X body s) : pS K X (.While c body [] pos) (sWhile t s) := by
  have hk0 : X.K = K := ht.k
  subst hk0
  exact ⟨rfl, ps_while hp ht.h hs.h⟩
theorem s_brk (hk : X.K = K := by rfl) : pS K X (.Break pos) sBrk := by
  have hk0 : X.K = K := hk
  subst hk0
  exact ⟨rfl, ps_break⟩
theorem s_cnt (hk : X.K = K := by rfl) : pS K X (.Continue pos) sCnt := by
  have hk0 : X.K = K := hk
  subst hk0
  exact ⟨rfl, ps_continue⟩
theorem s_pass (hk : X.K = K := by rfl) : pS K X (.Pass pos) sNext := by
  have hk0 : X.K = K := hk
  subst hk0
  exact ⟨rfl, ps_pass⟩
end
end PL
namespace PL
open PySem PySem.Spec PyProof.Rows L2
/-! ### what a caller is told of a def, a class, a method, a property -/
section
variable (P : Program) (w : World) (K : PySem.W.Frag) (mg : Str → Option Value) (base : Heap)
def Cal (x : Str) (k : Nat) (ps : List Str) (R : FSp) : Prop := ∃ f fd, FnOk P w K mg base CX0 k f fd ps (spOf K R) ∧ mg x = some (.ref f) ∧ PySem.W.keepIn K (.ref f) = true ∧ Binds K fd ps []
def Mak (x : Str) (C : Addr) (k : Nat) (ps : List Str) (R : ISp) : Prop := ∃ f fd, Mk K C f ∧ FnOk P w K mg base CX0 k f fd ps (spInit K C R) ∧ mg x = some (.ref C) ∧ Binds K fd ps []
def Met (C : Addr) (m : Str) (k : Nat) (ps : List Str) (R : FSp) : Prop := ∃ f fd, Meth K C m f ∧ FnOk P w K mg base CX0 k f fd ps (spOf K R) ∧ Binds K fd ps []
def Prp (C : Addr) (m : Str) (k : Nat) (R : FSp) : Prop := ∃ p f fd, PropOf K C m p f ∧ FnOk P w K mg base CX0 k f fd ["self"] (spOf K R) ∧ Binds K fd ["self"] []
end
section
variable {K : PySem.W.Frag} {X : Cx} {a b c : Expr} {es : List Expr} {pos p q : Pos}
theorem x_cal {x : Str} {ps : List Str} {j k : Nat} {R : FSp} {y : AX K} {e : Expr} (c : Cal X.prog X.w K X.mg X.base x k ps R) (hr : Room j X.A) (h : pA K X (e :: es) y) (hjk : k ≤ j := by decide) (hg : Gl X x := by rfl) (hd : (x == ("__debug__" : Str)) = false := by decide +kernel)
    (hst : starEach (e :: es) X.env = (false, eval e X.env) :: starEach es X.env := by rfl) (hpl : (backTo pos (starEach es X.env)).any (·.1) = false := by rfl) : pE K X (.Call (.Name x p) (e :: es) [] pos) (eCall R y) := by
  obtain ⟨f, fd, F, m, kp, b⟩ := c
  exact x_call F (hr.mono hjk) m kp b h hg hd hst hpl
theorem x_mak {x : Str} {C : Addr} {ps : List Str} {j k : Nat} {R : ISp} {y : AX K} {e : Expr} (c : Mak X.prog X.w K X.mg X.base x C k ps R) (hr : Room j X.A) (h : pA K X (e :: es) y) (hjk : k + 1 ≤ j := by decide) (hg : Gl X x := by rfl) (hd : (x == ("__debug__" : Str)) = false := by decide +kernel)
    (hst : starEach (e :: es) X.env = (false, eval e X.env) :: starEach es X.env := by rfl) (hpl : (backTo pos (starEach es X.env)).any (·.1) = false := by rfl) : pE K X (.Call (.Name x p) (e :: es) [] pos) (lMake C R y) := by
  obtain ⟨f, fd, M, F, m, b⟩ := c
  exact x_make M F (hr.mono hjk) m b h hg hd hst hpl
theorem x_prp {C : Addr} {m : Str} {j k : Nat} {R : FSp} {x : EX K} (c : Prp X.prog X.w K X.mg X.base C m k R) (hc : Cls K C) (hr : Room j X.A) (h : pE K X a x) (hjk : k + 1 ≤ j := by decide) (hab : attributeBase a m X.env (eval a X.env) = eval a X.env := by rfl) : pE K X (.Attribute a m pos) (eProp C R x) := by
  have hk0 : X.K = K := h.k
  subst hk0
  obtain ⟨p, f, fd, pr, F, b⟩ := c
  exact ⟨rfl, pe_prop h.h hc pr F (hr.mono hjk) b .nil pass0 hab⟩
end
section
variable {P : Program} {w : World} {K : PySem.W.Frag} {mg : Str → Option Value} {base : Heap}
theorem Cal.mk {x qual : Str} {st : Stmt} {f : Addr} {fd : FuncData} {k : Nat} {ps : List Str} {R : FSp} (Fn : Fun K x qual st f fd) (F : FnOk P w K mg base CX0 k f fd ps (spOf K R)) (m : mg x = some (.ref f)) (b : Binds K fd ps []) : Cal P w K mg base x k ps R := ⟨f, fd, F, m, Fn.kp, b⟩
end
/-! lemmas on data -/
theorem at_int {ns : List Int} {i : Int} (h0 : 0 ≤ i) (h : i < ns.length) : atI (ns.map D.int) i = some (.int (ns.getD i.toNat 0)) := by
  obtain ⟨j, rfl⟩ : ∃ j : Nat, i = (j : Int) := ⟨i.toNat, by omega⟩
  refine atI_nat ?_
  have hj : j < ns.length := by omega
  rw [List.getElem?_map, List.getElem?_eq_getElem hj]
  simp [List.getElem?_eq_getElem hj]
theorem at_map {α : Type} (g : α → D) {xs : List α} {i : Int} {x : α} (h0 : 0 ≤ i) (h : xs[i.toNat]? = some x) : atI (xs.map g) i = some (g x) := by
  obtain ⟨j, rfl⟩ : ∃ j : Nat, i = (j : Int) := ⟨i.toNat, by omega⟩
  refine atI_nat ?_
  rw [List.getElem?_map]
  rw [show ((j : Int)).toNat = j by omega] at h
  rw [h]
  rfl
theorem map_snoc {α β : Type} (g : α → β) (xs : List α) (x : α) : xs.map g ++ [g x] = (xs ++ [x]).map g := by simp
/-! plain data: == is equality -/
def pl : Nat → D → Bool
  | _, .non => true
  | _, .int _ => true
  | _, .str s => PyData.strOk s
  | n + 1, .tup ds => ds.all (pl n)
  | n + 1, .lst ds => ds.all (pl n)
  | _, _ => false
theorem plL_py {n : Nat} (ih : ∀ d, pl n d = true → ∃ p, pyD d = some p ∧ p.canLay0 = true ∧ p.depth ≤ n) : ∀ ds : List D, ds.all (pl n) = true → ∃ ps, pyD.pyL ds = some ps ∧ PyData.canLayAll0 ps = true ∧ PyData.depthAll ps ≤ n
  | [], _ => ⟨[], rfl, rfl, Nat.zero_le _⟩
  | d :: ds, h => by
    simp only [List.all_cons, Bool.and_eq_true] at h
    obtain ⟨p, e1, c1, d1⟩ := ih d h.1
    obtain ⟨ps, e2, c2, d2⟩ := plL_py ih ds h.2
    refine ⟨p :: ps, ?_, ?_, ?_⟩
    · show (pyD d).bind _ = _
      rw [e1]
      show (pyD.pyL ds).map _ = _
      rw [e2]
      rfl
    · simp [PyData.canLayAll0, c1, c2]
    · simp [PyData.depthAll]
      omega
theorem pl_py : ∀ (n : Nat) (d : D), pl n d = true → ∃ p, pyD d = some p ∧ p.canLay0 = true ∧ p.depth ≤ n
  | _, .non, _ => ⟨.none, rfl, rfl, Nat.zero_le _⟩
  | _, .int i, _ => ⟨.int i, rfl, rfl, Nat.zero_le _⟩
  | n, .str s, h => ⟨.str s, rfl, by cases n <;> exact h, Nat.zero_le _⟩
  | n, .bl b, h => by cases n <;> cases h
  | n, .ref b, h => by cases n <;> cases h
  | n, .ins _ _, h => by cases n <;> cases h
  | n, .ktp _, h => by cases n <;> cases h
  | n, .err _ _ _, h => by cases n <;> cases h
  | 0, .tup _, h => by cases h
  | 0, .lst _, h => by cases h
  | n + 1, .tup ds, h => by
    obtain ⟨ps, e, c, l⟩ := plL_py (pl_py n) ds h
    exact ⟨.tuple ps, by show (pyD.pyL ds).map _ = _; rw [e]; rfl, c, by simp [PyData.depth]; omega⟩
  | n + 1, .lst ds, h => by
    obtain ⟨ps, e, c, l⟩ := plL_py (pl_py n) ds h
    exact ⟨.list ps, by show (pyD.pyL ds).map _ = _; rw [e]; rfl, c, by simp [PyData.depth]; omega⟩
theorem plL_eqv {n : Nat} (ih : ∀ d e p q, pl n d = true → pl n e = true → pyD d = some p → pyD e = some q → (PyData.eqv p q = true ↔ d = e)) : ∀ ds es : List D, ∀ ps qs, ds.all (pl n) = true → es.all (pl n) = true → pyD.pyL ds = some ps → pyD.pyL es = some qs → (PyData.eqvAll ps qs = true ↔ ds = es)
  | [], [], ps, qs, _, _, e1, e2 => by
    cases e1
    cases e2
    simp [PyData.eqvAll]
  | [], d :: ds, ps, qs, _, h2, e1, e2 => by
    cases e1
    simp only [pyD.pyL, Option.bind_eq_some_iff, Option.map_eq_some_iff] at e2
    obtain ⟨x, _, xs, _, rfl⟩ := e2
    simp [PyData.eqvAll]
  | d :: ds, [], ps, qs, _, h2, e1, e2 => by
    cases e2
    simp only [pyD.pyL, Option.bind_eq_some_iff, Option.map_eq_some_iff] at e1
    obtain ⟨x, _, xs, _, rfl⟩ := e1
    simp [PyData.eqvAll]
  | d :: ds, e :: es, ps, qs, h1, h2, e1, e2 => by
    simp only [pyD.pyL, Option.bind_eq_some_iff, Option.map_eq_some_iff] at e1 e2
    obtain ⟨x, a1, xs, a2, rfl⟩ := e1
    obtain ⟨y, b1, ys, b2, rfl⟩ := e2
    simp only [List.all_cons, Bool.and_eq_true] at h1 h2
    simp only [PyData.eqvAll, Bool.and_eq_true, List.cons.injEq]
    rw [ih d e x y h1.1 h2.1 a1 b1, plL_eqv ih ds es xs ys h1.2 h2.2 a2 b2]
theorem pl_eqv : ∀ (n : Nat) (d e : D) (p q : PyData), pl n d = true → pl n e = true → pyD d = some p → pyD e = some q → (PyData.eqv p q = true ↔ d = e) := by
  intro n
  induction n with
  | zero =>
    intro d e p q h1 h2 e1 e2
    cases d <;> cases e <;> first | (cases h1; done) | (cases h2; done) | (cases e1; cases e2; simp [PyData.eqv])
  | succ n ih =>
    intro d e p q h1 h2 e1 e2
    have lL : ∀ ds es ps qs, ds.all (pl n) = true → es.all (pl n) = true → pyD.pyL ds = some ps → pyD.pyL es = some qs → (PyData.eqvAll ps qs = true ↔ ds = es) := plL_eqv ih
    have tl : ∀ ds, pyD (.lst ds) = (pyD.pyL ds).map PyData.list := fun _ => rfl
    have tt : ∀ ds, pyD (.tup ds) = (pyD.pyL ds).map PyData.tuple := fun _ => rfl
    cases d <;> cases e <;> first
      | (cases h1; done)
      | (cases h2; done)
      | (cases e1; cases e2; simp [PyData.eqv]; done)
      | (rw [tl] at e1; rw [tl] at e2; obtain ⟨x, a, rfl⟩ := Option.map_eq_some_iff.mp e1; obtain ⟨y, b, rfl⟩ := Option.map_eq_some_iff.mp e2; rw [PyData.eqv, lL _ _ _ _ h1 h2 a b]; simp; done)
      | (rw [tt] at e1; rw [tt] at e2; obtain ⟨x, a, rfl⟩ := Option.map_eq_some_iff.mp e1; obtain ⟨y, b, rfl⟩ := Option.map_eq_some_iff.mp e2; rw [PyData.eqv, lL _ _ _ _ h1 h2 a b]; simp; done)
      | (rw [tt] at e1; rw [tl] at e2; obtain ⟨x, a, rfl⟩ := Option.map_eq_some_iff.mp e1; obtain ⟨y, b, rfl⟩ := Option.map_eq_some_iff.mp e2; simp [PyData.eqv]; done)
      | (rw [tl] at e1; rw [tt] at e2; obtain ⟨x, a, rfl⟩ := Option.map_eq_some_iff.mp e1; obtain ⟨y, b, rfl⟩ := Option.map_eq_some_iff.mp e2; simp [PyData.eqv]; done)
      | (rw [tl] at e1; obtain ⟨x, a, rfl⟩ := Option.map_eq_some_iff.mp e1; cases e2; simp [PyData.eqv]; done)
      | (rw [tt] at e1; obtain ⟨x, a, rfl⟩ := Option.map_eq_some_iff.mp e1; cases e2; simp [PyData.eqv]; done)
      | (rw [tl] at e2; obtain ⟨x, a, rfl⟩ := Option.map_eq_some_iff.mp e2; cases e1; simp [PyData.eqv]; done)
      | (rw [tt] at e2; obtain ⟨x, a, rfl⟩ := Option.map_eq_some_iff.mp e2; cases e1; simp [PyData.eqv]; done)
theorem gEq_pl {d e : D} {Q : D → Prop} (h1 : pl 8 d = true) (h2 : pl 8 e = true) (k : ∀ b : Bool, (b = true ↔ d = e) → Q (.bl b)) : gEq d e Q := by
  obtain ⟨p, e1, c1, d1⟩ := pl_py 8 d h1
  obtain ⟨q, e2, c2, d2⟩ := pl_py 8 e h2
  exact ⟨p, q, e1, e2, by simp [SeqAt.shaped, c1]; omega, by simp [SeqAt.shaped, c2]; omega, k _ (pl_eqv 8 d e p q h1 h2 e1 e2)⟩
theorem gNe_pl {d e : D} {Q : D → Prop} (h1 : pl 8 d = true) (h2 : pl 8 e = true) (k : ∀ b : Bool, (b = true ↔ d ≠ e) → Q (.bl b)) : gNe d e Q := by
  obtain ⟨p, e1, c1, d1⟩ := pl_py 8 d h1
  obtain ⟨q, e2, c2, d2⟩ := pl_py 8 e h2
  refine ⟨p, q, e1, e2, by simp [SeqAt.shaped, c1]; omega, by simp [SeqAt.shaped, c2]; omega, k _ ?_⟩
  have := pl_eqv 8 d e p q h1 h2 e1 e2
  cases h : PyData.eqv p q with
  | true => simp [this.mp h]
  | false =>
    simp
    intro z
    rw [this.mpr z] at h
    cases h
theorem gEq_same {d : D} {Q : D → Prop} (h1 : pl 8 d = true) (k : Q (.bl true)) : gEq d d Q := gEq_pl h1 h1 fun b hb => by rw [hb.mpr rfl]; exact k
theorem gNe_same {d : D} {Q : D → Prop} (h1 : pl 8 d = true) (k : Q (.bl false)) : gNe d d Q := gNe_pl h1 h1 fun b hb => by
  cases b with
  | true => exact absurd rfl (hb.mp rfl)
  | false => exact k
theorem gEqS_same {d : D} {Q : D → Prop} (h1 : pl 8 d = true) (k : Q (.bl true)) : gEqS d d Q := by
  unfold gEqS
  split
  · rw [decide_eq_true rfl]
    exact k
  · rw [decide_eq_true rfl]
    exact k
  · rw [decide_eq_true rfl]
    exact k
  · exact gEq_same h1 k
theorem gNeS_same {d : D} {Q : D → Prop} (h1 : pl 8 d = true) (k : Q (.bl false)) : gNeS d d Q := by
  have e : ∀ {α : Type} [DecidableEq α] (x : α), (!decide (x = x)) = false := fun x => by simp
  unfold gNeS
  split
  · rw [e]
    exact k
  · rw [e]
    exact k
  · rw [e]
    exact k
  · exact gNe_same h1 k
theorem pl_pairs {n : Nat} (g h : Nat → Int) (l : List Nat) : pl (n + 2) (.lst (l.map fun i => .tup [.int (g i), .int (h i)])) = true := by
  show List.all _ _ = true
  rw [List.all_map]
  exact List.all_eq_true.mpr fun x _ => by
    show List.all [D.int (g x), D.int (h x)] (pl n) = true
    cases n <;> rfl
end PL
namespace PL
open PySem PySem.Spec PyProof.Rows L2
theorem isL_ints {K : PySem.W.Frag} {H : Hp} : ∀ ns : List Int, IsL K H (ns.map V.int) (ns.map D.int)
  | [] => .nil
  | n :: ns => .cons (.int n) (isL_ints ns)
theorem walk_law {x : Str} {l : PySem.W.OpenLaw} {k : Nat} {q : Program} {loose : List Str} {XP : (Str → Option Value) → Heap → Prop} {YP : World → Heap → Prop} {d : DefRec} {K : Params → PySem.W.Frag} {R : FSp}
    (hn : l.most = some 63) (hdf : d.params.defaults = []) (hr : Room k callerA) (hY : ∀ (w : World) (h : Heap), YP w h → (K w.params).In h)
    (F : ∀ (w : World) (mg : Str → Option Value) (fa : Addr) (h : Heap), (K w.params).In h → h.Ns mainGlobals mg → mg d.name = some (.ref fa) →
      ∃ fd : FuncData, (∀ (s : Shared) (u : Value), BindsTo s fd ⟨[u], []⟩ [(x, u)]) ∧ ∀ base : Heap, (K w.params).In base → base.Ns mainGlobals mg → FnOk l.prog w (K w.params) mg base CX0 k fa fd [x] (spOf (K w.params) R))
    (hR : ∀ ns : List Int, ns.length ≤ 63 → R [.dat (.lst (ns.map .int))] (fun d => d = .bl true)) : PySem.W.WalkO q loose XP YP l.row.toRowW d [] (fun f vs => PySem.call f vs) :=
  L2.walk_ofK (n := 63) (k := k) (x := x) (CX := CX0) (sp := fun K => spOf K R) hn (by decide) hdf hr hY F
    (fun K H a ns hl _ hS => ⟨H, [.dat (.lst (ns.map .int))], _, Same.refl H, ⟨is_lst hS (isL_ints ns), trivial⟩, hR ns hl, fun d v F' H' e _ i => by
      subst e
      exact i.bl_inv⟩) fun _ _ _ _ z => z
end PL
namespace PL
open PySem PySem.Spec PyProof.Rows L2
/-! texts, module constants, all, any, join -/
section
variable {K : PySem.W.Frag}
def strD : D → (Str → Prop) → Prop
  | .str s, Q => Q s
  | _, _ => False
theorem strD_inv : ∀ {d : D} {Q : Str → Prop}, strD d Q → ∃ s, d = .str s ∧ Q s
  | .str s, _, h => ⟨s, rfl, h⟩
/-- len of a text -/
def rLenT : List V → Hp → VK → Prop := fun xs H Q => ∃ z, xs = [.str z] ∧ z.length ≤ sizeLine ∧ Q (.int z.length) H
def eLenS (a : EX K) : EX K := ⟨tCB rLenT (tCons a.t tNil), fun δ Q => a.w δ fun d => strD d fun s => s.length ≤ sizeLine ∧ Q (.int s.length), fun δ Q hw Z F0 F H σ ok Q' k => by
  refine a.ok δ _ hw Z F0 F H σ ok _ fun d v F1 H1 n1 i1 hq => ?_
  obtain ⟨s, rfl, h, hq⟩ := strD_inv hq
  exact ⟨s, by rw [i1.str_inv], h, k _ _ F1 H1 n1 (.int _) hq⟩⟩
/-- one sign in a text -/
def rInS1 (neg : Bool) : R2 := fun x y H Q => ∃ (c : Nat) (z : Str), x = .str ⟨#[c]⟩ ∧ y = .str z ∧ Q (.bl (if neg then !decide (c ∈ z.cps.toList) else decide (c ∈ z.cps.toList))) H
def gInS (neg : Bool) (d e : D) (Q : D → Prop) : Prop := ∃ (c : Nat) (z : Str), d = .str ⟨#[c]⟩ ∧ e = .str z ∧ Q (.bl (if neg then !decide (c ∈ z.cps.toList) else decide (c ∈ z.cps.toList)))
def oInS (neg : Bool) : Op2 K := ⟨rInS1 neg, gInS neg, fun d e v u F H Q Q' a b s h k => by
  obtain ⟨c, z, rfl, rfl, hq⟩ := h
  exact ⟨c, z, a.str_inv, b.str_inv, k _ _ F H (.refl s) (.bl _) hq⟩⟩
/-- a list of bools -/
theorem bls_inv {F : Hp} : ∀ {vs : List V} {bs : List Bool}, IsL K F vs (bs.map D.bl) → vs = bs.map V.bl
  | vs, [], h => by rw [h.inv_nil]; rfl
  | vs, b :: bs, h => by
    obtain ⟨v, ws, rfl, h1, h2⟩ := h.inv_cons
    rw [h1.bl_inv, bls_inv h2]
    rfl
def eAll (al : Bool) (a : RX K) : EX K := ⟨tCB (if al then rAll K else rAny K) (tCons a.t tNil), fun δ Q => a.w δ fun ds => ∃ bs : List Bool, ds = bs.map D.bl ∧ Q (.bl (if al then bs.all id else bs.any id)), fun δ Q hw Z F0 F H σ ok Q' k => by
  refine a.ok δ _ hw Z F0 F H σ ok _ fun ds p vs F1 H1 n1 s l hq => ?_
  obtain ⟨bs, rfl, hq⟩ := hq
  have e := bls_inv l
  subst e
  cases al with
  | true => exact ⟨p, bs, rfl, s, k _ _ F1 H1 n1 (.bl _) hq⟩
  | false => exact ⟨p, bs, rfl, s, k _ _ F1 H1 n1 (.bl _) hq⟩⟩
theorem strs_inv {F : Hp} : ∀ {vs : List V} {bs : List Str}, IsL K F vs (bs.map D.str) → vs = bs.map V.str
  | vs, [], h => by rw [h.inv_nil]; rfl
  | vs, b :: bs, h => by
    obtain ⟨v, ws, rfl, h1, h2⟩ := h.inv_cons
    rw [h1.str_inv, strs_inv h2]
    rfl
def rJoinS (K : PySem.W.Frag) : V → List V → Hp → VK → Prop := fun x xs H Q => ∃ a p, ∃ ys : List Str, x = .str a ∧ xs = [.ref p] ∧ (SqL K H p (ys.map V.str) ∨ SqT K H p (ys.map V.str)) ∧ (ys.map (·.length)).sum + ys.length * a.length ≤ 16777216 ∧ Q (.str (Txt.join a ys)) H
def eJoin (o : EX K) (a : RX K) : EX K := ⟨tM1 (rJoinS K) o.t a.t, fun δ Q => o.w δ fun d => strD d fun z => a.w δ fun ds => ∃ ys : List Str, ds = ys.map D.str ∧ (ys.map (·.length)).sum + ys.length * z.length ≤ 16777216 ∧ Q (.str (Txt.join z ys)), fun δ Q hw Z F0 F H σ ok Q' k => by
  refine o.ok δ _ hw Z F0 F H σ ok _ fun d v F1 H1 n1 i1 hw1 => ?_
  obtain ⟨z, rfl, hw1⟩ := strD_inv hw1
  refine ⟨⟨z, i1.str_inv⟩, ?_⟩
  refine a.ok δ _ hw1 Z F0 F1 H1 σ (ok.next n1) _ fun ds p vs F2 H2 n2 s l hq => ?_
  obtain ⟨ys, rfl, hz, hq⟩ := hq
  have e := strs_inv l
  subst e
  exact ⟨z, p, ys, i1.str_inv, rfl, .inl s, hz, k _ _ F2 H2 (n1.trans n2) (.str _) hq⟩⟩
/-- s[i:] -/
def eFrom (a b : EX K) : EX K := ⟨tSl rSlS a.t (tPart b.t) tNoPart, fun δ Q => a.w δ fun d => strD d fun z => b.w δ fun e => intD e fun i => z.length ≤ sizeLine ∧ Q (.str (cutS z (some i) none)), fun δ Q hw Z F0 F H σ ok Q' k => by
  refine a.ok δ _ hw Z F0 F H σ ok _ fun d v F1 H1 n1 i1 hw1 => ?_
  obtain ⟨z, rfl, hw1⟩ := strD_inv hw1
  refine b.ok δ _ hw1 Z F0 F1 H1 σ (ok.next n1) _ fun e u F2 H2 n2 i2 hw2 => ?_
  obtain ⟨i, rfl, hz, hq⟩ := intD_inv hw2
  refine ⟨i, i2.int_inv, ?_⟩
  exact ⟨z, i1.str_inv, hz, k _ _ F2 H2 (n1.trans n2) (.str _) hq⟩⟩
/-- for c in s -/
theorem walk_str {b : Bool} {Z F H : Hp} {x : Str} : Walk K b Z F H (Its x) x.cps.size (fun i d => ∃ c, x.cps[i]? = some c ∧ d = .str ⟨#[c]⟩) := by
  intro i F1 H1 s1 s2 s3 s4
  refine ⟨fun hi => ⟨hi, fun v H2 y => ?_⟩, fun hi => by rw [hi]; exact Nat.le_refl _⟩
  obtain ⟨rfl, c, hc, rfl⟩ := y
  exact ⟨_, F1, .refl s2, .str _, c, hc, rfl⟩
def iS (a : EX K) : IX K := ⟨false, iStr a.t, fun δ Q => a.w δ fun d => strD d fun z => z.cps.size ≤ 4000000 ∧ Q z.cps.size fun i d => ∃ c, z.cps[i]? = some c ∧ d = .str ⟨#[c]⟩, fun δ Q hw Z F0 F H σ ok R k => by
  refine a.ok δ _ hw Z F0 F H σ ok _ fun d v F1 H1 n1 i1 hw1 => ?_
  obtain ⟨z, rfl, hb, hq⟩ := strD_inv hw1
  exact ⟨z, i1.str_inv, k _ _ _ F1 H1 n1 walk_str hb hq⟩⟩
end
section
variable {K : PySem.W.Frag} {X : Cx} {a b c : Expr} {es : List Expr} {pos p q : Pos}
theorem x_gS {x s : Str} (hm : ∃ t, X.mg x = some (.str s t)) (hk : X.K = K := by rfl) (hg : Gl X x := by rfl) (hd : (x == ("__debug__" : Str)) = false := by decide +kernel) : pE K X (.Name x pos) (eS s) := by
  obtain ⟨t, hm⟩ := hm
  exact ⟨hk, pe_glob hg hm ⟨t, rfl⟩ hd⟩
theorem x_gI {x : Str} {i : Int} (hm : ∃ t, X.mg x = some (.int i t)) (hk : X.K = K := by rfl) (hg : Gl X x := by rfl) (hd : (x == ("__debug__" : Str)) = false := by decide +kernel) : pE K X (.Name x pos) (eI i) := by
  obtain ⟨t, hm⟩ := hm
  exact ⟨hk, pe_glob hg hm ⟨t, rfl⟩ hd⟩
theorem x_lenS {x : EX K} (hm : X.mg "len" = none) (h : pE K X a x) (hg : Gl X "len" := by rfl) (hs : starEach [a] X.env = [(false, eval a X.env)] := by rfl) : pE K X (.Call (.Name "len" p) [a] [] pos) (eLenS x) :=
  ⟨h.k, pe_callB call_len_str hg hm boot_len (pa1 h.h hs) (by decide +kernel) (by decide +kernel) hs (by rfl)⟩
theorem h_inS : OpR X (compareOp .In) (oInS (K := K) false).r := op_in_sign
theorem h_notInS : OpR X (compareOp .NotIn) (oInS (K := K) true).r := op_notIn_sign
theorem x_all {x : RX K} (hc : X.calm = true) (hm : X.mg "all" = none) (h : pR K X a x) (hg : Gl X "all" := by rfl) (hs : starEach [a] X.env = [(false, eval a X.env)] := by rfl) : pE K X (.Call (.Name "all" p) [a] [] pos) (eAll true x) := by
  have hk0 : X.K = K := h.k
  subst hk0
  exact ⟨rfl, pe_callB (cr_all hc) hg hm (by decide +kernel) (pa1 h.h hs) (by decide +kernel) (by decide +kernel) hs (by rfl)⟩
theorem x_any {x : RX K} (hc : X.calm = true) (hm : X.mg "any" = none) (h : pR K X a x) (hg : Gl X "any" := by rfl) (hs : starEach [a] X.env = [(false, eval a X.env)] := by rfl) : pE K X (.Call (.Name "any" p) [a] [] pos) (eAll false x) := by
  have hk0 : X.K = K := h.k
  subst hk0
  exact ⟨rfl, pe_callB (cr_any hc) hg hm (by decide +kernel) (pa1 h.h hs) (by decide +kernel) (by decide +kernel) hs (by rfl)⟩
theorem x_join {x : EX K} {y : RX K} (h : pE K X a x) (r : pR K X b y) (hs : starEach [b] X.env = [(false, eval b X.env)] := by rfl) (hbase : attributeBase a "join" X.env (eval a X.env) = eval a X.env := by rfl) (hline : (p.endLine == pos.line) = true := by rfl) :
    pE K X (.Call (.Attribute a "join" p) [b] [] pos) (eJoin x y) := by
  have hk0 : X.K = K := h.k
  subst hk0
  exact ⟨rfl, pe_join h.h r.h hs hbase hline⟩
theorem x_from {x y : EX K} {p2 : Pos} (h : pE K X a x) (r : pE K X b y) : pE K X (.Subscript a (.Slice (some b) none none p2) pos) (eFrom x y) := ⟨h.k, pe_slice sl_str h.h (po_some r.h) po_none⟩
theorem i_s {tg : Expr} {x : EX K} (h : pE K X a x) : pI K X tg a (iS x) := ⟨h.k, pi_str h.h⟩
end
end PL
namespace PL
open PySem PySem.Spec PyProof.Rows L2
/-! enumerate from a count, lists put together, extend, tuple of a list, for over a tuple -/
/-- the list at a, counted from c -/
def Itk (K : PySem.W.Frag) (a : Addr) (c : Int) : It where
  go := fun i H => ∃ (ys : List V) (y : V), SqL K H a ys ∧ ys[i]? = some y
  yld := fun i H v H' => ∃ q y, v = .ref q ∧ H q = none ∧ H' = upd H q (.tup [.int (c + (i : Nat)), y]) ∧ ∀ ys, SqL K H a ys → ys[i]? = some y
  stop := fun i H => ∃ ys : List V, SqL K H a ys ∧ ys.length = i
theorem apart_it {h : Heap} {a it : Addr} {i : Nat} {vs : Array Value} (l : h.IsList a vs) (t : h.IsListIter it a i) : a ≠ it := by
  rintro rfl
  obtain ⟨o, e, c, _⟩ := l
  obtain ⟨o2, e2, c2, _⟩ := t
  rw [e] at e2
  cases e2
  rw [c] at c2
  injection c2 with z
  exact absurd z (by decide)
theorem turn_enumC {P : Program} {w : World} {K : PySem.W.Frag} {es : List Expr} {j : Nat} {tp : Pos} (a e it : Addr) (c : Int) :
    Turn P w K (.Tuple es j tp) (Itk K a c) [e, it] e (fun i h => e ≠ it ∧ h.IsListIter it a i ∧ ∃ old, IsEnum h e it (c + ((i : Nat) : Int)) old) where
  mem := .head _
  obj := by
    rintro i h ⟨_, ⟨o, ho, _, hd⟩, old, he⟩ b hb
    rcases List.mem_cons.mp hb with rfl | hb
    · exact ⟨_, he, fun v q => by cases q⟩
    · rw [List.mem_singleton.mp hb]
      exact ⟨o, ho, fun v q => by rw [hd] at q; cases q⟩
  keep := by
    rintro i h h' ⟨n, l, old, he⟩ kp
    exact ⟨n, l.at fun o q => kp it (.tail _ (.head _)) o q, old, kp e (.head _) _ he⟩
  self := by
    rintro A i s Q E ⟨_, _, _, he⟩ h
    exact wpAny_pyIter_enum he h
  done := by
    rintro X rfl rfl rfl hc i pins s σ H E I hf ⟨n, l, old, he⟩ ⟨ys, hq, hx⟩
    obtain ⟨its, rv, p, _⟩ := I.list hq
    obtain ⟨f0, f1, f2, f3, f4, f5⟩ := hf it (.tail _ (.head _))
    have hl := rv.length
    have hi : its.toArray.size = i := by rw [List.size_toArray]; omega
    exact wpAny_pyNext_enum_endD (Draws.list (A := X.A.in1) (show X.A.in1.handled = none from I.ok.hd hc) it a (apart_it p.isList l) its.toArray) he ⟨by rw [hi]; exact l, p.isList⟩ fun h' eb => ⟨rfl, I.turned (t' := s.toks) (fun b o hb q => eb b o hb q) f0 f1 f3 f4 f5⟩
  item := by
    rintro X rfl rfl rfl hc i pins s σ H E I hf ⟨n, l, old, he⟩ ⟨ys, y, hq, hx⟩
    obtain ⟨its, rv, p, _⟩ := I.list hq
    obtain ⟨u, hu, ru⟩ := rv.get hx
    have le : e < s.heap.objs.size := Heap.lt_size he
    have li : it < s.heap.objs.size := by
      obtain ⟨_, q, _⟩ := l
      exact Heap.lt_size q
    have hu' : its.toArray[i]? = some u := by simpa using hu
    have hlt : i < its.toArray.size := (Array.getElem?_eq_some_iff.mp hu').1
    have ap := apart_it p.isList l
    refine wpAny_pyNext_enum_itemC (Draws.list (A := X.A.in1) (show X.A.in1.handled = none from I.ok.hd hc) it a ap its.toArray) he ⟨l, p.isList⟩ hlt n ?_ ?_
    · intro hm
      rcases List.mem_cons.mp hm with z | z
      · exact n z
      · have z := List.mem_singleton.mp z
        obtain ⟨o, ho, hcl, _⟩ := p.isList
        rw [← z, he] at ho
        cases ho
        injection hcl with z
        exact absurd z (by decide)
    intro x h1 tk hx1 ho ⟨l1, _⟩ hT hsz hk
    have hxu : x = u := Option.some.inj (hx1.symm.trans hu')
    subst hxu
    refine ⟨_, rfl, wpAny_letOwnedTupleGo_enum (s := { s with heap := h1, toks := tk + 1 }) ho fun h2 he2 sb => ?_⟩
    have hT2 := (sb.2 _ (Nat.ne_of_gt le)).trans hT
    have nw : ObjOk X.prog X.w (upd H s.heap.objs.size (.tup [.int (c + (i : Nat)), y])) h2 s.heap.objs.size (.tup [.int (c + (i : Nat)), y]) :=
      ⟨by show 2 ≤ sizeLine; decide, [.int (c + (i : Nat)) tk, x], .cons ⟨_, rfl⟩ (.cons ru .nil), ⟨_, hT2, rfl, _, rfl⟩⟩
    have I1 : Inv X pins σ (upd H s.heap.objs.size (.tup [.int (c + (i : Nat)), y])) { s with heap := h2, toks := tk + 1 } := by
      refine I.turnedNew (ch := [e, it]) (fun b ob hb q => ?_) hf (Nat.le_refl _) nw
      have b1 : b ≠ e := fun z => hb (by simp [z])
      have b2 : b ≠ it := fun z => hb (by simp [z])
      exact (sb.2 b b1).trans (hk b ob b1 b2 q)
    refine ⟨.ref s.heap.objs.size, _, I1, rfl, ⟨_, y, rfl, I.hok.fresh (Nat.le_refl _), rfl, fun zs hz => by rw [I.list_inj hz hq]; exact hx⟩, ⟨n, l1.at fun o q => (sb.2 it (Ne.symm n)).trans q, x, ?_⟩, fun b hb => ?_⟩
    · have e1 : c + ((i + 1 : Nat) : Int) = c + (i : Int) + 1 := by omega
      rw [e1]
      exact he2
    · have lb : b < s.heap.objs.size := by
        rcases List.mem_cons.mp hb with z | z
        · rw [z]; exact le
        · rw [List.mem_singleton.mp z]; exact li
      rw [upd_ne (Nat.ne_of_lt lb)]
      exact (hf b hb).1
theorem cw_typeK {Md : Model} {B : Around} {G : Value → Shared → Prop} {z : Shared} {pos : Pos} {T : String} {as : List (Bool × Sem Value)} {ks : List (Option Str × Sem Value)} {Q : Value → Shared → Prop} (hp : (as.any (·.1) || ks.any (·.1.isNone)) = false)
    (h : wpAny Md B (evalArgs (.type T) true as ks) (fun x z1 => wpAny Md B (call (.type T) x.pos x.kw) Q G z1) G z) : wpAny Md B (callWith pos (.type T) [] as ks) Q G z := by
  unfold callWith
  refine wpAny_bind (wpAny_holding (wpAny_mono h ?_ fun _ _ q => q))
  intro x z1 hx
  refine wpAny_bind (wpAny_standAt ?_)
  simp only [hp]
  refine wpAny_bind (wpAny_pure (wpAny_bind (wpAny_mono hx ?_ fun _ _ q => q)))
  exact fun r z2 hr => wpAny_bind (wpAny_holding (wpAny_point (wpAny_pure hr)))
section
variable {X : Cx} {K : PySem.W.Frag} {a b : Expr} {es : List Expr} {p pos q apos cpos kpos tp : Pos}
def iEnumC (K : PySem.W.Frag) (t u : TA) : TI := fun σ H R => t σ H fun vs H1 => u σ H1 fun zs H2 => ∃ a xs c, vs = [.ref a] ∧ zs = [.int c] ∧ SqL K H2 a xs ∧ (-(2 ^ 63) ≤ c ∧ c < 2 ^ 63) ∧ R (Itk K a c) H2
theorem pi_enumC {t u : TA} {j : Nat} (hg : Gl X "enumerate") (hm : X.mg "enumerate" = none) (ha : PA X [a] t) (hk : PK X [⟨some "start", b, kpos⟩] u)
    (he : starEach [a] X.env = (false, eval a X.env) :: starEach [] X.env := by rfl) : PI X (.Tuple es j tp) (.Call (.Name "enumerate" p) [a] [⟨some "start", b, kpos⟩] pos) (iEnumC X.K t u) := by
  refine ⟨fun pins s σ H R I h => wpAny_Call_Name_kw (ld_blt I hg hm boot_enumerate ?_)⟩
  refine cw_typeK (by rw [he]; rfl) (PyProof.Rows.evalArgs_kw2 rfl (thn (ha.run pos pins s σ H _ I h) fun us s1 ⟨vs, H1, I1, r, q1⟩ => ?_) he)
  refine thn (hk.run pos pins s1 σ H1 _ I1 q1) fun ws s2 ⟨zs, H2, I2, rz, q2⟩ => ?_
  obtain ⟨l, xs, c, rfl, rfl, hq, ⟨c0, c1⟩, q⟩ := q2
  cases r with
  | cons r0 rr =>
    cases rr
    cases r0
    cases rz with
    | cons r1 rr =>
      cases rr
      obtain ⟨tk, rfl⟩ := r1
      obtain ⟨its, rv, pl, _⟩ := I2.list hq
      refine enum_begins_start (begins_list l its.toArray) pl.isList c0 c1 fun h' e1 e2 _ e3 => wpAny_pyIter_enum e1 ?_
      have I3 : Inv X pins σ H2 { s2 with heap := h' } := I2.kept (t' := s2.toks) e3
      refine ⟨_, _, _, _, H2, rfl, I3, turn_enumC l (s2.heap.objs.size + 1) s2.heap.objs.size c, ⟨Nat.succ_ne_self _, ⟨_, e2, rfl, rfl⟩, .none, ?_⟩, fun x hx => ?_, q⟩
      · rw [show c + ((0 : Nat) : Int) = c by omega]
        exact e1
      · have lx : s2.heap.objs.size ≤ x := by
          rcases List.mem_cons.mp hx with z | z
          · rw [z]
            exact Nat.le_add_right _ _
          · rw [List.mem_singleton.mp z]
            exact Nat.le_refl _
        exact I2.fpOk lx (I2.hok.fresh lx)
theorem walk_enumC {m : Bool} {Z F H : Hp} {l : Addr} {vs : List V} {ds : List D} {c : Int} (il : IsL K F vs ds) (hs : ∀ F1 H1, Same F F1 → Same F1 H1 → Same Z H1 → (m = true → Same H H1) → SqL K H1 l vs) :
    Walk K m Z F H (Itk K l c) ds.length (fun i d => ∃ x, d = .tup [.int (c + (i : Nat)), x] ∧ ds[i]? = some x) := by
  intro i F1 H1 s1 s2 s3 s4
  have h1 := hs F1 H1 s1 s2 s3 s4
  have l1 := il.1
  refine ⟨fun hi => ⟨⟨vs, vs[i]'(by omega), h1, List.getElem?_eq_getElem _⟩, ?_⟩, fun hi => ⟨vs, h1, by omega⟩⟩
  rintro x H2 ⟨T, y, rfl, hT, rfl, y1⟩
  have hd : ds[i]? = some (ds[i]'hi) := List.getElem?_eq_getElem _
  have n2 : Nx F1 H1 _ _ := Nx.new (o := .tup [.int (c + (i : Nat)), y]) s2 hT
  exact ⟨_, _, n2, is_tup upd_same (.cons (.int _) (.cons ((il.2 i _ _ (y1 vs h1) hd).mono (s1.trans n2.f)) .nil)), _, rfl, hd⟩
def iEnC (x y : EX K) : IX K := ⟨false, iEnumC K (tCons x.t tNil) (tCons y.t tNil), fun δ Q => x.w δ fun d => y.w δ fun e => lstD d fun ds => intD e fun c => (-1000000000 ≤ c ∧ c ≤ 1000000000) ∧ ds.length ≤ 4000000 ∧ Q ds.length fun i d => ∃ z, d = .tup [.int (c + (i : Nat)), z] ∧ ds[i]? = some z, fun δ Q hw Z F0 F H σ ok R k => by
  refine x.ok δ _ hw Z F0 F H σ ok _ fun d v F1 H1 n1 i1 hw1 => ?_
  refine y.ok δ _ hw1 Z F0 F1 H1 σ (ok.next n1) _ fun e u F2 H2 n2 i2 hw2 => ?_
  obtain ⟨ds, rfl, hw3⟩ := lstD_inv hw2
  obtain ⟨c, rfl, hc, hb, hq⟩ := intD_inv hw3
  obtain ⟨l, vs, rfl, sq, il⟩ := (i1.mono n2.f).lst_inv
  refine ⟨l, vs, c, rfl, by rw [i2.int_inv], n2.s.seq sq, ⟨by omega, by omega⟩, k _ _ _ F2 H2 (n1.trans n2) (walk_enumC il fun F3 H3 e1 e2 _ _ => e2.seq (e1.seq sq)) hb hq⟩⟩
theorem i_enC {x y : EX K} {j : Nat} (hm : X.mg "enumerate" = none) (h : pE K X a x) (h2 : pE K X b y) (hg : Gl X "enumerate" := by rfl) (hs : starEach [a] X.env = [(false, eval a X.env)] := by rfl) :
    pI K X (.Tuple es j tp) (.Call (.Name "enumerate" p) [a] [⟨some "start", b, kpos⟩] pos) (iEnC x y) := by
  have hk0 : X.K = K := h.k
  subst hk0
  exact ⟨rfl, pi_enumC hg hm (pa1 h.h hs) (pk_cons h2.h pk_nil) hs⟩
/-! two lists put together -/
def rCatL (K : PySem.W.Frag) : R2 := fun x y H Q => ∃ l m xs zs, x = .ref l ∧ y = .ref m ∧ SqL K H l xs ∧ SqL K H m zs ∧ xs.length + zs.length ≤ sizeLine ∧ ∀ r, H r = none → Q (.ref r) (upd H r (.lst (xs ++ zs)))
theorem op_catL : OpR X (binaryOp .Add) (rCatL X.K) := by
  rintro pins s σ H x y v u Q I rx ry ⟨l, m, xs, zs, rfl, rfl, h1, h2, hz, q⟩
  cases rx
  cases ry
  obtain ⟨its, r, p, _⟩ := I.list h1
  obtain ⟨its2, r2, p2, _⟩ := I.list h2
  have e1 := r.length
  have e2 := r2.length
  obtain ⟨⟨c, d, da, sl⟩, ho, hc, n, hd⟩ := p.isList
  obtain ⟨⟨c2, d2, da2, sl2⟩, ho2, hc2, n2, hd2⟩ := p2.isList
  simp only at hc hd hc2 hd2
  subst hc hd hc2 hd2
  refine concat_meets ⟨_, ho, rfl⟩ ⟨_, ho2, rfl⟩ noFill_list_add seq_list_add PySem.F.slot_list_add PySem.F.entry_list_add (PySem.F.args_list_add_2 _ _)
    (PyProof.Rows.list_addW l m its.toArray its2.toArray n n2 d d2 sl sl2 (by rw [List.size_toArray, List.size_toArray]; omega)) ⟨ho, ho2, ?_⟩
  rw [show its.toArray ++ its2.toArray = (its ++ its2).toArray by simp]
  exact ⟨.ref _, _, I.lnew (t' := s.toks) (r.append r2) (by rw [List.length_append]; omega), rfl, q _ I.fresh⟩
def lCat (x y : RX K) : LX K := ⟨tOp (rCatL K) x.t y.t, fun δ Q => x.w δ fun ds => y.w δ fun es => ds.length + es.length ≤ 4000000 ∧ Q (ds ++ es), fun δ Q hw Z F0 F H σ ok Q' k => by
  refine x.ok δ _ hw Z F0 F H σ ok _ fun ds l vs F1 H1 n1 s1 l1 hw1 => ?_
  refine y.ok δ _ hw1 Z F0 F1 H1 σ (ok.next n1) _ fun es m us F2 H2 n2 s2 l2 hq => ?_
  have a1 := l1.1
  have a2 := l2.1
  refine ⟨l, m, vs, us, rfl, rfl, n2.h.seq s1, s2, Nat.le_trans (by rw [a1, a2]; exact hq.1) (show 4000000 ≤ sizeLine by decide), fun r hr => ?_⟩
  have n3 : Nx F2 H2 _ _ := Nx.own (o := .lst (vs ++ us)) n2.s hr
  exact k _ r _ _ _ ((n1.trans n2).trans n3) ((n1.trans n2).h.free hr) upd_same (some_ne n2.s hr) ((l1.mono n2.f).app l2) hq.2⟩
theorem l_cat {x y : RX K} (ha : pR K X a x) (hb : pR K X b y) : pL K X (.BinOp a .Add b pos) (lCat x y) := by
  have hk0 : X.K = K := ha.k
  subst hk0
  exact ⟨rfl, pe_op op_catL ha.h hb.h⟩
/-! tuple(a list) -/
def rTupL (K : PySem.W.Frag) : List V → Hp → VK → Prop := fun xs H Q => ∃ l ys, xs = [.ref l] ∧ ((SqL K H l ys ∧ ∀ r, H r = none → Q (.ref r) (upd H r (.tup ys))) ∨ (SqT K H l ys ∧ Q (.ref l) H))
def eTupL (x : RX K) : EX K := ⟨tCB (rTupL K) (tCons x.t tNil), fun δ Q => x.w δ fun ds => Q (.tup ds), fun δ Q hw Z F0 F H σ ok Q' k => by
  refine x.ok δ _ hw Z F0 F H σ ok _ fun ds l vs F1 H1 n1 s1 l1 hq => ?_
  refine ⟨l, vs, rfl, .inl ⟨s1, fun r hr => ?_⟩⟩
  have n2 : Nx F1 H1 _ _ := Nx.new (o := .tup vs) n1.s hr
  exact k _ _ _ _ (n1.trans n2) (is_tup upd_same (l1.mono n2.f)) hq⟩
theorem x_tupL {x : RX K} (hm : X.mg "tuple" = none) (h : pR K X a x) (hg : Gl X "tuple" := by rfl) (hs : starEach [a] X.env = [(false, eval a X.env)] := by rfl) : pE K X (.Call (.Name "tuple" p) [a] [] pos) (eTupL x) := by
  have hk0 : X.K = K := h.k
  subst hk0
  exact ⟨rfl, pe_callTy call_tuple_of hg hm (by decide +kernel) (pa1 h.h hs) (by decide +kernel) (by decide +kernel) hs (by rfl)⟩
/-! a list of one's own, longer by another -/
theorem list_extendW (l m : Addr) (xs ys : Array Value) (n n2 : Nat) (dd : Option Addr) (sl : Array (Option Value)) (hc0 : ¬(!xs.isEmpty && Builtin.List.listTooLong (xs.size + ys.size)) = true) (hc1 : xs.size ≤ sizeLine) (hs2 : xs.size + ys.size ≤ sizeLine + 1) :
    Meets (Builtin.«list.extend» ⟨[.ref l, .ref m], []⟩) (fun _ R z => z.heap.get? l = some { cls := .type "list", dict := none, data := .seq xs n, slots := #[] } ∧ z.heap.get? m = some { cls := .type "list", dict := dd, data := .seq ys n2, slots := sl } ∧ R (.ok (.ret Value.none)) { z with heap := z.heap.update l (Obj.mapSeq (· ++ ys)), toks := z.toks }) :=
  .of_wp fun pr wo Ar Rs sh hh => by
    obtain ⟨hp, g, d, tk, os⟩ := sh
    obtain ⟨hl, hb, hh⟩ := hh
    have f1 := AutoSeq1.idx_int
    have f2 := AutoSeq1.sub_tuple_tuple
    have f3 := AutoSeq1.sub_list_list
    have f4 := AutoSeq1.sub_tuple_list
    have f5 := AutoSeq1.sub_list_tuple
    have hz' : (xs ++ ys).size ≤ sizeLine + 1 := by rw [Array.size_append]; exact hs2
    wp_walk using (wpAny_updateSeq hl rfl (hz := hc1) (_hz' := hz')), AutoSeq1.wpAny_loadPart' hl, AutoSeq1.wpAny_loadPart' hb
    exact ⟨_, rfl, hh⟩
def rExtL (K : PySem.W.Frag) : V → List V → Hp → VK → Prop := fun x vs H Q => ∃ l m xs zs, x = .ref l ∧ vs = [.ref m] ∧ H l = some (.lst xs) ∧ SqL K H m zs ∧ xs.length + zs.length ≤ sizeLine ∧ Q .non (upd H l (.lst (xs ++ zs)))
theorem mt_extL : MtM X "list.extend" (rExtL X.K) := by
  rintro pins s σ H x vs v us Q I rx rv ⟨l, m, xs, zs, rfl, rfl, hH, hB, hz, q⟩
  cases rx
  obtain ⟨u, rfl, ru⟩ := rv.one
  cases ru
  obtain ⟨_, its, n, r, hl, e⟩ := I.lstM hH
  obtain ⟨its2, r2, p2, _⟩ := I.list hB
  have e2 := r2.length
  obtain ⟨⟨c2, d2, da2, sl2⟩, ho2, hc2, n2, hd2⟩ := p2.isList
  simp only at hc2 hd2
  subst hc2 hd2
  have hsz : its.toArray.size + its2.toArray.size ≤ sizeLine := by rw [List.size_toArray, List.size_toArray]; omega
  have hlong : ¬ (!its.toArray.isEmpty && Builtin.List.listTooLong (its.toArray.size + its2.toArray.size)) = true := by
    rw [notLongL hsz, Bool.and_false]
    exact Bool.false_ne_true
  refine call_meets F.slot_list_extend ⟨_, e, rfl⟩ F.entry_list_extend (F.args_list_extend_2 _ _) (list_extendW l m its.toArray its2.toArray n n2 d2 sl2 hlong (by omega) (by omega)) ⟨e, ho2, ?_⟩
  exact ⟨.non, _, I.lset (its' := its ++ its2) hH e (by simp) (r.append r2) (by rw [List.length_append]; omega), rfl, q⟩
def sExt (i : Nat) (x : RX K) : SX K := ⟨tDrop (tBM K "list" (rExtL K) (tVar i) (tCons x.t tNil)), fun δ E => ownD (nth δ i) fun ds => x.w δ fun es => ds.length + es.length ≤ 4000000 ∧ E.nx (put δ i (.own (ds ++ es))), fun δ E hw Z F0 F H σ D ok ke => by
  obtain ⟨ds, hi, hw⟩ := ownD_inv hw
  have hs := ok.at_ i
  rw [hi] at hs
  obtain ⟨p, vs, a, b, c, z, l⟩ := hs
  refine ⟨_, a, .inl ⟨rfl, _, SqL.of b⟩, ?_⟩
  refine x.ok δ _ hw Z F0 F H σ ok _ fun es m us F1 H1 n1 s1 l1 hq => ?_
  refine ⟨p, m, vs, us, rfl, rfl, n1.h _ _ b, s1, ?_, ?_⟩
  · rw [l.1, l1.1]
    exact Nat.le_trans hq.1 (show 4000000 ≤ sizeLine by decide)
  · exact ke.nx _ F1 _ σ ((ok.next n1).chg hi a ((l.mono n1.f).app l1)) hq.2⟩
theorem s_ext (i : Nat) {x : Str} {r : RX K} (he : pR K X a r) (hN : X.N[i]? = some x := by rfl) (hv : Vis X.env.scope x := by first | exact Or.inl rfl | exact Or.inr (Or.inl rfl)) (hd : (x == ("__debug__" : Str)) = false := by decide +kernel)
    (hcd : (x == ("__classdict__" : Str)) = false := by decide +kernel) (hbase : attributeBase (.Name x q) "extend" X.env (eval (.Name x q) X.env) = eval (.Name x q) X.env := by rfl)
    (hfew : ((backTo cpos (starEach [a] X.env)).all (fun x => !x.1) && (backToKw cpos (keywordEach [] X.env)).all (fun x => x.1.isSome) && decide (([a] : List Expr).length + ([] : List Keyword).length + (if ([] : List Keyword).isEmpty then 0 else 1) < 30)) = true := by rfl)
    (hline : (apos.endLine == cpos.line) = true := by rfl) (hs : starEach [a] X.env = [(false, eval a X.env)] := by rfl) (hsw : swapsWith (.Call (.Attribute (.Name x q) "extend" apos) [a] [] cpos) none pos.line X.env = pure false := by rfl) :
    pS K X (.Expr (.Call (.Attribute (.Name x q) "extend" apos) [a] [] cpos) pos) (sExt i r) := by
  have hk0 : X.K = K := he.k
  subst hk0
  exact ⟨rfl, ps_expr (pe_bm PySem.F.plainAttrs_list PySem.F.slot_list_extend PySem.F.type_list_extend mt_extL (pe_var hN hv hd hcd) (pa1 he.h hs) hbase hfew hline hs (by rfl)) hsw⟩
/-! for over a tuple -/
theorem walk_tup {m : Bool} {Z F H : Hp} {l : Addr} {vs : List V} {ds : List D} (il : IsL K F vs ds) (hq : SqT K F l vs) : Walk K m Z F H (Itt K l) ds.length (fun i d => ds[i]? = some d) := by
  intro i F1 H1 s1 s2 s3 s4
  have h1 := same_t s2 (same_t s1 hq)
  have l1 := il.1
  refine ⟨fun hi => ⟨⟨vs, vs[i]'(by omega), h1, List.getElem?_eq_getElem _⟩, ?_⟩, fun hi => ⟨vs, h1, by omega⟩⟩
  rintro x H2 ⟨rfl, y⟩
  have hd : ds[i]? = some (ds[i]'hi) := List.getElem?_eq_getElem _
  exact ⟨_, F1, .refl s2, (il.2 i _ _ (y vs h1) hd).mono s1, hd⟩
def tupD : D → (List D → Prop) → Prop
  | .tup ds, Q => Q ds
  | _, _ => False
theorem tupD_inv : ∀ {d : D} {Q : List D → Prop}, tupD d Q → ∃ ds, d = .tup ds ∧ Q ds
  | .tup ds, _, h => ⟨ds, rfl, h⟩
def iT (x : EX K) : IX K := ⟨false, iTup K x.t, fun δ Q => x.w δ fun d => tupD d fun ds => ds.length ≤ 4000000 ∧ Q ds.length fun i d => ds[i]? = some d, fun δ Q hw Z F0 F H σ ok R k => by
  refine x.ok δ _ hw Z F0 F H σ ok _ fun d v F1 H1 n1 i1 hw1 => ?_
  obtain ⟨ds, rfl, hb, hq⟩ := tupD_inv hw1
  obtain ⟨l, vs, rfl, sq, il⟩ := i1.tup_inv
  exact ⟨l, rfl, ⟨vs, same_t n1.s sq⟩, k _ _ _ F1 H1 n1 (walk_tup il sq) hb hq⟩⟩
theorem i_t {tg : Expr} {x : EX K} (h : pE K X a x) : pI K X tg a (iT x) := by
  have hk0 : X.K = K := h.k
  subst hk0
  exact ⟨rfl, pi_tup h.h⟩
/-! enumerate, zip -/
theorem i_en {x : EX K} {j : Nat} (hm : X.mg "enumerate" = none) (h : pE K X a x) (hg : Gl X "enumerate" := by rfl) (hs : starEach [a] X.env = [(false, eval a X.env)] := by rfl) : pI K X (.Tuple es j tp) (.Call (.Name "enumerate" p) [a] [] pos) (iEn x) := by
  have hk0 : X.K = K := h.k
  subst hk0
  exact ⟨rfl, pi_enum hg hm (pa1 h.h hs) hs⟩
end
end PL
namespace PL
open PySem PySem.Spec PyProof.Rows L2
/-! truth of ints, chains, slices of lists, methods of data, str(int), reversed(range), op= -/
section
variable {K : PySem.W.Frag} {X : Cx} {a b c : Expr} {es : List Expr} {p pos q apos cpos tp : Pos}
/-- if n: -/
def truD : D → (Bool → Prop) → Prop
  | .bl b, Q => Q b
  | .int i, Q => Q (i != 0)
  | _, _ => False
def tTruth (x : EX K) : TX K := ⟨fun σ H Q => x.t σ H fun v H' => ∃ k, TruV K v H' k ∧ Q k H', fun δ Q => x.w δ fun d => truD d Q, fun δ Q hw Z F0 F H σ ok Q' k => by
  refine x.ok δ _ hw Z F0 F H σ ok _ fun d v F1 H1 n1 i1 hq => ?_
  cases d with
  | bl b =>
    rw [i1.bl_inv]
    exact ⟨b, rfl, k b F1 H1 n1 hq⟩
  | int i =>
    rw [i1.int_inv]
    exact ⟨_, rfl, k _ F1 H1 n1 hq⟩
  | _ => exact hq.elim⟩
theorem t_truth {x : EX K} (h : pE K X a x) (he : ∀ whole, isTrue a X.env whole = (do let v ← whole; standAt a.pos; holding [v] (truthy v)) := by intro _; rfl) : pT K X a (tTruth x) := by
  have hk0 : X.K = K := h.k
  subst hk0
  exact ⟨rfl, pt_truth h.h he⟩
/-- a op b op' c, ints -/
def eChI (f g : Int → Int → Bool) (x y z : EX K) : EX K := ⟨tChain (rI0 fun i j => .bl (f i j)) (rI0 fun i j => .bl (g i j)) x.t y.t z.t, fun δ Q => x.w δ fun d => y.w δ fun e => intD d fun i => intD e fun j => (f i j = true → z.w δ fun e2 => intD e2 fun l => Q (.bl (g j l))) ∧ (f i j = false → Q (.bl false)), fun δ Q hw Z F0 F H σ ok Q' k => by
  refine x.ok δ _ hw Z F0 F H σ ok _ fun d v F1 H1 n1 i1 hw1 => ?_
  refine y.ok δ _ hw1 Z F0 F1 H1 σ (ok.next n1) _ fun e u F2 H2 n2 i2 hw2 => ?_
  obtain ⟨i, rfl, hw3⟩ := intD_inv hw2
  obtain ⟨j, rfl, hw4⟩ := intD_inv hw3
  refine ⟨i, j, i1.int_inv, i2.int_inv, f i j, rfl, ?_⟩
  cases e : f i j with
  | true =>
    refine z.ok δ _ (hw4.1 e) Z F0 F2 H2 σ (ok.next (n1.trans n2)) _ fun e2 u2 F3 H3 n3 i3 hw5 => ?_
    obtain ⟨l, rfl, hq⟩ := intD_inv hw5
    exact ⟨j, l, i2.int_inv, i3.int_inv, k _ _ F3 H3 ((n1.trans n2).trans n3) (.bl _) hq⟩
  | false => exact k _ _ F2 H2 (n1.trans n2) (.bl _) (hw4.2 e)⟩
theorem x_chain {op op' : CmpOp} {f g : Int → Int → Bool} {x y z : EX K} (ho : OpR X (compareOp op) (rI0 fun i j => .bl (f i j))) (ho' : OpR X (compareOp op') (rI0 fun i j => .bl (g i j))) (ha : pE K X a x) (hb : pE K X b y) (hc : pE K X c z) (hm : lastMarks [op, op'] [b, c] = false := by with_unfolding_all rfl) :
    pE K X (.Compare a [op, op'] [b, c] pos) (eChI f g x y z) := by
  have hk0 : X.K = K := ha.k
  subst hk0
  exact ⟨rfl, pe_chain ho ho' ha.h hb.h hc.h hm⟩
theorem t_chain {op op' : CmpOp} {f g : Int → Int → Bool} {x y z : EX K} (ho : OpR X (compareOp op) (rI0 fun i j => .bl (f i j))) (ho' : OpR X (compareOp op') (rI0 fun i j => .bl (g i j))) (ha : pE K X a x) (hb : pE K X b y) (hc : pE K X c z) (hm : lastMarks [op, op'] [b, c] = false := by with_unfolding_all rfl) :
    pT K X (.Compare a [op, op'] [b, c] pos) (tVal (eChI f g x y z)) := by
  have hk0 : X.K = K := ha.k
  subst hk0
  exact ⟨rfl, pt_chain ho ho' ha.h hb.h hc.h hm⟩
/-- methods of a datum -/
theorem x_met {C : Addr} {m : Str} {ps : List Str} {j k : Nat} {R : FSp} {x : EX K} {y : AX K} {e : Expr} {f1 : Sem Bool} (cc : Met X.prog X.w K X.mg X.base C m k ps R) (hc : Cls K C) (hr : Room j X.A) (h : pE K X a x) (h2 : pA K X (e :: es) y) (hjk : k ≤ j := by decide)
    (hst : starEach (e :: es) X.env = (false, eval e X.env) :: starEach es X.env := by rfl) (hpl : (backTo pos (starEach es X.env)).any (·.1) = false := by rfl)
    (ht : eval (.Call (.Attribute a m apos) (e :: es) [] pos) X.env = (do
      let o ← eval a X.env
      standAt apos.atName
      let (f, fst) ← holding [o] (getMethod o m f1)
      callWith pos f fst (backTo pos (starEach (e :: es) X.env)) (backToKw pos (keywordEach [] X.env))) := by rfl) : pE K X (.Call (.Attribute a m apos) (e :: es) [] pos) (eMeth C m R x y) := by
  have hk0 : X.K = K := h.k
  subst hk0
  obtain ⟨f, fd, M, F, b⟩ := cc
  exact ⟨rfl, pe_meth h.h hc M F (hr.mono hjk) b .nil pass0 h2.h hst hpl ht⟩
theorem x_met0 {C : Addr} {m : Str} {ps : List Str} {j k : Nat} {R : FSp} {x : EX K} {f1 : Sem Bool} (cc : Met X.prog X.w K X.mg X.base C m k ps R) (hc : Cls K C) (hr : Room j X.A) (h : pE K X a x) (hjk : k ≤ j := by decide)
    (ht : eval (.Call (.Attribute a m apos) [] [] pos) X.env = (do
      let o ← eval a X.env
      standAt apos.atName
      let (f, fst) ← holding [o] (getMethod o m f1)
      callWith pos f fst (backTo pos (starEach [] X.env)) (backToKw pos (keywordEach [] X.env))) := by rfl) : pE K X (.Call (.Attribute a m apos) [] [] pos) (eMeth C m R x aNil) := by
  have hk0 : X.K = K := h.k
  subst hk0
  obtain ⟨f, fd, M, F, b⟩ := cc
  exact ⟨rfl, pe_meth0 h.h hc M F (hr.mono hjk) b .nil pass0 ht⟩
/-- str of an int -/
def rStrI : List V → Hp → VK → Prop := fun xs H Q => ∃ i, xs = [.int i] ∧ i.natAbs.log2 < 1920 ∧ Q (.str (toString i)) H
def eStrI (x : EX K) : EX K := ⟨tCB rStrI (tCons x.t tNil), fun δ Q => x.w δ fun d => intD d fun i => i.natAbs.log2 < 1920 ∧ Q (.str (toString i)), fun δ Q hw Z F0 F H σ ok Q' k => by
  refine x.ok δ _ hw Z F0 F H σ ok _ fun d v F1 H1 n1 i1 hq => ?_
  obtain ⟨i, rfl, hz, hq⟩ := intD_inv hq
  exact ⟨i, by rw [i1.int_inv], hz, k _ _ F1 H1 n1 (.str _) hq⟩⟩
theorem x_strI {x : EX K} (hm : X.mg "str" = none) (h : pE K X a x) (hg : Gl X "str" := by rfl) (hs : starEach [a] X.env = [(false, eval a X.env)] := by rfl) : pE K X (.Call (.Name "str" p) [a] [] pos) (eStrI x) := by
  have hk0 : X.K = K := h.k
  subst hk0
  exact ⟨rfl, pe_callTy call_str_int hg hm (by decide +kernel) (pa1 h.h hs) (by decide +kernel) (by decide +kernel) hs (by rfl)⟩
/-- op=, any operands -/
def sAugO (i : Nat) (o : Op2 K) (x : EX K) : SX K := ⟨tAug i x.t o.r, fun δ E => datD (nth δ i) fun d => x.w δ fun e => o.g d e fun z => E.nx (put δ i (.dat z)), fun δ E hw Z F0 F H σ D ok ke => by
  have hs := ok.at_ i
  cases e1 : nth δ i with
  | dat d =>
    rw [e1] at hs hw
    obtain ⟨v, av, iv⟩ := hs
    refine ⟨v, av, ?_⟩
    refine x.ok δ _ hw Z F0 F H σ ok _ fun y u F1 H1 n1 i1 hq => ?_
    exact o.ok d y v u F1 H1 _ _ (iv.mono n1.f) i1 n1.s hq fun d' v' F2 H2 n2 i2 q => ke.nx _ F2 H2 _ ((ok.next (n1.trans n2)).setD i2) q
  | _ => rw [e1] at hw; exact hw.elim⟩
theorem s_aug (i : Nat) {x : Str} {op : Operator} {o : Op2 K} {e : EX K} (hN : X.N.Nodup) (ho : OpR X (inplaceOp op) o.r) (he : pE K X a e) (hi : X.N[i]? = some x := by rfl) (hx : Loc X.env.scope x := by first | exact Or.inl rfl | exact Or.inr rfl) (hf : X.fn x = true ∨ X.env.scope.names.lookup x = some .local := by first | exact .inl rfl | exact .inr rfl | assumption) :
    pS K X (.AugAssign (.Name x p) op a pos) (sAugO i o e) := by
  have hk0 : X.K = K := he.k
  subst hk0
  exact ⟨rfl, ps_aug hN hi hx he.h ho hf⟩
theorem j_sub : OpR X (inplaceOp .Sub) (oI0 (K := K) fun i j => i - j).r := iop_sub
theorem j_mul : OpR X (inplaceOp .Mult) (oI (K := K) CMul fun i j => i * j).r := iop_mul
theorem j_shl : OpR X (inplaceOp .LShift) (oI (K := K) CPow fun i j => i * 2 ^ j.toNat).r := iop_shl
theorem j_and : OpR X (inplaceOp .BitAnd) (oI0 (K := K) Builtin.bitAnd).r := iop_and
theorem j_or : OpR X (inplaceOp .BitOr) (oI0 (K := K) Builtin.bitOr).r := iop_or
theorem j_xor : OpR X (inplaceOp .BitXor) (oI0 (K := K) Builtin.bitXor).r := iop_xor
/-- reversed(range(n)) -/
theorem walk_rev {m : Bool} {Z F H : Hp} {lo : Int} {n : Nat} : Walk K m Z F H (Itc lo (-1) n) n (fun i d => d = .int (lo - (i : Nat))) := by
  intro i F1 H1 s1 s2 s3 s4
  refine ⟨fun hi => ⟨hi, ?_⟩, fun hi => by rw [hi]; exact Nat.le_refl _⟩
  rintro x H2 ⟨rfl, rfl⟩
  refine ⟨_, F1, .refl s2, .int _, ?_⟩
  congr 1
  omega
def iRev1 (x : EX K) : IX K := ⟨false, iRevR (tRg1 x.t), fun δ Q => x.w δ fun d => intD d fun n => (-4000000 ≤ n ∧ n ≤ 4000000) ∧ Q n.toNat fun i d => d = .int ((n.toNat : Int) - 1 - (i : Nat)), fun δ Q hw Z F0 F H σ ok R k => by
  refine x.ok δ _ hw Z F0 F H σ ok _ fun d v F1 H1 n1 i1 hw1 => ?_
  obtain ⟨n, rfl, hb, hq⟩ := intD_inv hw1
  refine ⟨n, i1.int_inv, by omega, by omega, by omega, by omega, ?_⟩
  have e : (0 : Int) + (((n - 0).toNat : Nat) : Int) - 1 = (n.toNat : Int) - 1 := by omega
  have e2 : (n - 0).toNat = n.toNat := by omega
  rw [e, e2]
  exact k _ _ _ F1 H1 n1 walk_rev (by omega) hq⟩
theorem i_rev1 {tg : Expr} {x : EX K} {p2 q2 : Pos} (hm : X.mg "reversed" = none) (hm2 : X.mg "range" = none) (h : pE K X a x) (hg : Gl X "reversed" := by rfl) (hg2 : Gl X "range" := by rfl) (hs : starEach [a] X.env = (false, eval a X.env) :: starEach [] X.env := by rfl)
    (hs2 : starEach [.Call (.Name "range" p) [a] [] pos] X.env = (false, eval (.Call (.Name "range" p) [a] [] pos) X.env) :: starEach [] X.env := by rfl) : pI K X tg (.Call (.Name "reversed" p2) [.Call (.Name "range" p) [a] [] pos] [] q2) (iRev1 x) := by
  have hk0 : X.K = K := h.k
  subst hk0
  exact ⟨rfl, pi_revR hg hm (prg_1 hg2 hm2 h.h hs) hs2⟩
/-- slices of a list -/
structure OX (K : PySem.W.Frag) where
  t : TO
  w : List Ent → (Option Int → Prop) → Prop
  ok : ∀ δ Q, w δ Q → ∀ (Z F0 F H : Hp) (σ : L2.St), Ok K Z F0 F H σ δ → ∀ Q' : Option Int → Hp → Prop, (∀ o F' H', Nx F H F' H' → Q o → Q' o H') → t σ H Q'
def oNo : OX K := ⟨tNoPart, fun _ Q => Q none, fun δ Q hw Z F0 F H σ ok Q' k => k none F H (.refl ok.nx.s) hw⟩
def oPart (x : EX K) : OX K := ⟨tPart x.t, fun δ Q => x.w δ fun d => intD d fun i => Q (some i), fun δ Q hw Z F0 F H σ ok Q' k => by
  refine x.ok δ _ hw Z F0 F H σ ok _ fun d v F1 H1 n1 i1 hq => ?_
  obtain ⟨i, rfl, hq⟩ := intD_inv hq
  exact ⟨i, i1.int_inv, k _ F1 H1 n1 hq⟩⟩
structure pO (K : PySem.W.Frag) (X : Cx) (e : Option Expr) (o : OX K) : Prop where
  k : X.K = K
  h : PO X e o.t
theorem o_no (hk : X.K = K := by rfl) : pO K X none oNo := ⟨hk, po_none⟩
theorem o_some {x : EX K} (h : pE K X a x) : pO K X (some a) (oPart x) := ⟨h.k, po_some h.h⟩
def cutD (ds : List D) (lo hi : Option Int) : List D := (ds.drop (HT.sIx ds.length 0 lo)).take (HT.sIx ds.length ds.length hi - HT.sIx ds.length 0 lo)
theorem isl_cut {F : Hp} {vs : List V} {ds : List D} (l : IsL K F vs ds) (lo hi : Option Int) : IsL K F (cutV vs lo hi) (cutD ds lo hi) := by
  unfold cutV cutD
  rw [l.1]
  refine ⟨by simp [l.1], fun i v d hv hd => ?_⟩
  rw [List.getElem?_take] at hv hd
  split at hv
  · rename_i hi'
    rw [if_pos hi'] at hd
    rw [List.getElem?_drop] at hv hd
    exact l.2 _ v d hv hd
  · cases hv
def lSl (x : RX K) (lo hi : OX K) : LX K := ⟨tSl (rSlL K) x.t lo.t hi.t, fun δ Q => x.w δ fun ds => lo.w δ fun a => hi.w δ fun b => Q (cutD ds a b), fun δ Q hw Z F0 F H σ ok Q' k => by
  refine x.ok δ _ hw Z F0 F H σ ok _ fun ds p vs F1 H1 n1 s1 l1 hw1 => ?_
  refine lo.ok δ _ hw1 Z F0 F1 H1 σ (ok.next n1) _ fun a F2 H2 n2 hw2 => ?_
  refine hi.ok δ _ hw2 Z F0 F2 H2 σ (ok.next (n1.trans n2)) _ fun b F3 H3 n3 hq => ?_
  refine ⟨p, vs, rfl, n3.h.seq (n2.h.seq s1), fun r hr => ?_⟩
  have n4 : Nx F3 H3 _ _ := Nx.own (o := .lst (cutV vs a b)) n3.s hr
  have nn := (n1.trans n2).trans n3
  exact k _ r _ _ _ (nn.trans n4) (nn.h.free hr) upd_same (some_ne n3.s hr) (isl_cut ((l1.mono n2.f).mono n3.f) a b) hq⟩
theorem l_sl {x : RX K} {lo hi : Option Expr} {y z : OX K} {p2 : Pos} (h : pR K X a x) (h1 : pO K X lo y) (h2 : pO K X hi z) : pL K X (.Subscript a (.Slice lo hi none p2) pos) (lSl x y z) := by
  have hk0 : X.K = K := h.k
  subst hk0
  exact ⟨rfl, pe_slice sl_list h.h h1.h h2.h⟩
def eSlS (x : EX K) (lo hi : OX K) : EX K := ⟨tSl rSlS x.t lo.t hi.t, fun δ Q => x.w δ fun d => strD d fun z => lo.w δ fun a => hi.w δ fun b => z.length ≤ sizeLine ∧ Q (.str (cutS z a b)), fun δ Q hw Z F0 F H σ ok Q' k => by
  refine x.ok δ _ hw Z F0 F H σ ok _ fun d v F1 H1 n1 i1 hw1 => ?_
  obtain ⟨z, rfl, hw1⟩ := strD_inv hw1
  refine lo.ok δ _ hw1 Z F0 F1 H1 σ (ok.next n1) _ fun a F2 H2 n2 hw2 => ?_
  refine hi.ok δ _ hw2 Z F0 F2 H2 σ (ok.next (n1.trans n2)) _ fun b F3 H3 n3 hq => ?_
  exact ⟨z, i1.str_inv, hq.1, k _ _ F3 H3 ((n1.trans n2).trans n3) (.str _) hq.2⟩⟩
theorem x_slS {x : EX K} {lo hi : Option Expr} {y z : OX K} {p2 : Pos} (h : pE K X a x) (h1 : pO K X lo y) (h2 : pO K X hi z) : pE K X (.Subscript a (.Slice lo hi none p2) pos) (eSlS x y z) := by
  have hk0 : X.K = K := h.k
  subst hk0
  exact ⟨rfl, pe_slice sl_str h.h h1.h h2.h⟩
/-- [.., *xs, ..]: the list's items among the others -/
def dAr (ds : List D) (as : List Ar) : List Ar := ds.map Ar.dat ++ as
theorem ars_dats {F H : Hp} : ∀ {vs : List V} {ds : List D}, IsL K F vs ds → ∀ {us : List V} {as : List Ar}, ArsOk K F H us as → ArsOk K F H (vs ++ us) (dAr ds as)
  | vs, [], l, us, as, h => by
    rw [l.inv_nil]
    exact h
  | vs, d :: ds, l, us, as, h => by
    obtain ⟨v, ws, rfl, h1, h2⟩ := l.inv_cons
    exact ⟨h1, ars_dats h2 h⟩
def aStar (x : RX K) (r : AX K) : AX K := ⟨StX.tStar K x.t r.t, fun δ Q => x.w δ fun ds => r.w δ fun as => Q (dAr ds as), fun δ Q hw Z F0 F H σ ok Q' k => by
  refine x.ok δ _ hw Z F0 F H σ ok _ fun ds p vs F1 H1 n1 s1 l1 hw1 => ?_
  refine ⟨p, vs, rfl, .inr s1, ?_⟩
  refine r.ok δ _ hw1 Z F0 F1 H1 σ (ok.next n1) _ fun as us F2 H2 n2 i2 hq => ?_
  exact k _ _ F2 H2 (n1.trans n2) (ars_dats (l1.mono n2.f) i2) hq⟩
theorem a_star {x : RX K} {y : AX K} (h : pR K X a x) (r : pA K X es y) (hs : starEach (.Starred a p :: es) X.env = (true, eval a X.env) :: starEach es X.env := by rfl) : pA K X (.Starred a p :: es) (aStar x y) := by
  have hk0 : X.K = K := h.k
  subst hk0
  exact ⟨rfl, StX.pa_star h.h r.h hs⟩
theorem dats_dAr : ∀ (ds es : List D) {as : List Ar}, dats as = some es → dats (dAr ds as) = some (ds ++ es)
  | [], _, _, h => h
  | d :: ds, es, as, h => by
    show (dats (dAr ds as)).map (d :: ·) = _
    rw [dats_dAr ds es h]
    rfl
end
end PL
namespace PL
open PySem PySem.Spec PyProof.Rows L2
/-! in over flat data, sum, bits of naturals -/
section
variable {K : PySem.W.Frag} {X : Cx} {a b c : Expr} {es : List Expr} {p pos q apos cpos tp : Pos}
def flatD : D → Option V
  | .non => some .non
  | .bl b => some (.bl b)
  | .int i => some (.int i)
  | .str s => some (.str s)
  | _ => none
def flats : List D → Option (List V)
  | [] => some []
  | d :: ds => (flatD d).bind fun x => (flats ds).map (x :: ·)
theorem flat_is {F : Hp} {v : V} : ∀ {d : D} {x : V}, Is K F v d → flatD d = some x → v = x ∧ flatV v = true
  | .non, x, h, e => by cases e; rw [h.non_inv]; exact ⟨rfl, rfl⟩
  | .bl b, x, h, e => by cases e; rw [h.bl_inv]; exact ⟨rfl, rfl⟩
  | .int b, x, h, e => by cases e; rw [h.int_inv]; exact ⟨rfl, rfl⟩
  | .str b, x, h, e => by cases e; rw [h.str_inv]; exact ⟨rfl, rfl⟩
  | .ref w, x, h, e => by cases e
  | .tup w, x, h, e => by cases e
  | .lst w, x, h, e => by cases e
  | .ins _ w, x, h, e => by cases e
theorem flats_is {F : Hp} : ∀ {vs : List V} {ds : List D} {xs : List V}, IsL K F vs ds → flats ds = some xs → vs = xs ∧ vs.all flatV = true
  | vs, [], xs, l, e => by
    cases e
    rw [l.inv_nil]
    exact ⟨rfl, rfl⟩
  | vs, d :: ds, xs, l, e => by
    obtain ⟨v, ws, rfl, h1, h2⟩ := l.inv_cons
    simp only [flats, Option.bind_eq_some_iff, Option.map_eq_some_iff] at e
    obtain ⟨x, e1, ys, e2, rfl⟩ := e
    obtain ⟨rfl, f1⟩ := flat_is h1 e1
    obtain ⟨rfl, f2⟩ := flats_is h2 e2
    exact ⟨rfl, by rw [List.all_cons, f1, f2]; rfl⟩
def seqD : D → Option (List D)
  | .lst ds => some ds
  | .tup ds => some ds
  | _ => none
inductive gIn (neg : Bool) (d e : D) (Q : D → Prop) : Prop where
  | mk (x : V) (ds : List D) (xs : List V) (h1 : flatD d = some x) (h2 : seqD e = some ds) (h3 : flats ds = some xs) (h4 : Q (.bl (if neg then !inV x xs else inV x xs))) : gIn neg d e Q
def oIn (neg : Bool) : Op2 K := ⟨rIn K neg, gIn neg, fun d e v u F H Q Q' a b s h k => by
  obtain ⟨x, ds, xs, e1, e2, e3, hq⟩ := h
  obtain ⟨rfl, f1⟩ := flat_is a e1
  cases e with
  | lst es =>
    cases e2
    obtain ⟨p, vs, rfl, st, l⟩ := b.lst_inv
    obtain ⟨rfl, f2⟩ := flats_is l e3
    exact ⟨p, vs, rfl, .inl (s.seq st), f1, f2, k _ _ F H (.refl s) (.bl _) hq⟩
  | tup es =>
    cases e2
    obtain ⟨p, vs, rfl, st, l⟩ := b.tup_inv
    obtain ⟨rfl, f2⟩ := flats_is l e3
    exact ⟨p, vs, rfl, .inr (same_t s st), f1, f2, k _ _ F H (.refl s) (.bl _) hq⟩
  | _ => cases e2⟩
theorem h_inL (hk : X.K = K := by rfl) : OpR X (compareOp .In) (oIn (K := K) false).r := by subst hk; exact op_in_seq
theorem h_notInL (hk : X.K = K := by rfl) : OpR X (compareOp .NotIn) (oIn (K := K) true).r := by subst hk; exact op_notIn_seq
theorem h_inT (hk : X.K = K := by rfl) : OpR X (compareOp .In) (oIn (K := K) false).r := by subst hk; exact op_in_seq
theorem h_notInT (hk : X.K = K := by rfl) : OpR X (compareOp .NotIn) (oIn (K := K) true).r := by subst hk; exact op_notIn_seq
theorem flats_bl : ∀ bs : List Bool, flats (bs.map D.bl) = some (bs.map V.bl)
  | [] => rfl
  | b :: bs => by
    show (some (V.bl b)).bind _ = _
    rw [Option.bind_some, flats_bl bs]
    rfl
theorem flats_int : ∀ bs : List Int, flats (bs.map D.int) = some (bs.map V.int)
  | [] => rfl
  | b :: bs => by
    show (some (V.int b)).bind _ = _
    rw [Option.bind_some, flats_int bs]
    rfl
theorem in_true : ∀ bs : List Bool, inV (.bl true) (bs.map V.bl) = bs.any id
  | [] => rfl
  | b :: bs => by
    show (eqV (.bl b) (.bl true) || inV (.bl true) (bs.map V.bl)) = _
    rw [in_true bs]
    cases b <;> rfl
theorem in_int (i : Int) : ∀ bs : List Int, inV (.int i) (bs.map V.int) = decide (i ∈ bs)
  | [] => by simp [inV]
  | b :: bs => by
    show (eqV (.int b) (.int i) || inV (.int i) (bs.map V.int)) = _
    rw [in_int i bs]
    show ((b == i) || _) = _
    have : (b == i) = decide (i = b) := by rw [show (b == i) = decide (b = i) from rfl]; exact decide_eq_decide.mpr ⟨Eq.symm, Eq.symm⟩
    rw [this]
    simp
/-- sum of a list of ints -/
theorem ints_inv {F : Hp} : ∀ {vs : List V} {bs : List Int}, IsL K F vs (bs.map D.int) → vs = bs.map V.int
  | vs, [], h => by rw [h.inv_nil]; rfl
  | vs, b :: bs, h => by
    obtain ⟨v, ws, rfl, h1, h2⟩ := h.inv_cons
    rw [h1.int_inv, ints_inv h2]
    rfl
def eSum (x : RX K) : EX K := ⟨tCB (rSum K) (tCons x.t tNil), fun δ Q => x.w δ fun ds => ∃ ns : List Int, ds = ns.map D.int ∧ Q (.int ns.sum), fun δ Q hw Z F0 F H σ ok Q' k => by
  refine x.ok δ _ hw Z F0 F H σ ok _ fun ds p vs F1 H1 n1 s l hq => ?_
  obtain ⟨ns, rfl, hq⟩ := hq
  have e := ints_inv l
  subst e
  exact ⟨p, ns, rfl, s, k _ _ F1 H1 n1 (.int _) hq⟩⟩
theorem x_sum {x : RX K} (hc : X.calm = true) (hm : X.mg "sum" = none) (h : pR K X a x) (hg : Gl X "sum" := by rfl) (hs : starEach [a] X.env = [(false, eval a X.env)] := by rfl) : pE K X (.Call (.Name "sum" p) [a] [] pos) (eSum x) := by
  have hk0 : X.K = K := h.k
  subst hk0
  exact ⟨rfl, pe_callB (cr_sum hc) hg hm (by decide +kernel) (pa1 h.h hs) (by decide +kernel) (by decide +kernel) hs (by rfl)⟩
end
/-! naturals and their bits -/
theorem and_c (a b : Nat) : Builtin.bitAnd (a : Int) (b : Int) = ((a &&& b : Nat) : Int) := by
  rw [PyProof.Rows.bitAnd_pp (by omega) (by omega), Int.toNat_natCast, Int.toNat_natCast]
theorem or_c (a b : Nat) : Builtin.bitOr (a : Int) (b : Int) = ((a ||| b : Nat) : Int) := by
  rw [Bits.bitOr_pp (by omega) (by omega), Int.toNat_natCast, Int.toNat_natCast]
theorem xor_c (a b : Nat) : Builtin.bitXor (a : Int) (b : Int) = ((a ^^^ b : Nat) : Int) := by
  rw [Bits.bitXor_pp (by omega) (by omega), Int.toNat_natCast, Int.toNat_natCast]
theorem pow_c (n : Nat) : (2 : Int) ^ n = ((2 ^ n : Nat) : Int) := by rw [Int.natCast_pow]; rfl
theorem shl_c (a n : Nat) : (a : Int) * 2 ^ n = ((a * 2 ^ n : Nat) : Int) := by rw [pow_c, Int.natCast_mul]
theorem shr_c (a n : Nat) : (a : Int) / 2 ^ n = ((a / 2 ^ n : Nat) : Int) := by rw [pow_c, Int.natCast_ediv]
theorem bit_c (a n : Nat) : Builtin.bitAnd ((a : Int) / 2 ^ n) 1 = if a.testBit n then 1 else 0 := by
  rw [shr_c, show (1 : Int) = ((1 : Nat) : Int) from rfl, and_c, Nat.testBit_eq_decide_div_mod_eq, Nat.and_one_is_mod]
  have := Nat.mod_two_eq_zero_or_one (a / 2 ^ n)
  rcases this with h | h <;> simp [h]
theorem range_map {α β : Type} (xs : List α) (f : Nat → β) (g : α → β) (h : ∀ i x, xs[i]? = some x → f i = g x) : (List.range xs.length).map f = xs.map g := by
  apply List.ext_getElem
  · simp
  · intro i h1 h2
    simp at h1
    simp [h i _ (List.getElem?_eq_getElem h1)]
/-- the word of the points at which f holds -/
def DU (f : Nat → Bool) : Nat → Nat
  | 0 => 0
  | n + 1 => DU f n + (if f n then 2 ^ n else 0)
theorem DU_lt (f : Nat → Bool) : ∀ n, DU f n < 2 ^ n
  | 0 => by simp [DU]
  | n + 1 => by
    have := DU_lt f n
    unfold DU
    rw [Nat.pow_succ]
    split <;> omega
theorem DU_bit (f : Nat → Bool) : ∀ n p, p < n → (DU f n).testBit p = f p
  | 0, p, h => by omega
  | n + 1, p, h => by
    have hl := DU_lt f n
    unfold DU
    by_cases hp : p = n
    · subst hp
      cases e : f p with
      | true => rw [if_pos rfl, Nat.add_comm, Nat.testBit_two_pow_add_eq, Nat.testBit_lt_two_pow hl]; rfl
      | false => rw [if_neg (by simp), Nat.add_zero, Nat.testBit_lt_two_pow hl]
    · have hp : p < n := by omega
      cases e : f n with
      | true => rw [if_pos rfl, Nat.add_comm, Nat.testBit_two_pow_add_gt hp, DU_bit f n p hp]
      | false => rw [if_neg (by simp), Nat.add_zero, DU_bit f n p hp]
theorem eq_DU {t n : Nat} {f : Nat → Bool} (h : t < 2 ^ n) (hb : ∀ p, p < n → t.testBit p = f p) : t = DU f n := by
  apply Nat.eq_of_testBit_eq
  intro i
  by_cases hi : i < n
  · rw [hb i hi, DU_bit f n i hi]
  · have l1 : t < 2 ^ i := Nat.lt_of_lt_of_le h (Nat.pow_le_pow_right (by decide) (by omega))
    have l2 : DU f n < 2 ^ i := Nat.lt_of_lt_of_le (DU_lt f n) (Nat.pow_le_pow_right (by decide) (by omega))
    rw [Nat.testBit_lt_two_pow l1, Nat.testBit_lt_two_pow l2]
end PL
namespace PL
open PySem PySem.Spec PyProof.Rows L2
/-! lists of one's own that are returned, and stored into -/
section
variable {K : PySem.W.Frag} {X : Cx} {a b c : Expr} {es : List Expr} {p pos q apos cpos tp : Pos}
/-- return xs, a list of one's own -/
def sRetL (i : Nat) : SX K := ⟨tRet (tVar i), fun δ E => ownD (nth δ i) E.rl, fun δ E hw Z F0 F H σ D ok ke => by
  obtain ⟨ds, hi, hw⟩ := ownD_inv hw
  have hs := ok.at_ i
  rw [hi] at hs
  obtain ⟨p, vs, a, b, c, z, l⟩ := hs
  exact ⟨_, a, ke.rl ds p vs F H ok.nx z b c l hw⟩⟩
theorem s_retL (i : Nat) {x : Str} (hN : X.N[i]? = some x := by rfl) (hv : Vis X.env.scope x := by first | exact Or.inl rfl | exact Or.inr (Or.inl rfl) | exact Or.inr (Or.inr rfl)) (hd : (x == ("__debug__" : Str)) = false := by decide +kernel)
    (hcd : (x == ("__classdict__" : Str)) = false := by decide +kernel) (hk : X.K = K := by rfl) : pS K X (.Return (some (.Name x p)) pos) (sRetL i) := by
  have hk0 : X.K = K := hk
  subst hk0
  exact ⟨rfl, ps_ret (pe_var hN hv hd hcd)⟩
def sRetX (x : LX K) : SX K := ⟨tRet x.t, fun δ E => x.w δ E.rl, fun δ E hw Z F0 F H σ D ok ke => by
  refine x.ok δ _ hw Z F0 F H σ ok _ fun ds p vs F1 H1 n1 h0 hp hf hl hq => ?_
  exact ke.rl ds p vs F1 H1 (ok.next n1).nx (some_ne ok.nx.h h0) hp hf hl hq⟩
theorem s_retX {x : LX K} (h : pL K X a x) : pS K X (.Return (some a) pos) (sRetX x) := by
  have hk0 : X.K = K := h.k
  subst hk0
  exact ⟨rfl, ps_ret h.h⟩
abbrev LSp := List Ar → (List D → Prop) → Prop
def spOfL (K : PySem.W.Frag) (R : LSp) : Sp := fun vs H Q _ => ∃ (F : Hp) (as : List Ar) (P : List D → Prop), Same F H ∧ ArsOk K F H vs as ∧ R as P ∧ ∀ ds p us F' H', P ds → Nx F H F' H' → H p = none → H' p = some (.lst us) → F' p = none → IsL K F' us ds → Q (.ref p) H'
def lCallL (R : LSp) (x : AX K) : LX K := ⟨tCall (spOfL K R) [] E0 x.t, fun δ Q => x.w δ fun as => R as Q, fun δ Q hw Z F0 F H σ ok Q' k => by
  refine x.ok δ _ hw Z F0 F H σ ok _ fun as vs F1 H1 n1 i1 hw1 => ?_
  show spOfL K R (vs ++ []) H1 Q' E0
  rw [List.append_nil]
  exact ⟨F1, as, Q, n1.s, i1, hw1, fun ds p us F' H' q n h0 hp hf l => k ds p us F' H' (n1.trans n) (n1.h.free h0) hp hf l q⟩⟩
def CalL (P : Program) (w : World) (K : PySem.W.Frag) (mg : Str → Option Value) (base : Heap) (x : Str) (k : Nat) (ps : List Str) (R : LSp) : Prop := ∃ f fd, FnOk P w K mg base CX0 k f fd ps (spOfL K R) ∧ mg x = some (.ref f) ∧ PySem.W.keepIn K (.ref f) = true ∧ Binds K fd ps []
theorem CalL.mk {P : Program} {w : World} {mg : Str → Option Value} {base : Heap} {x qual : Str} {st : Stmt} {f : Addr} {fd : FuncData} {k : Nat} {ps : List Str} {R : LSp} (Fn : Fun K x qual st f fd) (F : FnOk P w K mg base CX0 k f fd ps (spOfL K R)) (m : mg x = some (.ref f)) (b : Binds K fd ps []) : CalL P w K mg base x k ps R := ⟨f, fd, F, m, Fn.kp, b⟩
theorem l_cal {x : Str} {ps : List Str} {j k : Nat} {R : LSp} {y : AX K} {e : Expr} (c : CalL X.prog X.w K X.mg X.base x k ps R) (hr : Room j X.A) (h : pA K X (e :: es) y) (hjk : k ≤ j := by decide) (hg : Gl X x := by rfl) (hd : (x == ("__debug__" : Str)) = false := by decide +kernel)
    (hst : starEach (e :: es) X.env = (false, eval e X.env) :: starEach es X.env := by rfl) (hpl : (backTo pos (starEach es X.env)).any (·.1) = false := by rfl) : pL K X (.Call (.Name x p) (e :: es) [] pos) (lCallL R y) := by
  have hk0 : X.K = K := h.k
  subst hk0
  obtain ⟨f, fd, F, m, kp, b⟩ := c
  exact ⟨rfl, pe_call F (hr.mono hjk) hg m kp b .nil pass0 h.h (hdb := hd) (he := hst) (hpl := hpl)⟩
theorem fnokL {P : Program} {w : World} {mg : Str → Option Value} {base : Heap} {x qual : Str} {st : Stmt} {f : Addr} {fd : FuncData} {N ps : List Str} {k : Nat} {R : LSp} (Fn : Fun K x qual st f fd) (S : FnScope N ps (defScope st))
    (len : ∀ as P, R as P → as.length = ps.length) (hl : ps.length ≤ N.length)
    (h : ∀ (cdv : Value) (A : Around) (outer : List Env) (s : Shared) (H : Hp) (E : XK), Room k (A.deeper (envOfC qual (defScope st) s.heap.objs.size f cdv)) → ∃ B : SX K,
      pB K (cxOf CX0 P w K mg base N qual (defScope st) f cdv A outer s H E).nox (defBody st) B ∧ ∀ as Q, R as Q → B.w (ents as N.length) { nx := fun _ => False, rt := fun _ => False, rl := Q }) : FnOk P w K mg base CX0 (k + 1) f fd ps (spOfL K R) := by
  refine Fn.ok S (fun vs H Q E h => ?_) (fun cdv A outer s H vs Q E hr hsp => ?_)
  · obtain ⟨F, as, P, _, ha, hR, _⟩ := h
    rw [ars_len ha]
    exact len as P hR
  · obtain ⟨F, as, P, sf, ha, hR, kk⟩ := hsp
    obtain ⟨B, hB, hw⟩ := h cdv A outer s H E hr
    exact ⟨B.t, hB.h, B.ok _ _ (hw as P hR) H F F H _ _ (ok_start sf ha (by rw [len as P hR]; exact hl)) ⟨fun _ _ _ _ _ q => q.elim, fun _ _ _ _ _ _ q => q.elim, fun _ _ _ _ _ q => q.elim, fun _ _ _ _ _ q => q.elim, fun ds p vs F' H' n hz hp hf l q => kk ds p vs F' H' q n hz hp hf l, fun _ _ _ _ _ _ _ _ _ _ _ _ _ _ _ _ _ q => q.elim, fun _ _ _ _ _ _ _ _ q => q.elim, fun _ _ _ _ _ _ _ _ _ q => q.elim, fun _ _ _ _ _ _ _ _ _ q => q.elim⟩⟩
/-- xs[i] = e -/
theorem isl_set {F : Hp} {vs : List V} {ds : List D} {v : V} {d : D} {j : Nat} (l : IsL K F vs ds) (h : Is K F v d) : IsL K F (vs.set j v) (ds.set j d) := by
  refine ⟨by simp [l.1], fun i x y hx hy => ?_⟩
  have hl := l.1
  by_cases e : j = i
  · subst e
    have hj := (List.getElem?_eq_some_iff.mp hx).1
    rw [List.length_set] at hj
    rw [List.getElem?_set_self hj] at hx
    rw [List.getElem?_set_self (by omega)] at hy
    cases hx
    cases hy
    exact h
  · rw [List.getElem?_set_ne e] at hx hy
    exact l.2 i x y hx hy
def sPut (i : Nat) (ix e : EX K) : SX K := ⟨tAsg e.t (gSub (tVar i) ix.t rSetL), fun δ E => e.w δ fun d => ownD (nth δ i) fun ds => ix.w δ fun k => intD k fun n => ∃ j, ixN ds.length n = some j ∧ E.nx (put δ i (.own (ds.set j d))), fun δ E hw Z F0 F H σ D ok ke => by
  refine e.ok δ _ hw Z F0 F H σ ok _ fun d v F1 H1 n1 i1 hw1 => ?_
  obtain ⟨ds, hi, hw2⟩ := ownD_inv hw1
  have ok1 := ok.next n1
  have hs := ok1.at_ i
  rw [hi] at hs
  obtain ⟨p, vs, ha, hb, hc, hz, l⟩ := hs
  refine ⟨_, ha, ?_⟩
  refine ix.ok δ _ hw2 Z F0 F1 H1 σ ok1 _ fun k u F2 H2 n2 i2 hw3 => ?_
  obtain ⟨n, rfl, j, hj, hq⟩ := intD_inv hw3
  exact ⟨p, vs, n, j, rfl, i2.int_inv, n2.h _ _ hb, by rw [l.1]; exact hj, ke.nx _ F2 _ σ ((ok1.next n2).chg hi ha (isl_set (l.mono n2.f) (i1.mono n2.f))) hq⟩⟩
theorem s_put (i : Nat) {x : Str} {ix e : EX K} {e1 : Expr} (he : pE K X a e) (hx : pE K X e1 ix) (hN : X.N[i]? = some x := by rfl) (hv : Vis X.env.scope x := by first | exact Or.inl rfl | exact Or.inr (Or.inl rfl) | exact Or.inr (Or.inr rfl)) (hd : (x == ("__debug__" : Str)) = false := by decide +kernel)
    (hcd : (x == ("__classdict__" : Str)) = false := by decide +kernel)
    (hs : swapsWithSole [.Subscript (.Name x p) e1 q] a pos.line X.env = pure false := by rfl) (hw : swappedStores [.Subscript (.Name x p) e1 q] a X.env = pure none := by rfl)
    (ha : ∀ v, assign (.Subscript (.Name x p) e1 q) X.env v = (do
      let ov ← holding [v] (eval (.Name x p) X.env)
      let iv ← holding [v, ov] (eval e1 X.env)
      standAt q
      holding [v, ov, iv] (setItem ov iv v)
      release [v, ov, iv] []) := by intro _; rfl) : pS K X (.Assign [.Subscript (.Name x p) e1 q] a pos) (sPut i ix e) := by
  have hk0 : X.K = K := he.k
  subst hk0
  exact ⟨rfl, ps_asg he.h (pg_sub (pe_var hN hv hd hcd) hx.h set_list ha) hs hw⟩
end
end PL
namespace PL
open PySem PySem.Spec PyProof.Rows L2
/-! what is never reached, zip, dicts of one's own, an instance that is lent, written dicts -/
section
variable {K : PySem.W.Frag} {X : Cx} {a b c : Expr} {es : List Expr} {p pos q apos cpos tp : Pos}
/-- a statement that is never reached -/
def sBad : SX K := ⟨fun _ _ _ => False, fun _ _ => False, fun δ E hw Z F0 F H σ D ok ke => hw.elim⟩
theorem s_bad {st : Stmt} (hk : X.K = K := by rfl) : pS K X st sBad := ⟨hk, ⟨fun _ _ _ _ _ _ h => h.elim⟩⟩
/-! zip -/
theorem i_zp {x y : EX K} {j : Nat} (hm : X.mg "zip" = none) (h : pE K X a x) (h2 : pE K X b y) (hg : Gl X "zip" := by rfl) (hs : starEach [a, b] X.env = [(false, eval a X.env), (false, eval b X.env)] := by rfl) (hs2 : starEach [b] X.env = [(false, eval b X.env)] := by rfl)
    (hs3 : starEach [a, b] X.env = (false, eval a X.env) :: starEach [b] X.env := by rfl) (hpl : (backTo pos (starEach [b] X.env)).any (·.1) = false := by rfl) : pI K X (.Tuple es j tp) (.Call (.Name "zip" p) [a, b] [] pos) (iZp x y) := by
  have hk0 : X.K = K := h.k
  subst hk0
  exact ⟨rfl, pi_zip hg hm (pa2 h.h h2.h hs hs2) hs3 hpl⟩
theorem i_zpR {x y : RX K} {j : Nat} (hm : X.mg "zip" = none) (h : pR K X a x) (h2 : pR K X b y) (hg : Gl X "zip" := by rfl) (hs : starEach [a, b] X.env = [(false, eval a X.env), (false, eval b X.env)] := by rfl) (hs2 : starEach [b] X.env = [(false, eval b X.env)] := by rfl)
    (hs3 : starEach [a, b] X.env = (false, eval a X.env) :: starEach [b] X.env := by rfl) (hpl : (backTo pos (starEach [b] X.env)).any (·.1) = false := by rfl) : pI K X (.Tuple es j tp) (.Call (.Name "zip" p) [a, b] [] pos) (iZpR x y) := by
  have hk0 : X.K = K := h.k
  subst hk0
  exact ⟨rfl, pi_zip hg hm (pa2 h.h h2.h hs hs2) hs3 hpl⟩
/-! dicts of one's own, keys ints and texts -/
def keyD : D → Option Key
  | .int i => some (.inl i)
  | .str s => some (.inr s)
  | _ => none
theorem key_is {F : Hp} {v : V} : ∀ {d : D} {k : Key}, Is K F v d → keyD d = some k → v = kV k
  | .int i, k, h, e => by cases e; exact h.int_inv
  | .str s, k, h, e => by cases e; exact h.str_inv
  | .non, _, _, e => by cases e
  | .bl _, _, _, e => by cases e
  | .ref _, _, _, e => by cases e
  | .tup _, _, _, e => by cases e
  | .lst _, _, _, e => by cases e
  | .ins _ _, _, _, e => by cases e
/-- entries beside data -/
def IsM (K : PySem.W.Frag) (F : Hp) (ws : List (Key × V)) (kvs : List (Key × D)) : Prop := ws.map (·.1) = kvs.map (·.1) ∧ IsL K F (ws.map (·.2)) (kvs.map (·.2))
theorem IsM.mono {F F' : Hp} {ws : List (Key × V)} {kvs : List (Key × D)} (s : Same F F') (h : IsM K F ws kvs) : IsM K F' ws kvs := ⟨h.1, h.2.mono s⟩
theorem IsM.nil {F : Hp} : IsM K F [] [] := ⟨rfl, .nil⟩
theorem IsM.cons {F : Hp} {ws : List (Key × V)} {kvs : List (Key × D)} {k : Key} {v : V} {d : D} (h : Is K F v d) (t : IsM K F ws kvs) : IsM K F ((k, v) :: ws) ((k, d) :: kvs) := ⟨by simp [t.1], .cons h t.2⟩
theorem IsM.inv {F : Hp} {ws : List (Key × V)} {k : Key} {d : D} {kvs : List (Key × D)} (h : IsM K F ws ((k, d) :: kvs)) : ∃ v us, ws = (k, v) :: us ∧ Is K F v d ∧ IsM K F us kvs := by
  cases ws with
  | nil => exact absurd h.1 (by simp)
  | cons w us =>
    obtain ⟨k', v⟩ := w
    have e := h.1
    simp only [List.map_cons, List.cons.injEq] at e
    obtain ⟨v', ws', e2, h1, h2⟩ := h.2.inv_cons
    simp only [List.map_cons, List.cons.injEq] at e2
    obtain ⟨rfl, rfl⟩ := e2
    have e1 : k' = k := e.1
    subst e1
    exact ⟨v, us, rfl, h1, e.2, h2⟩
theorem IsM.inv_nil {F : Hp} {ws : List (Key × V)} (h : IsM K F ws []) : ws = [] := by
  cases ws with
  | nil => rfl
  | cons w us => exact absurd h.1 (by simp)
def hasK (kvs : List (Key × D)) (k : Key) : Bool := kvs.any fun kv => decide (kv.1 = k)
def putM (kvs : List (Key × D)) (k : Key) (d : D) : List (Key × D) := if hasK kvs k = true then kvs.map (fun kv => if kv.1 = k then (kv.1, d) else kv) else kvs ++ [(k, d)]
theorem isM_has {F : Hp} (k : Key) : ∀ {kvs : List (Key × D)} {ws : List (Key × V)}, IsM K F ws kvs → (valV ws k).isSome = hasK kvs k
  | [], ws, h => by rw [h.inv_nil]; rfl
  | (j, d) :: kvs, ws, h => by
    obtain ⟨v, us, rfl, h1, h2⟩ := h.inv
    rw [← valV_any]
    have ih := isM_has k h2
    rw [← valV_any] at ih
    show (decide (j = k) || _) = (decide (j = k) || _)
    rw [ih]
    rfl
theorem isM_map {F : Hp} {k : Key} {v : V} {d : D} (h : Is K F v d) : ∀ {kvs : List (Key × D)} {ws : List (Key × V)}, IsM K F ws kvs → IsM K F (ws.map fun kv => if kv.1 = k then (kv.1, v) else kv) (kvs.map fun kv => if kv.1 = k then (kv.1, d) else kv)
  | [], ws, l => by rw [l.inv_nil]; exact .nil
  | (j, e) :: kvs, ws, l => by
    obtain ⟨u, us, rfl, h1, h2⟩ := l.inv
    rw [List.map_cons, List.map_cons]
    by_cases hj : j = k
    · rw [if_pos hj, if_pos hj]
      exact .cons h (isM_map h h2)
    · rw [if_neg hj, if_neg hj]
      exact .cons h1 (isM_map h h2)
theorem isM_snoc {F : Hp} {k : Key} {v : V} {d : D} (h : Is K F v d) : ∀ {kvs : List (Key × D)} {ws : List (Key × V)}, IsM K F ws kvs → IsM K F (ws ++ [(k, v)]) (kvs ++ [(k, d)])
  | [], ws, l => by rw [l.inv_nil]; exact .cons h .nil
  | (j, e) :: kvs, ws, l => by
    obtain ⟨u, us, rfl, h1, h2⟩ := l.inv
    exact .cons h1 (isM_snoc h h2)
theorem isM_put {F : Hp} {k : Key} {v : V} {d : D} {kvs : List (Key × D)} {ws : List (Key × V)} (h : Is K F v d) (l : IsM K F ws kvs) : IsM K F (putK ws k v) (putM kvs k d) := by
  unfold putK putM
  rw [valV_any, isM_has k l]
  split
  · exact isM_map h l
  · exact isM_snoc h l
theorem isM_len {F : Hp} {kvs : List (Key × D)} {ws : List (Key × V)} (l : IsM K F ws kvs) : ws.length = kvs.length := by
  have := congrArg List.length l.1
  simpa using this
def DicB (K : PySem.W.Frag) (kvs : List (Key × D)) : Big := ⟨fun F H p fp => fp = [p] ∧ ∃ ws, H p = some (.dK ws) ∧ IsM K F ws kvs, fun hF hH h => by
  obtain ⟨e, ws, a, b⟩ := h
  exact ⟨e, ws, by rw [hH _ (by rw [e]; simp)]; exact a, b.mono hF⟩⟩
/-- a name takes a new thing of one's own -/
theorem Ok.newBig {Z F0 F H : Hp} {σ : L2.St} {δ : List Ent} {i : Nat} {B : Big} {p : Addr} {fp : List Addr} (k : Ok K Z F0 F H σ δ) (hm : p ∈ fp) (hq : ∀ q ∈ fp, H q ≠ none ∧ F q = none ∧ Z q = none) (hB : B.P F H p fp) (hn : ∀ j q, (nth δ j).has σ[j]? q → q ∉ fp) :
    Ok K Z F0 F H (σ.set i (some (.ref p))) (put δ i (.big B fp)) :=
  k.chgE k.nx (by rw [List.length_set]) (fun j hj => List.getElem?_set_ne (Ne.symm hj)) (fun hi => ⟨p, by rw [List.getElem?_set_self (by rw [k.len]; exact hi)], hm, hq, hB⟩) (fun j _ => k.at_ j) (fun j q _ h1 _ h2 => hn j q h1 h2)
def sDNew (i : Nat) : SX K := ⟨tAsg tDNewK (gName i), fun δ E => ∀ p, E.nx (put δ i (.big (DicB K []) [p])), fun δ E hw Z F0 F H σ D ok ke => by
  intro p hp
  have ok1 := ok.next (Nx.own (o := .dK []) ok.nx.s hp)
  refine ke.nx _ F _ _ (ok1.newBig (B := DicB K []) (p := p) (fp := [p]) (by simp) (fun q hq => ?_) ⟨rfl, [], upd_same, .nil⟩ (fun j q h1 h2 => ?_)) (hw p)
  · rw [List.mem_singleton.mp hq]
    exact ⟨by rw [upd_same]; simp, some_ne ok.nx.s hp, some_ne ok.nx.h hp⟩
  · rw [List.mem_singleton.mp h2] at h1
    exact ((ok.at_ j).mine h1).1 hp⟩
theorem s_dnew (i : Nat) {x : Str} (hN : X.N.Nodup) (hi : X.N[i]? = some x := by rfl) (hx : Loc X.env.scope x := by first | exact Or.inl rfl | exact Or.inr rfl) (hf : X.fn x = true ∨ X.env.scope.names.lookup x = some .local := by first | exact .inl rfl | exact .inr rfl | assumption)
    (hs : swapsWithSole [.Name x p] (.Dict [] [] q) pos.line X.env = pure false := by rfl) (hw : swappedStores [.Name x p] (.Dict [] [] q) X.env = pure none := by rfl) (hk : X.K = K := by rfl) : pS K X (.Assign [.Name x p] (.Dict [] [] q) pos) (sDNew i) := by
  have hk0 : X.K = K := hk
  subst hk0
  exact ⟨rfl, ps_asg pe_dnewK (pg_name hN hi hx hf) hs hw⟩
/-- the dict at a name -/
def dicD (K : PySem.W.Frag) (e : Ent) (Q : List (Key × D) → List Addr → Prop) : Prop := ∃ kvs fp, e = .big (DicB K kvs) fp ∧ Q kvs fp
theorem dic_at {Z F0 F H : Hp} {σ : L2.St} {δ : List Ent} {i : Nat} {kvs : List (Key × D)} {fp : List Addr} (ok : Ok K Z F0 F H σ δ) (h : nth δ i = .big (DicB K kvs) fp) : ∃ p ws, σ[i]? = some (some (.ref p)) ∧ H p = some (.dK ws) ∧ IsM K F ws kvs ∧ fp = [p] ∧ F p = none ∧ Z p = none := by
  have hs := ok.at_ i
  rw [h] at hs
  obtain ⟨p, a, b, c, e, ws, h1, h2⟩ := hs
  exact ⟨p, ws, a, h1, h2, e, (c p b).2⟩
/-- x in d, x not in d -/
def eDIn (neg : Bool) (i : Nat) (x : EX K) : EX K := ⟨if neg then tDNotIn x.t (tVar i) else tDIn x.t (tVar i), fun δ Q => x.w δ fun d => dicD K (nth δ i) fun kvs _ => ∃ k, keyD d = some k ∧ Q (.bl (if neg then !hasK kvs k else hasK kvs k)), fun δ Q hw Z F0 F H σ ok Q' k => by
  have key : ∀ (y : V) (F1 H1 : Hp) (d : D), Nx F H F1 H1 → Is K F1 y d → (dicD K (nth δ i) fun kvs _ => ∃ k, keyD d = some k ∧ Q (.bl (if neg then !hasK kvs k else hasK kvs k))) → ∃ v, σ[i]? = some (some v) ∧ ∃ a o, v = .ref a ∧ DGet H1 a y o ∧ Q' (.bl (if neg then !o.isSome else o.isSome)) H1 := fun y F1 H1 d n1 i1 hd => by
    obtain ⟨kvs, fp, he, kk, hk, hq⟩ := hd
    obtain ⟨p, ws, a, h1, h2, _⟩ := dic_at (ok.next n1) he
    refine ⟨_, a, p, valV ws kk, rfl, by rw [key_is i1 hk]; exact DGet.k h1, ?_⟩
    rw [isM_has kk h2]
    exact k _ _ F1 H1 n1 (.bl _) hq
  cases neg with
  | true =>
    refine x.ok δ _ hw Z F0 F H σ ok _ fun d y F1 H1 n1 i1 hd => ?_
    exact key y F1 H1 d n1 i1 hd
  | false =>
    refine x.ok δ _ hw Z F0 F H σ ok _ fun d y F1 H1 n1 i1 hd => ?_
    exact key y F1 H1 d n1 i1 hd⟩
theorem x_dnin (i : Nat) {k : Nat} {n : Str} {x : EX K} (hr : Room k X.A) (h : pE K X a x) (hN : X.N[i]? = some n := by rfl) (hv : Vis X.env.scope n := by first | exact Or.inl rfl | exact Or.inr (Or.inl rfl) | exact Or.inr (Or.inr rfl)) (hd : (n == ("__debug__" : Str)) = false := by decide +kernel)
    (hcd : (n == ("__classdict__" : Str)) = false := by decide +kernel) (hm : behindInMarks .NotIn (.Name n q) = false := by rfl) (hu : X.A.units + 1 < cLine := by exact Nat.lt_of_le_of_lt (Nat.add_le_add_left (by decide) _) hr.units) : pE K X (.Compare a [.NotIn] [.Name n q] pos) (eDIn true i x) := by
  have hk0 : X.K = K := h.k
  subst hk0
  exact ⟨rfl, pe_cmp (pc_dnotin hu h.h (pe_var hN hv hd hcd)) hm⟩
/-- d[k] = e -/
def sDPutI (i : Nat) (x e : EX K) : SX K := ⟨sDPut (tVar i) x.t e.t, fun δ E => e.w δ fun v => dicD K (nth δ i) fun kvs fp => x.w δ fun d => ∃ k, keyD d = some k ∧ kvs.length < 4000000 ∧ E.nx (put δ i (.big (DicB K (putM kvs k v)) fp)), fun δ E hw Z F0 F H σ D ok ke => by
  refine e.ok δ _ hw Z F0 F H σ ok _ fun d v F1 H1 n1 i1 hw1 => ?_
  have ok1 := ok.next n1
  obtain ⟨kvs, fp, he, hw2⟩ := hw1
  obtain ⟨p, ws, a, h1, h2, hf, hF, hZ⟩ := dic_at ok1 he
  refine ⟨_, a, ?_⟩
  refine x.ok δ _ hw2 Z F0 F1 H1 σ ok1 _ fun d2 y F2 H2 n2 i2 hw3 => ?_
  obtain ⟨k, hk, hl, hq⟩ := hw3
  have ok2 := ok1.next n2
  obtain ⟨p2, ws2, a2, g1, g2, gf, gF, gZ⟩ := dic_at ok2 he
  rw [a] at a2
  cases a2
  have hm : (nth δ i).has σ[i]? p := by rw [he, hf]; exact List.mem_singleton.mpr rfl
  refine ⟨p, _, rfl, by rw [key_is i2 hk]; exact DPut.k g1 (by rw [isM_len g2]; exact Nat.lt_trans hl (by decide)), ?_⟩
  refine ke.nx _ F2 _ σ (ok2.only gZ gF hm ?_ (fun q hq => by rw [he]; exact hq)) hq
  refine ⟨p, a, by rw [hf]; simp, fun q hq => ?_, ⟨hf, _, upd_same, isM_put (i1.mono n2.f) g2⟩⟩
  rw [hf] at hq
  rw [List.mem_singleton.mp hq]
  exact ⟨by rw [upd_same]; simp, gF, gZ⟩⟩
theorem s_dput (i : Nat) {k : Nat} {n : Str} {x e : EX K} {e1 : Expr} {p2 : Pos} (hr : Room k X.A) (he : pE K X a e) (hx : pE K X e1 x) (hN : X.N[i]? = some n := by rfl) (hv : Vis X.env.scope n := by first | exact Or.inl rfl | exact Or.inr (Or.inl rfl) | exact Or.inr (Or.inr rfl)) (hd : (n == ("__debug__" : Str)) = false := by decide +kernel)
    (hcd : (n == ("__classdict__" : Str)) = false := by decide +kernel) (hs : swapsWith a (some (.Subscript (.Name n p) e1 p2)) pos.line X.env = pure false := by rfl) (hu : X.A.units + 1 < cLine := by exact Nat.lt_of_le_of_lt (Nat.add_le_add_left (by decide) _) hr.units) :
    pS K X (.Assign [.Subscript (.Name n p) e1 p2] a pos) (sDPutI i x e) := by
  have hk0 : X.K = K := he.k
  subst hk0
  exact ⟨rfl, ps_dput hu (pe_var hN hv hd hcd) hx.h he.h hs⟩
/-! an instance of one's own that is lent to a def, whose answer is dropped -/
def sLend (C : Addr) (i : Nat) (R : FSp) : SX K := ⟨tDrop (tCall (spOf K R) [] E0 (tCons (tVar i) tNil)), fun δ E => objD C (nth δ i) fun p fs => R [.dat (.ins C fs)] fun _ => E.nx δ, fun δ E hw Z F0 F H σ D ok ke => by
  obtain ⟨p, fs, hi, hq⟩ := objD_inv hw
  have hs := ok.at_ i
  rw [hi] at hs
  obtain ⟨dx, vs, a, b, c, z, l⟩ := hs
  refine ⟨_, a, ?_⟩
  have sf : Same F (upd F p (.ins C dx vs)) := same_new c
  refine ⟨upd F p (.ins C dx vs), [.dat (.ins C fs)], _, same_at ok.nx.s b, ⟨.ins upd_same l.1 (fun i p q h1 h2 => (l.2 i p q h1 h2).mono sf), trivial⟩, hq, fun d v F' H' hp n _ => ?_⟩
  exact ke.nx δ F H' σ (ok.next ⟨.refl _, n.h, fun _ _ h => h, ok.nx.s.trans n.h⟩) hp⟩
theorem s_lend {C : Addr} (i : Nat) {x n : Str} {ps : List Str} {j k : Nat} {R : FSp} (c : Cal X.prog X.w K X.mg X.base x k ps R) (hr : Room j X.A) (hN : X.N[i]? = some n := by rfl) (hv : Vis X.env.scope n := by first | exact Or.inl rfl | exact Or.inr (Or.inl rfl) | exact Or.inr (Or.inr rfl)) (hd : (n == ("__debug__" : Str)) = false := by decide +kernel)
    (hcd : (n == ("__classdict__" : Str)) = false := by decide +kernel) (hjk : k ≤ j := by decide) (hg : Gl X x := by rfl) (hdx : (x == ("__debug__" : Str)) = false := by decide +kernel)
    (hs : starEach [.Name n q] X.env = [(false, eval (.Name n q) X.env)] := by rfl) (hst : starEach [.Name n q] X.env = (false, eval (.Name n q) X.env) :: starEach [] X.env := by rfl) (hpl : (backTo cpos (starEach [] X.env)).any (·.1) = false := by rfl)
    (hsw : swapsWith (.Call (.Name x p) [.Name n q] [] cpos) none pos.line X.env = pure false := by rfl) (hk : X.K = K := by rfl) : pS K X (.Expr (.Call (.Name x p) [.Name n q] [] cpos) pos) (sLend C i R) := by
  have hk0 : X.K = K := hk
  subst hk0
  obtain ⟨f, fd, F, m, kp, b⟩ := c
  exact ⟨rfl, ps_expr (pe_call F (hr.mono hjk) hg m kp b .nil pass0 (pa1 (pe_var hN hv hd hcd) hs) (hdb := hdx) (he := hst) (hpl := hpl)) hsw⟩
/-! a written dict with text keys -/
def eKD (w : World) (ad : Addr) (vals : List (Str × Int)) (hv : ∀ z i, (z, i) ∈ vals → KDct K w ad z (.int i)) (x : EX K) : EX K := ⟨tOp (rIxD K w) (tC (.ref ad)) x.t, fun δ Q => x.w δ fun d => ∃ z i, d = .str z ∧ (z, i) ∈ vals ∧ Q (.int i), fun δ Q hw Z F0 F H σ ok Q' k => by
  refine x.ok δ _ hw Z F0 F H σ ok _ fun d v F1 H1 n1 i1 hq => ?_
  obtain ⟨z, i, rfl, hm, hq⟩ := hq
  exact ⟨ad, z, .int i, rfl, i1.str_inv, hv z i hm, k _ _ F1 H1 n1 (.int _) hq⟩⟩
structure KDc (K : PySem.W.Frag) (w : World) (mg : Str → Option Value) (n : Str) (ad : Addr) (vals : List (Str × Int)) : Prop where
  m : mg n = some (.ref ad)
  v : ∀ z i, (z, i) ∈ vals → KDct K w ad z (.int i)
theorem x_kd {ad : Addr} {n : Str} {vals : List (Str × Int)} {x : EX K} (hm : KDc K X.w X.mg n ad vals) (h : pE K X a x) (hg : Gl X n := by rfl) (hd : (n == ("__debug__" : Str)) = false := by decide +kernel) (hs : PlainIx a := by intro _ _; rfl) : pE K X (.Subscript (.Name n q) a pos) (eKD X.w ad vals hm.v x) := by
  have hk0 : X.K = K := h.k
  subst hk0
  exact ⟨rfl, pe_ix ix_kdict (pe_glob hg hm.m (show RelV (V.ref ad) (Value.ref ad) from rfl) hd) h.h hs⟩
end
end PL
namespace PL
open PySem PySem.Spec PyProof.Rows L2
/-! a pair of lists of one's own that is returned; append to a call's list -/
section
variable {K : PySem.W.Frag} {X : Cx} {a b c : Expr} {es : List Expr} {p pos q apos cpos tp : Pos}
theorem own_at {Z F0 F H : Hp} {σ : L2.St} {δ : List Ent} {i : Nat} {ds : List D} (ok : Ok K Z F0 F H σ δ) (h : nth δ i = .own ds) : ∃ p vs, σ[i]? = some (some (.ref p)) ∧ H p = some (.lst vs) ∧ F p = none ∧ Z p = none ∧ IsL K F vs ds := by
  have hs := ok.at_ i
  rw [h] at hs
  exact hs
/-- return (x, y), two lists of one's own -/
def sRet2 (i j : Nat) (hij : i ≠ j) : SX K := ⟨tRet (tTup (tCons (tVar i) (tCons (tVar j) tNil))), fun δ E => ownD (nth δ i) fun ds => ownD (nth δ j) fun es => E.r2 ds es, fun δ E hw Z F0 F H σ D ok ke => by
  obtain ⟨ds, hi, hw1⟩ := ownD_inv hw
  obtain ⟨es, hj, hq⟩ := ownD_inv hw1
  obtain ⟨x, vs, ax, bx, cx, zx, lx⟩ := own_at ok hi
  obtain ⟨y, us, ay, b_y, cy, zy, ly⟩ := own_at ok hj
  refine ⟨_, ax, _, ay, by show 2 ≤ sizeLine; decide, fun p hp => ?_⟩
  have hx : x ≠ p := fun e => by rw [e, hp] at bx; cases bx
  have hy : y ≠ p := fun e => by rw [e, hp] at b_y; cases b_y
  have n1 : Nx F H F (upd H p (.tup [.ref x, .ref y])) := Nx.own ok.nx.s hp
  refine ke.r2 ds es p x y vs us F _ (ok.nx.trans n1) (fun q hq => ?_) (fun e => ?_) upd_same (by rw [upd_ne hx]; exact bx) (by rw [upd_ne hy]; exact b_y) lx ly hq
  · simp only [List.mem_cons, List.not_mem_nil, or_false] at hq
    rcases hq with rfl | rfl | rfl
    · exact ⟨some_ne ok.nx.h hp, some_ne ok.nx.s hp⟩
    · exact ⟨zx, cx⟩
    · exact ⟨zy, cy⟩
  · exact hij (ok.ow i j x (by rw [hi]; exact ax) (by rw [hj]; rw [e]; exact ay))⟩
theorem s_ret2 (i j : Nat) {x y : Str} {m : Nat} {p1 p2 : Pos} (hN : X.N[i]? = some x := by rfl) (hM : X.N[j]? = some y := by rfl) (hv : Vis X.env.scope x := by first | exact Or.inl rfl | exact Or.inr (Or.inl rfl) | exact Or.inr (Or.inr rfl)) (hv2 : Vis X.env.scope y := by first | exact Or.inl rfl | exact Or.inr (Or.inl rfl) | exact Or.inr (Or.inr rfl)) (hd : (x == ("__debug__" : Str)) = false := by decide +kernel)
    (hcd : (x == ("__classdict__" : Str)) = false := by decide +kernel) (hd2 : (y == ("__debug__" : Str)) = false := by decide +kernel) (hcd2 : (y == ("__classdict__" : Str)) = false := by decide +kernel) (hij : i ≠ j := by decide)
    (hs : starEach [.Name x p1, .Name y p2] X.env = [(false, eval (.Name x p1) X.env), (false, eval (.Name y p2) X.env)] := by rfl) (hs2 : starEach [.Name y p2] X.env = [(false, eval (.Name y p2) X.env)] := by rfl) (hk : X.K = K := by rfl) :
    pS K X (.Return (some (.Tuple [.Name x p1, .Name y p2] m p)) pos) (sRet2 i j hij) := by
  have hk0 : X.K = K := hk
  subst hk0
  exact ⟨rfl, ps_ret (pe_tup (pa2 (pe_var hN hv hd hcd) (pe_var hM hv2 hd2 hcd2) hs hs2))⟩
abbrev TSp := List Ar → (List D → List D → Prop) → Prop
def spOf2 (K : PySem.W.Frag) (R : TSp) : Sp := fun vs H Q _ => ∃ (F : Hp) (as : List Ar) (P : List D → List D → Prop), Same F H ∧ ArsOk K F H vs as ∧ R as P ∧ ∀ ds es p x y us zs F' H', P ds es → Nx F H F' H' → (∀ q ∈ [p, x, y], H q = none ∧ F' q = none) → x ≠ y → H' p = some (.tup [.ref x, .ref y]) → H' x = some (.lst us) → H' y = some (.lst zs) → IsL K F' us ds → IsL K F' zs es → Q (.ref p) H'
def Cal2 (P : Program) (w : World) (K : PySem.W.Frag) (mg : Str → Option Value) (base : Heap) (x : Str) (k : Nat) (ps : List Str) (R : TSp) : Prop := ∃ f fd, FnOk P w K mg base CX0 k f fd ps (spOf2 K R) ∧ mg x = some (.ref f) ∧ PySem.W.keepIn K (.ref f) = true ∧ Binds K fd ps []
theorem Cal2.mk {P : Program} {w : World} {mg : Str → Option Value} {base : Heap} {x qual : Str} {st : Stmt} {f : Addr} {fd : FuncData} {k : Nat} {ps : List Str} {R : TSp} (Fn : Fun K x qual st f fd) (F : FnOk P w K mg base CX0 k f fd ps (spOf2 K R)) (m : mg x = some (.ref f)) (b : Binds K fd ps []) : Cal2 P w K mg base x k ps R := ⟨f, fd, F, m, Fn.kp, b⟩
theorem fnok2 {P : Program} {w : World} {mg : Str → Option Value} {base : Heap} {x qual : Str} {st : Stmt} {f : Addr} {fd : FuncData} {N ps : List Str} {k : Nat} {R : TSp} (Fn : Fun K x qual st f fd) (S : FnScope N ps (defScope st))
    (len : ∀ as P, R as P → as.length = ps.length) (hl : ps.length ≤ N.length)
    (h : ∀ (cdv : Value) (A : Around) (outer : List Env) (s : Shared) (H : Hp) (E : XK), Room k (A.deeper (envOfC qual (defScope st) s.heap.objs.size f cdv)) → ∃ B : SX K,
      pB K (cxOf CX0 P w K mg base N qual (defScope st) f cdv A outer s H E).nox (defBody st) B ∧ ∀ as Q, R as Q → B.w (ents as N.length) { nx := fun _ => False, rt := fun _ => False, r2 := Q }) : FnOk P w K mg base CX0 (k + 1) f fd ps (spOf2 K R) := by
  refine Fn.ok S (fun vs H Q E h => ?_) (fun cdv A outer s H vs Q E hr hsp => ?_)
  · obtain ⟨F, as, P, _, ha, hR, _⟩ := h
    rw [ars_len ha]
    exact len as P hR
  · obtain ⟨F, as, P, sf, ha, hR, kk⟩ := hsp
    obtain ⟨B, hB, hw⟩ := h cdv A outer s H E hr
    exact ⟨B.t, hB.h, B.ok _ _ (hw as P hR) H F F H _ _ (ok_start sf ha (by rw [len as P hR]; exact hl)) ⟨fun _ _ _ _ _ q => q.elim, fun _ _ _ _ _ _ q => q.elim, fun _ _ _ _ _ q => q.elim, fun _ _ _ _ _ q => q.elim, fun _ _ _ _ _ _ _ _ _ _ q => q.elim, fun ds es p x y vs us F' H' n h1 h2 h3 h4 h5 h6 h7 q => kk ds es p x y vs us F' H' q n h1 h2 h3 h4 h5 h6 h7, fun _ _ _ _ _ _ _ _ q => q.elim, fun _ _ _ _ _ _ _ _ _ q => q.elim, fun _ _ _ _ _ _ _ _ _ q => q.elim⟩⟩
/-- f(..) whose pair of lists becomes a datum -/
def eCall2 (R : TSp) (x : AX K) : EX K := ⟨tCall (spOf2 K R) [] E0 x.t, fun δ Q => x.w δ fun as => R as fun ds es => Q (.tup [.lst ds, .lst es]), fun δ Q hw Z F0 F H σ ok Q' k => by
  refine x.ok δ _ hw Z F0 F H σ ok _ fun as vs F1 H1 n1 i1 hw1 => ?_
  show spOf2 K R (vs ++ []) H1 Q' E0
  rw [List.append_nil]
  refine ⟨F1, as, _, n1.s, i1, hw1, fun ds es p x y us zs F' H' hq n2 h1 h2 h3 h4 h5 h6 h7 => ?_⟩
  have fx := h1 x (by simp)
  have fy := h1 y (by simp)
  have fp := h1 p (by simp)
  have n3 := n2.frz fx.1 h4 fx.2
  have yx : (upd F' x (.lst us)) y = none := by rw [upd_ne (Ne.symm h2)]; exact fy.2
  have n4 := n3.frz fy.1 h5 yx
  have px : p ≠ x := fun e => by rw [e, h4] at h3; cases h3
  have py : p ≠ y := fun e => by rw [e, h5] at h3; cases h3
  have pn : (upd (upd F' x (.lst us)) y (.lst zs)) p = none := by rw [upd_ne py, upd_ne px]; exact fp.2
  have n5 := n4.frz fp.1 h3 pn
  have s1 : Same F' (upd F' x (.lst us)) := same_new fx.2
  have s2 : Same (upd F' x (.lst us)) (upd (upd F' x (.lst us)) y (.lst zs)) := same_new yx
  have s3 : Same (upd (upd F' x (.lst us)) y (.lst zs)) (upd (upd (upd F' x (.lst us)) y (.lst zs)) p (.tup [.ref x, .ref y])) := same_new pn
  refine k _ _ _ _ (n1.trans n5) (is_tup upd_same (.cons (is_lst (vs := us) (.of ?_) (h6.mono (s1.trans (s2.trans s3)))) (.cons (is_lst (vs := zs) (.of ?_) (h7.mono (s1.trans (s2.trans s3)))) .nil))) hq
  · rw [upd_ne (Ne.symm px), upd_ne h2]
    exact upd_same
  · rw [upd_ne (Ne.symm py)]
    exact upd_same⟩
theorem x_cal2 {x : Str} {ps : List Str} {j k : Nat} {R : TSp} {y : AX K} {e : Expr} (c : Cal2 X.prog X.w K X.mg X.base x k ps R) (hr : Room j X.A) (h : pA K X (e :: es) y) (hjk : k ≤ j := by decide) (hg : Gl X x := by rfl) (hd : (x == ("__debug__" : Str)) = false := by decide +kernel)
    (hst : starEach (e :: es) X.env = (false, eval e X.env) :: starEach es X.env := by rfl) (hpl : (backTo pos (starEach es X.env)).any (·.1) = false := by rfl) : pE K X (.Call (.Name x p) (e :: es) [] pos) (eCall2 R y) := by
  have hk0 : X.K = K := h.k
  subst hk0
  obtain ⟨f, fd, F, m, kp, b⟩ := c
  exact ⟨rfl, pe_call F (hr.mono hjk) hg m kp b .nil pass0 h.h (hdb := hd) (he := hst) (hpl := hpl)⟩
/-- what stands apart from the state may change -/
theorem Ok.apart {Z F0 F H : Hp} {σ : L2.St} {δ : List Ent} {q : Addr} {o : HO} (ok : Ok K Z F0 F H σ δ) (hz : Z q = none) (hf : F q = none) (hn : ∀ j, ¬ (nth δ j).has σ[j]? q) : Ok K Z F0 F (upd H q o) σ δ :=
  ⟨⟨ok.nx.f, same_mut ok.nx.h hz, ok.nx.g, same_mut ok.nx.s hf⟩, ok.len, fun j => (ok.at_ j).frame (.refl _) (fun r hr => ((ok.at_ j).mine hr).2.1) (fun r hr => upd_ne (fun e => hn j (by rw [← e]; exact hr))), ok.ow⟩
/-- f(..)[1].append(e) -/
def sApp2 (R : TSp) (x : AX K) (e : EX K) : SX K := ⟨tDrop (tBM K "list" rAppend (tOp (rIx K) (tCall (spOf2 K R) [] E0 x.t) (tC (.int 1))) (tCons e.t tNil)), fun δ E => x.w δ fun as => R as fun _ es => es.length < 4000000 ∧ e.w δ fun _ => E.nx δ, fun δ E hw Z F0 F H σ D ok ke => by
  refine x.ok δ _ hw Z F0 F H σ ok _ fun as vs F1 H1 n1 i1 hw1 => ?_
  show spOf2 K R (vs ++ []) H1 _ E0
  rw [List.append_nil]
  refine ⟨F1, as, _, n1.s, i1, hw1, fun ds es p x y us zs F' H' hq n2 h1 h2 h3 h4 h5 h6 h7 => ?_⟩
  have fy := h1 y (by simp)
  refine .inr (.inl ⟨p, [.ref x, .ref y], 1, .ref y, rfl, rfl, .of h3, rfl, ?_⟩)
  have ok2 := ok.next (n1.trans n2)
  refine ⟨.inl ⟨rfl, _, SqL.of h5⟩, ?_⟩
  refine e.ok δ _ hq.2 Z F0 F' H' σ ok2 _ fun d v F2 H2 n3 i3 hn => ?_
  have h5' := n3.h _ _ h5
  refine ⟨y, zs, v, rfl, rfl, h5', by rw [h7.1]; exact Nat.lt_trans hq.1 (by decide), ?_⟩
  have h0 : H y = none := n1.h.free fy.1
  refine ke.nx _ F2 _ σ ((ok2.next n3).apart (some_ne ok.nx.h h0) (n3.g y (by rw [h5]; simp) fy.2) (fun j hj => ((ok.at_ j).mine hj).1 h0)) hn⟩
theorem s_app2 {x : Str} {ps : List Str} {j k m : Nat} {R : TSp} {y : AX K} {e : Expr} {v : EX K} {p2 p3 p4 : Pos} (c : Cal2 X.prog X.w K X.mg X.base x k ps R) (hr : Room j X.A) (h : pA K X (e :: es) y) (he : pE K X a v) (hjk : k ≤ j := by decide) (hg : Gl X x := by rfl) (hd : (x == ("__debug__" : Str)) = false := by decide +kernel)
    (hst : starEach (e :: es) X.env = (false, eval e X.env) :: starEach es X.env := by rfl) (hpl : (backTo pos (starEach es X.env)).any (·.1) = false := by rfl)
    (hix : PlainIx (.Constant (.int 1) m p3) := by intro _ _; rfl)
    (hbase : attributeBase (.Subscript (.Call (.Name x p) (e :: es) [] pos) (.Constant (.int 1) m p3) p2) "append" X.env (eval (.Subscript (.Call (.Name x p) (e :: es) [] pos) (.Constant (.int 1) m p3) p2) X.env) = eval (.Subscript (.Call (.Name x p) (e :: es) [] pos) (.Constant (.int 1) m p3) p2) X.env := by rfl)
    (hfew : ((backTo cpos (starEach [a] X.env)).all (fun x => !x.1) && (backToKw cpos (keywordEach [] X.env)).all (fun x => x.1.isSome) && decide (([a] : List Expr).length + ([] : List Keyword).length + (if ([] : List Keyword).isEmpty then 0 else 1) < 30)) = true := by rfl)
    (hline : (apos.endLine == cpos.line) = true := by rfl) (hs : starEach [a] X.env = [(false, eval a X.env)] := by rfl)
    (hsw : swapsWith (.Call (.Attribute (.Subscript (.Call (.Name x p) (e :: es) [] pos) (.Constant (.int 1) m p3) p2) "append" apos) [a] [] cpos) none p4.line X.env = pure false := by rfl) :
    pS K X (.Expr (.Call (.Attribute (.Subscript (.Call (.Name x p) (e :: es) [] pos) (.Constant (.int 1) m p3) p2) "append" apos) [a] [] cpos) p4) (sApp2 R y v) := by
  have hk0 : X.K = K := h.k
  subst hk0
  obtain ⟨f, fd, F, mm, kp, b⟩ := c
  exact ⟨rfl, ps_expr (pe_bm PySem.F.plainAttrs_list PySem.F.slot_list_append PySem.F.type_list_append mt_append (pe_ix ix_seq (pe_call F (hr.mono hjk) hg mm kp b .nil pass0 h.h (hdb := hd) (he := hst) (hpl := hpl)) pe_int hix) (pa1 he.h hs) hbase hfew hline hs (by rfl)) hsw⟩
/-- l.append(e), l a new list -/
def sAppX (x : LX K) (e : EX K) : SX K := ⟨tDrop (tBM K "list" rAppend x.t (tCons e.t tNil)), fun δ E => x.w δ fun ds => ds.length < 4000000 ∧ e.w δ fun _ => E.nx δ, fun δ E hw Z F0 F H σ D ok ke => by
  refine x.ok δ _ hw Z F0 F H σ ok _ fun ds p vs F1 H1 n1 h0 hp hf hl hq => ?_
  refine ⟨.inl ⟨rfl, _, SqL.of hp⟩, ?_⟩
  refine e.ok δ _ hq.2 Z F0 F1 H1 σ (ok.next n1) _ fun d v F2 H2 n2 i2 hn => ?_
  refine ⟨p, vs, v, rfl, rfl, n2.h _ _ hp, by rw [hl.1]; exact Nat.lt_trans hq.1 (by decide), ?_⟩
  exact ke.nx _ F2 _ σ ((ok.next (n1.trans n2)).apart (some_ne ok.nx.h h0) (n2.g p (by rw [hp]; simp) hf) (fun j hj => ((ok.at_ j).mine hj).1 h0)) hn⟩
theorem s_appX {x : LX K} {v : EX K} (h : pL K X b x) (he : pE K X a v) (hbase : attributeBase b "append" X.env (eval b X.env) = eval b X.env := by rfl)
    (hfew : ((backTo cpos (starEach [a] X.env)).all (fun x => !x.1) && (backToKw cpos (keywordEach [] X.env)).all (fun x => x.1.isSome) && decide (([a] : List Expr).length + ([] : List Keyword).length + (if ([] : List Keyword).isEmpty then 0 else 1) < 30)) = true := by rfl)
    (hline : (apos.endLine == cpos.line) = true := by rfl) (hs : starEach [a] X.env = [(false, eval a X.env)] := by rfl)
    (hsw : swapsWith (.Call (.Attribute b "append" apos) [a] [] cpos) none pos.line X.env = pure false := by rfl) : pS K X (.Expr (.Call (.Attribute b "append" apos) [a] [] cpos) pos) (sAppX x v) := by
  have hk0 : X.K = K := h.k
  subst hk0
  exact ⟨rfl, ps_expr (pe_bm PySem.F.plainAttrs_list PySem.F.slot_list_append PySem.F.type_list_append mt_append h.h (pa1 he.h hs) hbase hfew hline hs (by rfl)) hsw⟩
/-- len of a tuple -/
def eLenT (x : EX K) : EX K := ⟨tCB (rLenS K) (tCons x.t tNil), fun δ Q => x.w δ fun d => tupD d fun ds => Q (.int (ds.length : Int)), fun δ Q hw Z F0 F H σ ok Q' k => by
  refine x.ok δ _ hw Z F0 F H σ ok _ fun d v F1 H1 n1 i1 hq => ?_
  obtain ⟨ds, rfl, hq⟩ := tupD_inv hq
  obtain ⟨p, vs, rfl, st, l⟩ := i1.tup_inv
  refine ⟨p, vs, rfl, .inr (same_t n1.s st), ?_⟩
  rw [l.1]
  exact k _ _ F1 H1 n1 (.int _) hq⟩
theorem x_lenT {x : EX K} (hm : X.mg "len" = none) (h : pE K X a x) (hg : Gl X "len" := by rfl) (hs : starEach [a] X.env = [(false, eval a X.env)] := by rfl) : pE K X (.Call (.Name "len" p) [a] [] pos) (eLenT x) := by
  have hk0 : X.K = K := h.k
  subst hk0
  exact ⟨rfl, pe_callB call_len_seq hg hm boot_len (pa1 h.h hs) (by decide +kernel) (by decide +kernel) hs (by rfl)⟩
end
end PL
namespace PL
open PySem PySem.Spec PyProof.Rows L2
/-! instances of one's own with lists and dicts of their own, changed by methods -/
section
variable {K : PySem.W.Frag} {X : Cx} {a b c : Expr} {es : List Expr} {p pos q apos cpos tp : Pos}
/-! tables whose keys are tuples -/
def IsT (K : PySem.W.Frag) (F : Hp) (ws : List (List Key × V)) (kvs : List (List Key × D)) : Prop := ws.map (·.1) = kvs.map (·.1) ∧ IsL K F (ws.map (·.2)) (kvs.map (·.2))
theorem IsT.mono {F F' : Hp} {ws : List (List Key × V)} {kvs : List (List Key × D)} (s : Same F F') (h : IsT K F ws kvs) : IsT K F' ws kvs := ⟨h.1, h.2.mono s⟩
theorem IsT.nil {F : Hp} : IsT K F [] [] := ⟨rfl, .nil⟩
theorem IsT.cons {F : Hp} {ws : List (List Key × V)} {kvs : List (List Key × D)} {k : List Key} {v : V} {d : D} (h : Is K F v d) (t : IsT K F ws kvs) : IsT K F ((k, v) :: ws) ((k, d) :: kvs) := ⟨by simp [t.1], .cons h t.2⟩
theorem IsT.inv {F : Hp} {ws : List (List Key × V)} {k : List Key} {d : D} {kvs : List (List Key × D)} (h : IsT K F ws ((k, d) :: kvs)) : ∃ v us, ws = (k, v) :: us ∧ Is K F v d ∧ IsT K F us kvs := by
  cases ws with
  | nil => exact absurd h.1 (by simp)
  | cons w us =>
    obtain ⟨k', v⟩ := w
    have e := h.1
    simp only [List.map_cons, List.cons.injEq] at e
    obtain ⟨v', ws', e2, h1, h2⟩ := h.2.inv_cons
    simp only [List.map_cons, List.cons.injEq] at e2
    obtain ⟨rfl, rfl⟩ := e2
    have e1 : k' = k := e.1
    subst e1
    exact ⟨v, us, rfl, h1, e.2, h2⟩
theorem IsT.inv_nil {F : Hp} {ws : List (List Key × V)} (h : IsT K F ws []) : ws = [] := by
  cases ws with
  | nil => rfl
  | cons w us => exact absurd h.1 (by simp)
def valT (kvs : List (List Key × D)) (k : List Key) : Option D := (kvs.find? fun kv => decide (kv.1 = k)).map (·.2)
def putT (kvs : List (List Key × D)) (k : List Key) (d : D) : List (List Key × D) := if (valT kvs k).isSome = true then kvs.map (fun kv => if kv.1 = k then (kv.1, d) else kv) else kvs ++ [(k, d)]
theorem valT_pos {p : List Key × D} {r : List (List Key × D)} {k : List Key} (e : p.1 = k) : valT (p :: r) k = some p.2 := by simp [valT, List.find?_cons, e]
theorem valT_neg {p : List Key × D} {r : List (List Key × D)} {k : List Key} (e : ¬ p.1 = k) : valT (p :: r) k = valT r k := by simp [valT, List.find?_cons, e]
theorem isT_val {F : Hp} (k : List Key) : ∀ {kvs : List (List Key × D)} {ws : List (List Key × V)}, IsT K F ws kvs → (valT kvs k = none ∧ valV ws k = none) ∨ ∃ d v, valT kvs k = some d ∧ valV ws k = some v ∧ Is K F v d
  | [], ws, h => by rw [h.inv_nil]; exact .inl ⟨rfl, rfl⟩
  | (j, d) :: kvs, ws, h => by
    obtain ⟨v, us, rfl, h1, h2⟩ := h.inv
    by_cases e : j = k
    · exact .inr ⟨d, v, valT_pos (p := (j, d)) e, valV_pos (p := (j, v)) e, h1⟩
    · rw [valT_neg (p := (j, d)) e, valV_neg (p := (j, v)) e]
      exact isT_val k h2
theorem isT_has {F : Hp} (k : List Key) {kvs : List (List Key × D)} {ws : List (List Key × V)} (h : IsT K F ws kvs) : (valV ws k).isSome = (valT kvs k).isSome := by
  rcases isT_val k h with ⟨h1, h2⟩ | ⟨d, v, h1, h2, _⟩ <;> rw [h1, h2] <;> rfl
theorem isT_map {F : Hp} {k : List Key} {v : V} {d : D} (h : Is K F v d) : ∀ {kvs : List (List Key × D)} {ws : List (List Key × V)}, IsT K F ws kvs → IsT K F (ws.map fun kv => if kv.1 = k then (kv.1, v) else kv) (kvs.map fun kv => if kv.1 = k then (kv.1, d) else kv)
  | [], ws, l => by rw [l.inv_nil]; exact .nil
  | (j, e) :: kvs, ws, l => by
    obtain ⟨u, us, rfl, h1, h2⟩ := l.inv
    rw [List.map_cons, List.map_cons]
    by_cases hj : j = k
    · rw [if_pos hj, if_pos hj]
      exact .cons h (isT_map h h2)
    · rw [if_neg hj, if_neg hj]
      exact .cons h1 (isT_map h h2)
theorem isT_snoc {F : Hp} {k : List Key} {v : V} {d : D} (h : Is K F v d) : ∀ {kvs : List (List Key × D)} {ws : List (List Key × V)}, IsT K F ws kvs → IsT K F (ws ++ [(k, v)]) (kvs ++ [(k, d)])
  | [], ws, l => by rw [l.inv_nil]; exact .cons h .nil
  | (j, e) :: kvs, ws, l => by
    obtain ⟨u, us, rfl, h1, h2⟩ := l.inv
    exact .cons h1 (isT_snoc h h2)
theorem isT_put {F : Hp} {k : List Key} {v : V} {d : D} {kvs : List (List Key × D)} {ws : List (List Key × V)} (h : Is K F v d) (l : IsT K F ws kvs) : IsT K F (putK ws k v) (putT kvs k d) := by
  unfold putK putT
  rw [valV_any, isT_has k l]
  split
  · exact isT_map h l
  · exact isT_snoc h l
theorem isT_len {F : Hp} {kvs : List (List Key × D)} {ws : List (List Key × V)} (l : IsT K F ws kvs) : ws.length = kvs.length := by
  have := congrArg List.length l.1
  simpa using this
/-- a tuple as a key -/
def keysD : List D → Option (List Key)
  | [] => some []
  | d :: r => match keyD d, keysD r with
    | some k, some ks => some (k :: ks)
    | _, _ => none
def keyT : D → Option (List Key)
  | .tup ds => keysD ds
  | _ => none
theorem keys_is {F : Hp} : ∀ {ds : List D} {vs : List V} {ks : List Key}, IsL K F vs ds → keysD ds = some ks → vs = ks.map kV
  | [], vs, ks, l, e => by
    cases e
    exact l.inv_nil
  | d :: r, vs, ks, l, e => by
    obtain ⟨v, ws, rfl, h1, h2⟩ := l.inv_cons
    unfold keysD at e
    cases e1 : keyD d with
    | none => rw [e1] at e; cases e
    | some k =>
      cases e2 : keysD r with
      | none => rw [e1, e2] at e; cases e
      | some kr =>
        rw [e1, e2] at e
        cases e
        rw [List.map_cons, key_is h1 e1, keys_is h2 e2]
theorem keyT_is {F : Hp} {v : V} {d : D} {ks : List Key} (h : Is K F v d) (e : keyT d = some ks) : ∃ b, v = .ref b ∧ F b = some (.tup (ks.map kV)) := by
  cases d with
  | tup ds =>
    obtain ⟨b, vs, rfl, h1, h2⟩ := h.tup_inv0
    exact ⟨b, rfl, by rw [h1, keys_is h2 e]⟩
  | _ => cases e
/-! attributes -/
inductive FV where
  | dat (d : D) | lst (ds : List D) | dT (kvs : List (List Key × D))
abbrev FS := List (Str × FV)
def FvOk (K : PySem.W.Frag) (F H : Hp) (v : V) : FV → List Addr → Prop
  | .dat d, A => A = [] ∧ Is K F v d
  | .lst ds, A => ∃ a vs, v = .ref a ∧ A = [a] ∧ H a = some (.lst vs) ∧ IsL K F vs ds
  | .dT kvs, A => ∃ a ws, v = .ref a ∧ A = [a] ∧ H a = some (.dT ws) ∧ IsT K F ws kvs
def FsOk (K : PySem.W.Frag) (F H : Hp) : List (Str × V) → FS → List Addr → Prop
  | [], [], A => A = []
  | (n, v) :: us, (m, x) :: fs, A => n = m ∧ ∃ A1 A2, A = A1 ++ A2 ∧ FvOk K F H v x A1 ∧ FsOk K F H us fs A2
  | _, _, _ => False
theorem FvOk.mono' {F F' H H' : Hp} {v : V} {x : FV} {A : List Addr} (s : Same F F') (h : ∀ q o, q ∈ A → H q = some o → (∀ C dx, o ≠ .ins C dx []) → H' q = some o) (k : FvOk K F H v x A) : FvOk K F' H' v x A := by
  cases x with
  | dat d => exact ⟨k.1, k.2.mono s⟩
  | lst ds =>
    obtain ⟨a, vs, e, eA, hh, l⟩ := k
    exact ⟨a, vs, e, eA, h a _ (by rw [eA]; simp) hh (fun _ _ z => by cases z), l.mono s⟩
  | dT kvs =>
    obtain ⟨a, vs, e, eA, hh, l⟩ := k
    exact ⟨a, vs, e, eA, h a _ (by rw [eA]; simp) hh (fun _ _ z => by cases z), l.mono s⟩
theorem FsOk.mono' {F F' H H' : Hp} (s : Same F F') : ∀ {us : List (Str × V)} {fs : FS} {A : List Addr}, (∀ q o, q ∈ A → H q = some o → (∀ C dx, o ≠ .ins C dx []) → H' q = some o) → FsOk K F H us fs A → FsOk K F' H' us fs A
  | [], [], A, _, k => k
  | (n, v) :: us, (m, x) :: fs, A, h, k => by
    obtain ⟨e, A1, A2, rfl, h1, h2⟩ := k
    exact ⟨e, A1, A2, rfl, h1.mono' s (fun q o hq => h q o (List.mem_append_left _ hq)), FsOk.mono' s (fun q o hq => h q o (List.mem_append_right _ hq)) h2⟩
  | [], _ :: _, _, _, k => k.elim
  | _ :: _, [], _, _, k => k.elim
theorem FvOk.mono {F F' H H' : Hp} {v : V} {x : FV} {A : List Addr} (s : Same F F') (h : ∀ q ∈ A, H' q = H q) (k : FvOk K F H v x A) : FvOk K F' H' v x A := k.mono' s (fun q o hq e _ => (h q hq).trans e)
theorem FsOk.mono {F F' H H' : Hp} {us : List (Str × V)} {fs : FS} {A : List Addr} (s : Same F F') (h : ∀ q ∈ A, H' q = H q) (k : FsOk K F H us fs A) : FsOk K F' H' us fs A := k.mono' s (fun q o hq e _ => (h q hq).trans e)
theorem FsOk.get {F H : Hp} {f : Str} {x : FV} : ∀ {us : List (Str × V)} {fs : FS} {A : List Addr}, FsOk K F H us fs A → fs.lookup f = some x → ∃ v A1, us.lookup f = some v ∧ FvOk K F H v x A1 ∧ ∀ q ∈ A1, q ∈ A
  | [], [], _, _, e => by cases e
  | (n, v) :: us, (m, y) :: fs, A, k, e => by
    obtain ⟨rfl, A1, A2, rfl, h1, h2⟩ := k
    rw [List.lookup_cons] at e ⊢
    cases hf : (f == n) with
    | true =>
      rw [hf] at e
      cases e
      exact ⟨v, A1, rfl, h1, fun q hq => List.mem_append_left _ hq⟩
    | false =>
      rw [hf] at e
      obtain ⟨v', B, a, b, c⟩ := FsOk.get h2 e
      exact ⟨v', B, a, b, fun q hq => List.mem_append_right _ (c q hq)⟩
  | [], _ :: _, _, k, _ => k.elim
  | _ :: _, [], _, k, _ => k.elim
theorem FsOk.none {F H : Hp} {f : Str} : ∀ {us : List (Str × V)} {fs : FS} {A : List Addr}, FsOk K F H us fs A → fs.lookup f = none → us.lookup f = none
  | [], [], _, _, _ => rfl
  | (n, v) :: us, (m, y) :: fs, A, k, e => by
    obtain ⟨rfl, A1, A2, rfl, h1, h2⟩ := k
    rw [List.lookup_cons] at e ⊢
    cases hf : (f == n) with
    | true => rw [hf] at e; cases e
    | false =>
      rw [hf] at e
      exact FsOk.none h2 e
  | [], _ :: _, _, k, _ => k.elim
  | _ :: _, [], _, k, _ => k.elim
theorem FsOk.len {F H : Hp} : ∀ {us : List (Str × V)} {fs : FS} {A : List Addr}, FsOk K F H us fs A → us.length = fs.length
  | [], [], _, _ => rfl
  | (n, v) :: us, (m, y) :: fs, A, k => by
    obtain ⟨rfl, A1, A2, rfl, h1, h2⟩ := k
    simp [FsOk.len h2]
  | [], _ :: _, _, k => k.elim
  | _ :: _, [], _, k => k.elim
/-- another thing at an attribute's own address -/
def setF (f : Str) (x : FV) : FS → FS
  | [] => []
  | (g, y) :: r => if f == g then (g, x) :: r else (g, y) :: setF f x r
theorem FsOk.upd {F H : Hp} {f : Str} {x : FV} : ∀ {us : List (Str × V)} {fs : FS} {A : List Addr}, FsOk K F H us fs A → A.Nodup → fs.lookup f = some x → ∃ v A1, us.lookup f = some v ∧ FvOk K F H v x A1 ∧ (∀ q ∈ A1, q ∈ A) ∧
    ∀ H' x', (∀ q ∈ A, q ∉ A1 → H' q = H q) → FvOk K F H' v x' A1 → FsOk K F H' us (setF f x' fs) A
  | [], [], _, _, _, e => by cases e
  | (n, v) :: us, (m, y) :: fs, A, k, nd, e => by
    obtain ⟨rfl, A1, A2, rfl, h1, h2⟩ := k
    have nd' := List.nodup_append.mp nd
    rw [List.lookup_cons] at e ⊢
    cases hf : (f == n) with
    | true =>
      rw [hf] at e
      cases e
      refine ⟨v, A1, rfl, h1, fun q hq => List.mem_append_left _ hq, fun H' x' hH hx => ?_⟩
      unfold setF
      rw [hf]
      exact ⟨rfl, A1, A2, rfl, hx, h2.mono (.refl _) fun q hq => hH q (List.mem_append_right _ hq) (fun z => nd'.2.2 q z q hq rfl)⟩
    | false =>
      rw [hf] at e
      obtain ⟨v', B, a, b, c, d⟩ := FsOk.upd h2 nd'.2.1 e
      refine ⟨v', B, a, b, fun q hq => List.mem_append_right _ (c q hq), fun H' x' hH hx => ?_⟩
      unfold setF
      rw [hf]
      exact ⟨rfl, A1, A2, rfl, h1.mono (.refl _) fun q hq => hH q (List.mem_append_left _ hq) (fun z => nd'.2.2 q hq q (c q z) rfl), d H' x' (fun q hq hn => hH q (List.mem_append_right _ hq) hn) hx⟩
  | [], _ :: _, _, k, _, _ => k.elim
  | _ :: _, [], _, k, _, _ => k.elim
/-- an attribute is assigned -/
def putV (f : Str) (x : FV) : FS → FS
  | [] => [(f, x)]
  | (g, y) :: r => if g = f then (g, x) :: r else (g, y) :: putV f x r
theorem FsOk.put {F H : Hp} {f : Str} {x : FV} {v : V} {A1 : List Addr} (h : FvOk K F H v x A1) (n1 : A1.Nodup) : ∀ {us : List (Str × V)} {fs : FS} {A : List Addr}, FsOk K F H us fs A → A.Nodup → (∀ q ∈ A1, q ∉ A) →
    ∃ A', FsOk K F H (putF f v us) (putV f x fs) A' ∧ A'.Nodup ∧ ∀ q ∈ A', q ∈ A ∨ q ∈ A1
  | [], [], A, k, _, _ => by
    cases k
    exact ⟨A1, ⟨rfl, A1, [], by simp, h, rfl⟩, n1, fun q hq => .inr hq⟩
  | (n, u) :: us, (m, y) :: fs, A, k, nd, dj => by
    obtain ⟨rfl, B1, B2, rfl, h1, h2⟩ := k
    have nd' := List.nodup_append.mp nd
    unfold putF putV
    by_cases hg : n = f
    · rw [if_pos hg, if_pos hg]
      refine ⟨A1 ++ B2, ⟨rfl, A1, B2, rfl, h, h2⟩, List.nodup_append.mpr ⟨n1, nd'.2.1, fun a ha b hb e => dj a ha (List.mem_append_right _ (by rw [e]; exact hb))⟩, fun q hq => ?_⟩
      rcases List.mem_append.mp hq with z | z
      · exact .inr z
      · exact .inl (List.mem_append_right _ z)
    · rw [if_neg hg, if_neg hg]
      obtain ⟨A', a, b, c⟩ := FsOk.put (f := f) h n1 h2 nd'.2.1 (fun q hq z => dj q hq (List.mem_append_right _ z))
      refine ⟨B1 ++ A', ⟨rfl, B1, A', rfl, h1, a⟩, List.nodup_append.mpr ⟨nd'.1, b, fun x hx y hy e => ?_⟩, fun q hq => ?_⟩
      · subst e
        rcases c x hy with z | z
        · exact nd'.2.2 x hx x z rfl
        · exact dj x z (List.mem_append_left _ hx)
      · rcases List.mem_append.mp hq with z | z
        · exact .inl (List.mem_append_left _ z)
        · rcases c q z with z | z
          · exact .inl (List.mem_append_right _ z)
          · exact .inr z
  | [], _ :: _, _, k, _, _ => k.elim
  | _ :: _, [], _, k, _, _ => k.elim
/-- an object of one's own, at the address p -/
def ObjB (K : PySem.W.Frag) (C p0 : Addr) (fs : FS) : Big := ⟨fun F H p fp => p = p0 ∧ ∃ dx us A, fp = p :: A ∧ fp.Nodup ∧ H p = some (.ins C dx us) ∧ FsOk K F H us fs A, fun hF hH h => by
  obtain ⟨e0, dx, us, A, e, nd, a, b⟩ := h
  exact ⟨e0, dx, us, A, e, nd, by rw [hH _ (by rw [e]; simp)]; exact a, b.mono hF (fun q hq => hH q (by rw [e]; exact List.mem_cons_of_mem _ hq))⟩⟩
/-- an object that is lent -/
def ObjL (K : PySem.W.Frag) (C : Addr) (fs : FS) : Lob := ⟨fun F H p => ∃ dx us A, us ≠ [] ∧ H p = some (.ins C dx us) ∧ FsOk K F H us fs A, fun hF hH h => by
  obtain ⟨dx, us, A, ne, a, b⟩ := h
  refine ⟨dx, us, A, ne, hH _ _ a (fun C' dx' z => ?_), b.mono' hF (fun q o _ => hH q o)⟩
  injection z with _ _ z
  exact ne z⟩
/-- the object at a name -/
def obD (K : PySem.W.Frag) (C : Addr) (e : Ent) (Q : Addr → FS → List Addr → Prop) : Prop := ∃ p fs fp, e = .big (ObjB K C p fs) fp ∧ Q p fs fp
/-- ...or lent -/
def olD (K : PySem.W.Frag) (C : Addr) (e : Ent) (Q : FS → Prop) : Prop := ∃ fs, ((∃ p fp, e = .big (ObjB K C p fs) fp) ∨ e = .lob (ObjL K C fs)) ∧ Q fs
theorem ob_at {Z F0 F H : Hp} {σ : L2.St} {δ : List Ent} {i : Nat} {C p0 : Addr} {fs : FS} {fp : List Addr} (ok : Ok K Z F0 F H σ δ) (h : nth δ i = .big (ObjB K C p0 fs) fp) :
    ∃ dx us A, σ[i]? = some (some (.ref p0)) ∧ fp = p0 :: A ∧ fp.Nodup ∧ H p0 = some (.ins C dx us) ∧ FsOk K F H us fs A ∧ ∀ q ∈ fp, H q ≠ none ∧ F q = none ∧ Z q = none := by
  have hs := ok.at_ i
  rw [h] at hs
  obtain ⟨p, a, b, c, e0, dx, us, A, e, nd, h1, h2⟩ := hs
  subst e0
  exact ⟨dx, us, A, a, e, nd, h1, h2, c⟩
theorem ol_at {Z F0 F H : Hp} {σ : L2.St} {δ : List Ent} {i : Nat} {C : Addr} {fs : FS} (ok : Ok K Z F0 F H σ δ) (h : (∃ p fp, nth δ i = .big (ObjB K C p fs) fp) ∨ nth δ i = .lob (ObjL K C fs)) :
    ∃ p dx us A, σ[i]? = some (some (.ref p)) ∧ H p = some (.ins C dx us) ∧ FsOk K F H us fs A := by
  rcases h with ⟨p, fp, h⟩ | h
  · obtain ⟨dx, us, A, a, e, nd, h1, h2, c⟩ := ob_at ok h
    exact ⟨p, dx, us, A, a, h1, h2⟩
  · have hs := ok.at_ i
    rw [h] at hs
    obtain ⟨p, a, dx, us, A, ne, h1, h2⟩ := hs
    exact ⟨p, dx, us, A, a, ok.nx.h _ _ h1, h2.mono' (.refl _) (fun q o _ e _ => ok.nx.h q o e)⟩
/-! reading -/
/-- x.f, a datum -/
def eOFld (C : Addr) (hc : Cls K C) (f : Str) (hn : NoAttr K C f) (i : Nat) : EX K := ⟨tFld K (tVar i) f, fun δ Q => olD K C (nth δ i) fun fs => ∃ d, fs.lookup f = some (.dat d) ∧ Q d, fun δ Q hw Z F0 F H σ ok Q' k => by
  obtain ⟨fs, h, d, hd, hq⟩ := hw
  obtain ⟨p, dx, us, A, a, h1, h2⟩ := ol_at ok h
  obtain ⟨v, A1, hv, hi, _⟩ := h2.get hd
  exact ⟨_, a, p, _, dx, us, v, rfl, h1, hc, hn, hv, k d v F H (.refl ok.nx.s) hi.2 hq⟩⟩
/-- x.f, a list to be read -/
def rOFld (C : Addr) (hc : Cls K C) (f : Str) (hn : NoAttr K C f) (i : Nat) : RX K := ⟨tFld K (tVar i) f, fun δ Q => olD K C (nth δ i) fun fs => ∃ ds, fs.lookup f = some (.lst ds) ∧ Q ds, fun δ Q hw Z F0 F H σ ok Q' k => by
  obtain ⟨fs, h, d, hd, hq⟩ := hw
  obtain ⟨p, dx, us, A, a, h1, h2⟩ := ol_at ok h
  obtain ⟨v, A1, hv, hi, _⟩ := h2.get hd
  obtain ⟨l, vs, rfl, _, hl, il⟩ := hi
  exact ⟨_, a, p, _, dx, us, _, rfl, h1, hc, hn, hv, k d l vs F H (.refl ok.nx.s) (.of hl) il hq⟩⟩
/-- k in x.f, a dict with tuples as keys -/
def eODIn (neg : Bool) (C : Addr) (hc : Cls K C) (f : Str) (hn : NoAttr K C f) (i : Nat) (x : EX K) : EX K := ⟨if neg then tDNotIn x.t (tFld K (tVar i) f) else tDIn x.t (tFld K (tVar i) f), fun δ Q => x.w δ fun d => olD K C (nth δ i) fun fs => ∃ kvs ks, fs.lookup f = some (.dT kvs) ∧ keyT d = some ks ∧ Q (.bl (if neg then !(valT kvs ks).isSome else (valT kvs ks).isSome)), fun δ Q hw Z F0 F H σ ok Q' k => by
  have key : ∀ (y : V) (F1 H1 : Hp) (d : D), Nx F H F1 H1 → Is K F1 y d → (olD K C (nth δ i) fun fs => ∃ kvs ks, fs.lookup f = some (.dT kvs) ∧ keyT d = some ks ∧ Q (.bl (if neg then !(valT kvs ks).isSome else (valT kvs ks).isSome))) → tFld K (tVar i) f σ H1 fun x H2 => ∃ a o, x = .ref a ∧ DGet H2 a y o ∧ Q' (.bl (if neg then !o.isSome else o.isSome)) H2 := fun y F1 H1 d n1 i1 hd => by
    obtain ⟨fs, h, kvs, ks, hf, hk, hq⟩ := hd
    have ok1 := ok.next n1
    obtain ⟨p, dx, us, A, a, h1, h2⟩ := ol_at ok1 h
    obtain ⟨v, A1, hv, hi, _⟩ := h2.get hf
    obtain ⟨l, ws, rfl, _, hl, il⟩ := hi
    obtain ⟨b, rfl, hb⟩ := keyT_is i1 hk
    refine ⟨_, a, p, _, dx, us, _, rfl, h1, hc, hn, hv, l, _, rfl, DGet.t hl (n1.s _ _ hb), ?_⟩
    rw [isT_has ks il]
    exact k _ _ F1 H1 n1 (.bl _) hq
  cases neg with
  | true => exact x.ok δ _ hw Z F0 F H σ ok _ fun d y F1 H1 n1 i1 hd => key y F1 H1 d n1 i1 hd
  | false => exact x.ok δ _ hw Z F0 F H σ ok _ fun d y F1 H1 n1 i1 hd => key y F1 H1 d n1 i1 hd⟩
/-- x.f[k], a dict with tuples as keys -/
def eODGet (C : Addr) (hc : Cls K C) (f : Str) (hn : NoAttr K C f) (i : Nat) (x : EX K) : EX K := ⟨tDGet (tFld K (tVar i) f) x.t, fun δ Q => (olD K C (nth δ i) fun fs => ∃ kvs, fs.lookup f = some (.dT kvs)) ∧ x.w δ fun d => olD K C (nth δ i) fun fs => ∃ kvs ks, fs.lookup f = some (.dT kvs) ∧ keyT d = some ks ∧ ∃ e, valT kvs ks = some e ∧ Q e, fun δ Q hw Z F0 F H σ ok Q' k => by
  obtain ⟨⟨fs0, h0, kvs0, e0⟩, hw⟩ := hw
  obtain ⟨p, dx, us, A, a, h1, h2⟩ := ol_at ok h0
  obtain ⟨v, A1, hv, hi, _⟩ := h2.get e0
  obtain ⟨l, ws, rfl, _, hl, il⟩ := hi
  refine ⟨_, a, p, _, dx, us, _, rfl, h1, hc, hn, hv, ?_⟩
  refine x.ok δ _ hw Z F0 F H σ ok _ fun d y F1 H1 n1 i1 hd => ?_
  obtain ⟨fs, h, kvs, ks, hf, hk, e, he, hq⟩ := hd
  obtain ⟨p', dx', us', A', a', h1', h2'⟩ := ol_at (ok.next n1) h
  rw [a] at a'
  cases a'
  obtain ⟨v', A1', hv', hi', _⟩ := h2'.get hf
  obtain ⟨l', ws', rfl, _, hl', il'⟩ := hi'
  have hh := n1.h _ _ h1
  rw [h1'] at hh
  cases hh
  rw [hv] at hv'
  cases hv'
  obtain ⟨b, rfl, hb⟩ := keyT_is i1 hk
  rcases isT_val ks il' with ⟨z, _⟩ | ⟨d', v', z1, z2, z3⟩
  · rw [z] at he; cases he
  · rw [z1] at he
    cases he
    exact ⟨l, v', rfl, by rw [← z2]; exact DGet.t hl' (n1.s _ _ hb), k _ _ F1 H1 n1 z3 hq⟩⟩
/-! arguments that lend an object -/
def aO (C : Addr) (i : Nat) (r : AX K) : AX K := ⟨tCons (tVar i) r.t, fun δ Q => olD K C (nth δ i) fun fs => fs ≠ [] ∧ r.w δ fun as => Q (.lob (ObjL K C fs) :: as), fun δ Q hw Z F0 F H σ ok Q' k => by
  obtain ⟨fs, h, hne, hw⟩ := hw
  obtain ⟨p, dx, us, A, a, h1, h2⟩ := ol_at ok h
  refine ⟨_, a, ?_⟩
  refine r.ok δ _ hw Z F0 F H σ ok _ fun as vs F2 H2 n2 i2 hq => ?_
  refine k (.lob (ObjL K C fs) :: as) (.ref p :: vs) F2 H2 n2 ⟨⟨p, rfl, dx, us, A, fun z => hne (List.length_eq_zero_iff.mp (by rw [← h2.len, z]; rfl)), n2.h _ _ h1, h2.mono' n2.f (fun q o _ e _ => n2.h q o e)⟩, i2⟩ hq⟩
/-- a method that only reads its object -/
def eOMeth (C : Addr) (m : Str) (R : FSp) (i : Nat) (y : AX K) : EX K := ⟨tMeth C m (spOf K R) [] E0 (tVar i) y.t, fun δ Q => olD K C (nth δ i) fun fs => fs ≠ [] ∧ fs.lookup m = none ∧ y.w δ fun as => R (.lob (ObjL K C fs) :: as) Q, fun δ Q hw Z F0 F H σ ok Q' k => by
  obtain ⟨fs, h, hne, hm, hw⟩ := hw
  obtain ⟨p, dx, us, A, a, h1, h2⟩ := ol_at ok h
  refine ⟨_, a, p, dx, us, rfl, h1, h2.none hm, ?_⟩
  refine y.ok δ _ hw Z F0 F H σ ok _ fun as vs F2 H2 n2 i2 hr => ?_
  show spOf K R (.ref p :: (vs ++ [])) H2 Q' E0
  rw [List.append_nil]
  exact ⟨F2, .lob (ObjL K C fs) :: as, Q, n2.s, ⟨⟨p, rfl, dx, us, A, fun z => hne (List.length_eq_zero_iff.mp (by rw [← h2.len, z]; rfl)), n2.h _ _ h1, h2.mono' n2.f (fun q o _ e _ => n2.h q o e)⟩, i2⟩, hr, fun d v F' H' q n i => k d v F' H' (n2.trans n) i q⟩⟩
/-! values that change the state -/
structure MX (K : PySem.W.Frag) where
  t : TE
  w : List Ent → (D → List Ent → Prop) → Prop
  ok : ∀ δ Q, w δ Q → ∀ Z F0 F H σ, Ok K Z F0 F H σ δ → ∀ Q' : VK, (∀ d v δ' F' H', Ok K Z F0 F' H' σ δ' → Same F F' → Is K F' v d → Q d δ' → Q' v H') → t σ H Q'
structure MA (K : PySem.W.Frag) where
  t : TA
  w : List Ent → (List D → List Ent → Prop) → Prop
  ok : ∀ δ Q, w δ Q → ∀ Z F0 F H σ, Ok K Z F0 F H σ δ → ∀ Q' : List V → Hp → Prop, (∀ ds vs δ' F' H', Ok K Z F0 F' H' σ δ' → Same F F' → IsL K F' vs ds → Q ds δ' → Q' vs H') → t σ H Q'
def mE (x : EX K) : MX K := ⟨x.t, fun δ Q => x.w δ fun d => Q d δ, fun δ Q hw Z F0 F H σ ok Q' k => by
  exact x.ok δ _ hw Z F0 F H σ ok _ fun d v F1 H1 n1 i1 hq => k d v δ F1 H1 (ok.next n1) n1.f i1 hq⟩
def mOp (o : Op2 K) (x y : MX K) : MX K := ⟨tOp o.r x.t y.t, fun δ Q => x.w δ fun d δ1 => y.w δ1 fun e δ2 => o.g d e fun d' => Q d' δ2, fun δ Q hw Z F0 F H σ ok Q' k => by
  refine x.ok δ _ hw Z F0 F H σ ok _ fun d v δ1 F1 H1 ok1 s1 i1 hw1 => ?_
  refine y.ok δ1 _ hw1 Z F0 F1 H1 σ ok1 _ fun e u δ2 F2 H2 ok2 s2 i2 hg => ?_
  exact o.ok d e v u F2 H2 _ Q' (i1.mono s2) i2 ok2.nx.s hg fun d' v' F' H' n i q => k d' v' δ2 F' H' (ok2.next n) ((s1.trans s2).trans n.f) i q⟩
def maNil : MA K := ⟨tNil, fun δ Q => Q [] δ, fun δ Q hw Z F0 F H σ ok Q' k => k [] [] δ F H ok (.refl _) .nil hw⟩
def maCons (x : MX K) (r : MA K) : MA K := ⟨tCons x.t r.t, fun δ Q => x.w δ fun d δ1 => r.w δ1 fun ds δ2 => Q (d :: ds) δ2, fun δ Q hw Z F0 F H σ ok Q' k => by
  refine x.ok δ _ hw Z F0 F H σ ok _ fun d v δ1 F1 H1 ok1 s1 i1 hw1 => ?_
  refine r.ok δ1 _ hw1 Z F0 F1 H1 σ ok1 _ fun ds vs δ2 F2 H2 ok2 s2 i2 hq => ?_
  exact k (d :: ds) (v :: vs) δ2 F2 H2 ok2 (s1.trans s2) (.cons (i1.mono s2) i2) hq⟩
/-- what a method that changes its object promises -/
abbrev MSp := FS → List D → (D → FS → Prop) → Prop
def spOfM (K : PySem.W.Frag) (C : Addr) (R : MSp) : Sp := fun vs H Q _ => ∃ (p : Addr) (rest : List V) (F : Hp) (fs : FS) (fp : List Addr) (ds : List D) (P : D → FS → Prop), vs = .ref p :: rest ∧ Same F H ∧ (ObjB K C p fs).P F H p fp ∧ (∀ q ∈ fp, H q ≠ none ∧ F q = none) ∧ IsL K F rest ds ∧ R fs ds P ∧
  ∀ d v fs' fp' F' H', P d fs' → Same F F' → Same F' H' → (∀ q o, q ∉ fp → H q = some o → H' q = some o) → (∀ q, q ∉ fp → H q ≠ none → F q = none → F' q = none) → (ObjB K C p fs').P F' H' p fp' → (∀ q ∈ fp', H' q ≠ none ∧ F' q = none ∧ (H q ≠ none → q ∈ fp)) → Is K F' v d → Q v H'
/-- the state behind a call that changed an object -/
theorem Ok.chgO {Z F0 F H F' H' : Hp} {σ : L2.St} {δ : List Ent} {i : Nat} {C p : Addr} {fs fs' : FS} {fp fp' : List Addr} (ok : Ok K Z F0 F H σ δ) (hi : nth δ i = .big (ObjB K C p fs) fp) (s1 : Same F F') (s2 : Same F' H')
    (h1 : ∀ q o, q ∉ fp → H q = some o → H' q = some o) (h2 : ∀ q, q ∉ fp → H q ≠ none → F q = none → F' q = none) (h3 : (ObjB K C p fs').P F' H' p fp') (h4 : ∀ q ∈ fp', H' q ≠ none ∧ F' q = none ∧ (H q ≠ none → q ∈ fp)) : Ok K Z F0 F' H' σ (put δ i (.big (ObjB K C p fs') fp')) := by
  obtain ⟨dx, us, A, hx, he, nd, hp, hf, hm⟩ := ob_at ok hi
  have nz : ∀ q o, Z q = some o → q ∉ fp := fun q o e z => by rw [(hm q z).2.2] at e; cases e
  have own : ∀ j q, j ≠ i → (nth δ j).has σ[j]? q → q ∉ fp := fun j q hj h z => hj (ok.ow j i q h (by rw [hi]; exact z))
  have hpf : p ∈ fp' := by
    obtain ⟨_, _, _, _, e, _⟩ := h3
    rw [e]; simp
  refine ok.chgE (σ' := σ) ⟨ok.nx.f.trans s1, fun q o e => h1 q o (nz q o e) (ok.nx.h q o e), fun q hz hf => ?_, s2⟩ rfl (fun _ _ => rfl) (fun _ => ⟨p, hx, hpf, fun q hq => ⟨(h4 q hq).1, (h4 q hq).2.1, ?_⟩, h3⟩) (fun j hj => (ok.at_ j).frame s1 (fun q hq => ?_) (fun q hq => ?_)) (fun j q hj h hl z => ?_)
  · have hq : q ∉ fp := by
      cases e : Z q with
      | none => exact absurd e hz
      | some o => exact nz q o e
    exact h2 q hq (Same.ne_none ok.nx.h hz) (ok.nx.g q hz hf)
  · cases e : Z q with
    | none => rfl
    | some o => exact absurd ((h4 q hq).2.2 (by rw [ok.nx.h q o e]; simp)) (nz q o e)
  · have m := (ok.at_ j).mine hq
    exact h2 q (own j q hj hq) m.1 m.2.1
  · have m := (ok.at_ j).mine hq
    cases e : H q with
    | none => exact absurd e m.1
    | some o => exact h1 q o (own j q hj hq) e
  · have z : q ∈ fp' := z
    exact own j q hj h ((h4 q z).2.2 ((ok.at_ j).mine h).1)
/-- o.m(..), a method that changes its object -/
def mMeth (C : Addr) (m : Str) (R : MSp) (i : Nat) (y : MA K) : MX K := ⟨tMeth C m (spOfM K C R) [] E0 (tVar i) y.t, fun δ Q => (obD K C (nth δ i) fun p fs fp => fs.lookup m = none ∧ y.w δ fun ds δ1 => obD K C (nth δ1 i) fun p1 fs1 fp1 => p1 = p ∧ R fs1 ds fun d fs' => ∀ fp', Q d (put δ1 i (.big (ObjB K C p fs') fp'))), fun δ Q hw Z F0 F H σ ok Q' k => by
  obtain ⟨p, fs, fp, hi, hm, hw⟩ := hw
  obtain ⟨dx, us, A, hx, he, nd, hp, hf, hmm⟩ := ob_at ok hi
  refine ⟨_, hx, p, dx, us, rfl, hp, hf.none hm, ?_⟩
  refine y.ok δ _ hw Z F0 F H σ ok _ fun ds vs δ1 F1 H1 ok1 s1 i1 hr => ?_
  obtain ⟨p1, fs1, fp1, hi1, e1, hr⟩ := hr
  subst e1
  obtain ⟨dx1, us1, A1, hx1, he1, nd1, hp1, hf1, hm1⟩ := ob_at ok1 hi1
  show spOfM K C R (.ref p1 :: (vs ++ [])) H1 Q' E0
  rw [List.append_nil]
  refine ⟨p1, vs, F1, fs1, fp1, ds, _, rfl, ok1.nx.s, ⟨rfl, dx1, us1, A1, he1, nd1, hp1, hf1⟩, fun q hq => ⟨(hm1 q hq).1, (hm1 q hq).2.1⟩, i1, hr, fun d v fs' fp' F' H' hq g1 g2 g3 g4 g5 g6 i => ?_⟩
  exact k d v _ F' H' (ok1.chgO hi1 g1 g2 g3 g4 g5 g6) (s1.trans g1) i (hq fp')⟩
/-! statements -/
def sSetM (i : Nat) (e : MX K) : SX K := ⟨tAsg e.t (gName i), fun δ E => e.w δ fun d δ1 => E.nx (put δ1 i (.dat d)), fun δ E hw Z F0 F H σ D ok ke => by
  refine e.ok δ _ hw Z F0 F H σ ok _ fun d v δ1 F1 H1 ok1 s1 i1 hq => ?_
  exact ke.nx _ F1 H1 _ (ok1.setD i1) hq⟩
def sDropM (e : MX K) : SX K := ⟨tDrop e.t, fun δ E => e.w δ fun _ δ1 => E.nx δ1, fun δ E hw Z F0 F H σ D ok ke => by
  exact e.ok δ _ hw Z F0 F H σ ok _ fun d v δ1 F1 H1 ok1 s1 i1 hq => ke.nx _ F1 H1 _ ok1 hq⟩
def sRetM (e : MX K) : SX K := ⟨tRet e.t, fun δ E => e.w δ E.rm, fun δ E hw Z F0 F H σ D ok ke => by
  exact e.ok δ _ hw Z F0 F H σ ok _ fun d v δ1 F1 H1 ok1 s1 i1 hq => ke.rm d v δ1 F1 H1 σ ok1 i1 hq⟩
/-- the heap changes at one own address of an object -/
theorem Ok.updO {Z F0 F H : Hp} {σ : L2.St} {δ : List Ent} {i : Nat} {C p l : Addr} {o : HO} {fs fs' : FS} {fp : List Addr} (ok : Ok K Z F0 F H σ δ) (hi : nth δ i = .big (ObjB K C p fs) fp) (hl : l ∈ fp) (h : (ObjB K C p fs').P F (upd H l o) p fp) : Ok K Z F0 F (upd H l o) σ (put δ i (.big (ObjB K C p fs') fp)) := by
  obtain ⟨dx, us, A, hx, he, nd, hp, hf, hm⟩ := ob_at ok hi
  refine ok.chgO hi (.refl _) (fun q u e => ?_) (fun q u hq e => by rw [upd_ne (fun z => hq (by rw [z]; exact hl))]; exact e) (fun _ _ _ e => e) h (fun q hq => ⟨?_, (hm q hq).2.1, fun _ => hq⟩)
  · rw [upd_ne (fun z => ?_)]
    · exact ok.nx.s q u e
    · rw [z, (hm l hl).2.1] at e
      cases e
  · by_cases z : q = l
    · rw [z, upd_same]; simp
    · rw [upd_ne z]; exact (hm q hq).1
/-- x.f.append(e) -/
def sOApp (C : Addr) (hc : Cls K C) (f : Str) (hn : NoAttr K C f) (i : Nat) (e : EX K) : SX K := ⟨tDrop (tBM K "list" rAppend (tFld K (tVar i) f) (tCons e.t tNil)), fun δ E => obD K C (nth δ i) fun p fs fp => ∃ ds, fs.lookup f = some (.lst ds) ∧ ds.length < 4000000 ∧ e.w δ fun d => E.nx (put δ i (.big (ObjB K C p (setF f (.lst (ds ++ [d])) fs)) fp)), fun δ E hw Z F0 F H σ D ok ke => by
  obtain ⟨p, fs, fp, hi, ds, hd, hb, hw⟩ := hw
  obtain ⟨dx, us, A, hx, he, nd, hp, hf, hm⟩ := ob_at ok hi
  obtain ⟨v, A1, hv, hvf, _⟩ := hf.get hd
  obtain ⟨l, vs, rfl, _, hl, _⟩ := hvf
  refine ⟨_, hx, p, _, dx, us, _, rfl, hp, hc, hn, hv, .inl ⟨rfl, _, SqL.of hl⟩, ?_⟩
  refine e.ok δ _ hw Z F0 F H σ ok _ fun d u F1 H1 n1 i1 hq => ?_
  have ok1 := ok.next n1
  obtain ⟨dx1, us1, A2, hx1, he1, nd1, hp1, hf1, hm1⟩ := ob_at ok1 hi
  have hh := n1.h _ _ hp
  rw [hp1] at hh
  cases hh
  rw [he1] at nd1
  have nd2 := List.nodup_cons.mp nd1
  obtain ⟨v', A3, hv', hvf', hs', hu⟩ := hf1.upd nd2.2 hd
  rw [hv] at hv'
  cases hv'
  obtain ⟨l', vs', e', eA, hl', il⟩ := hvf'
  cases e'
  have hlA : l ∈ A2 := hs' l (by rw [eA]; simp)
  have hpl : p ≠ l := fun z => nd2.1 (by rw [z]; exact hlA)
  refine ⟨l, vs', u, rfl, rfl, hl', by rw [il.1]; exact Nat.lt_trans hb (by decide), ?_⟩
  refine ke.nx _ F1 _ σ (ok1.updO hi (by rw [he1]; exact List.mem_cons_of_mem _ hlA) ⟨rfl, dx, us, A2, he1, by rw [he1]; exact nd1, by rw [upd_ne hpl]; exact hp1, ?_⟩) hq
  exact hu _ _ (fun q hq hn => upd_ne (fun z => hn (by rw [z, eA]; simp))) ⟨l, _, rfl, eA, upd_same, il.snoc i1⟩⟩
/-- x.f[k] = e -/
def sODPut (C : Addr) (hc : Cls K C) (f : Str) (hn : NoAttr K C f) (i : Nat) (x : EX K) (e : MX K) : SX K := ⟨sDPut (tFld K (tVar i) f) x.t e.t, fun δ E => e.w δ fun d δ1 => (obD K C (nth δ1 i) fun _ fs _ => ∃ kvs, fs.lookup f = some (.dT kvs)) ∧ x.w δ1 fun k => obD K C (nth δ1 i) fun p fs fp => ∃ kvs ks, fs.lookup f = some (.dT kvs) ∧ keyT k = some ks ∧ kvs.length < 4000000 ∧ E.nx (put δ1 i (.big (ObjB K C p (setF f (.dT (putT kvs ks d)) fs)) fp)), fun δ E hw Z F0 F H σ D ok ke => by
  refine e.ok δ _ hw Z F0 F H σ ok _ fun d v δ1 F1 H1 ok1 s1 i1 hw1 => ?_
  obtain ⟨⟨p, fs, fp, hi, kvs, hd⟩, hw2⟩ := hw1
  obtain ⟨dx, us, A, hx, he, nd, hp, hf, hm⟩ := ob_at ok1 hi
  obtain ⟨v0, A1, hv, hvf, _⟩ := hf.get hd
  obtain ⟨l, vs, rfl, _, hl, _⟩ := hvf
  refine ⟨_, hx, p, _, dx, us, _, rfl, hp, hc, hn, hv, ?_⟩
  refine x.ok δ1 _ hw2 Z F0 F1 H1 σ ok1 _ fun k y F2 H2 n2 i2 hw3 => ?_
  obtain ⟨p', fs', fp', hi', kvs', ks, hd', hk, hb, hq⟩ := hw3
  have ok2 := ok1.next n2
  obtain ⟨dx1, us1, A2, hx1, he1, nd1, hp1, hf1, hm1⟩ := ob_at ok2 hi'
  rw [hx] at hx1
  cases hx1
  have hh := n2.h _ _ hp
  rw [hp1] at hh
  cases hh
  rw [he1] at nd1
  have nd2 := List.nodup_cons.mp nd1
  obtain ⟨v', A3, hv', hvf', hs', hu⟩ := hf1.upd nd2.2 hd'
  rw [hv] at hv'
  cases hv'
  obtain ⟨l', ws', e', eA, hl', il⟩ := hvf'
  cases e'
  have hlA : l ∈ A2 := hs' l (by rw [eA]; simp)
  have hpl : p ≠ l := fun z => nd2.1 (by rw [z]; exact hlA)
  obtain ⟨b, rfl, hkb⟩ := keyT_is i2 hk
  refine ⟨l, _, rfl, DPut.t hl' (n2.s _ _ hkb) (by rw [isT_len il]; exact Nat.lt_trans hb (by decide)), ?_⟩
  refine ke.nx _ F2 _ σ (ok2.updO hi' (by rw [he1]; exact List.mem_cons_of_mem _ hlA) ⟨rfl, dx, us, A2, he1, by rw [he1]; exact nd1, by rw [upd_ne hpl]; exact hp1, ?_⟩) hq
  exact hu _ _ (fun q hq hn => upd_ne (fun z => hn (by rw [z, eA]; simp))) ⟨l, _, rfl, eA, upd_same, isT_put (i1.mono n2.f) il⟩⟩
/-- an attribute of an object is assigned a value that stands at own addresses A1 -/
theorem Ok.putO {Z F0 F H H1 : Hp} {σ : L2.St} {δ : List Ent} {i : Nat} {C p dx : Addr} {fs : FS} {us : List (Str × V)} {fp A1 : List Addr} {f : Str} {v : V} {x : FV} (ok : Ok K Z F0 F H σ δ) (hi : nth δ i = .big (ObjB K C p fs) fp) (hp : H p = some (.ins C dx us))
    (s : Same H H1) (s1 : Same F H1) (hx : FvOk K F H1 v x A1) (n1 : A1.Nodup) (ha : ∀ q ∈ A1, H q = none ∧ H1 q ≠ none ∧ F q = none) : ∃ fp', Ok K Z F0 F (upd H1 p (.ins C dx (putF f v us))) σ (put δ i (.big (ObjB K C p (putV f x fs)) fp')) := by
  obtain ⟨dx0, us0, A, hxs, he, nd, hp0, hf, hm⟩ := ob_at ok hi
  rw [hp] at hp0
  cases hp0
  rw [he] at nd
  have nd2 := List.nodup_cons.mp nd
  have hpfp : p ∈ fp := by rw [he]; simp
  have eqH : ∀ q ∈ fp, H1 q = H q := fun q hq => Same.eq_some s (hm q hq).1
  obtain ⟨A', g1, g2, g3⟩ := FsOk.put (f := f) hx n1 (hf.mono (.refl _) fun q hq => eqH q (by rw [he]; exact List.mem_cons_of_mem _ hq)) nd2.2 (fun q hq z => (hm q (by rw [he]; exact List.mem_cons_of_mem _ z)).1 (ha q hq).1)
  have hpA : p ∉ A' := fun z => by
    rcases g3 p z with z | z
    · exact nd2.1 z
    · rw [(ha p z).1] at hp; cases hp
  have hup : ∀ q, q ∈ A' → upd H1 p (.ins C dx (putF f v us)) q = H1 q := fun q hq => upd_ne (fun z => hpA (by rw [← z]; exact hq))
  refine ⟨p :: A', ok.chgO hi (.refl _) (fun q u e => ?_) (fun q u hq e => ?_) (fun _ _ _ e => e) ⟨rfl, dx, _, A', rfl, List.nodup_cons.mpr ⟨hpA, g2⟩, upd_same, g1.mono (.refl _) hup⟩ (fun q hq => ?_)⟩
  · rw [upd_ne (fun z => ?_)]
    · exact s1 q u e
    · rw [z, (hm p hpfp).2.1] at e; cases e
  · rw [upd_ne (fun z => hq (by rw [z]; exact hpfp))]
    exact s q u e
  · rcases List.mem_cons.mp hq with z | z
    · rw [z, upd_same]
      exact ⟨by simp, (hm p hpfp).2.1, fun _ => hpfp⟩
    · rw [hup q z]
      rcases g3 q z with y | y
      · have hqf : q ∈ fp := by rw [he]; exact List.mem_cons_of_mem _ y
        exact ⟨by rw [eqH q hqf]; exact (hm q hqf).1, (hm q hqf).2.1, fun _ => hqf⟩
      · exact ⟨(ha q y).2.1, (ha q y).2.2, fun n => absurd (ha q y).1 n⟩
/-- x.f = e, a datum -/
def sOSet (C : Addr) (hc : Cls K C) (f : Str) (hn : NoAttr K C f) (i : Nat) (e : EX K) : SX K := ⟨sFld K (tVar i) e.t f, fun δ E => e.w δ fun d => obD K C (nth δ i) fun p fs fp => fs.length < 1000 ∧ ∀ fp', E.nx (put δ i (.big (ObjB K C p (putV f (.dat d) fs)) fp')), fun δ E hw Z F0 F H σ D ok ke => by
  refine e.ok δ _ hw Z F0 F H σ ok _ fun d v F1 H1 n1 i1 hw1 => ?_
  obtain ⟨p, fs, fp, hi, hl, hq⟩ := hw1
  have ok1 := ok.next n1
  obtain ⟨dx, us, A, hxs, he, nd, hp, hf, hm⟩ := ob_at ok1 hi
  obtain ⟨fp', ok2⟩ := ok1.putO (f := f) (x := .dat d) (A1 := []) hi hp (.refl _) n1.s ⟨rfl, i1⟩ List.nodup_nil (fun q hq => by simp at hq)
  exact ⟨_, hxs, p, C, dx, us, rfl, hp, hc, hn, by rw [hf.len]; exact hl, ke.nx _ F1 _ σ ok2 (hq fp')⟩⟩
/-- x.f = e, a new list -/
def sOSetL (C : Addr) (hc : Cls K C) (f : Str) (hn : NoAttr K C f) (i : Nat) (e : LX K) : SX K := ⟨sFld K (tVar i) e.t f, fun δ E => e.w δ fun ds => obD K C (nth δ i) fun p fs fp => fs.length < 1000 ∧ ∀ fp', E.nx (put δ i (.big (ObjB K C p (putV f (.lst ds) fs)) fp')), fun δ E hw Z F0 F H σ D ok ke => by
  obtain ⟨Q0, h0⟩ : ∃ Q0, Q0 = fun ds => obD K C (nth δ i) fun p fs fp => fs.length < 1000 ∧ ∀ fp', E.nx (put δ i (.big (ObjB K C p (putV f (.lst ds) fs)) fp')) := ⟨_, rfl⟩
  refine e.ok δ _ hw Z F0 F H σ ok _ fun ds l vs F1 H1 n1 hl hl1 hF1 il hw1 => ?_
  obtain ⟨p, fs, fp, hi, hlen, hq⟩ := hw1
  have ok1 := ok.next n1
  obtain ⟨dx, us, A, hxs, he, nd, hp, hf, hm⟩ := ob_at ok hi
  -- the state ahead, with the data of the state behind, but without the new list
  have okp : Ok K Z F0 F1 (fun q => if q = l then none else H1 q) σ δ := by
    have sz : Same Z (fun q => if q = l then none else H1 q) := fun q o e => by
      have : q ≠ l := fun z => by rw [z, some_ne ok.nx.h hl] at e; cases e
      show (if q = l then none else H1 q) = some o
      rw [if_neg this]
      exact ok1.nx.h q o e
    refine ⟨⟨ok1.nx.f, sz, ok1.nx.g, fun q o e => ?_⟩, ok1.len, fun j => (ok1.at_ j).frame (.refl _) (fun q hq => ((ok1.at_ j).mine hq).2.1) (fun q hq => ?_), ok1.ow⟩
    · show (if q = l then none else H1 q) = some o
      rw [if_neg (fun z => by rw [z, hF1] at e; cases e)]
      exact ok1.nx.s q o e
    · show (if q = l then none else H1 q) = H1 q
      rw [if_neg (fun z => ?_)]
      exact ((ok.at_ j).mine (by exact hq)).1 (by rw [z]; exact hl)
  obtain ⟨dx, us, A, hxs, he, nd, hp, hf, hm⟩ := ob_at okp hi
  have hpl : p ≠ l := fun z => by
    rw [if_pos z] at hp
    cases hp
  have hp1 : H1 p = some (.ins C dx us) := by
    have : (fun q => if q = l then none else H1 q) p = H1 p := if_neg hpl
    rw [← this]; exact hp
  obtain ⟨fp', ok2⟩ := okp.putO (H1 := H1) (f := f) (x := .lst ds) (A1 := [l]) hi hp (fun q o e => by
    by_cases z : q = l
    · rw [if_pos z] at e; cases e
    · rwa [if_neg z] at e) n1.s ⟨l, vs, rfl, rfl, hl1, il⟩ (by simp) (fun q hq => by
    rw [List.mem_singleton.mp hq]
    exact ⟨if_pos rfl, by rw [hl1]; simp, hF1⟩)
  exact ⟨_, hxs, p, C, dx, us, rfl, hp1, hc, hn, by rw [hf.len]; exact hlen, ke.nx _ F1 _ σ ok2 (hq fp')⟩⟩
/-- x.f = {}, keys will be tuples -/
def sOSetD (C : Addr) (hc : Cls K C) (f : Str) (hn : NoAttr K C f) (i : Nat) : SX K := ⟨sFld K (tVar i) tDNewT f, fun δ E => obD K C (nth δ i) fun p fs fp => fs.length < 1000 ∧ ∀ fp', E.nx (put δ i (.big (ObjB K C p (putV f (.dT []) fs)) fp')), fun δ E hw Z F0 F H σ D ok ke => by
  intro l hl
  obtain ⟨p, fs, fp, hi, hlen, hq⟩ := hw
  obtain ⟨dx, us, A, hxs, he, nd, hp, hf, hm⟩ := ob_at ok hi
  have hpl : p ≠ l := fun z => by rw [z, hl] at hp; cases hp
  obtain ⟨fp', ok2⟩ := ok.putO (H1 := upd H l (.dT [])) (f := f) (x := .dT []) (A1 := [l]) hi hp (same_new hl) (ok.nx.s.trans (same_new hl)) ⟨l, [], rfl, rfl, upd_same, .nil⟩ (by simp) (fun q hq => by
    rw [List.mem_singleton.mp hq]
    exact ⟨hl, by rw [upd_same]; simp, some_ne ok.nx.s hl⟩)
  exact ⟨_, hxs, p, C, dx, us, rfl, by rw [upd_ne hpl]; exact hp, hc, hn, by rw [hf.len]; exact hlen, ke.nx _ F _ σ ok2 (hq fp')⟩⟩
/-- x = C(..), a new object of one's own -/
def sNewO (C : Addr) (R : MSp) (i : Nat) (y : AX K) : SX K := ⟨tAsg (tMake C (spOfM K C R) [] E0 y.t) (gName i), fun δ E => y.w δ fun as => dsD as fun ds => R [] ds fun d fs => d = .non ∧ ∀ p fp, E.nx (put δ i (.big (ObjB K C p fs) fp)), fun δ E hw Z F0 F H σ D ok ke => by
  refine y.ok δ _ hw Z F0 F H σ ok _ fun as vs F1 H1 n1 i1 hw1 => ?_
  obtain ⟨ds, e, hl, hr⟩ := dsD_inv hw1
  have l := dats_ok i1 e
  intro x dx nx ndx nex
  show spOfM K C R (.ref x :: (vs ++ [])) _ _ E0
  rw [List.append_nil]
  have ok1 := ok.next n1
  have s1 : Same H1 (upd (upd H1 dx (.own x)) x (.ins C dx [])) := fun b o e => by
    rw [upd_ne (ne_of_none e nx), upd_ne (ne_of_none e ndx)]
    exact e
  refine ⟨x, vs, F1, [], [x], ds, _, rfl, n1.s.trans s1, ⟨rfl, dx, [], [], rfl, by simp, upd_same, rfl⟩, fun q hq => ?_, l, hr, fun d v fs' fp' F' H' hq g1 g2 g3 g4 g5 g6 i => ?_⟩
  · rw [List.mem_singleton.mp hq, upd_same]
    exact ⟨by simp, some_ne n1.s nx⟩
  · obtain ⟨rfl, hq⟩ := hq
    refine ⟨i.non_inv, ?_⟩
    have hx1 : ∀ q, H1 q ≠ none → q ∉ [x] := fun q hq z => hq (by rw [List.mem_singleton.mp z]; exact nx)
    have okN := ok1.next (F1 := F') (H1 := H') ⟨g1, fun q o e => g3 q o (hx1 q (by rw [e]; simp)) (s1 q o e), fun q hq hf => g4 q (hx1 q hq) (Same.ne_none s1 hq) hf, g2⟩
    have hm : x ∈ fp' := by
      obtain ⟨_, _, _, _, e, _⟩ := g5
      rw [e]; simp
    refine ke.nx _ F' H' _ (okN.newBig hm (fun q hq => ⟨(g6 q hq).1, (g6 q hq).2.1, ?_⟩) g5 (fun j q hj hq => ?_)) (hq x fp')
    · cases e : Z q with
      | none => rfl
      | some o =>
        have h1 : H1 q ≠ none := by rw [ok1.nx.h q o e]; simp
        exact absurd ((g6 q hq).2.2 (Same.ne_none s1 h1)) (hx1 q h1)
    · have h1 := ((ok1.at_ j).mine hj).1
      exact hx1 q h1 ((g6 q hq).2.2 (Same.ne_none s1 h1))⟩
end
end PL
namespace PL
open PySem PySem.Spec PyProof.Rows L2
/-! the rules for objects of one's own -/
section
variable (P : Program) (w : World) (K : PySem.W.Frag) (mg : Str → Option Value) (base : Heap)
def MetM (C : Addr) (m : Str) (k : Nat) (ps : List Str) (R : MSp) : Prop := ∃ f fd, Meth K C m f ∧ FnOk P w K mg base CX0 k f fd ps (spOfM K C R) ∧ Binds K fd ps []
def MakM (x : Str) (C : Addr) (k : Nat) (ps : List Str) (R : MSp) : Prop := ∃ f fd, Mk K C f ∧ FnOk P w K mg base CX0 k f fd ps (spOfM K C R) ∧ mg x = some (.ref C) ∧ Binds K fd ps []
end
structure pM (K : PySem.W.Frag) (X : Cx) (e : Expr) (x : MX K) : Prop where
  k : X.K = K
  h : PE X e x.t
structure pMA (K : PySem.W.Frag) (X : Cx) (e : List Expr) (x : MA K) : Prop where
  k : X.K = K
  h : PA X e x.t
section
variable {K : PySem.W.Frag} {X : Cx} {a b c : Expr} {es : List Expr} {p pos q apos cpos tp : Pos}
theorem x_ofld (i : Nat) {C : Addr} {f n : Str} (hc : Cls K C) (hn : NoAttr K C f) (hN : X.N[i]? = some n := by rfl) (hv : Vis X.env.scope n := by first | exact Or.inl rfl | exact Or.inr (Or.inl rfl) | exact Or.inr (Or.inr rfl)) (hd : (n == ("__debug__" : Str)) = false := by decide +kernel)
    (hcd : (n == ("__classdict__" : Str)) = false := by decide +kernel) (hb : attributeBase (.Name n q) f X.env (eval (.Name n q) X.env) = eval (.Name n q) X.env := by rfl) (hk : X.K = K := by rfl) : pE K X (.Attribute (.Name n q) f pos) (eOFld C hc f hn i) := by
  have hk0 : X.K = K := hk
  subst hk0
  exact ⟨rfl, pe_fld (pe_var hN hv hd hcd) hb⟩
theorem r_ofld (i : Nat) {C : Addr} {f n : Str} (hc : Cls K C) (hn : NoAttr K C f) (hN : X.N[i]? = some n := by rfl) (hv : Vis X.env.scope n := by first | exact Or.inl rfl | exact Or.inr (Or.inl rfl) | exact Or.inr (Or.inr rfl)) (hd : (n == ("__debug__" : Str)) = false := by decide +kernel)
    (hcd : (n == ("__classdict__" : Str)) = false := by decide +kernel) (hb : attributeBase (.Name n q) f X.env (eval (.Name n q) X.env) = eval (.Name n q) X.env := by rfl) (hk : X.K = K := by rfl) : pR K X (.Attribute (.Name n q) f pos) (rOFld C hc f hn i) := by
  have hk0 : X.K = K := hk
  subst hk0
  exact ⟨rfl, pe_fld (pe_var hN hv hd hcd) hb⟩
theorem x_odnin (i : Nat) {j : Nat} {C : Addr} {f n : Str} {x : EX K} {q2 : Pos} (hc : Cls K C) (hn : NoAttr K C f) (hr : Room j X.A) (h : pE K X a x) (hN : X.N[i]? = some n := by rfl) (hv : Vis X.env.scope n := by first | exact Or.inl rfl | exact Or.inr (Or.inl rfl) | exact Or.inr (Or.inr rfl)) (hd : (n == ("__debug__" : Str)) = false := by decide +kernel)
    (hcd : (n == ("__classdict__" : Str)) = false := by decide +kernel) (hb : attributeBase (.Name n q) f X.env (eval (.Name n q) X.env) = eval (.Name n q) X.env := by rfl) (hm : behindInMarks .NotIn (.Attribute (.Name n q) f q2) = false := by rfl) (hu : X.A.units + 1 < cLine := by exact Nat.lt_of_le_of_lt (Nat.add_le_add_left (by decide) _) hr.units) : pE K X (.Compare a [.NotIn] [.Attribute (.Name n q) f q2] pos) (eODIn true C hc f hn i x) := by
  have hk0 : X.K = K := h.k
  subst hk0
  exact ⟨rfl, pe_cmp (pc_dnotin hu h.h (pe_fld (pe_var hN hv hd hcd) hb)) hm⟩
theorem x_odget (i : Nat) {j : Nat} {C : Addr} {f n : Str} {x : EX K} {q2 : Pos} (hc : Cls K C) (hn : NoAttr K C f) (hr : Room j X.A) (h : pE K X a x) (hN : X.N[i]? = some n := by rfl) (hv : Vis X.env.scope n := by first | exact Or.inl rfl | exact Or.inr (Or.inl rfl) | exact Or.inr (Or.inr rfl)) (hd : (n == ("__debug__" : Str)) = false := by decide +kernel)
    (hcd : (n == ("__classdict__" : Str)) = false := by decide +kernel) (hb : attributeBase (.Name n q) f X.env (eval (.Name n q) X.env) = eval (.Name n q) X.env := by rfl) (hs : NoSl a := by intro _ _; rfl) (hu : X.A.units + 1 < cLine := by exact Nat.lt_of_le_of_lt (Nat.add_le_add_left (by decide) _) hr.units) : pE K X (.Subscript (.Attribute (.Name n q) f q2) a pos) (eODGet C hc f hn i x) := by
  have hk0 : X.K = K := h.k
  subst hk0
  exact ⟨rfl, pe_dget hu (pe_fld (pe_var hN hv hd hcd) hb) h.h hs⟩
theorem a_o {C : Addr} (i : Nat) {n : Str} {y : AX K} (r : pA K X es y) (hN : X.N[i]? = some n := by rfl) (hv : Vis X.env.scope n := by first | exact Or.inl rfl | exact Or.inr (Or.inl rfl) | exact Or.inr (Or.inr rfl)) (hd : (n == ("__debug__" : Str)) = false := by decide +kernel)
    (hcd : (n == ("__classdict__" : Str)) = false := by decide +kernel) (hs : starEach (.Name n q :: es) X.env = (false, eval (.Name n q) X.env) :: starEach es X.env := by rfl) : pA K X (.Name n q :: es) (aO C i y) := by
  have hk0 : X.K = K := r.k
  subst hk0
  exact ⟨rfl, pa_cons (pe_var hN hv hd hcd) r.h hs⟩
theorem x_omet (i : Nat) {n : Str} {C : Addr} {m : Str} {ps : List Str} {j k : Nat} {R : FSp} {y : AX K} {e : Expr} {f1 : Sem Bool} (cc : Met X.prog X.w K X.mg X.base C m k ps R) (hc : Cls K C) (hr : Room j X.A) (h2 : pA K X (e :: es) y) (hjk : k ≤ j := by decide)
    (hN : X.N[i]? = some n := by rfl) (hv : Vis X.env.scope n := by first | exact Or.inl rfl | exact Or.inr (Or.inl rfl) | exact Or.inr (Or.inr rfl)) (hd : (n == ("__debug__" : Str)) = false := by decide +kernel) (hcd : (n == ("__classdict__" : Str)) = false := by decide +kernel)
    (hst : starEach (e :: es) X.env = (false, eval e X.env) :: starEach es X.env := by rfl) (hpl : (backTo pos (starEach es X.env)).any (·.1) = false := by rfl)
    (ht : eval (.Call (.Attribute (.Name n q) m apos) (e :: es) [] pos) X.env = (do
      let o ← eval (.Name n q) X.env
      standAt apos.atName
      let (f, fst) ← holding [o] (getMethod o m f1)
      callWith pos f fst (backTo pos (starEach (e :: es) X.env)) (backToKw pos (keywordEach [] X.env))) := by rfl) : pE K X (.Call (.Attribute (.Name n q) m apos) (e :: es) [] pos) (eOMeth C m R i y) := by
  have hk0 : X.K = K := h2.k
  subst hk0
  obtain ⟨f, fd, M, F, b⟩ := cc
  exact ⟨rfl, pe_meth (pe_var hN hv hd hcd) hc M F (hr.mono hjk) b .nil pass0 h2.h hst hpl ht⟩
theorem m_e {x : EX K} (h : pE K X a x) : pM K X a (mE x) := ⟨h.k, h.h⟩
theorem m_bin {op : Operator} {o : Op2 K} {x y : MX K} (ho : OpR X (binaryOp op) o.r) (ha : pM K X a x) (hb : pM K X b y) : pM K X (.BinOp a op b pos) (mOp o x y) := by
  have hk0 : X.K = K := ha.k
  subst hk0
  exact ⟨rfl, pe_op ho ha.h hb.h⟩
theorem m_add {x y : MX K} (ha : pM K X a x) (hb : pM K X b y) : pM K X (.BinOp a .Add b pos) (mOp oAdd x y) := m_bin op_addP ha hb
theorem m_xor {x y : MX K} (ha : pM K X a x) (hb : pM K X b y) : pM K X (.BinOp a .BitXor b pos) (mOp (oI0 Builtin.bitXor) x y) := m_bin op_xor ha hb
theorem m_nil (hk : X.K = K := by rfl) : pMA K X [] maNil := by
  have hk0 : X.K = K := hk
  subst hk0
  exact ⟨rfl, pa_nil⟩
theorem m_cons {x : MX K} {y : MA K} (h : pM K X a x) (r : pMA K X es y) (hs : starEach (a :: es) X.env = (false, eval a X.env) :: starEach es X.env := by rfl) : pMA K X (a :: es) (maCons x y) := by
  have hk0 : X.K = K := h.k
  subst hk0
  exact ⟨rfl, pa_cons h.h r.h hs⟩
theorem m_met (i : Nat) {n : Str} {C : Addr} {m : Str} {ps : List Str} {j k : Nat} {R : MSp} {y : MA K} {e : Expr} {f1 : Sem Bool} (cc : MetM X.prog X.w K X.mg X.base C m k ps R) (hc : Cls K C) (hr : Room j X.A) (h2 : pMA K X (e :: es) y) (hjk : k ≤ j := by decide)
    (hN : X.N[i]? = some n := by rfl) (hv : Vis X.env.scope n := by first | exact Or.inl rfl | exact Or.inr (Or.inl rfl) | exact Or.inr (Or.inr rfl)) (hd : (n == ("__debug__" : Str)) = false := by decide +kernel) (hcd : (n == ("__classdict__" : Str)) = false := by decide +kernel)
    (hst : starEach (e :: es) X.env = (false, eval e X.env) :: starEach es X.env := by rfl) (hpl : (backTo pos (starEach es X.env)).any (·.1) = false := by rfl)
    (ht : eval (.Call (.Attribute (.Name n q) m apos) (e :: es) [] pos) X.env = (do
      let o ← eval (.Name n q) X.env
      standAt apos.atName
      let (f, fst) ← holding [o] (getMethod o m f1)
      callWith pos f fst (backTo pos (starEach (e :: es) X.env)) (backToKw pos (keywordEach [] X.env))) := by rfl) : pM K X (.Call (.Attribute (.Name n q) m apos) (e :: es) [] pos) (mMeth C m R i y) := by
  have hk0 : X.K = K := h2.k
  subst hk0
  obtain ⟨f, fd, M, F, b⟩ := cc
  exact ⟨rfl, pe_meth (pe_var hN hv hd hcd) hc M F (hr.mono hjk) b .nil pass0 h2.h hst hpl ht⟩
theorem s_setM (i : Nat) {x : Str} {e : MX K} (hN : X.N.Nodup) (he : pM K X a e) (hi : X.N[i]? = some x := by rfl) (hx : Loc X.env.scope x := by first | exact Or.inl rfl | exact Or.inr rfl) (hs : swapsWith a (some (.Name x p)) pos.line X.env = pure false := by rfl)
    (hf : X.fn x = true ∨ X.env.scope.names.lookup x = some .local := by first | exact .inl rfl | exact .inr rfl | assumption) : pS K X (.Assign [.Name x p] a pos) (sSetM i e) := by
  have hk0 : X.K = K := he.k
  subst hk0
  exact ⟨rfl, ps_set hN hi hx he.h hs hf⟩
theorem s_dropM {e : MX K} (he : pM K X a e) (hs : swapsWith a none pos.line X.env = pure false := by rfl) : pS K X (.Expr a pos) (sDropM e) := by
  have hk0 : X.K = K := he.k
  subst hk0
  exact ⟨rfl, ps_expr he.h hs⟩
theorem s_retM {e : MX K} (he : pM K X a e) : pS K X (.Return (some a) pos) (sRetM e) := by
  have hk0 : X.K = K := he.k
  subst hk0
  exact ⟨rfl, ps_ret he.h⟩
theorem s_oapp (i : Nat) {C : Addr} {f n : Str} {e : EX K} {p2 : Pos} (hc : Cls K C) (hn : NoAttr K C f) (he : pE K X a e) (hN : X.N[i]? = some n := by rfl) (hv : Vis X.env.scope n := by first | exact Or.inl rfl | exact Or.inr (Or.inl rfl) | exact Or.inr (Or.inr rfl)) (hd : (n == ("__debug__" : Str)) = false := by decide +kernel)
    (hcd : (n == ("__classdict__" : Str)) = false := by decide +kernel) (hb : attributeBase (.Name n q) f X.env (eval (.Name n q) X.env) = eval (.Name n q) X.env := by rfl)
    (hbase : attributeBase (.Attribute (.Name n q) f p2) "append" X.env (eval (.Attribute (.Name n q) f p2) X.env) = eval (.Attribute (.Name n q) f p2) X.env := by rfl)
    (hfew : ((backTo cpos (starEach [a] X.env)).all (fun x => !x.1) && (backToKw cpos (keywordEach [] X.env)).all (fun x => x.1.isSome) && decide (([a] : List Expr).length + ([] : List Keyword).length + (if ([] : List Keyword).isEmpty then 0 else 1) < 30)) = true := by rfl)
    (hline : (apos.endLine == cpos.line) = true := by rfl) (hs : starEach [a] X.env = [(false, eval a X.env)] := by rfl) (hsw : swapsWith (.Call (.Attribute (.Attribute (.Name n q) f p2) "append" apos) [a] [] cpos) none pos.line X.env = pure false := by rfl) :
    pS K X (.Expr (.Call (.Attribute (.Attribute (.Name n q) f p2) "append" apos) [a] [] cpos) pos) (sOApp C hc f hn i e) := by
  have hk0 : X.K = K := he.k
  subst hk0
  exact ⟨rfl, ps_expr (pe_bm PySem.F.plainAttrs_list PySem.F.slot_list_append PySem.F.type_list_append mt_append (pe_fld (pe_var hN hv hd hcd) hb) (pa1 he.h hs) hbase hfew hline hs (by rfl)) hsw⟩
theorem s_odput (i : Nat) {j : Nat} {C : Addr} {f n : Str} {x : EX K} {e : MX K} {e1 : Expr} {p2 p3 : Pos} (hc : Cls K C) (hn : NoAttr K C f) (hr : Room j X.A) (hx : pE K X e1 x) (he : pM K X a e) (hN : X.N[i]? = some n := by rfl) (hv : Vis X.env.scope n := by first | exact Or.inl rfl | exact Or.inr (Or.inl rfl) | exact Or.inr (Or.inr rfl)) (hd : (n == ("__debug__" : Str)) = false := by decide +kernel)
    (hcd : (n == ("__classdict__" : Str)) = false := by decide +kernel) (hb : attributeBase (.Name n q) f X.env (eval (.Name n q) X.env) = eval (.Name n q) X.env := by rfl)
    (hs : swapsWith a (some (.Subscript (.Attribute (.Name n q) f p2) e1 p3)) pos.line X.env = pure false := by rfl) (hu : X.A.units + 1 < cLine := by exact Nat.lt_of_le_of_lt (Nat.add_le_add_left (by decide) _) hr.units) :
    pS K X (.Assign [.Subscript (.Attribute (.Name n q) f p2) e1 p3] a pos) (sODPut C hc f hn i x e) := by
  have hk0 : X.K = K := he.k
  subst hk0
  exact ⟨rfl, ps_dput hu (pe_fld (pe_var hN hv hd hcd) hb) hx.h he.h hs⟩
theorem s_oset (i : Nat) {C : Addr} {f n : Str} {e : EX K} (hc : Cls K C) (hn : NoAttr K C f) (he : pE K X a e) (hN : X.N[i]? = some n := by rfl) (hv : Vis X.env.scope n := by first | exact Or.inl rfl | exact Or.inr (Or.inl rfl)) (hd : (n == ("__debug__" : Str)) = false := by decide +kernel)
    (hcd : (n == ("__classdict__" : Str)) = false := by decide +kernel) (hs : swapsWith a (some (.Attribute (.Name n q) f p)) pos.line X.env = pure false := by rfl) : pS K X (.Assign [.Attribute (.Name n q) f p] a pos) (sOSet C hc f hn i e) := by
  have hk0 : X.K = K := he.k
  subst hk0
  exact ⟨rfl, ps_fld (pe_var hN hv hd hcd) he.h hs⟩
theorem s_osetL (i : Nat) {C : Addr} {f n : Str} {e : LX K} (hc : Cls K C) (hn : NoAttr K C f) (he : pL K X a e) (hN : X.N[i]? = some n := by rfl) (hv : Vis X.env.scope n := by first | exact Or.inl rfl | exact Or.inr (Or.inl rfl)) (hd : (n == ("__debug__" : Str)) = false := by decide +kernel)
    (hcd : (n == ("__classdict__" : Str)) = false := by decide +kernel) (hs : swapsWith a (some (.Attribute (.Name n q) f p)) pos.line X.env = pure false := by rfl) : pS K X (.Assign [.Attribute (.Name n q) f p] a pos) (sOSetL C hc f hn i e) := by
  have hk0 : X.K = K := he.k
  subst hk0
  exact ⟨rfl, ps_fld (pe_var hN hv hd hcd) he.h hs⟩
theorem s_osetD (i : Nat) {C : Addr} {f n : Str} {p2 : Pos} (hc : Cls K C) (hn : NoAttr K C f) (hN : X.N[i]? = some n := by rfl) (hv : Vis X.env.scope n := by first | exact Or.inl rfl | exact Or.inr (Or.inl rfl)) (hd : (n == ("__debug__" : Str)) = false := by decide +kernel)
    (hcd : (n == ("__classdict__" : Str)) = false := by decide +kernel) (hs : swapsWith (.Dict [] [] p2) (some (.Attribute (.Name n q) f p)) pos.line X.env = pure false := by rfl) (hk : X.K = K := by rfl) : pS K X (.Assign [.Attribute (.Name n q) f p] (.Dict [] [] p2) pos) (sOSetD C hc f hn i) := by
  have hk0 : X.K = K := hk
  subst hk0
  exact ⟨rfl, ps_fld (pe_var hN hv hd hcd) pe_dnewT hs⟩
theorem s_newO (i : Nat) {x n : Str} {C : Addr} {ps : List Str} {j k : Nat} {R : MSp} {y : AX K} {e : Expr} {p2 p3 : Pos} (c : MakM X.prog X.w K X.mg X.base x C k ps R) (hr : Room j X.A) (hN : X.N.Nodup) (h : pA K X (e :: es) y) (hi : X.N[i]? = some n := by rfl) (hx : Loc X.env.scope n := by first | exact Or.inl rfl | exact Or.inr rfl)
    (hjk : k + 1 ≤ j := by decide) (hg : Gl X x := by rfl) (hd : (x == ("__debug__" : Str)) = false := by decide +kernel)
    (hst : starEach (e :: es) X.env = (false, eval e X.env) :: starEach es X.env := by rfl) (hpl : (backTo pos (starEach es X.env)).any (·.1) = false := by rfl)
    (hs : swapsWith (.Call (.Name x p) (e :: es) [] pos) (some (.Name n p2)) p3.line X.env = pure false := by rfl)
    (hf : X.fn n = true ∨ X.env.scope.names.lookup n = some .local := by first | exact .inl rfl | exact .inr rfl | assumption) : pS K X (.Assign [.Name n p2] (.Call (.Name x p) (e :: es) [] pos) p3) (sNewO C R i y) := by
  have hk0 : X.K = K := h.k
  subst hk0
  obtain ⟨f, fd, M, F, m, b⟩ := c
  exact ⟨rfl, ps_set hN hi hx (pe_make M F (hr.mono hjk) hg m b .nil pass0 h.h (hdb := hd) (he := hst) (hpl := hpl)) hs hf⟩
theorem t_odnin (i : Nat) {j : Nat} {C : Addr} {f n : Str} {x : EX K} {q2 : Pos} (hc : Cls K C) (hn : NoAttr K C f) (hr : Room j X.A) (h : pE K X a x) (hN : X.N[i]? = some n := by rfl) (hv : Vis X.env.scope n := by first | exact Or.inl rfl | exact Or.inr (Or.inl rfl) | exact Or.inr (Or.inr rfl)) (hd : (n == ("__debug__" : Str)) = false := by decide +kernel)
    (hcd : (n == ("__classdict__" : Str)) = false := by decide +kernel) (hb : attributeBase (.Name n q) f X.env (eval (.Name n q) X.env) = eval (.Name n q) X.env := by rfl) (hm : behindInMarks .NotIn (.Attribute (.Name n q) f q2) = false := by rfl) (hu : X.A.units + 1 < cLine := by exact Nat.lt_of_le_of_lt (Nat.add_le_add_left (by decide) _) hr.units) : pT K X (.Compare a [.NotIn] [.Attribute (.Name n q) f q2] pos) (tVal (eODIn true C hc f hn i x)) := by
  have hk0 : X.K = K := h.k
  subst hk0
  exact ⟨rfl, pt_cmp (pc_dnotin hu h.h (pe_fld (pe_var hN hv hd hcd) hb)) hm⟩
/-- is None, is not None -/
def nonD : D → Option Bool
  | .non => some true
  | .ref _ => none
  | _ => some false
theorem non_is {F : Hp} {v : V} {d : D} {b : Bool} (h : Is K F v d) (e : nonD d = some b) : decide (v = .non) = b := by
  cases h <;> cases e <;> simp
def gNon (neg : Bool) (d e : D) (Q : D → Prop) : Prop := e = .non ∧ ∃ b, nonD d = some b ∧ Q (.bl (if neg then !b else b))
def oIsN : Op2 K := ⟨fun x y H Q => y = .non ∧ Q (.bl (decide (x = .non))) H, gNon false, fun d e v u F H Q Q' a b s h k => by
  obtain ⟨rfl, c, hc, hq⟩ := h
  exact ⟨b.non_inv, by rw [non_is a hc]; exact k _ _ F H (.refl s) (.bl _) hq⟩⟩
def oNotN : Op2 K := ⟨fun x y H Q => y = .non ∧ Q (.bl (!decide (x = .non))) H, gNon true, fun d e v u F H Q Q' a b s h k => by
  obtain ⟨rfl, c, hc, hq⟩ := h
  exact ⟨b.non_inv, by rw [non_is a hc]; exact k _ _ F H (.refl s) (.bl _) hq⟩⟩
theorem h_isN : OpR X (compareOp .Is) (oIsN (K := K)).r := op_isN
theorem h_notN : OpR X (compareOp .IsNot) (oNotN (K := K)).r := op_notN
/-- [..] * n -/
theorem isl_rep {F : Hp} {vs : List V} {ds : List D} (l : IsL K F vs ds) : ∀ n : Nat, IsL K F (List.replicate n vs).flatten (List.replicate n ds).flatten
  | 0 => .nil
  | n + 1 => by
    rw [List.replicate_succ, List.replicate_succ, List.flatten_cons, List.flatten_cons]
    exact l.app (isl_rep l n)
def lRep (x : LX K) (e : EX K) : LX K := ⟨tOp rRep x.t e.t, fun δ Q => x.w δ fun ds => e.w δ fun d => intD d fun k => -4000000 ≤ k ∧ k ≤ 4000000 ∧ ds.length * k.toNat ≤ 4000000 ∧ Q (List.replicate k.toNat ds).flatten, fun δ Q hw Z F0 F H σ ok Q' k => by
  refine x.ok δ _ hw Z F0 F H σ ok _ fun ds p vs F1 H1 n1 h0 hp hf l hw1 => ?_
  refine e.ok δ _ hw1 Z F0 F1 H1 σ (ok.next n1) _ fun d u F2 H2 n2 i2 hw2 => ?_
  obtain ⟨m, rfl, b1, b2, b3, hq⟩ := intD_inv hw2
  refine ⟨p, m, vs, rfl, i2.int_inv, n2.h _ _ hp, by omega, by omega, by rw [l.1]; exact Nat.le_trans b3 (by decide), fun r hr => ?_⟩
  have n3 : Nx F2 H2 _ _ := Nx.own (o := .lst (List.replicate m.toNat vs).flatten) n2.s hr
  have n12 := n1.trans n2
  exact k _ r _ _ _ (n12.trans n3) (n12.h.free hr) upd_same (some_ne n2.s hr) (isl_rep (l.mono n2.f) _) hq⟩
theorem l_rep {x : LX K} {y : EX K} (ha : pL K X a x) (hb : pE K X b y) : pL K X (.BinOp a .Mult b pos) (lRep x y) := by
  have hk0 : X.K = K := ha.k
  subst hk0
  exact ⟨rfl, pe_op op_rep ha.h hb.h⟩
/-! a method by its body -/
def obE (K : PySem.W.Frag) (C p : Addr) (e : Ent) (Q : FS → Prop) : Prop := ∃ fs fp, e = .big (ObjB K C p fs) fp ∧ Q fs
theorem isl_ars {F H : Hp} : ∀ {vs : List V} {ds : List D}, IsL K F vs ds → ArsOk K F H vs (ds.map .dat)
  | vs, [], l => by rw [l.inv_nil]; exact trivial
  | vs, d :: ds, l => by
    obtain ⟨v, ws, rfl, h1, h2⟩ := l.inv_cons
    exact ⟨h1, isl_ars h2⟩
theorem fnokM {P : Program} {w : World} {mg : Str → Option Value} {base : Heap} {x qual : Str} {st : Stmt} {f C : Addr} {fd : FuncData} {N ps : List Str} {k : Nat} {R : MSp} (Fn : Fun K x qual st f fd) (S : FnScope N ps (defScope st))
    (len : ∀ fs ds P, R fs ds P → ds.length + 1 = ps.length) (hl : ps.length ≤ N.length)
    (h : ∀ (cdv : Value) (A : Around) (outer : List Env) (s : Shared) (H : Hp) (E : XK), Room k (A.deeper (envOfC qual (defScope st) s.heap.objs.size f cdv)) → ∃ B : SX K,
      pB K (cxOf CX0 P w K mg base N qual (defScope st) f cdv A outer s H E).nox (defBody st) B ∧ ∀ p fp fs ds Q, R fs ds Q → B.w (.big (ObjB K C p fs) fp :: ents (ds.map .dat) (N.length - 1)) { nx := fun δ => obE K C p (nth δ 0) (Q .non), rt := fun _ => False, rm := fun d δ => obE K C p (nth δ 0) (Q d) }) : FnOk P w K mg base CX0 (k + 1) f fd ps (spOfM K C R) := by
  refine Fn.ok S (fun vs H Q E h => ?_) (fun cdv A outer s H vs Q E hr hsp => ?_)
  · obtain ⟨p, rest, F, fs, fp, ds, P, rfl, _, _, _, ha, hR, _⟩ := h
    have := len fs ds P hR
    simp [ha.1]
    omega
  · obtain ⟨p, rest, F, fs, fp, ds, P, rfl, sf, hB, hfp, ha, hR, kk⟩ := hsp
    obtain ⟨B, hBd, hw⟩ := h cdv A outer s H E hr
    have hlen := len fs ds P hR
    have hrl := ha.1
    let Z : Hp := fun q => if q ∈ fp then none else H q
    have zp : ∀ q, q ∈ fp → Z q = none := fun q hq => if_pos hq
    have zn : ∀ q, q ∉ fp → Z q = H q := fun q hq => if_neg hq
    have zs : Same Z H := fun q o e => by
      by_cases hq : q ∈ fp
      · rw [zp q hq] at e; cases e
      · rw [← zn q hq]; exact e
    have hpm : p ∈ fp := by
      obtain ⟨_, _, _, _, e, _⟩ := hB
      rw [e]; simp
    have aZ : ArsOk K F Z rest (ds.map .dat) := isl_ars ha
    have okS : Ok K Z F F H (L2.start N (.ref p :: rest)) (.big (ObjB K C p fs) fp :: ents (ds.map .dat) (N.length - 1)) := by
      refine ⟨⟨.refl _, zs, fun _ _ h => h, sf⟩, ?_, fun i => ?_, fun i j q h1 h2 => ?_⟩
      · simp [L2.start, ents, nos_len, hrl]
        omega
      · cases i with
        | zero => exact ⟨p, rfl, hpm, fun q hq => ⟨(hfp q hq).1, (hfp q hq).2, zp q hq⟩, hB⟩
        | succ i =>
          show SlotOk K Z F H (L2.start N (.ref p :: rest))[i + 1]? (nth ((ds.map Ar.dat).map arE ++ nos (N.length - 1 - (ds.map Ar.dat).length)) i)
          rw [nth_app]
          by_cases hi : i < ((ds.map Ar.dat).map arE).length
          · rw [if_pos hi]
            rw [List.length_map] at hi
            have : (L2.start N (.ref p :: rest))[i + 1]? = (rest.map some)[i]? := by
              unfold L2.start
              rw [List.map_cons, List.cons_append, List.getElem?_cons_succ, List.getElem?_append_left (by simp at hi ⊢; omega)]
            rw [this]
            exact ars_at aZ i hi
          · rw [if_neg hi, nth_nos]
            trivial
      · have m0 : ∀ i x, (nth (.big (ObjB K C p fs) fp :: ents (ds.map .dat) (N.length - 1)) i).has x q → i = 0 := fun i x h => by
          cases i with
          | zero => rfl
          | succ i =>
            exfalso
            have h2 : (nth ((ds.map Ar.dat).map arE ++ nos (N.length - 1 - (ds.map Ar.dat).length)) i).has x q := h
            rw [nth_app] at h2
            split at h2
            · exact ar_own h2
            · rw [nth_nos] at h2
              exact h2.elim
        rw [m0 i _ h1, m0 j _ h2]
    have fin : ∀ d v δ F' H' σ', Ok K Z F F' H' σ' δ → Is K F' v d → obE K C p (nth δ 0) (P d) → Q v H' := fun d v δ F' H' σ' ok' hi hq => by
      obtain ⟨fs', fp', e0, hq⟩ := hq
      have hs := ok'.at_ 0
      rw [e0] at hs
      obtain ⟨p', a, b, c, hB'⟩ := hs
      have hp' : p' = p := hB'.1
      subst hp'
      refine kk d v fs' fp' F' H' hq ok'.nx.f ok'.nx.s (fun q o hn hH => ok'.nx.h q o (by rw [zn q hn]; exact hH)) (fun q hn hH hF => ok'.nx.g q (by rw [zn q hn]; exact hH) hF) hB' (fun q hq' => ⟨(c q hq').1, (c q hq').2.1, fun hH => ?_⟩) hi
      by_cases hm : q ∈ fp
      · exact hm
      · have := (c q hq').2.2
        rw [zn q hm] at this
        exact absurd this hH
    exact ⟨B.t, hBd.h, B.ok _ _ (hw p fp fs ds P hR) Z F F H _ _ okS ⟨fun δ F' H' σ' ok' q => fin .non .non δ F' H' σ' ok' .non q, fun d v F' H' n i q => q.elim, fun _ _ _ _ _ q => q.elim, fun _ _ _ _ _ q => q.elim, fun _ _ _ _ _ _ _ _ _ _ q => q.elim, fun _ _ _ _ _ _ _ _ _ _ _ _ _ _ _ _ _ q => q.elim, fun d v δ F' H' σ' ok' hi q => fin d v δ F' H' σ' ok' hi q, fun _ _ _ _ _ _ _ _ _ q => q.elim, fun _ _ _ _ _ _ _ _ _ q => q.elim⟩⟩
end
end PL
namespace PL
open PySem PySem.Spec PyProof.Rows L2
/-- a word about a test's answer, not to be opened by whnf -/
@[irreducible] def isT (c : Bool) (p : Prop) : Prop := c = true ↔ p
theorem isT_i {c : Bool} {p : Prop} (h : c = true ↔ p) : isT c p := by
  unfold isT
  exact h
theorem isT_e {c : Bool} {p : Prop} (h : isT c p) : c = true ↔ p := by
  unfold isT at h
  exact h
end PL
namespace PL
open PySem PySem.Spec PyProof.Rows L2
/-! max, min of a tuple of ints; chains of three comparisons -/
section
variable {K : PySem.W.Frag} {X : Cx} {a b c d : Expr} {es : List Expr} {p pos q apos cpos tp : Pos}
theorem dp_ints {H : Hp} : ∀ {ns : List Int}, DpAll K H (ns.map V.int) (ns.map PyData.int)
  | [] => .nil
  | n :: ns => .cons (.int n) dp_ints
theorem alike_ints (ns : List Int) : PySem.W.AlikeAll (ns.map PyData.int) := ⟨fun x hx y hy => by
  obtain ⟨i, _, rfl⟩ := List.mem_map.mp hx
  obtain ⟨j, _, rfl⟩ := List.mem_map.mp hy
  rfl, fun x hx => by
  obtain ⟨i, _, rfl⟩ := List.mem_map.mp hx
  simp⟩
theorem depth_ints : ∀ ns : List Int, PyData.depthAll (ns.map PyData.int) = 0
  | [] => rfl
  | n :: ns => by
    show max (PyData.depth (.int n)) (PyData.depthAll (ns.map PyData.int)) = 0
    rw [depth_ints ns]
    rfl
def rMxT (K : PySem.W.Frag) (g : Int → Int → Int) : List V → Hp → VK → Prop := fun vs H Q => ∃ (a : Addr) (n : Int) (ns : List Int), vs = [V.ref a] ∧ SqT K H a ((n :: ns).map V.int) ∧ Q (.int (ns.foldl g n)) H
theorem cr_maxT {k : Nat} (hc : X.calm = true) (hr : Room k X.A) : CallR X (.builtin "max") (rMxT X.K max) := by
  intro pins s σ H vs us Q I r h
  obtain ⟨a, n, ns, rfl, hs, q⟩ := h
  obtain ⟨its, rv, hl, _⟩ := I.tuple hs
  rw [Vals.ref1 r]
  obtain ⟨as, hra⟩ := Dp.readsAll I _ _ _ (dp_ints (H := H) (ns := n :: ns)) rv
  refine PySem.W.max_tuple_data (I.ok.hd hc) hl (x := .int n) (xs := ns.map .int) (by simpa using hra) (alike_ints (n :: ns)) (by
    have := hr.units
    have e : PyData.depthAll (PyData.int n :: ns.map .int) = 0 := depth_ints (n :: ns)
    rw [e]
    omega) fun i v h' tk bs _ hrd hk => ?_
  rw [PySem.W.maxD_ints] at hrd
  cases hrd
  exact ⟨.int _, H, I.kept hk, ⟨_, rfl⟩, q⟩
theorem cr_minT {k : Nat} (hc : X.calm = true) (hr : Room k X.A) : CallR X (.builtin "min") (rMxT X.K min) := by
  intro pins s σ H vs us Q I r h
  obtain ⟨a, n, ns, rfl, hs, q⟩ := h
  obtain ⟨its, rv, hl, _⟩ := I.tuple hs
  rw [Vals.ref1 r]
  obtain ⟨as, hra⟩ := Dp.readsAll I _ _ _ (dp_ints (H := H) (ns := n :: ns)) rv
  refine PySem.W.min_tuple_data (I.ok.hd hc) hl (x := .int n) (xs := ns.map .int) (by simpa using hra) (alike_ints (n :: ns)) (by
    have := hr.units
    have e : PyData.depthAll (PyData.int n :: ns.map .int) = 0 := depth_ints (n :: ns)
    rw [e]
    omega) fun i v h' tk bs _ hrd hk => ?_
  rw [PySem.W.minD_ints] at hrd
  cases hrd
  exact ⟨.int _, H, I.kept hk, ⟨_, rfl⟩, q⟩
theorem isl_ints {F : Hp} : ∀ {ns : List Int} {vs : List V}, IsL K F vs (ns.map D.int) → vs = ns.map V.int
  | [], vs, l => l.inv_nil
  | n :: ns, vs, l => by
    obtain ⟨v, ws, rfl, h1, h2⟩ := l.inv_cons
    rw [h1.int_inv, isl_ints h2]
    rfl
def eMxT (g : Int → Int → Int) (x : EX K) : EX K := ⟨tCB (rMxT K g) (tCons x.t tNil), fun δ Q => x.w δ fun d => ∃ (n : Int) (ns : List Int), d = .tup ((n :: ns).map D.int) ∧ Q (.int (ns.foldl g n)), fun δ Q hw Z F0 F H σ ok Q' k => by
  refine x.ok δ _ hw Z F0 F H σ ok _ fun d v F1 H1 n1 i1 hw1 => ?_
  obtain ⟨n, ns, rfl, hq⟩ := hw1
  obtain ⟨a, vs, rfl, s, l⟩ := i1.tup_inv
  rw [isl_ints l] at s
  exact ⟨a, n, ns, rfl, same_t n1.s s, k _ _ F1 H1 n1 (.int _) hq⟩⟩
theorem x_maxT {k : Nat} {x : EX K} (hc : X.calm = true) (hm : X.mg "max" = none) (hr : Room k X.A) (h : pE K X a x) (hg : Gl X "max" := by rfl) (hs : starEach [a] X.env = [(false, eval a X.env)] := by rfl) : pE K X (.Call (.Name "max" p) [a] [] pos) (eMxT max x) := by
  have hk0 : X.K = K := h.k
  subst hk0
  exact ⟨rfl, pe_callB (cr_maxT hc hr) hg hm (by decide +kernel) (pa1 h.h hs) (by decide +kernel) (by decide +kernel) hs (by rfl)⟩
theorem x_minT {k : Nat} {x : EX K} (hc : X.calm = true) (hm : X.mg "min" = none) (hr : Room k X.A) (h : pE K X a x) (hg : Gl X "min" := by rfl) (hs : starEach [a] X.env = [(false, eval a X.env)] := by rfl) : pE K X (.Call (.Name "min" p) [a] [] pos) (eMxT min x) := by
  have hk0 : X.K = K := h.k
  subst hk0
  exact ⟨rfl, pe_callB (cr_minT hc hr) hg hm (by decide +kernel) (pa1 h.h hs) (by decide +kernel) (by decide +kernel) hs (by rfl)⟩
/-! a op b op' c op'' d -/
def tChain3 (r r' r'' : R2) (ta tb tc td : TE) : TE := fun σ H Q => ta σ H fun x H1 => tb σ H1 fun y H2 => r x y H2 fun z H3 => ∃ k, z = .bl k ∧
  (if k = true then tc σ H3 fun w' H4 => r' y w' H4 fun z2 H5 => ∃ k2, z2 = .bl k2 ∧ (if k2 = true then td σ H5 fun u' H6 => r'' w' u' H6 Q else Q (.bl false) H5) else Q (.bl false) H3)
theorem ite_t {p q : Prop} (h : p) : if true = true then p else q := h
theorem ite_f {p q : Prop} (h : q) : if false = true then p else q := h
theorem pt_chain3 {op op' op'' : CmpOp} {r r' r'' : R2} {ta tb tc td : TE} (ho : OpR X (compareOp op) r) (ho' : OpR X (compareOp op') r') (ho'' : OpR X (compareOp op'') r'') (ha : PE X a ta) (hb : PE X b tb) (hc : PE X c tc) (hd : PE X d td)
    (hm : lastMarks [op, op', op''] [b, c, d] = false := by with_unfolding_all rfl) : PT X (.Compare a [op, op', op''] [b, c, d] pos) (tTest (tChain3 r r' r'' ta tb tc td)) := by
  refine ⟨fun pins s σ H Q I h => ?_⟩
  refine isTrue_chain (thn (ha.run pins s σ H _ I h) fun v s1 ⟨x, H1, I1, r1, q1⟩ => test_link (thn (hb.run pins s1 σ H1 _ I1 q1) fun u s2 ⟨y, H2, I2, r2, q2⟩ =>
    thn (ho pins s2 σ H2 x y v u _ I2 r1 r2 q2) fun d s3 ⟨z, H3, I3, r3, k, e, q3⟩ => ?_)) hm
  subst e
  cases r3
  refine wpAny_truthy_bool ?_
  cases k with
  | false =>
    obtain ⟨k', e', q'⟩ := q3
    cases e'
    exact ite_f ⟨H3, I3, q'⟩
  | true =>
    refine ite_t (test_link (thn (hc.run pins s3 σ H3 _ I3 q3) fun w' s4 ⟨z', H4, I4, r4, q4⟩ => thn (ho' pins s4 σ H4 y z' u w' _ I4 r2 r4 q4) fun d' s5 ⟨z2, H5, I5, r5, k2, e2, q5⟩ => ?_))
    subst e2
    cases r5
    refine wpAny_truthy_bool ?_
    cases k2 with
    | false =>
      obtain ⟨k', e', q'⟩ := q5
      cases e'
      exact ite_f ⟨H5, I5, q'⟩
    | true =>
      refine ite_t (test_last (thn (hd.run pins s5 σ H5 _ I5 q5) fun u' s6 ⟨z3, H6, I6, r6, q6⟩ => thn (ho'' pins s6 σ H6 z' z3 w' u' _ I6 r4 r6 q6) fun d' s7 ⟨z4, H7, I7, r7, k3, e3, q7⟩ => ?_))
      subst e3
      cases r7
      exact wpAny_truthy_bool ⟨H7, I7, q7⟩
def eCh3 (f g h : Int → Int → Bool) (x y z u : EX K) : EX K := ⟨tChain3 (rI0 fun i j => .bl (f i j)) (rI0 fun i j => .bl (g i j)) (rI0 fun i j => .bl (h i j)) x.t y.t z.t u.t, fun δ Q => x.w δ fun d => y.w δ fun e => intD d fun i => intD e fun j => (f i j = true → z.w δ fun e2 => intD e2 fun l => (g j l = true → u.w δ fun e3 => intD e3 fun m => Q (.bl (h l m))) ∧ (g j l = false → Q (.bl false))) ∧ (f i j = false → Q (.bl false)), fun δ Q hw Z F0 F H σ ok Q' k => by
  refine x.ok δ _ hw Z F0 F H σ ok _ fun d v F1 H1 n1 i1 hw1 => ?_
  refine y.ok δ _ hw1 Z F0 F1 H1 σ (ok.next n1) _ fun e u1 F2 H2 n2 i2 hw2 => ?_
  obtain ⟨i, rfl, hw3⟩ := intD_inv hw2
  obtain ⟨j, rfl, hw4⟩ := intD_inv hw3
  have n12 := n1.trans n2
  refine ⟨i, j, i1.int_inv, i2.int_inv, f i j, rfl, ?_⟩
  cases e : f i j with
  | false => exact k _ _ F2 H2 n12 (.bl _) (hw4.2 e)
  | true =>
    refine z.ok δ _ (hw4.1 e) Z F0 F2 H2 σ (ok.next n12) _ fun e2 u2 F3 H3 n3 i3 hw5 => ?_
    obtain ⟨l, rfl, hw6⟩ := intD_inv hw5
    have n13 := n12.trans n3
    refine ⟨j, l, i2.int_inv, i3.int_inv, g j l, rfl, ?_⟩
    cases e' : g j l with
    | false => exact k _ _ F3 H3 n13 (.bl _) (hw6.2 e')
    | true =>
      refine u.ok δ _ (hw6.1 e') Z F0 F3 H3 σ (ok.next n13) _ fun e3 u3 F4 H4 n4 i4 hw7 => ?_
      obtain ⟨m, rfl, hq⟩ := intD_inv hw7
      exact ⟨l, m, i3.int_inv, i4.int_inv, k _ _ F4 H4 (n13.trans n4) (.bl _) hq⟩⟩
theorem t_chain3 {op op' op'' : CmpOp} {f g h : Int → Int → Bool} {x y z u : EX K} (ho : OpR X (compareOp op) (rI0 fun i j => .bl (f i j))) (ho' : OpR X (compareOp op') (rI0 fun i j => .bl (g i j))) (ho'' : OpR X (compareOp op'') (rI0 fun i j => .bl (h i j))) (ha : pE K X a x) (hb : pE K X b y) (hc : pE K X c z) (hd : pE K X d u) (hm : lastMarks [op, op', op''] [b, c, d] = false := by with_unfolding_all rfl) :
    pT K X (.Compare a [op, op', op''] [b, c, d] pos) (tVal (eCh3 f g h x y z u)) := by
  have hk0 : X.K = K := ha.k
  subst hk0
  exact ⟨rfl, pt_chain3 ho ho' ho'' ha.h hb.h hc.h hd.h hm⟩
end
end PL
namespace PL
open PySem PySem.Spec PyProof.Rows L2
/-! comprehensions of two clauses -/
section
variable {K : PySem.W.Frag} {X : Cx} {p pos q apos cpos tp : Pos}
theorem wipe_len (σ : L2.St) (vs : List Nat) : (L2.wipe σ vs).length = σ.length := wipe_length σ vs
theorem wipe_has {j : Nat} {q : Addr} {σ : L2.St} {δ : List Ent} : ∀ {vs : List Nat}, (nth (wipeE δ vs) j).has (L2.wipe σ vs)[j]? q → (nth δ j).has σ[j]? q
  | [], h => h
  | v :: vs, h => by
    have h : (nth (put (wipeE δ vs) v .no) j).has ((L2.wipe σ vs).set v none)[j]? q := h
    rw [nth_put] at h
    by_cases e : v = j
    · rw [if_pos e] at h
      split at h <;> exact h.elim
    · rw [if_neg e, List.getElem?_set_ne e] at h
      exact wipe_has h
theorem Nx.reput {F4 H4 F5 H5 F6 H6 : Hp} {D : Addr} {o o' : HO} (n : Nx F4 (upd H4 D o) F5 H5) (m : Nx F5 H5 F6 H6) (hf : F5 D = none) : Nx F4 (upd H4 D o') F6 (upd H6 D o') := by
  have hD : H5 D = some o := n.h D o upd_same
  have h6 : F6 D = none := m.g D (by rw [hD]; simp) hf
  refine ⟨n.f.trans m.f, fun b u e => ?_, fun p hp hF => ?_, same_mut m.s h6⟩
  · by_cases hb : b = D
    · subst hb
      rw [upd_same] at e ⊢
      exact e
    · rw [upd_ne hb] at e ⊢
      exact m.h b u (n.h b u (by rw [upd_ne hb]; exact e))
  · by_cases hb : p = D
    · rw [hb]; exact h6
    · rw [upd_ne hb] at hp
      have h5 := n.g p (by rw [upd_ne hb]; exact hp) hF
      refine m.g p ?_ h5
      exact Same.ne_none n.h (by rw [upd_ne hb]; exact hp)
/-- [e for g in it for g1 in it1] -/
def lComp2 (it : IX K) (g : GX K) (it1 : IX K) (g1 : GX K) (e : EX K) (vs vs1 : List Nat) (hb1 : it1.b = false) : LX K := ⟨tLc2 it.t g.t tYes it1.t g1.t tYes e.t vs vs1,
  fun δ Q => ((g.own.all fun j => vs.contains j) = true ∧ (g1.own.all fun j => vs1.contains j) = true) ∧ it.w δ fun n at_ => n ≤ 4000 ∧ ∃ f : Nat → List D, (∀ (i : Nat) (d : D), i < n → at_ i d → g.w d (wipeE δ vs) fun δ2 => it1.w δ2 fun n1 at1 => n1 ≤ 1000 ∧ ∃ f1 : Nat → D, (∀ (j : Nat) (d1 : D), j < n1 → at1 j d1 → g1.w d1 (wipeE δ2 vs1) fun δ3 => e.w δ3 fun d' => f1 j = d') ∧ f i = (List.range n1).map f1) ∧ Q ((List.range n).flatMap f), fun δ Q hw Z F0 F H σ ok Q' k => by
  obtain ⟨⟨hs, hs1⟩, hw⟩ := hw
  have hs : ∀ j ∈ g.own, j ∈ vs := fun j hj => by simpa using List.all_eq_true.mp hs j hj
  have hs1 : ∀ j ∈ g1.own, j ∈ vs1 := fun j hj => by simpa using List.all_eq_true.mp hs1 j hj
  refine it.ok δ _ hw Z F0 F H σ ok _ fun n at_ J F1 H1 n1 wk hn hw1 => ?_
  obtain ⟨hn4, f, hf, hq⟩ := hw1
  intro Dl hD
  have h0 := n1.h.free hD
  let W : Nat → Hp → Prop := fun i H' => i ≤ n ∧ ∃ F' ws, Nx F1 H1 F' H' ∧ H' Dl = some (.lst ws) ∧ F' Dl = none ∧ IsL K F' ws ((List.range i).flatMap f) ∧ ws.length ≤ 1000 * i
  refine ⟨fun i m H' => m = n - i ∧ W i H', ⟨n, rfl, Nat.zero_le _, F1, [], .own n1.s hD, upd_same, some_ne n1.s hD, .nil, Nat.le_refl _⟩, ?_⟩
  rintro i m H' ⟨rfl, hi, F', ws, n2, hDl, hFD, l, hlen⟩
  have wk1 := wk i F' H' n2.f n2.s ((ok.next n1).nx.h.trans n2.h) fun _ => n2.h
  by_cases hlt : i < n
  · right
    obtain ⟨go, yl⟩ := wk1.1 hlt
    refine ⟨go, W (i + 1), fun H'' w => ⟨n - (i + 1), by omega, rfl, w⟩, fun x H2 y => ?_⟩
    obtain ⟨d, F2, n3, hd, hat⟩ := yl x H2 y
    have ok2 := (((ok.next n1).next n2).next n3).wipe vs
    refine g.ok d _ _ (hf i d hlt hat) Z F0 F2 H2 _ x ok2 hd _ fun δ2 F3 H3 σ2 ok3 n4 ha hl hw2 => ?_
    refine ⟨wipe_back hs ha.1 hl, ?_⟩
    show it1.t σ2 H3 _
    refine it1.ok δ2 _ hw2 Z F0 F3 H3 σ2 ok3 _ fun m1 at1 J1 F4 H4 n5 wkB hm hw3 => ?_
    obtain ⟨hm1, f1, hf1, hfi⟩ := hw3
    have n34 := (n3.trans n4).trans n5
    have hDn : H' Dl ≠ none := by rw [hDl]; simp
    have hD4 := n34.h _ _ hDl
    have hF4 := n34.g Dl hDn hFD
    have ok4 := ok3.next n5
    have hn2 : ∀ j, ¬ (nth δ2 j).has σ2[j]? Dl := fun j hj => ((ok.at_ j).mine (wipe_has (ha.2 j Dl hj))).1 h0
    have hZ : Z Dl = none := some_ne ok.nx.h h0
    -- the inner loop
    let W1 : Nat → Hp → Prop := fun j H5 => j ≤ m1 ∧ ∃ F5 us, Nx F4 (upd H4 Dl (.lst us)) F5 H5 ∧ F5 Dl = none ∧ IsL K F5 us ((List.range i).flatMap f ++ (List.range j).map f1) ∧ us.length ≤ 1000 * i + j
    have hup : upd H4 Dl (.lst ws) = H4 := by
      funext b
      by_cases hb : b = Dl
      · rw [hb, upd_same, hD4]
      · rw [upd_ne hb]
    refine ⟨fun j m H5 => m = m1 - j ∧ W1 j H5, ⟨m1, rfl, Nat.zero_le _, F4, ws, by rw [hup]; exact .refl ok4.nx.s, hF4, by simpa using l.mono n34.f, by omega⟩, ?_⟩
    rintro j m H5 ⟨rfl, hj, F5, us, nA, hF5, l5, hlen5⟩
    have okA := (ok4.apart (o := .lst us) hZ hF4 hn2).next nA
    have hD5 := nA.h Dl _ upd_same
    have wkj := wkB j F5 H5 nA.f nA.s okA.nx.h (fun hb => by rw [hb1] at hb; cases hb)
    by_cases hjlt : j < m1
    · right
      obtain ⟨go1, yl1⟩ := wkj.1 hjlt
      refine ⟨go1, W1 (j + 1), fun H'' w => ⟨m1 - (j + 1), by omega, rfl, w⟩, fun x1 H6 y1 => ?_⟩
      obtain ⟨d1, F6, nB, hd1, hat1⟩ := yl1 x1 H6 y1
      refine g1.ok d1 _ _ (hf1 j d1 hjlt hat1) Z F0 F6 H6 _ x1 ((okA.next nB).wipe vs1) hd1 _ fun δ3 F7 H7 σ3 ok7 nC ha1 hl1 hw4 => ?_
      refine ⟨wipe_back hs1 ha1.1 hl1, ?_⟩
      show e.t σ3 H7 _
      refine e.ok δ3 _ hw4 Z F0 F7 H7 σ3 ok7 _ fun d' y F8 H8 nD i8 hfj => ?_
      have nE := (nB.trans nC).trans nD
      have hF8 := nE.g Dl (by rw [hD5]; simp) hF5
      refine ⟨us, nE.h _ _ hD5, Nat.lt_trans (show us.length < 4000000 by omega) (by decide), by omega, F8, us ++ [y], nA.reput nE hF5, hF8, ?_, by simp; omega⟩
      rw [List.range_succ, List.map_append, ← List.append_assoc]
      refine (l5.mono nE.f).app ?_
      rw [show List.map f1 [j] = [f1 j] by simp, hfj]
      exact .cons i8 .nil
    · left
      have e1 : j = m1 := by omega
      subst e1
      refine ⟨wkj.2 rfl, by omega, F5, us, ⟨(n2.trans n34).f.trans nA.f, fun b o e => ?_, fun p hp hF => ?_, nA.s⟩, hD5, hF5, ?_, by omega⟩
      · have hb : b ≠ Dl := fun z => by rw [z, hD] at e; cases e
        exact nA.h b o (by rw [upd_ne hb]; exact (n2.trans n34).h b o e)
      · have hb : p ≠ Dl := fun z => by rw [z] at hp; exact hp hD
        have h4 := (n2.trans n34).g p hp hF
        exact nA.g p (by rw [upd_ne hb]; exact Same.ne_none (n2.trans n34).h hp) h4
      · rw [List.range_succ, List.flatMap_append, show List.flatMap f [i] = f i by simp, hfi]
        exact l5
  · left
    have e1 : i = n := by omega
    subst e1
    exact ⟨wk1.2 rfl, k _ Dl ws F' H' (n1.trans n2) h0 hDl hFD l hq⟩⟩
theorem l_comp2 {elt tg iter tg1 iter1 : Expr} {scope : Scope} {own : List (Str × Nat)} {vs1 : List Nat} {it it1 : IX K} {g g1 : GX K} {e : EX K} (hc : X.calm = true) (hN : X.N.Nodup) (ok : BlkOk X.N X.env.scope scope own) (hi : pI K X tg iter it)
    (hg : ∀ (s : Shared) (H : Hp) (C : Addr) (cl : List (Str × Addr)) (fp : List Addr), pG K (X.blk s H scope (compEnvC scope cl C X.env) fp) tg g)
    (hi1 : ∀ (s : Shared) (H : Hp) (C : Addr) (cl : List (Str × Addr)) (fp : List Addr), pI K (X.blk s H scope (compEnvC scope cl C X.env) fp) tg1 iter1 it1)
    (hg1 : ∀ (s : Shared) (H : Hp) (C : Addr) (cl : List (Str × Addr)) (fp : List Addr), pG K (X.blk s H scope (compEnvC scope cl C X.env) fp) tg1 g1)
    (he : ∀ (s : Shared) (H : Hp) (C : Addr) (cl : List (Str × Addr)) (fp : List Addr), pE K (X.blk s H scope (compEnvC scope cl C X.env) fp) elt e) (hb1 : it1.b = false) (hv : ∀ i ∈ vs1, i ∈ own.map (·.2)) (hf : ∀ x, foldedSetIterable iter X.env x = pure x) (hf1 : ∀ env x, foldedSetIterable iter1 env x = pure x) :
    pL K X (.ListComp elt [⟨tg, iter, [], 0⟩, ⟨tg1, iter1, [], 0⟩] scope pos) (lComp2 it g it1 g1 e (own.map (·.2)) vs1 hb1) := by
  have hk0 : X.K = K := hi.k
  subst hk0
  exact ⟨rfl, pe_lc2 hc hN hi.h ok hv (fun s H C cl fp => (hg s H C cl fp).h) (fun _ _ _ _ _ => pts_nil) (fun s H C cl fp => (hi1 s H C cl fp).h) (fun s H C cl fp => (hg1 s H C cl fp).h) (fun _ _ _ _ _ => pts_nil) (fun s H C cl fp => (he s H C cl fp).h) hf hf1⟩
end
end PL
namespace PL
open PySem PySem.Spec PyProof.Rows L2
/-! errors that are raised and caught -/
section
variable {K : PySem.W.Frag} {X : Cx}
theorem b_nox {sts : List Stmt} {x : SX K} (h : pB K X.nox sts x) : pB K X sts x := ⟨h.k, h.h.nox⟩
/-- what is asked of a class of errors without attributes -/
structure ErrC (K : PySem.W.Frag) (mg : Str → Option Value) (x : Str) (C : Addr) : Prop where
  gC : mg x = some (.ref C)
  xC : PySem.W.excIn K C [.type "ValueError", .type "Exception", .type "BaseException", .type "object"] "ValueError.__new__" = true
  kC : PySem.W.keepIn K (.ref C) = true
  bC : PySem.W.subIn K (.ref C) (.type "BaseException") = some true
  tC : PySem.W.typeIn K (.ref C) = some (.type "type")
  iC : PySem.W.isClsIn K C = true
  sC : PySem.W.subIn K (.ref C) (.ref C) = some true
theorem ErrC.exm {mg : Str → Option Value} {x : Str} {C : Addr} (e : ErrC K mg x C) : PySem.W.exmOne K (.ref C) (.ref C) = some true := by
  have h := e.iC
  unfold PySem.W.isClsIn at h
  unfold PySem.W.exmOne PySem.W.kitCls
  simp [e.bC, e.tC, e.sC, h]
/-- raise X('..') -/
def sRaise (W : WX) (C : Addr) : SX K := ⟨fun _ σ H => W (.ref C) none σ H, fun δ E => E.W = W ∧ E.xw C [] δ, fun δ E hw Z F0 F H σ D ok ke => by
  obtain ⟨e, h⟩ := hw
  have := ke.xs C [] none δ F H σ ok rfl h
  rw [e] at this
  exact this⟩
theorem s_raise {W : WX} {C : Addr} {x m : Str} {j : Nat} {p p2 pos pos2 : Pos} (e : ErrC K X.mg x C) (tk : Takes X W) (hc : X.calm = true := by rfl) (hk : X.K = K := by rfl) (hg : Gl X x := by rfl) (hd : (x == ("__debug__" : Str)) = false := by decide +kernel) :
    pS K X (.Raise (some (.Call (.Name x p) [.Constant (.str m) j p2] [] pos)) none pos2) (sRaise W C) := by
  have hk0 : X.K = K := hk
  subst hk0
  exact ⟨rfl, ps_raise hc tk (pmk_own PySem.F.excBase_ValueError e.xC e.gC e.kC (raises_own e.bC e.tC) hg hd)⟩
/-- what a def that may raise promises -/
abbrev XSp := List Ar → (D → Prop) → (Addr → List (Str × D) → Prop) → Prop
def spOfX (K : PySem.W.Frag) (R : XSp) : Sp := fun vs H Q E => ∃ (F : Hp) (as : List Ar) (P : D → Prop) (X : Addr → List (Str × D) → Prop), Same F H ∧ ArsOk K F H vs as ∧ R as P X ∧ (∀ d v F' H', P d → Nx F H F' H' → Is K F' v d → Q v H') ∧
  ∀ C fs d F' H', X C fs → Nx F H F' H' → ErrOk K F' H' d fs → E (.ref C) d H'
/-- f(..), nothing is raised -/
def eCallX (R : XSp) (a : AX K) : EX K := ⟨tCall (spOfX K R) [] E0 a.t, fun δ Q => a.w δ fun as => R as Q fun _ _ => False, fun δ Q hw Z F0 F H σ ok Q' k => by
  refine a.ok δ _ hw Z F0 F H σ ok _ fun as vs F1 H1 n1 i1 hw1 => ?_
  show spOfX K R (vs ++ []) H1 Q' E0
  rw [List.append_nil]
  exact ⟨F1, as, Q, _, n1.s, i1, hw1, fun d v F' H' q n i => k d v F' H' (n1.trans n) i q, fun _ _ _ _ _ q => q.elim⟩⟩
/-- f(..) as a statement; what it raises goes on -/
def sCallX (W : WX) (R : XSp) (a : AX K) : SX K := ⟨tDrop (tCallS (spOfX K R) (WE W) a.t), fun δ E => E.W = W ∧ a.w δ fun as => R as (fun _ => E.nx δ) fun C fs => E.xw C fs δ, fun δ E hw Z F0 F H σ D ok ke => by
  obtain ⟨e, hw⟩ := hw
  refine a.ok δ _ hw Z F0 F H σ ok _ fun as vs F1 H1 n1 i1 hw1 => ?_
  refine ⟨F1, as, _, _, n1.s, i1, hw1, fun d v F' H' q n i => ke.nx δ F' H' σ ((ok.next n1).next n) q, fun C fs d F' H' q n he => ?_⟩
  have := ke.xs C fs d δ F' H' σ ((ok.next n1).next n) he q
  rw [e] at this
  exact this⟩
/-- x = f(..); what it raises goes on -/
def sSetX (W : WX) (R : XSp) (i : Nat) (a : AX K) : SX K := ⟨tAsg (tCallS (spOfX K R) (WE W) a.t) (gName i), fun δ E => E.W = W ∧ a.w δ fun as => R as (fun d => E.nx (put δ i (.dat d))) fun C fs => E.xw C fs δ, fun δ E hw Z F0 F H σ D ok ke => by
  obtain ⟨e, hw⟩ := hw
  refine a.ok δ _ hw Z F0 F H σ ok _ fun as vs F1 H1 n1 i1 hw1 => ?_
  refine ⟨F1, as, _, _, n1.s, i1, hw1, fun d v F' H' q n i' => ke.nx _ F' H' _ (((ok.next n1).next n).setD i') q, fun C fs d F' H' q n he => ?_⟩
  have := ke.xs C fs d δ F' H' σ ((ok.next n1).next n) he q
  rw [e] at this
  exact this⟩
theorem fnokX {P : Program} {w : World} {mg : Str → Option Value} {base : Heap} {x qual : Str} {st : Stmt} {f : Addr} {fd : FuncData} {N ps : List Str} {k : Nat} {R : XSp} (Fn : Fun K x qual st f fd) (S : FnScope N ps (defScope st))
    (len : ∀ as Q X, R as Q X → as.length = ps.length) (hl : ps.length ≤ N.length)
    (h : ∀ (cdv : Value) (A : Around) (outer : List Env) (s : Shared) (H : Hp) (E : XK), Room k (A.deeper (envOfC qual (defScope st) s.heap.objs.size f cdv)) → ∃ B : SX K,
      pB K (cxOf (L2.CX P w) P w K mg base N qual (defScope st) f cdv A outer s H E) (defBody st) B ∧ ∀ as Q X, R as Q X → B.w (ents as N.length) { nx := fun _ => Q .non, rt := Q, xw := fun C fs _ => X C fs, W := fun cls d _ H => E cls d H }) : FnOk P w K mg base (L2.CX P w) (k + 1) f fd ps (spOfX K R) := by
  refine Fn.okX S (fun vs H Q E h => ?_) (fun cdv A outer s H vs Q E hr hsp => ?_)
  · obtain ⟨F, as, Q, X, _, ha, hR, _⟩ := h
    rw [ars_len ha]
    exact len as Q X hR
  · obtain ⟨F, as, Q', X, sf, ha, hR, kk, kx⟩ := hsp
    obtain ⟨B, hB, hw⟩ := h cdv A outer s H E hr
    refine ⟨B.t, hB.h, B.ok _ _ (hw as Q' X hR) H F F H _ _ (ok_start sf ha (by rw [len as Q' X hR]; exact hl)) ⟨fun δ F' H' σ' ok' q => kk _ _ F' H' q ok'.nx .non, fun d v F' H' n i q => kk d v F' H' q n i, fun _ _ _ _ _ q => q.elim, fun _ _ _ _ _ q => q.elim, fun _ _ _ _ _ _ _ _ _ _ q => q.elim, fun _ _ _ _ _ _ _ _ _ _ _ _ _ _ _ _ _ q => q.elim, fun _ _ _ _ _ _ _ _ q => q.elim, fun _ _ _ _ _ _ _ _ _ q => q.elim, fun C fs d δ F' H' σ' ok' he q => kx C fs d F' H' q ok'.nx he⟩⟩
/-! an object of one's own, its __init__ may raise -/
abbrev MSpX := FS → List D → (D → FS → Prop) → (Addr → List (Str × D) → Prop) → Prop
def spOfMX (K : PySem.W.Frag) (C : Addr) (R : MSpX) : Sp := fun vs H Q E => ∃ (p : Addr) (rest : List V) (F : Hp) (fs : FS) (fp : List Addr) (ds : List D) (P : D → FS → Prop) (X : Addr → List (Str × D) → Prop), vs = .ref p :: rest ∧ Same F H ∧ (ObjB K C p fs).P F H p fp ∧ (∀ q ∈ fp, H q ≠ none ∧ F q = none) ∧ IsL K F rest ds ∧ R fs ds P X ∧
  (∀ d v fs' fp' F' H', P d fs' → Same F F' → Same F' H' → (∀ q o, q ∉ fp → H q = some o → H' q = some o) → (∀ q, q ∉ fp → H q ≠ none → F q = none → F' q = none) → (ObjB K C p fs').P F' H' p fp' → (∀ q ∈ fp', H' q ≠ none ∧ F' q = none ∧ (H q ≠ none → q ∈ fp)) → Is K F' v d → Q v H') ∧
  ∀ C' fs' d F' H', X C' fs' → Same F F' → Same F' H' → (∀ q o, q ∉ fp → H q = some o → H' q = some o) → (∀ q, q ∉ fp → H q ≠ none → F q = none → F' q = none) → ErrOk K F' H' d fs' → E (.ref C') d H'
theorem fnokMX {P : Program} {w : World} {mg : Str → Option Value} {base : Heap} {x qual : Str} {st : Stmt} {f C : Addr} {fd : FuncData} {N ps : List Str} {k : Nat} {R : MSpX} (Fn : Fun K x qual st f fd) (S : FnScope N ps (defScope st))
    (len : ∀ fs ds P X, R fs ds P X → ds.length + 1 = ps.length) (hl : ps.length ≤ N.length)
    (h : ∀ (cdv : Value) (A : Around) (outer : List Env) (s : Shared) (H : Hp) (E : XK), Room k (A.deeper (envOfC qual (defScope st) s.heap.objs.size f cdv)) → ∃ B : SX K,
      pB K (cxOf (L2.CX P w) P w K mg base N qual (defScope st) f cdv A outer s H E) (defBody st) B ∧ ∀ p fp fs ds Q X, R fs ds Q X → B.w (.big (ObjB K C p fs) fp :: ents (ds.map .dat) (N.length - 1)) { nx := fun δ => obE K C p (nth δ 0) (Q .non), rt := fun _ => False, rm := fun d δ => obE K C p (nth δ 0) (Q d), xw := fun C fs _ => X C fs, W := fun cls d _ H => E cls d H }) : FnOk P w K mg base (L2.CX P w) (k + 1) f fd ps (spOfMX K C R) := by
  refine Fn.okX S (fun vs H Q E h => ?_) (fun cdv A outer s H vs Q E hr hsp => ?_)
  · obtain ⟨p, rest, F, fs, fp, ds, P, X, rfl, _, _, _, ha, hR, _⟩ := h
    have := len fs ds P X hR
    simp [ha.1]
    omega
  · obtain ⟨p, rest, F, fs, fp, ds, P, X, rfl, sf, hB, hfp, ha, hR, kk, kx⟩ := hsp
    obtain ⟨B, hBd, hw⟩ := h cdv A outer s H E hr
    have hlen := len fs ds P X hR
    have hrl := ha.1
    let Z : Hp := fun q => if q ∈ fp then none else H q
    have zp : ∀ q, q ∈ fp → Z q = none := fun q hq => if_pos hq
    have zn : ∀ q, q ∉ fp → Z q = H q := fun q hq => if_neg hq
    have zs : Same Z H := fun q o e => by
      by_cases hq : q ∈ fp
      · rw [zp q hq] at e; cases e
      · rw [← zn q hq]; exact e
    have hpm : p ∈ fp := by
      obtain ⟨_, _, _, _, e, _⟩ := hB
      rw [e]; simp
    have aZ : ArsOk K F Z rest (ds.map .dat) := isl_ars ha
    have okS : Ok K Z F F H (L2.start N (.ref p :: rest)) (.big (ObjB K C p fs) fp :: ents (ds.map .dat) (N.length - 1)) := by
      refine ⟨⟨.refl _, zs, fun _ _ h => h, sf⟩, ?_, fun i => ?_, fun i j q h1 h2 => ?_⟩
      · simp [L2.start, ents, nos_len, hrl]
        omega
      · cases i with
        | zero => exact ⟨p, rfl, hpm, fun q hq => ⟨(hfp q hq).1, (hfp q hq).2, zp q hq⟩, hB⟩
        | succ i =>
          show SlotOk K Z F H (L2.start N (.ref p :: rest))[i + 1]? (nth ((ds.map Ar.dat).map arE ++ nos (N.length - 1 - (ds.map Ar.dat).length)) i)
          rw [nth_app]
          by_cases hi : i < ((ds.map Ar.dat).map arE).length
          · rw [if_pos hi]
            rw [List.length_map] at hi
            have : (L2.start N (.ref p :: rest))[i + 1]? = (rest.map some)[i]? := by
              unfold L2.start
              rw [List.map_cons, List.cons_append, List.getElem?_cons_succ, List.getElem?_append_left (by simp at hi ⊢; omega)]
            rw [this]
            exact ars_at aZ i hi
          · rw [if_neg hi, nth_nos]
            trivial
      · have m0 : ∀ i x, (nth (.big (ObjB K C p fs) fp :: ents (ds.map .dat) (N.length - 1)) i).has x q → i = 0 := fun i x h => by
          cases i with
          | zero => rfl
          | succ i =>
            exfalso
            have h2 : (nth ((ds.map Ar.dat).map arE ++ nos (N.length - 1 - (ds.map Ar.dat).length)) i).has x q := h
            rw [nth_app] at h2
            split at h2
            · exact ar_own h2
            · rw [nth_nos] at h2
              exact h2.elim
        rw [m0 i _ h1, m0 j _ h2]
    have fin : ∀ d v δ F' H' σ', Ok K Z F F' H' σ' δ → Is K F' v d → obE K C p (nth δ 0) (P d) → Q v H' := fun d v δ F' H' σ' ok' hi hq => by
      obtain ⟨fs', fp', e0, hq⟩ := hq
      have hs := ok'.at_ 0
      rw [e0] at hs
      obtain ⟨p', a, b, c, hB'⟩ := hs
      have hp' : p' = p := hB'.1
      subst hp'
      refine kk d v fs' fp' F' H' hq ok'.nx.f ok'.nx.s (fun q o hn hH => ok'.nx.h q o (by rw [zn q hn]; exact hH)) (fun q hn hH hF => ok'.nx.g q (by rw [zn q hn]; exact hH) hF) hB' (fun q hq' => ⟨(c q hq').1, (c q hq').2.1, fun hH => ?_⟩) hi
      by_cases hm : q ∈ fp
      · exact hm
      · have := (c q hq').2.2
        rw [zn q hm] at this
        exact absurd this hH
    exact ⟨B.t, hBd.h, B.ok _ _ (hw p fp fs ds P X hR) Z F F H _ _ okS ⟨fun δ F' H' σ' ok' q => fin .non .non δ F' H' σ' ok' .non q, fun d v F' H' n i q => q.elim, fun _ _ _ _ _ q => q.elim, fun _ _ _ _ _ q => q.elim, fun _ _ _ _ _ _ _ _ _ _ q => q.elim, fun _ _ _ _ _ _ _ _ _ _ _ _ _ _ _ _ _ q => q.elim, fun d v δ F' H' σ' ok' hi q => fin d v δ F' H' σ' ok' hi q, fun _ _ _ _ _ _ _ _ _ q => q.elim, fun C' fs' d δ F' H' σ' ok' he q => kx C' fs' d F' H' q ok'.nx.f ok'.nx.s (fun q o hn hH => ok'.nx.h q o (by rw [zn q hn]; exact hH)) (fun q hn hH hF => ok'.nx.g q (by rw [zn q hn]; exact hH) hF) he⟩⟩
end
end PL
namespace PL
open PySem PySem.Spec PyProof.Rows L2
/-! objects whose making may raise; try -/
section
variable {K : PySem.W.Frag} {X : Cx} {a b c : Expr} {es : List Expr} {pos p q : Pos}
def tMkX (C : Addr) (sp : Sp) (E : L2.St → XK) (t : TA) : TE := fun σ H Q => t σ H fun vs H1 => ∀ x dx, H1 x = none → H1 dx = none → dx ≠ x → sp (.ref x :: vs) (upd (upd H1 dx (.own x)) x (.ins C dx [])) (fun v H2 => v = .non ∧ Q (.ref x) H2) (E σ)
theorem run_mkX {W : WX} {f C : Addr} {fd : FuncData} {ps : List Str} {k : Nat} {sp : Sp} {pns : List (Addr × Obj)} {σ : L2.St} {H : Hp} {s : Shared} {Q : VK} {us : List Value} {vs : List V}
    (tk : Takes X W) (mk : Mk X.K C f) (fn : FnOk X.prog X.w X.K X.mg X.base (L2.CX X.prog X.w) k f fd ps sp) (rm : Room (k + 1) X.A) (bn : Binds X.K fd ps []) (inv : Inv X pns σ H s) (vals : Vals vs us)
    (wish : ∀ x dx, H x = none → H dx = none → dx ≠ x → sp (.ref x :: vs) (upd (upd H dx (.own x)) x (.ins C dx [])) (fun v H2 => v = .non ∧ Q (.ref x) H2) (WE W σ)) :
    wpAny (model X.prog X.w) X.A (call (.ref C) us) (EP X pns σ Q) X.xe s := by
  have w1 := wish (s.heap.objs.size + 1) s.heap.objs.size (inv.hok.fresh (Nat.le_add_right _ 1)) (inv.hok.fresh Nat.le.refl) (Nat.ne_of_lt (Nat.lt_succ_self _))
  have inv2 := Inv.made (C := C) inv
  have vals2 : Vals (V.ref (s.heap.objs.size + 1) :: vs) (Value.ref (s.heap.objs.size + 1) :: us) := .cons rfl vals
  have len2 : (Value.ref (s.heap.objs.size + 1) :: us ++ []).length = ps.length := by
    rw [List.append_nil, ← vals2.length]
    exact fn.len _ _ _ _ w1
  have bs := bn _ (Value.ref (s.heap.objs.size + 1) :: us) inv2.kIn len2
  rw [List.append_nil] at bs
  have ran := fn.run _ X.stack _ _ ⟨Value.ref (s.heap.objs.size + 1) :: us, []⟩ _ _ _ (WE W σ) (rm.make C us []) (inv2.env0.make C us []) bs vals2 w1
  refine wpAny_call (make_map (f := f) inv.kIn mk.makes mk.init (beq_iff_eq.mp mk.fn) (codeAny_mono ran fun res t' ended => ?_))
  match res, ended with
  | .error er, ended => exact tk er t' (XE.of_call inv2 (fun _ _ _ h => h) ended)
  | .ok (.ret u), ended =>
    obtain ⟨v, H', inv3, rv, ev, fine⟩ := inv2.after ended
    subst ev
    exact ⟨rv, ⟨V.ref (s.heap.objs.size + 1), H', inv3, rfl, fine⟩⟩
  | .ok .next, ended => exact False.elim ended
  | .ok .brk, ended => exact False.elim ended
  | .ok .cont, ended => exact False.elim ended
def MakMX (P : Program) (w : World) (K : PySem.W.Frag) (mg : Str → Option Value) (base : Heap) (x : Str) (C : Addr) (k : Nat) (ps : List Str) (R : MSpX) : Prop := ∃ f fd, Mk K C f ∧ FnOk P w K mg base (L2.CX P w) k f fd ps (spOfMX K C R) ∧ mg x = some (.ref C) ∧ Binds K fd ps []
def CalX (P : Program) (w : World) (K : PySem.W.Frag) (mg : Str → Option Value) (base : Heap) (x : Str) (k : Nat) (ps : List Str) (R : XSp) : Prop := ∃ f fd, FnOk P w K mg base (L2.CX P w) k f fd ps (spOfX K R) ∧ mg x = some (.ref f) ∧ PySem.W.keepIn K (.ref f) = true ∧ Binds K fd ps []
theorem CalX.mk {P : Program} {w : World} {mg : Str → Option Value} {base : Heap} {x qual : Str} {st : Stmt} {f : Addr} {fd : FuncData} {k : Nat} {ps : List Str} {R : XSp} (Fn : Fun K x qual st f fd) (F : FnOk P w K mg base (L2.CX P w) k f fd ps (spOfX K R)) (m : mg x = some (.ref f)) (b : Binds K fd ps []) : CalX P w K mg base x k ps R := ⟨f, fd, F, m, Fn.kp, b⟩
theorem pe_mkX {W : WX} {x : Str} {C : Addr} {ps : List Str} {k : Nat} {R : MSpX} {t : TA} {e : Expr} (cl : MakMX X.prog X.w X.K X.mg X.base x C k ps R) (tk : Takes X W) (rm : Room (k + 1) X.A) (gl : Gl X x) (ha : PA X (e :: es) t)
    (db : (x == ("__debug__" : Str)) = false) (hst : starEach (e :: es) X.env = (false, eval e X.env) :: starEach es X.env) (hpl : (backTo pos (starEach es X.env)).any (·.1) = false) :
    PE X (.Call (.Name x p) (e :: es) [] pos) (tMkX C (spOfMX X.K C R) (WE W) t) := by
  obtain ⟨f, fd, mk, fn, m, bn⟩ := cl
  exact ⟨fun pns s σ H Q inv h => wpAny_Call_Name_kw (ld_glob inv gl m (PySem.W.callWith_K (h₀ := X.base) inv.ok.mod.kin mk.kp (thn (ha.run pos pns s σ H _ inv h) fun us s1 ⟨vs, H1, inv1, r, q⟩ => ⟨inv1.kIn, run_mkX tk mk fn rm bn inv1 r q⟩) hst hpl) db)⟩
/-- what is known behind a making: the new object's place is free -/
theorem mkX_frame {F H F' H' : Hp} {x dx : Addr} {C : Addr} (sf : Same F H) (nx : H x = none) (ndx : H dx = none) (g1 : Same F F') (g2 : Same F' H') (g3 : ∀ q o, q ∉ [x] → (upd (upd H dx (.own x)) x (.ins C dx [])) q = some o → H' q = some o)
    (g4 : ∀ q, q ∉ [x] → (upd (upd H dx (.own x)) x (.ins C dx [])) q ≠ none → F q = none → F' q = none) : Nx F H F' H' := by
  have s1 : Same H (upd (upd H dx (.own x)) x (.ins C dx [])) := fun b o e => by
    rw [upd_ne (ne_of_none e nx), upd_ne (ne_of_none e ndx)]
    exact e
  have hx1 : ∀ q, H q ≠ none → q ∉ [x] := fun q hq z => hq (by rw [List.mem_singleton.mp z]; exact nx)
  exact ⟨g1, fun q o e => g3 q o (hx1 q (by rw [e]; simp)) (s1 q o e), fun q hq hf => g4 q (hx1 q hq) (Same.ne_none s1 hq) hf, g2⟩
/-- x = C(..), a new object of one's own; nothing is raised -/
def sNewOX (C : Addr) (R : MSpX) (i : Nat) (y : AX K) : SX K := ⟨tAsg (tMake C (spOfMX K C R) [] E0 y.t) (gName i), fun δ E => y.w δ fun as => dsD as fun ds => R [] ds (fun d fs => d = .non ∧ ∀ p fp, E.nx (put δ i (.big (ObjB K C p fs) fp))) fun _ _ => False, fun δ E hw Z F0 F H σ D ok ke => by
  refine y.ok δ _ hw Z F0 F H σ ok _ fun as vs F1 H1 n1 i1 hw1 => ?_
  obtain ⟨ds, e, hl, hr⟩ := dsD_inv hw1
  have l := dats_ok i1 e
  intro x dx nx ndx nex
  show spOfMX K C R (.ref x :: (vs ++ [])) _ _ E0
  rw [List.append_nil]
  have ok1 := ok.next n1
  have s1 : Same H1 (upd (upd H1 dx (.own x)) x (.ins C dx [])) := fun b o e => by
    rw [upd_ne (ne_of_none e nx), upd_ne (ne_of_none e ndx)]
    exact e
  refine ⟨x, vs, F1, [], [x], ds, _, _, rfl, n1.s.trans s1, ⟨rfl, dx, [], [], rfl, by simp, upd_same, rfl⟩, fun q hq => ?_, l, hr, fun d v fs' fp' F' H' hq g1 g2 g3 g4 g5 g6 i => ?_, fun _ _ _ _ _ z => z.elim⟩
  · rw [List.mem_singleton.mp hq, upd_same]
    exact ⟨by simp, some_ne n1.s nx⟩
  · obtain ⟨rfl, hq⟩ := hq
    refine ⟨i.non_inv, ?_⟩
    have hx1 : ∀ q, H1 q ≠ none → q ∉ [x] := fun q hq z => hq (by rw [List.mem_singleton.mp z]; exact nx)
    have okN := ok1.next (mkX_frame n1.s nx ndx g1 g2 g3 g4)
    have hm : x ∈ fp' := by
      obtain ⟨_, _, _, _, e, _⟩ := g5
      rw [e]; simp
    refine ke.nx _ F' H' _ (okN.newBig hm (fun q hq => ⟨(g6 q hq).1, (g6 q hq).2.1, ?_⟩) g5 (fun j q hj hq => ?_)) (hq x fp')
    · cases e : Z q with
      | none => rfl
      | some o =>
        have h1 : H1 q ≠ none := by rw [ok1.nx.h q o e]; simp
        exact absurd ((g6 q hq).2.2 (Same.ne_none s1 h1)) (hx1 q h1)
    · have h1 := ((ok1.at_ j).mine hj).1
      exact hx1 q h1 ((g6 q hq).2.2 (Same.ne_none s1 h1))⟩
theorem s_newOX (i : Nat) {x n : Str} {C : Addr} {ps : List Str} {j k : Nat} {R : MSpX} {y : AX K} {e : Expr} {p2 p3 : Pos} (c : MakMX X.prog X.w K X.mg X.base x C k ps R) (hr : Room j X.A) (hN : X.N.Nodup) (h : pA K X (e :: es) y) (hi : X.N[i]? = some n := by rfl) (hx : Loc X.env.scope n := by first | exact Or.inl rfl | exact Or.inr rfl)
    (hjk : k + 1 ≤ j := by decide) (hg : Gl X x := by rfl) (hd : (x == ("__debug__" : Str)) = false := by decide +kernel)
    (hst : starEach (e :: es) X.env = (false, eval e X.env) :: starEach es X.env := by rfl) (hpl : (backTo pos (starEach es X.env)).any (·.1) = false := by rfl)
    (hs : swapsWith (.Call (.Name x p) (e :: es) [] pos) (some (.Name n p2)) p3.line X.env = pure false := by rfl)
    (hf : X.fn n = true ∨ X.env.scope.names.lookup n = some .local := by first | exact .inl rfl | exact .inr rfl | assumption) : pS K X (.Assign [.Name n p2] (.Call (.Name x p) (e :: es) [] pos) p3) (sNewOX C R i y) := by
  have hk0 : X.K = K := h.k
  subst hk0
  obtain ⟨f, fd, M, F, m, b⟩ := c
  exact ⟨rfl, ps_set hN hi hx (pe_make M F (hr.mono hjk) hg m b .nil passL h.h (hdb := hd) (he := hst) (hpl := hpl)) hs hf⟩
/-- C(..) as a statement; what it raises goes on -/
def sMkX (W : WX) (C : Addr) (R : MSpX) (y : AX K) : SX K := ⟨tDrop (tMkX C (spOfMX K C R) (WE W) y.t), fun δ E => E.W = W ∧ y.w δ fun as => dsD as fun ds => R [] ds (fun d _ => d = .non ∧ E.nx δ) fun C' fs' => E.xw C' fs' δ, fun δ E hw Z F0 F H σ D ok ke => by
  obtain ⟨eW, hw⟩ := hw
  refine y.ok δ _ hw Z F0 F H σ ok _ fun as vs F1 H1 n1 i1 hw1 => ?_
  obtain ⟨ds, e, hl, hr⟩ := dsD_inv hw1
  have l := dats_ok i1 e
  intro x dx nx ndx nex
  have ok1 := ok.next n1
  have s1 : Same H1 (upd (upd H1 dx (.own x)) x (.ins C dx [])) := fun b o e => by
    rw [upd_ne (ne_of_none e nx), upd_ne (ne_of_none e ndx)]
    exact e
  refine ⟨x, vs, F1, [], [x], ds, _, _, rfl, n1.s.trans s1, ⟨rfl, dx, [], [], rfl, by simp, upd_same, rfl⟩, fun q hq => ?_, l, hr, fun d v fs' fp' F' H' hq g1 g2 g3 g4 g5 g6 i => ?_, fun C' fs' d F' H' hq g1 g2 g3 g4 he => ?_⟩
  · rw [List.mem_singleton.mp hq, upd_same]
    exact ⟨by simp, some_ne n1.s nx⟩
  · obtain ⟨rfl, hq⟩ := hq
    exact ⟨i.non_inv, ke.nx _ F' H' _ (ok1.next (mkX_frame n1.s nx ndx g1 g2 g3 g4)) hq⟩
  · have := ke.xs C' fs' d δ F' H' σ (ok1.next (mkX_frame n1.s nx ndx g1 g2 g3 g4)) he hq
    rw [eW] at this
    exact this⟩
theorem s_mkX {W : WX} {x : Str} {C : Addr} {ps : List Str} {j k : Nat} {R : MSpX} {y : AX K} {e : Expr} {p3 : Pos} (cl : MakMX X.prog X.w K X.mg X.base x C k ps R) (tk : Takes X W) (hr : Room j X.A) (h : pA K X (e :: es) y) (hjk : k + 1 ≤ j := by decide) (hg : Gl X x := by rfl) (hd : (x == ("__debug__" : Str)) = false := by decide +kernel)
    (hst : starEach (e :: es) X.env = (false, eval e X.env) :: starEach es X.env := by rfl) (hpl : (backTo pos (starEach es X.env)).any (·.1) = false := by rfl)
    (hs : swapsWith (.Call (.Name x p) (e :: es) [] pos) none p3.line X.env = pure false := by rfl) : pS K X (.Expr (.Call (.Name x p) (e :: es) [] pos) p3) (sMkX W C R y) := by
  have hk0 : X.K = K := h.k
  subst hk0
  exact ⟨rfl, ps_expr (pe_mkX cl tk (hr.mono hjk) hg h.h hd hst hpl) hs⟩
/-- f(..) that may raise, as a statement; x = f(..) -/
theorem s_calX {W : WX} {x : Str} {ps : List Str} {j k : Nat} {R : XSp} {y : AX K} {e : Expr} {p3 : Pos} (cl : CalX X.prog X.w K X.mg X.base x k ps R) (tk : Takes X W) (hr : Room j X.A) (h : pA K X (e :: es) y) (hjk : k ≤ j := by decide) (hg : Gl X x := by rfl) (hd : (x == ("__debug__" : Str)) = false := by decide +kernel)
    (hst : starEach (e :: es) X.env = (false, eval e X.env) :: starEach es X.env := by rfl) (hpl : (backTo pos (starEach es X.env)).any (·.1) = false := by rfl)
    (hs : swapsWith (.Call (.Name x p) (e :: es) [] pos) none p3.line X.env = pure false := by rfl) : pS K X (.Expr (.Call (.Name x p) (e :: es) [] pos) p3) (sCallX W R y) := by
  have hk0 : X.K = K := h.k
  subst hk0
  obtain ⟨f, fd, F, m, kp, bn⟩ := cl
  exact ⟨rfl, ps_expr (pe_callS F (hr.mono hjk) hg m kp bn (fun σ => passAt tk σ) h.h (hdb := hd) (he := hst) (hpl := hpl)) hs⟩
theorem s_setX (i : Nat) {W : WX} {x n : Str} {ps : List Str} {j k : Nat} {R : XSp} {y : AX K} {e : Expr} {p2 p3 : Pos} (cl : CalX X.prog X.w K X.mg X.base x k ps R) (tk : Takes X W) (hr : Room j X.A) (hN : X.N.Nodup) (h : pA K X (e :: es) y) (hi : X.N[i]? = some n := by rfl) (hx : Loc X.env.scope n := by first | exact Or.inl rfl | exact Or.inr rfl)
    (hjk : k ≤ j := by decide) (hg : Gl X x := by rfl) (hd : (x == ("__debug__" : Str)) = false := by decide +kernel)
    (hst : starEach (e :: es) X.env = (false, eval e X.env) :: starEach es X.env := by rfl) (hpl : (backTo pos (starEach es X.env)).any (·.1) = false := by rfl)
    (hs : swapsWith (.Call (.Name x p) (e :: es) [] pos) (some (.Name n p2)) p3.line X.env = pure false := by rfl)
    (hf : X.fn n = true ∨ X.env.scope.names.lookup n = some .local := by first | exact .inl rfl | exact .inr rfl | assumption) : pS K X (.Assign [.Name n p2] (.Call (.Name x p) (e :: es) [] pos) p3) (sSetX W R i y) := by
  have hk0 : X.K = K := h.k
  subst hk0
  obtain ⟨f, fd, F, m, kp, bn⟩ := cl
  exact ⟨rfl, ps_set hN hi hx (pe_callS F (hr.mono hjk) hg m kp bn (fun σ => passAt tk σ) h.h (hdb := hd) (he := hst) (hpl := hpl)) hs hf⟩
/-- f(..) that may raise, where it does not -/
theorem x_calX {x : Str} {ps : List Str} {j k : Nat} {R : XSp} {y : AX K} {e : Expr} (cl : CalX X.prog X.w K X.mg X.base x k ps R) (hr : Room j X.A) (h : pA K X (e :: es) y) (hjk : k ≤ j := by decide) (hg : Gl X x := by rfl) (hd : (x == ("__debug__" : Str)) = false := by decide +kernel)
    (hst : starEach (e :: es) X.env = (false, eval e X.env) :: starEach es X.env := by rfl) (hpl : (backTo pos (starEach es X.env)).any (·.1) = false := by rfl) : pE K X (.Call (.Name x p) (e :: es) [] pos) (eCallX R y) := by
  have hk0 : X.K = K := h.k
  subst hk0
  obtain ⟨f, fd, F, m, kp, bn⟩ := cl
  exact ⟨rfl, pe_call F (hr.mono hjk) hg m kp bn .nil passL h.h (hdb := hd) (he := hst) (hpl := hpl)⟩
end
end PL
namespace PL
open PySem PySem.Spec PyProof.Rows L2
/-! try .. except C as n -/
section
variable {K : PySem.W.Frag} {X : Cx} {a b c : Expr} {es : List Expr} {pos p q : Pos}
theorem Ok.gone {Z F0 F H : Hp} {σ : L2.St} {δ : List Ent} {i : Nat} (ok : Ok K Z F0 F H σ δ) : Ok K Z F0 F H (σ.set i none) (put δ i .no) :=
  ok.chgE ok.nx (by rw [List.length_set]) (fun j hj => List.getElem?_set_ne (Ne.symm hj)) (fun _ => trivial) (fun j _ => ok.at_ j) (fun _ _ _ _ _ z => z)
def sTry (C : Addr) (hx : PySem.W.exmOne K (.ref C) (.ref C) = some true) (i : Nat) (B : WX → SX K) (S : Addr → SX K) : SX K := ⟨fun D σ H => (B (wAs K (.ref C) i (fun a cl d D' σ' H' => (cl = .ref C ∧ d = none) ∧ (S a).t D' σ' H') (fun _ _ _ _ => False) D)).t D σ H,
  fun δ E => ∃ Xw : List Ent → Prop, (∀ W, (B W).w δ { E with xw := fun C' fs δ' => C' = C ∧ fs = [] ∧ Xw δ', W := W }) ∧ ∀ a δ', Xw δ' → (S a).w (put δ' i (.dat (.ref (.ref a)))) { E with nx := fun δ2 => E.nx (put δ2 i .no), bk := fun δ2 => E.bk (put δ2 i .no), ct := fun δ2 => E.ct (put δ2 i .no) }, fun δ E hw Z F0 F H σ D ok ke => by
  obtain ⟨Xw, h1, h2⟩ := hw
  refine (B _).ok δ _ (h1 _) Z F0 F H σ D ok ⟨ke.nx, ke.rt, ke.bk, ke.ct, ke.rl, ke.r2, ke.rm, ke.rb, fun C' fs d δ' F' H' σ' ok' he h => ?_⟩
  obtain ⟨rfl, rfl, hq⟩ := h
  have hd : d = none := by
    cases d with
    | none => rfl
    | some p => exact absurd rfl he.1
  subst hd
  refine ⟨true, hx, fun _ a _ => ⟨⟨rfl, rfl⟩, ?_⟩, fun z => Bool.noConfusion z⟩
  refine (S a).ok _ _ (h2 a δ' hq) Z F0 F' H' _ _ (ok'.setD (.ref _)) ⟨fun δ2 F2 H2 σ2 ok2 h => ke.nx _ F2 H2 _ ok2.gone h, ke.rt, fun δ2 F2 H2 σ2 ok2 h => ke.bk _ F2 H2 _ ok2.gone h, fun δ2 F2 H2 σ2 ok2 h => ke.ct _ F2 H2 _ ok2.gone h, ke.rl, ke.r2, ke.rm, ke.rb, ke.xs⟩⟩
theorem s_try (i : Nat) {B : WX → SX K} {S : Addr → SX K} {C : Addr} {x n : Str} {body suite : List Stmt} {b₀ : Stmt} {np pos' : Pos} (e : ErrC K X.mg x C) (hN : X.N.Nodup)
    (hb : ∀ (W : WX) (pn : List (Addr × Obj)) (xe : Value → Shared → Prop), Takes (X.tr pn xe) W → pB K (X.tr pn xe) body (B W))
    (hsu : ∀ (a : Addr) (oe : Obj) (pn : List (Addr × Obj)), Zc (.ref C) none oe → (∃ vs, oe.data = .fields vs) → pB K (X.suite a ((a, oe) :: pn)) (b₀ :: suite) (S a))
    (hs : X.stack = X.env :: X.outer := by rfl) (hf : X.env.frame = some X.env.locals := by rfl) (hi : X.N[i]? = some n := by rfl) (hln : X.env.kindOf n = some .local := by rfl) (hg : Gl X x := by rfl) (hd : (x == ("__debug__" : Str)) = false := by decide +kernel) (hk : X.K = K := by rfl) :
    pS K X (.Try body [.ExceptHandler (some (.Name x np)) (some n) (b₀ :: suite) pos'] [] [] pos) (sTry C e.exm i B S) := by
  have hk0 : X.K = K := hk
  subst hk0
  exact ⟨rfl, ps_try_as (tb := fun W => (B W).t) (Wout := fun _ _ _ _ => False) hs hf hN hi hln ⟨hg, hd, .inl e.gC⟩ takes0 (fun W pn xe tk _ => (hb W pn xe tk).h) fun a oe cls d pn hz hv => ⟨fun pins s σ H D I h => by
    obtain ⟨⟨rfl, rfl⟩, h⟩ := h
    exact (hsu a oe pn hz hv).h.run pins s σ H D I h⟩⟩
theorem kit_of {C S : Addr} (h1 : PySem.W.subIn K (.ref C) (.ref S) = some true) (h2 : PySem.W.typeIn K (.ref S) = some (.type "type")) (h3 : PySem.W.isClsIn K S = true) : PySem.W.kitOne K (.ref C) (.ref S) = some true := by
  unfold PySem.W.isClsIn at h3
  unfold PySem.W.kitOne PySem.W.kitCls
  simp [h1, h2, h3]
/-- isinstance(e, S), e the error that is caught -/
def eIsE (C a : Addr) (i : Nat) (cv : V) (u : Value) (b : Bool) (hu : ∀ w, RelV cv w → w = u) (hk : PySem.W.kitOne K (.ref C) u = some b) : EX K := ⟨tCB (rIsE K C a) (tCons (tVar i) (tCons (tC cv) tNil)), fun δ Q => nth δ i = .dat (.ref (.ref a)) ∧ Q (.bl b), fun δ Q hw Z F0 F H σ ok Q' k => by
  obtain ⟨e, hq⟩ := hw
  have h := ok.at_ i
  rw [e] at h
  obtain ⟨v, h1, h2⟩ := h
  cases h2
  exact ⟨_, h1, cv, u, b, rfl, hu, hk, k _ _ F H (.refl ok.nx.s) (.bl b) hq⟩⟩
theorem x_isE (i : Nat) {Y : Cx} {C S a : Addr} {oe : Obj} {pn : List (Addr × Obj)} {n y : Str} {b : Bool} {q2 : Pos} (E : ExcC K C) (hz : Zc (.ref C) none oe) (hf : ∃ vs, oe.data = .fields vs) (hk : PySem.W.kitOne K (.ref C) (.ref S) = some b) (hm : Y.mg "isinstance" = none) (hS : Y.mg y = some (.ref S)) (hk0 : Y.K = K := by rfl)
    (hN : Y.N[i]? = some n := by rfl) (hv : Vis Y.env.scope n := by first | exact Or.inl rfl | exact Or.inr (Or.inl rfl) | exact Or.inr (Or.inr rfl)) (hd : (n == ("__debug__" : Str)) = false := by decide +kernel) (hcd : (n == ("__classdict__" : Str)) = false := by decide +kernel)
    (hg : Gl Y "isinstance" := by rfl) (hgS : Gl Y y := by rfl) (hdS : (y == ("__debug__" : Str)) = false := by decide +kernel)
    (hs : starEach [.Name n q, .Name y q2] Y.env = [(false, eval (.Name n q) Y.env), (false, eval (.Name y q2) Y.env)] := by rfl) : pE K (Y.suite a ((a, oe) :: pn)) (.Call (.Name "isinstance" p) [.Name n q, .Name y q2] [] pos) (eIsE C a i (.ref S) (.ref S) b (fun _ h => h) hk) := by
  subst hk0
  exact ⟨rfl, pe_callB (call_isE E hz hf) hg hm (by decide +kernel) (pa_cons (pe_var hN hv hd hcd) (pa_cons (pe_glob hgS hS (v := .ref S) rfl hdS) pa_nil rfl) hs) (by decide +kernel) (by decide +kernel) hs (by rfl)⟩
end
end PL
namespace PL
open PySem PySem.Spec PyProof.Rows L2
/-! xs += [..], xs a list of one's own -/
section
variable {K : PySem.W.Frag} {X : Cx} {a b c : Expr} {es : List Expr} {pos p q : Pos}
def sAugL (i : Nat) (e : LX K) : SX K := ⟨tAug i e.t rExt2, fun δ E => ownD (nth δ i) fun ds => e.w δ fun es => ds.length + es.length ≤ 4000000 ∧ E.nx (put δ i (.own (ds ++ es))), fun δ E hw Z F0 F H σ D ok ke => by
  obtain ⟨ds, hi, hw⟩ := ownD_inv hw
  have hs := ok.at_ i
  rw [hi] at hs
  obtain ⟨p, vs, a, b, c, z, l⟩ := hs
  refine ⟨_, a, ?_⟩
  refine e.ok δ _ hw Z F0 F H σ ok _ fun es p2 us F1 H1 n1 h0 hp hf hl hq => ?_
  refine ⟨p, p2, vs, us, rfl, rfl, n1.h _ _ b, hp, ?_, ?_⟩
  · rw [l.1, hl.1]
    exact Nat.le_trans hq.1 (by decide)
  · have e1 : σ.set i (some (.ref p)) = σ := by
      refine List.ext_getElem? fun j => ?_
      by_cases hj : i = j
      · subst hj
        rw [a, List.getElem?_set_self (by
          have := (List.getElem?_eq_some_iff.mp a).1
          exact this)]
      · rw [List.getElem?_set_ne hj]
    show D.nx (σ.set i (some (.ref p))) _
    rw [e1]
    exact ke.nx _ F1 _ σ ((ok.next n1).chg hi a ((l.mono n1.f).app hl)) hq.2⟩
theorem s_augL (i : Nat) {x : Str} {e : LX K} (hN : X.N.Nodup) (he : pL K X a e) (hi : X.N[i]? = some x := by rfl) (hx : Loc X.env.scope x := by first | exact Or.inl rfl | exact Or.inr rfl) (hf : X.fn x = true ∨ X.env.scope.names.lookup x = some .local := by first | exact .inl rfl | exact .inr rfl | assumption) :
    pS K X (.AugAssign (.Name x p) .Add a pos) (sAugL i e) := by
  have hk0 : X.K = K := he.k
  subst hk0
  exact ⟨rfl, ps_aug hN hi hx he.h (fun pins s σ H x y v u Q I r1 r2 h => iop_ext pins s σ H x y v u Q I r1 r2 h) hf⟩
end
end PL
namespace PL
open PySem PySem.Spec PyProof.Rows L2
/-! defs that are called where no repr runs around them, and repr -/
section
variable {P : Program} {w : World} {K : PySem.W.Frag} {mg : Str → Option Value} {base : Heap}
/-- a promise for calls where no repr is under way -/
structure FnG (P : Program) (w : World) (K : PySem.W.Frag) (mg : Str → Option Value) (base : Heap) (k : Nat) (f : Addr) (fd : FuncData) (ps : List Str) (sp : Sp) : Prop where
  ln : ∀ vs H Q E, sp vs H Q E → vs.length = ps.length
  go : ∀ (A : Around) (fr : List Env) (s : Shared) (H : Hp) (ar : Args) (us : List Value) (vs : List V) (Q : VK) (E : XK), A.guards = some [] → Room k A → Env0 P w K mg base A fr s H → BindsTo s fd ar (ps.zip us) → Vals vs us → sp vs H Q E →
    codeAny (model P w) A (.call (.ref f) ar) (CR CX0 fr P w H s Q E) s
theorem fnG_body {x qual : Str} {st : Stmt} {f : Addr} {fd : FuncData} {N ps : List Str} {k : Nat} {sp : Sp} (Fn : Fun K x qual st f fd) (S : FnScope N ps (defScope st)) (len : ∀ vs H Q E, sp vs H Q E → vs.length = ps.length)
    (body : ∀ (cdv : Value) (A : Around) (fr : List Env) (s : Shared) (H : Hp) (vs : List V) (Q : VK) (E : XK), (A.deeper (envOfC qual (defScope st) s.heap.objs.size f cdv)).guards = some [] → Room k (A.deeper (envOfC qual (defScope st) s.heap.objs.size f cdv)) → sp vs H Q E →
      ∃ t, PSs (cxOf CX0 P w K mg base N qual (defScope st) f cdv A fr s H E).nox (defBody st) t ∧ t { nx := fun _ H' => Q .non H', rt := Q } (L2.start N vs) H) : FnG P w K mg base (k + 1) f fd ps sp := by
  obtain ⟨oc, od, kV, doc, pm, an, cdv, ct, osl, rfl, lk, hcd⟩ := Fn.ex
  refine ⟨len, fun A fr s H ar us vs Q E hg rm en bd vv wish => ?_⟩
  have inK : K.In s.heap := en.mod.kin.keeps fun b o e => (en.bs b o e).1
  have noL : s.heap.NoLimit := en.mod.nolimit.keeps fun b o e => (en.bs b o e).1
  have kinds : ∀ y ∈ ps.zip us, (defScope st).names.lookup y.1 = some .local ∨ ((defScope st).names.lookup y.1 = some .cell ∧ ((cellsFrom (s.heap.objs.size + 1) (defScope st).names []).lookup y.1).isSome = true) := by
    rintro ⟨n, v⟩ hy
    exact (S.par n (List.of_mem_zip hy).1).imp id fun q => ⟨q, PySem.W.cellsFrom_some _ _ _ (.inl q)⟩
  refine codeAny_call_function rm.depth (inK _ _ lk) rfl S.co S.gen rfl (PySem.W.codeRec_of inK hcd) (bd _ _ _ _ (wpAny_newFunctionEnv_cells S.kind kinds fun env he s1 z => ?_))
  subst he
  obtain ⟨t, ht, ok⟩ := body cdv A fr s H vs Q E hg (rm.deeper _) wish
  have inv := inv_start (CX := CX0) (E := E) S rm.hd en (len _ _ _ _ wish) vv z
  refine ⟨noL.keeps z.toInCall.keep, codeAny_func (wpAny_mono (ht.nox.run [] s1 (L2.start N vs) H _ inv ok) (fun fl s' hs => ?_) fun e s' hs => hs)⟩
  cases fl with
  | next => exact let ⟨_, H', J, q⟩ := hs; ⟨V.non, H', J.os, J.bare, J.base, J.hok, (rfl : RelV V.non Value.none), q⟩
  | brk => exact hs.elim fun _ q => q.elim fun _ q => q.2.elim
  | cont => exact hs.elim fun _ q => q.elim fun _ q => q.2.elim
  | ret u => exact let ⟨v, _, H', J, rv, q⟩ := hs; ⟨v, H', J.os, J.bare, J.base, J.hok, rv, q⟩
theorem fnokG {x qual : Str} {st : Stmt} {f : Addr} {fd : FuncData} {N ps : List Str} {k : Nat} {R : FSp} (Fn : Fun K x qual st f fd) (S : FnScope N ps (defScope st))
    (len : ∀ as P, R as P → as.length = ps.length) (hl : ps.length ≤ N.length)
    (h : ∀ (cdv : Value) (A : Around) (outer : List Env) (s : Shared) (H : Hp) (E : XK), (A.deeper (envOfC qual (defScope st) s.heap.objs.size f cdv)).guards = some [] → Room k (A.deeper (envOfC qual (defScope st) s.heap.objs.size f cdv)) → ∃ B : SX K,
      pB K (cxOf CX0 P w K mg base N qual (defScope st) f cdv A outer s H E).nox (defBody st) B ∧ ∀ as Q, R as Q → B.w (ents as N.length) { nx := fun _ => Q .non, rt := Q }) : FnG P w K mg base (k + 1) f fd ps (spOf K R) := by
  refine fnG_body Fn S (fun vs H Q E h => ?_) (fun cdv A outer s H vs Q E hg hr hsp => ?_)
  · obtain ⟨F, as, P, _, ha, hR, _⟩ := h
    rw [ars_len ha]
    exact len as P hR
  · obtain ⟨F, as, P, sf, ha, hR, kk⟩ := hsp
    obtain ⟨B, hB, hw⟩ := h cdv A outer s H E hg hr
    refine ⟨B.t, hB.h, B.ok _ _ (hw as P hR) H F F H _ _ (ok_start sf ha (by rw [len as P hR]; exact hl)) ⟨fun δ F' H' σ' ok' q => kk _ _ F' H' q ok'.nx .non, fun d v F' H' n i q => kk d v F' H' q n i, fun _ _ _ _ _ q => q.elim, fun _ _ _ _ _ q => q.elim, fun _ _ _ _ _ _ _ _ _ _ q => q.elim, fun _ _ _ _ _ _ _ _ _ _ _ _ _ _ _ _ _ q => q.elim, fun _ _ _ _ _ _ _ _ q => q.elim, fun _ _ _ _ _ _ _ _ _ q => q.elim, fun _ _ _ _ _ _ _ _ _ q => q.elim⟩⟩
def CalG (P : Program) (w : World) (K : PySem.W.Frag) (mg : Str → Option Value) (base : Heap) (x : Str) (k : Nat) (ps : List Str) (R : FSp) : Prop := ∃ f fd, FnG P w K mg base k f fd ps (spOf K R) ∧ mg x = some (.ref f) ∧ PySem.W.keepIn K (.ref f) = true ∧ Binds K fd ps []
theorem CalG.mk {x qual : Str} {st : Stmt} {f : Addr} {fd : FuncData} {k : Nat} {ps : List Str} {R : FSp} (Fn : Fun K x qual st f fd) (F : FnG P w K mg base k f fd ps (spOf K R)) (m : mg x = some (.ref f)) (b : Binds K fd ps []) : CalG P w K mg base x k ps R := ⟨f, fd, F, m, Fn.kp, b⟩
end
section
variable {K : PySem.W.Frag} {X : Cx} {a b c : Expr} {es : List Expr} {pos p q : Pos}
theorem run_G {f : Addr} {fd : FuncData} {ps : List Str} {k : Nat} {sp : Sp} {pns : List (Addr × Obj)} {σ : L2.St} {H : Hp} {s : Shared} {Q : VK} {us : List Value} {vs : List V} (hg : X.A.guards = some [])
    (fn : FnG X.prog X.w X.K X.mg X.base k f fd ps sp) (rm : Room k X.A) (bn : Binds X.K fd ps []) (inv : Inv X pns σ H s) (vals : Vals vs us) (wish : sp vs H Q E0) : wpAny (model X.prog X.w) X.A (call (.ref f) us) (EP X pns σ Q) X.xe s := by
  have ll : (us ++ []).length = ps.length := by rw [List.append_nil, ← vals.length]; exact fn.ln _ _ _ _ wish
  have bb := bn s us inv.kIn ll
  rw [List.append_nil] at bb
  refine wpAny_call (codeAny_mono (fn.go X.A X.stack s H ⟨us, []⟩ us vs Q E0 hg rm inv.env0 bb vals wish) fun res t' ended => ?_)
  match res, ended with
  | .error er, ended => exact False.elim ended
  | .ok (.ret u), ended => exact inv.after ended
  | .ok .next, ended => exact False.elim ended
  | .ok .brk, ended => exact False.elim ended
  | .ok .cont, ended => exact False.elim ended
theorem x_calG {x : Str} {ps : List Str} {j k : Nat} {R : FSp} {y : AX K} {e : Expr} (c : CalG X.prog X.w K X.mg X.base x k ps R) (hgd : X.A.guards = some []) (hr : Room j X.A) (h : pA K X (e :: es) y) (hjk : k ≤ j := by decide) (hg : Gl X x := by rfl) (hd : (x == ("__debug__" : Str)) = false := by decide +kernel)
    (hst : starEach (e :: es) X.env = (false, eval e X.env) :: starEach es X.env := by rfl) (hpl : (backTo pos (starEach es X.env)).any (·.1) = false := by rfl) : pE K X (.Call (.Name x p) (e :: es) [] pos) (eCall R y) := by
  have hk0 : X.K = K := h.k
  subst hk0
  obtain ⟨f, fd, F, m, kp, b⟩ := c
  refine ⟨rfl, ⟨fun pns s σ H Q inv h0 => wpAny_Call_Name_kw (ld_glob inv hg m (PySem.W.callWith_K (h₀ := X.base) inv.ok.mod.kin kp (thn (h.h.run pos pns s σ H _ inv h0) fun us s1 ⟨vs, H1, inv1, r, q⟩ => ⟨inv1.kIn, ?_⟩) hst hpl) hd)⟩⟩
  have q' : spOf X.K R (vs ++ []) H1 Q E0 := q
  rw [List.append_nil] at q'
  exact run_G hgd F (hr.mono hjk) b inv1 r q'
end
end PL
namespace PL
open PySem PySem.Spec PyProof.Rows L2
/-! the law's end for defs that are called where no repr is under way -/
section
variable {P : Program} {w : World} {K : PySem.W.Frag} {mg mb : Str → Option Value} {k : Nat} {fa a : Addr} {fd : FuncData} {x : Str} {sp : Sp} {t0 : Shared} {us : List Value} {zs : List Int}
/-- with the abstract heap that tracks the script, or nothing -/
theorem law_from (H : Hp) (inK : K.In t0.heap) (nsG : t0.heap.Ns mainGlobals mg) (nsB : t0.heap.Ns builtinsNs mb) (bb : ∀ y : Str, y ≠ "__name__" → mb y = bootBuiltins y) (nl : t0.heap.NoLimit) (ge : t0.gens = #[])
    (ha : t0.heap.get? a = some { cls := .type "list", data := .seq us.toArray }) (hr : Room k callerA) (F : ∀ base : Heap, K.In base → base.Ns mainGlobals mg → FnG P w K mg base k fa fd [x] sp) (bd : ∀ (s : Shared) (u : Value), BindsTo s fd ⟨[u], []⟩ [(x, u)])
    (wish : sp [.ref a] H (fun v _ => v = .bl true) E0) (hO : Only H) (hok : HOk P w H t0.heap) (hA : ∀ b, b ≠ a → H b = none) (hK : H a ≠ none → K.lookup a = none) :
    codeAny (model P w) callerA (.call (.ref fa) ⟨[.ref a], []⟩) (fun r s' => r = .ok (.ret (.bool true)) ∧ OldK t0.heap s'.heap ∧ s'.os = t0.os ∧ AllBare s'.gens) t0 := by
  have dicts : ∀ (b : Addr) (o : Obj) (es : Array DictEntry) (n : Nat), t0.heap.get? b = some o → o.data = .dict es n → H b = none := by
    intro b o es n e d
    by_cases hb : b = a
    · rw [hb, ha] at e
      cases e
      cases d
    · exact hA b hb
  have names : ∀ (b : Addr) (m : Str → Option Value), t0.heap.Ns b m → (hidT t0.heap H).Ns b m := by
    rintro b m ⟨o, es, n, e, d, r⟩
    exact ⟨o, es, n, hidT_get e (dicts b o es n e d), d, r⟩
  have inB : K.In (hidT t0.heap H) := fun b o e => hidT_get (inK b o e) (by
    by_cases hb : b = a
    · cases q : H b with
      | none => rfl
      | some u =>
        subst hb
        rw [hK (by rw [q]; exact fun z => nomatch z)] at e
        cases e
    · exact hA b hb)
  have md : Mod K mg (hidT t0.heap H) := ⟨inB, names _ _ nsG, ⟨mb, names _ _ nsB, bb⟩, let ⟨mc, h1, h2⟩ := nl; ⟨mc, names _ _ h1, h2⟩⟩
  have en : Env0 P w K mg (hidT t0.heap H) callerA [] t0 H := ⟨rfl, md, fun b o e => of_hidT e, Nat.le_of_eq (hidT_size _ _), trivial, fun b hb => (List.not_mem_nil hb).elim, hok, .of_eq ge⟩
  refine codeAny_mono ((F _ inB (names _ _ nsG)).go callerA [] t0 H ⟨[.ref a], []⟩ [.ref a] [.ref a] _ _ rfl hr en (bd t0 (.ref a)) (.cons rfl .nil) wish) fun res t' ended => ?_
  match res, ended with
  | .error er, ended => exact False.elim ended
  | .ok .next, ended => exact False.elim ended
  | .ok .brk, ended => exact False.elim ended
  | .ok .cont, ended => exact False.elim ended
  | .ok (.ret u), ended =>
    obtain ⟨v, H', e1, e2, e3, e4, e5, e6⟩ := ended
    have e7 : v = .bl true := e6
    subst e7
    obtain rfl : u = Value.bool true := e5
    refine ⟨rfl, OldK.of_keep fun b o e => ?_, e1, e2⟩
    rcases hO b with z | ⟨ob, ys, z⟩
    · exact e3.keep b o e z (fun q => (List.not_mem_nil (show b ∈ ([] : List Addr) from q)).elim) List.not_mem_nil
    · have h1 := (hok b _ z).1
      rw [e] at h1
      cases h1
      exact (e4 b _ (e3.frzs b _ _ z)).1
theorem law_goes (inK : K.In t0.heap) (nsG : t0.heap.Ns mainGlobals mg) (nsB : t0.heap.Ns builtinsNs mb) (bb : ∀ y : Str, y ≠ "__name__" → mb y = bootBuiltins y) (nl : t0.heap.NoLimit) (ge : t0.gens = #[])
    (ha : t0.heap.get? a = some { cls := .type "list", data := .seq us.toArray }) (hi : IntsAre us zs) (hl : zs.length ≤ sizeLine) (hr : Room k callerA) (F : ∀ base : Heap, K.In base → base.Ns mainGlobals mg → FnG P w K mg base k fa fd [x] sp) (bd : ∀ (s : Shared) (u : Value), BindsTo s fd ⟨[u], []⟩ [(x, u)])
    (wish : ∀ H : Hp, SqL K H a (zs.map V.int) → sp [.ref a] H (fun v _ => v = .bl true) E0) :
    codeAny (model P w) callerA (.call (.ref fa) ⟨[.ref a], []⟩) (fun r s' => r = .ok (.ret (.bool true)) ∧ OldK t0.heap s'.heap ∧ s'.os = t0.os ∧ AllBare s'.gens) t0 := by
  have vv := vals_ints hi
  cases hk : K.lookup a with
  | some o =>
    obtain rfl : ({ cls := .type "list", data := .seq us.toArray } : Obj) = o := Option.some.inj (ha.symm.trans (inK a o hk))
    have h0 : SqL K (fun _ => none) a (zs.map V.int) := .inr ⟨_, us.toArray, _, hk, rfl, rfl, rfl, by rw [List.size_toArray, hi.length]; exact hl, by simpa using vv⟩
    exact law_from (fun _ => none) inK nsG nsB bb nl ge ha hr F bd (wish _ h0) (fun _ => .inl rfl) (fun b u z => nomatch z) (fun _ _ => rfl) fun z => absurd rfl z
  | none =>
    have at_ : (upd (fun _ => none) a (HO.frz { cls := .type "list", data := .seq us.toArray } (.lst (zs.map V.int)))) a = _ := upd_same
    have off : ∀ b, b ≠ a → (upd (fun _ => none) a (HO.frz { cls := .type "list", data := .seq us.toArray } (.lst (zs.map V.int)))) b = none := fun b hb => upd_ne hb
    refine law_from _ inK nsG nsB bb nl ge ha hr F bd (wish _ (.inl (.inr ⟨_, at_⟩))) (fun b => ?_) (fun b u z => ?_) off fun _ => hk
    · by_cases hb : b = a
      · exact .inr ⟨_, _, by rw [hb]; exact at_⟩
      · exact .inl (off b hb)
    · by_cases hb : b = a
      · subst hb
        rw [at_] at z
        cases z
        exact ⟨ha, by rw [List.length_map]; exact hl, us, _, vv, ha⟩
      · rw [off b hb] at z
        cases z
end
theorem walk_lawG {x : Str} {l : PySem.W.OpenLaw} {k : Nat} {q : Program} {loose : List Str} {XP : (Str → Option Value) → Heap → Prop} {YP : World → Heap → Prop} {d : DefRec} {K : Params → PySem.W.Frag} {R : FSp}
    (hn : l.most = some 63) (hdf : d.params.defaults = []) (hr : Room k callerA) (hY : ∀ (w : World) (h : Heap), YP w h → (K w.params).In h)
    (F : ∀ (w : World) (mg : Str → Option Value) (fa : Addr) (h : Heap), (K w.params).In h → h.Ns mainGlobals mg → mg d.name = some (.ref fa) →
      ∃ fd : FuncData, (∀ (s : Shared) (u : Value), BindsTo s fd ⟨[u], []⟩ [(x, u)]) ∧ ∀ base : Heap, (K w.params).In base → base.Ns mainGlobals mg → FnG l.prog w (K w.params) mg base k fa fd [x] (spOf (K w.params) R))
    (hR : ∀ ns : List Int, ns.length ≤ 63 → R [.dat (.lst (ns.map .int))] (fun d => d = .bl true)) : PySem.W.WalkO q loose XP YP l.row.toRowW d [] (fun f vs => PySem.call f vs) := by
  refine Att.attach_call hn hdf fun w s₀ t0 mg mb fa o pm cd doc a us zs G Y ho hd hcd hmg hobj hints hlen hge => ?_
  obtain ⟨fd, bd, hF⟩ := F w mg fa _ (hY w _ Y) G.T.g hmg
  refine law_goes (hY w _ Y) G.T.g G.T.b G.T.builtins G.T.nolimit hge hobj hints (Nat.le_trans hlen (by decide)) hr hF bd fun H hS => ?_
  exact ⟨H, [.dat (.lst (zs.map .int))], _, Same.refl H, ⟨is_lst hS (isL_ints zs), trivial⟩, hR zs hlen, fun d v F' H' e _ i => by
    subst e
    exact i.bl_inv⟩
end PL
namespace PL
open PySem PySem.Spec PyProof.Rows L2
/-! repr of a datum -/
mutual
/-- how much a datum holds -/
def cnt : D → Nat
  | .str s => 1 + s.length
  | .tup ds => 1 + cntL ds
  | .lst ds => 1 + cntL ds
  | .ktp ds => 1 + cntL ds
  | _ => 1
def cntL : List D → Nat
  | [] => 0
  | d :: r => cnt d + cntL r
end
/-- data that repr shows -/
def rp : Nat → D → Bool
  | _, .non => true
  | _, .bl _ => true
  | _, .int i => decide (i.natAbs.log2 < 1920)
  | _, .str s => PyData.strOk s
  | n + 1, .tup ds => ds.all (rp n)
  | n + 1, .lst ds => ds.all (rp n)
  | n + 1, .ktp ds => ds.all (rp n)
  | _, _ => false
structure Rp (n : Nat) (d : D) (p : PyData) : Prop where
  py : pyD d = some p
  lay : p.canLay0 = true
  dep : p.depth ≤ n
  sh : p.showable = true
  len : p.shown.length + 10 ≤ 2000 * cnt d
theorem tup_len (ts : List Str) : (tupleText ts).length ≤ piled ts + 3 := by
  unfold tupleText
  rw [strLen_append, strLen_append]
  have e3 : (((if ts.length == 1 then ",)" else ")" : String) : Str)).length ≤ 2 := by split <;> decide
  have e1 : (("(" : String) : Str).length = 1 := rfl
  by_cases h : ts = []
  · subst h
    have : (Str.join ", " ([] : List Str)).length = 0 := rfl
    omega
  · have := join_length_add ts h
    omega
theorem lst_len : ∀ ts : List Str, (listText ts).length ≤ piled ts + 2
  | [] => by decide
  | t :: r => by
    have h : (listText (t :: r)).length = (textFrom 1 (("[" : Str) ++ (if (0 : Nat) > 0 then ", " else "" : String) ++ t) r).length + 1 := by
      show (textFrom 1 _ r ++ "]").length = _
      rw [strLen_append]; rfl
    rw [h, textFrom_length_pos r 1 _ (Nat.succ_pos 0), strLen_append, strLen_append, piled_cons]
    have e1 : (("[" : String) : Str).length = 1 := rfl
    have e2 : (((if (0 : Nat) > 0 then ", " else "" : String) : Str)).length = 0 := rfl
    omega
theorem rp_list {n : Nat} (ih : ∀ d, rp n d = true → ∃ p, Rp n d p) : ∀ ds : List D, ds.all (rp n) = true → ∃ ps, pyD.pyL ds = some ps ∧ PyData.canLayAll0 ps = true ∧ PyData.depthAll ps ≤ n ∧ PyData.showableAll ps = true ∧ piled (PyData.shownAll ps) ≤ 2000 * cntL ds
  | [], _ => ⟨[], rfl, rfl, Nat.zero_le _, rfl, Nat.zero_le _⟩
  | d :: ds, h => by
    simp only [List.all_cons, Bool.and_eq_true] at h
    obtain ⟨p, a1, a2, a3, a4, a5⟩ := ih d h.1
    obtain ⟨ps, b1, b2, b3, b4, b5⟩ := rp_list ih ds h.2
    refine ⟨p :: ps, ?_, ?_, ?_, ?_, ?_⟩
    · show (pyD d).bind _ = _
      rw [a1]
      show (pyD.pyL ds).map _ = _
      rw [b1]
      rfl
    · simp [PyData.canLayAll0, a2, b2]
    · simp [PyData.depthAll]
      omega
    · simp [PyData.showableAll, a4, b4]
    · show piled (PyData.shown p :: PyData.shownAll ps) ≤ _
      rw [piled_cons]
      simp only [cntL]
      omega
theorem rp_ok : ∀ (n : Nat) (d : D), rp n d = true → ∃ p, Rp n d p
  | n, .non, _ => ⟨.none, rfl, rfl, Nat.zero_le _, rfl, by decide⟩
  | n, .bl b, _ => ⟨.bool b, rfl, rfl, Nat.zero_le _, rfl, by cases b <;> decide⟩
  | n, .int i, h => by
    have h1 : i.natAbs.log2 < 1920 := by cases n <;> exact of_decide_eq_true h
    refine ⟨.int i, rfl, rfl, Nat.zero_le _, by simp [PyData.showable, h1], ?_⟩
    have h2 := int_text_len_1921 h1
    show (Str.ofString (toString i)).length + 10 ≤ 2000 * 1
    omega
  | n, .str s, h => by
    have h1 : PyData.strOk s = true := by cases n <;> exact h
    refine ⟨.str s, rfl, h1, Nat.zero_le _, rfl, ?_⟩
    have h2 := StrLaws.reprText_len s (fun c hc => by
      have := (Array.all_eq_true_iff_forall_mem.mp h1) c (by simpa using hc)
      have h3 : c < 0x110000 := of_decide_eq_true this
      exact Nat.lt_trans h3 (by decide))
    show (reprText s).length + 10 ≤ 2000 * (1 + s.length)
    omega
  | n, .ref b, h => by cases n <;> cases h
  | n, .ins _ _, h => by cases n <;> cases h
  | n, .err _ _ _, h => by cases n <;> cases h
  | 0, .tup _, h => by cases h
  | 0, .lst _, h => by cases h
  | 0, .ktp _, h => by cases h
  | n + 1, .tup ds, h => by
    obtain ⟨ps, b1, b2, b3, b4, b5⟩ := rp_list (rp_ok n) ds h
    refine ⟨.tuple ps, by show (pyD.pyL ds).map _ = _; rw [b1]; rfl, b2, by simp [PyData.depth]; omega, b4, ?_⟩
    have := tup_len (PyData.shownAll ps)
    show (tupleText (PyData.shownAll ps)).length + 10 ≤ 2000 * (1 + cntL ds)
    omega
  | n + 1, .ktp ds, h => by
    obtain ⟨ps, b1, b2, b3, b4, b5⟩ := rp_list (rp_ok n) ds h
    refine ⟨.tuple ps, by show (pyD.pyL ds).map _ = _; rw [b1]; rfl, b2, by simp [PyData.depth]; omega, b4, ?_⟩
    have := tup_len (PyData.shownAll ps)
    show (tupleText (PyData.shownAll ps)).length + 10 ≤ 2000 * (1 + cntL ds)
    omega
  | n + 1, .lst ds, h => by
    obtain ⟨ps, b1, b2, b3, b4, b5⟩ := rp_list (rp_ok n) ds h
    refine ⟨.list ps, by show (pyD.pyL ds).map _ = _; rw [b1]; rfl, b2, by simp [PyData.depth]; omega, b4, ?_⟩
    have := lst_len (PyData.shownAll ps)
    show (listText (PyData.shownAll ps)).length + 10 ≤ 2000 * (1 + cntL ds)
    omega
/-- what repr tells of a datum -/
@[irreducible] def shw (d : D) : Str := match pyD d with
  | some p => p.shown
  | none => Str.empty
theorem shw_of {d : D} {p : PyData} (h : pyD d = some p) : shw d = p.shown := by
  unfold shw
  rw [h]
section
variable {K : PySem.W.Frag} {X : Cx} {a b c : Expr} {es : List Expr} {pos p q : Pos}
def rRepr (K : PySem.W.Frag) : List V → Hp → VK → Prop := fun xs H Q => ∃ (v : V) (d : D) (p : PyData), xs = [v] ∧ ((∃ a, v = .ref a) ∨ ∃ i, v = .int i) ∧ Dp K H v p ∧ Rp 8 d p ∧ cnt d ≤ 8000 ∧ Q (.str p.shown) H
theorem call_repr {k : Nat} (hg : X.A.guards = some []) (hr : Room k X.A) : CallR X (.builtin "repr") (rRepr X.K) := by
  intro pins s σ H xs us Q I r h
  obtain ⟨v, d, p, rfl, hv, dp, ⟨e1, e2, e3, e4, e5⟩, hc, hq⟩ := h
  obtain ⟨u, rfl, rx⟩ := vals1 r
  obtain ⟨as, rd⟩ := Dp.reads I p v u dp rx
  have hz : p.shown.length ≤ sizeLine := by
    have : sizeLine = 2 ^ 24 := rfl
    omega
  rcases hv with ⟨a, rfl⟩ | ⟨i, rfl⟩
  · obtain rfl : u = Value.ref a := rx
    refine repr_of_reads' rd e4 (PyData.noDict_hsm (PyData.hasDict_of_canLay p e2)) hg (by have := hr.units; omega) (fun _ _ e => e) (fun h' u tk hk => ?_) hz
    exact ⟨.str p.shown, H, I.kept hk, ⟨_, rfl⟩, hq⟩
  · obtain ⟨t, rfl⟩ := rx
    cases dp
    have h1 : i.natAbs.log2 < 1920 := by simpa [PyData.showable] using e4
    exact P.repr_of_int h1 ⟨.str _, H, I.tok _, ⟨_, rfl⟩, hq⟩
def isRI : D → Bool
  | .int _ => true
  | .tup _ => true
  | .ktp _ => true
  | .lst _ => true
  | _ => false
def eRepr (a : EX K) : EX K := ⟨tCB (rRepr K) (tCons a.t tNil), fun δ Q => a.w δ fun d => (isRI d = true ∧ rp 8 d = true ∧ cnt d ≤ 8000) ∧ Q (.str (shw d)), fun δ Q hw Z F0 F H σ ok Q' k => by
  refine a.ok δ _ hw Z F0 F H σ ok _ fun d v F1 H1 n1 i1 hw1 => ?_
  obtain ⟨⟨h1, h2, h3⟩, hq⟩ := hw1
  obtain ⟨p, rd⟩ := rp_ok 8 d h2
  have dp := dp_mono n1.s (dp_of _ _ _ i1 rd.py)
  refine ⟨v, d, p, rfl, ?_, dp, rd, h3, ?_⟩
  · cases d with
    | int i => exact .inr ⟨i, i1.int_inv⟩
    | tup ds => obtain ⟨a, _, e, _⟩ := i1.tup_inv; exact .inl ⟨a, e⟩
    | ktp ds => obtain ⟨a, _, e, _⟩ := i1.ktp_inv; exact .inl ⟨a, e⟩
    | lst ds => obtain ⟨a, _, e, _⟩ := i1.lst_inv; exact .inl ⟨a, e⟩
    | _ => cases h1
  · rw [← shw_of rd.py]
    exact k _ _ F1 H1 n1 (.str _) hq⟩
theorem x_repr {k : Nat} {x : EX K} (hm : X.mg "repr" = none) (hgd : X.A.guards = some []) (hr : Room k X.A) (h : pE K X a x) (hg : Gl X "repr" := by rfl) (hs : starEach [a] X.env = [(false, eval a X.env)] := by rfl) : pE K X (.Call (.Name "repr" p) [a] [] pos) (eRepr x) := by
  have hk0 : X.K = K := h.k
  subst hk0
  exact ⟨rfl, pe_callB (call_repr hgd hr) hg hm (by decide +kernel) (pa1 h.h hs) (by decide +kernel) (by decide +kernel) hs (by rfl)⟩
end
end PL
namespace PL
open PySem PySem.Spec PyProof.Rows L2
/-! tuples that are constants of the module; tuples and such constants alike under == -/
section
variable {K : PySem.W.Frag} {X : Cx} {a b c : Expr} {es : List Expr} {pos p q : Pos}
def eKT (ad : Addr) (vs : List V) (ds : List D) (hs : ∀ H : Hp, SqT K H ad vs) (hi : ∀ H : Hp, IsL K H vs ds) : EX K := ⟨tC (.ref ad), fun _ Q => Q (.ktp ds), fun δ Q hw Z F0 F H σ ok Q' k => k (.ktp ds) (.ref ad) F H (.refl ok.nx.s) (.ktp (hs F) (hi F).1 (hi F).2) hw⟩
structure KTc (K : PySem.W.Frag) (mg : Str → Option Value) (n : Str) (ad : Addr) (vs : List V) (ds : List D) : Prop where
  m : mg n = some (.ref ad)
  s : ∀ H : Hp, SqT K H ad vs
  i : ∀ H : Hp, IsL K H vs ds
theorem x_kt {ad : Addr} {n : Str} {vs : List V} {ds : List D} (hm : KTc K X.mg n ad vs ds) (hk : X.K = K := by rfl) (hg : Gl X n := by rfl) (hd : (n == ("__debug__" : Str)) = false := by decide +kernel) : pE K X (.Name n q) (eKT ad vs ds hm.s hm.i) := by
  have hk0 : X.K = K := hk
  subst hk0
  exact ⟨rfl, pe_glob hg hm.m (show RelV (V.ref ad) (Value.ref ad) from rfl) hd⟩
end
theorem gEq_py {d e : D} {Q : D → Prop} (h : pyD d = pyD e) (h1 : pl 8 e = true) (k : Q (.bl true)) : gEq d e Q := by
  obtain ⟨p, e1, c1, d1⟩ := pl_py 8 e h1
  refine ⟨p, p, h.trans e1, e1, by simp [SeqAt.shaped, c1]; omega, by simp [SeqAt.shaped, c1]; omega, ?_⟩
  rw [(pl_eqv 8 e e p p h1 h1 e1 e1).mpr rfl]
  exact k
theorem gNe_py {d e : D} {Q : D → Prop} (h : pyD d = pyD e) (h1 : pl 8 e = true) (k : Q (.bl false)) : gNe d e Q := by
  obtain ⟨p, e1, c1, d1⟩ := pl_py 8 e h1
  refine ⟨p, p, h.trans e1, e1, by simp [SeqAt.shaped, c1]; omega, by simp [SeqAt.shaped, c1]; omega, ?_⟩
  rw [(pl_eqv 8 e e p p h1 h1 e1 e1).mpr rfl]
  exact k
theorem shw_py {d e : D} (h : pyD d = pyD e) : shw d = shw e := by
  unfold shw
  rw [h]
end PL
namespace PL
open PySem PySem.Spec PyProof.Rows L2
/-! x in xs, xs a list of one's own -/
section
variable {K : PySem.W.Frag} {X : Cx} {a b c : Expr} {es : List Expr} {pos p q : Pos}
def inR (neg : Bool) (a : EX K) (b : RX K) : EX K := ⟨tOp (rIn K neg) a.t b.t, fun δ Q => a.w δ fun d => b.w δ fun ds => gIn neg d (.lst ds) Q, fun δ Q hw Z F0 F H σ ok Q' k => by
  refine a.ok δ _ hw Z F0 F H σ ok _ fun d v F1 H1 n1 i1 hw1 => ?_
  refine b.ok δ _ hw1 Z F0 F1 H1 σ (ok.next n1) _ fun es q us F2 H2 n2 s2 m hq => ?_
  obtain ⟨x, ds, xs, e1, e2, e3, hq⟩ := hq
  cases e2
  obtain ⟨rfl, f1⟩ := flat_is (i1.mono n2.f) e1
  obtain ⟨rfl, f2⟩ := flats_is m e3
  exact ⟨q, us, rfl, .inl s2, f1, f2, k _ _ F2 H2 (n1.trans n2) (.bl _) hq⟩⟩
theorem x_inR {x : EX K} {y : RX K} (ha : pE K X a x) (hb : pR K X b y) (hm : behindInMarks .In b = false := by rfl) : pE K X (.Compare a [.In] [b] pos) (inR false x y) := by
  have hk0 : X.K = K := ha.k
  subst hk0
  exact ⟨rfl, pe_cmpR op_in_seq ha.h hb.h hm⟩
theorem x_notInR {x : EX K} {y : RX K} (ha : pE K X a x) (hb : pR K X b y) (hm : behindInMarks .NotIn b = false := by rfl) : pE K X (.Compare a [.NotIn] [b] pos) (inR true x y) := by
  have hk0 : X.K = K := ha.k
  subst hk0
  exact ⟨rfl, pe_cmpR op_notIn_seq ha.h hb.h hm⟩
theorem t_inR {x : EX K} {y : RX K} (ha : pE K X a x) (hb : pR K X b y) (hm : behindInMarks .In b = false := by rfl) : pT K X (.Compare a [.In] [b] pos) (tVal (inR false x y)) := by
  have hk0 : X.K = K := ha.k
  subst hk0
  exact ⟨rfl, pt_cmpR op_in_seq ha.h hb.h hm⟩
theorem t_notInR {x : EX K} {y : RX K} (ha : pE K X a x) (hb : pR K X b y) (hm : behindInMarks .NotIn b = false := by rfl) : pT K X (.Compare a [.NotIn] [b] pos) (tVal (inR true x y)) := by
  have hk0 : X.K = K := ha.k
  subst hk0
  exact ⟨rfl, pt_cmpR op_notIn_seq ha.h hb.h hm⟩
end
end PL
namespace PL
open PySem PySem.Spec PyProof.Rows L2
/-! -x, ~x -/
section
variable {K : PySem.W.Frag} {X : Cx} {a b c : Expr} {es : List Expr} {pos p q : Pos}
def eUn (f : Int → Int) (x : EX K) : EX K := ⟨tUn (rU fun i => .int (f i)) x.t, fun δ Q => x.w δ fun d => intD d fun i => Q (.int (f i)), fun δ Q hw Z F0 F H σ ok Q' k => by
  refine x.ok δ _ hw Z F0 F H σ ok _ fun d v F1 H1 n1 i1 hq => ?_
  obtain ⟨i, rfl, hq⟩ := intD_inv hq
  exact ⟨i, i1.int_inv, k _ _ F1 H1 n1 (.int _) hq⟩⟩
theorem x_neg {x : EX K} (h : pE K X a x) : pE K X (.UnaryOp .USub a pos) (eUn (fun i => -i) x) := by
  have hk0 : X.K = K := h.k
  subst hk0
  exact ⟨rfl, (pe_un un_neg h.h : PE X (.UnaryOp .USub a pos) (tUn (rU fun i => .int (-i)) x.t))⟩
theorem x_inv {x : EX K} (h : pE K X a x) : pE K X (.UnaryOp .Invert a pos) (eUn (fun i => Builtin.bitNot i) x) := by
  have hk0 : X.K = K := h.k
  subst hk0
  exact ⟨rfl, (pe_un un_inv h.h : PE X (.UnaryOp .Invert a pos) (tUn (rU fun i => .int (Builtin.bitNot i)) x.t))⟩
end
end PL
namespace PL
open PySem PySem.Spec PyProof.Rows L2
/-! an error's __init__ that says super().__init__(f'..') first -/
/-- its frame: __class__ is a free name -/
abbrev eEnv (qual : Str) (scope : Scope) (L f cda cc : Addr) : Env := PySem.W.ksEnv qual scope L f (.ref cda) cc
def eCx (P : Program) (w : World) (K : PySem.W.Frag) (mg : Str → Option Value) (base : Heap) (N : List Str) (qual : Str) (scope : Scope) (f cda cc : Addr) (A : Around) (outer : List Env) (s : Shared) (H : Hp) : Cx :=
  { prog := P, w := w, K := K, mg := mg, base := base, A := A.deeper (eEnv qual scope s.heap.objs.size f cda cc), N := N, s_0 := s, H_0 := H, env := eEnv qual scope s.heap.objs.size f cda cc, outer := outer,
    stack := eEnv qual scope s.heap.objs.size f cda cc :: outer, ex := [], calm := true, fn := fun x => decide (x ≠ ("__class__" : Str)), pn := [], xe := fun _ _ => False }
structure EScope (N ps : List Str) (sc : Scope) : Prop where
  kind : sc.kind = .function
  co : sc.isCoroutine = false
  gen : sc.isGenerator = false
  nd : N.Nodup
  pre : N.take ps.length = ps
  par : ∀ x ∈ ps, sc.names.lookup x = some .local
  fr : ∀ y ∈ sc.names, y.2 = .free → y.1 = "__class__"
  nc : ∀ y ∈ sc.names, y.2 ≠ .cell
  su : sc.names.lookup ("super" : Str) = some .globalImplicit
  cl : sc.names.lookup ("__class__" : Str) = some .free
theorem look_rev {x : Str} {u : Value} : ∀ {ps : List Str} {us : List Value} {i : Nat}, ps.Nodup → ps[i]? = some x → us[i]? = some u → ∀ r : List (Str × Value), ((ps.zip us).reverse ++ r).lookup x = some u
  | [], _, _, _, h, _, _ => by cases h
  | p :: ps, [], i, _, _, h, _ => by simp at h
  | p :: ps, v :: us, 0, nd, h1, h2, r => by
    have h1 : p = x := by simpa using h1
    have h2 : v = u := by simpa using h2
    subst h1
    subst h2
    have nin : ∀ z ∈ (ps.zip us).reverse, z.1 ≠ p := fun z hz e => by
      have := (List.of_mem_zip (List.mem_reverse.mp hz)).1
      rw [e] at this
      exact (List.nodup_cons.mp nd).1 this
    rw [List.zip_cons_cons, List.reverse_cons, List.append_assoc]
    generalize (ps.zip us).reverse = l at nin
    induction l with
    | nil => simp [List.lookup]
    | cons q l ih =>
      have e : (p == q.1) = false := by
        have := nin q (.head _)
        simp
        exact fun z => this z.symm
      obtain ⟨q1, q2⟩ := q
      show List.lookup p ((q1, q2) :: (l ++ ([(p, v)] ++ r))) = _
      rw [List.lookup_cons, e]
      exact ih fun z hz => nin z (.tail _ hz)
  | p :: ps, v :: us, i + 1, nd, h1, h2, r => by
    rw [List.zip_cons_cons, List.reverse_cons, List.append_assoc]
    exact look_rev (List.nodup_cons.mp nd).2 (by simpa using h1) (by simpa using h2) _
theorem inv_err {P : Program} {w : World} {K : PySem.W.Frag} {mg : Str → Option Value} {base : Heap} {N ps : List Str} {qual : Str} {scope : Scope} {f cda cc : Addr} {A : Around} {outer : List Env} {s : Shared} {H : Hp} {us : List Value} {vs : List V} {h1 : Heap} {tk : Nat} {oc : Obj} {v0 : Option Value}
    (S : EScope N ps scope) (hd : A.handled = none) (en : Env0 P w K mg base A outer s H) (hl : vs.length = ps.length) (r : Vals vs us) (hc : base.get? cc = some oc) (hcv : oc.data = .cell v0)
    (ns : h1.Ns s.heap.objs.size fun x => (ps.zip us).reverse.lookup x) (hk : ∀ b o, s.heap.get? b = some o → h1.get? b = some o) : Inv (eCx P w K mg base N qual scope f cda cc A outer s H) [] (L2.start N vs) H { s with heap := h1, toks := tk } := by
  have hpl : ps.length ≤ N.length := by have := congrArg List.length S.pre; rw [List.length_take] at this; omega
  have cl1 : ∀ x c, ([("__class__", cc)] : List (Str × Addr)).lookup x = some c → x = ("__class__" : Str) ∧ c = cc := fun x c h => by
    rw [List.lookup_cons] at h
    split at h
    · rename_i e
      exact ⟨by simpa using e, by cases h; rfl⟩
    · cases h
  refine ⟨⟨en.mod, S.kind, rfl, rfl, Nat.le_refl _, fun x y c h1 h2 => ?_, fun x hx => ?_, fun x c hx h => ?_, fun _ => hd, Around.frames_deeper en.frames, .inr ⟨rfl, rfl⟩, fun b z => (List.not_mem_nil z).elim, en.bs, en.bsz, fun b _ _ => List.not_mem_nil, fun b z => (List.not_mem_nil z).elim, en.funs, en.frf⟩,
    rfl, en.bare, Un.kept hk, ⟨_, ns, fun i x v e1 e2 e3 => ?_⟩, fun x c h => ?_, en.hok.fresh (Nat.le_refl _), fun x c h => ?_, fun p hp => (List.not_mem_nil (show p ∈ ([] : List (Addr × Obj)) from hp)).elim, en.hok.kept hk, ?_⟩
  · rw [(cl1 x c h1).1, (cl1 y c h2).1]
  · have hx : scope.names.lookup x = some .cell ∨ scope.names.lookup x = some .free := hx
    rcases hx with hx | hx
    · exact absurd rfl (S.nc _ (PySem.mem_of_lookup hx))
    · have : x = "__class__" := S.fr _ (PySem.mem_of_lookup hx) rfl
      subst this
      exact ⟨cc, rfl⟩
  · exact absurd (cl1 x c h).1 (of_decide_eq_true hx)
  · have hi : i < vs.length := by
      unfold L2.start at e2
      by_cases hi : i < vs.length
      · exact hi
      · rw [List.getElem?_append_right (by simpa using hi), List.getElem?_replicate] at e2
        split at e2 <;> cases e2
    have ha : vs[i]? = some v := by
      unfold L2.start at e2
      rw [List.getElem?_append_left (by simpa using hi), List.getElem?_map] at e2
      cases e : vs[i]? with
      | none => rw [e] at e2; cases e2
      | some a => rw [e] at e2; cases e2; rfl
    obtain ⟨u, hu, rv⟩ := r.get ha
    have hp : ps[i]? = some x := by
      rw [← S.pre, List.getElem?_take_of_lt (by omega)]
      exact e1
    have ndP : ps.Nodup := by
      rw [← S.pre]
      exact S.nd.sublist (List.take_sublist _ _)
    refine ⟨u, rv, .inl ⟨S.par x (List.mem_of_getElem? hp), ?_⟩⟩
    have := look_rev ndP hp hu []
    rw [List.append_nil] at this
    exact this
  · rw [(cl1 x c h).2]
    exact ⟨v0, oc, hk _ _ (en.bs _ _ hc).1, hcv⟩
  · rw [(cl1 x c h).2]
    exact (en.bs _ _ hc).2
  · unfold L2.start
    show _ = N.length
    rw [List.length_append, List.length_map, List.length_replicate]
    omega
end PL
namespace PL
open PySem PySem.Spec PyProof.Rows L2
/-- what the written part says of an error's __init__ -/
structure SupC (prog : Program) (K : PySem.W.Frag) (mg : Str → Option Value) (C fI cda cc : Addr) (qual : Str) (params : Arguments) (body : List Stmt) (scope : Scope) (fd : FuncData) : Prop where
  fn : ∃ (oc : Value) (od : Option Addr) (kV doc pm : Value) (an : Option Addr) (ct : Value) (osl : Array (Option Value)), fd = PySem.W.ksFn "__init__" qual params body scope .none kV doc pm an (.ref cda) ct cc ∧ K.lookup fI = some ⟨oc, od, .func fd, osl⟩
  code : PySem.W.codeIn K (.ref cda) qual = true
  file : ∃ (oc : Obj) (vs : Array Value) (fl : Str) (tf : Tok), K.lookup cda = some oc ∧ oc.data = .fields vs ∧ vs[2]? = some (.str fl tf) ∧ ((prog.main.file : Str) == fl) = true
  cell : ∃ oc : Obj, K.lookup cc = some oc ∧ oc.data = .cell (some (.ref C))
  top : (prog.main.scope.names.lookup ("super" : Str)).isSome = false
  ms : mg "super" = none
  sub : PySem.W.mroIn K C (.ref C) = some true
  ve : PySem.W.subIn K (.ref C) (.type "ValueError") = some true
  st : PySem.W.nsIn K cStatics "thirdparty.any" = some none
  su : PySem.W.ks_superIn K C C "__init__" = some (some (.builtin "ValueError.__init__"))
  oex : OexC K C
theorem mw_call {P : Program} {w : World} {K : PySem.W.Frag} {A : Around} {E : Value → Shared → Prop} {X : Cx} {pins : List (Addr × Obj)} {σ : L2.St} {H : Hp} {s : Shared} {u a C : Addr} {us : List Value} {Q : Value → Shared → Prop} (T : OexC X.K C) (I : Inv X pins σ H s)
    (e : H a = some (exo a C none)) (hu : s.heap.get? u = some (PySem.W.kxs_mw "ValueError.__init__" a)) (hl : us.length ≤ sizeLine) (h : ∀ s', Inv X pins σ H s' → Q .none s') : wpAny (model X.prog X.w) A (call (.ref u) us) Q E s := by
  obtain ⟨nm, q, N, bs, bm, sn, sub, ab, col, dd, k0, k1, k2, k3, k5, hC, hbm⟩ := T.cls
  obtain ⟨t1, ho⟩ := exo_at I.hok e
  obtain ⟨hp, g, d, t, os⟩ := s
  refine wpAny_call (codeAny_of_tree ?_)
  show wpAny _ A.in1 (callAny (.ref u) ⟨us, []⟩) _ _ _
  simp only [callAny]
  refine wpAny_bind (wpAny_load hu ?_)
  simp only [PySem.W.kxs_mw, show (Value.type "method-wrapper" == Value.type "method" || Value.type "method-wrapper" == Value.type "builtin_function_or_method" || Value.type "method-wrapper" == Value.type "method-wrapper") = true by decide, if_true]
  refine PySem.W.KFB.if_so (by decide) ?_
  refine wpAny_bind (PySem.W.check_bound_init F.excBase_ValueError.toExcCallFacts (I.kIn _ _ hC) ho rfl ?_)
  refine wpAny_bind (wpAny_pure (wpAny_pure ?_))
  refine ⟨plainId_quiet F.excBase_ValueError.init.plain _, codeAny_builtin F.excBase_ValueError.initEntry ?_⟩
  refine PySem.W.exc_init_tree (cls := .ref C) (t0 := t1) (dv := none) (c2 := .none) (c3 := .none) (b4 := .bool false) ho hl fun h' k hx _ => ?_
  have J := I.write (t' := t) (x := a) (e := a) (o := exo a C none) (by rw [e]; exact True.intro) (.inl rfl) k ⟨_, hx⟩ (exo_ok hx)
  have eu : upd H a (exo a C none) = H := by
    funext b
    by_cases hb : b = a
    · rw [hb, upd_same, e]
    · rw [upd_ne hb]
  rw [eu] at J
  exact h _ J
theorem fn_err {P : Program} {w : World} {K : PySem.W.Frag} {mg : Str → Option Value} {base : Heap} {k : Nat} {C fI cda cc : Addr} {qual : Str} {params : Arguments} {ea : Expr} {p0 p1 p2 p3 p4 : Pos} {rest : List Stmt} {scope : Scope} {fd : FuncData} {N ps : List Str} {ar : Arg} {sp : Sp} {pl : Env → Sem Bool}
    (T : SupC P K mg C fI cda cc qual params (.Expr (.Call (.Attribute (.Call (.Name "super" p0) [] [] p1) "__init__" p2) [ea] [] p3) p4 :: rest) scope fd) (S : EScope N ((("self" : Str)) :: ps) scope) (hp : (params.posonlyargs ++ params.args).head? = some ar) (har : ar.arg = "self")
    (len : ∀ vs H Q E, sp vs H Q E → vs.length = ((("self" : Str)) :: ps).length)
    (hbody : ∀ (A : Around) (outer : List Env) (s : Shared) (H : Hp) (vs : List V) (Q : VK) (E : XK), sp vs H Q E → ∃ ta t, PA (eCx P w K mg base N qual scope fI cda cc A outer s H) [ea] ta ∧ PSs (eCx P w K mg base N qual scope fI cda cc A outer s H) rest t ∧
      ∃ a ws, vs = .ref a :: ws ∧ H a = some (exo a C none) ∧ ta (L2.start N vs) H fun zs H1 => zs.length ≤ 1000 ∧ H1 a = some (exo a C none) ∧ t { nx := fun _ H' => Q .non H', rt := Q } (L2.start N vs) H1)
    (hst : ∀ env : Env, starEach [ea] env = [(false, eval ea env)])
    (hev : ∀ env : Env, eval (.Call (.Attribute (.Call (.Name "super" p0) [] [] p1) "__init__" p2) [ea] [] p3) env = (do
      let ov ← attributeBase (.Call (.Name "super" p0) [] [] p1) "__init__" env (eval (.Call (.Name "super" p0) [] [] p1) env)
      standAt p2.atName
      let (g, fst) ← holding [ov] (getMethod ov "__init__" (pl env))
      callWith p3 g fst (backTo p3 (starEach [ea] env)) [])) : FnOk P w K mg base CX0 (k + 1) fI fd ((("self" : Str)) :: ps) sp := by
  obtain ⟨oc, od, kV, doc, pm, an, ct, osl, efd, lk⟩ := T.fn
  refine ⟨len, fun A outer s H args us vs Q E rm en bd vv wish => ?_⟩
  have hl := len _ _ _ _ wish
  obtain ⟨ta, t, hta, ht, a, ws, evs, ha0, hwish⟩ := hbody A outer s H vs Q E wish
  have inB : K.In base := en.mod.kin
  have inK : K.In s.heap := inB.keeps fun b o e => (en.bs b o e).1
  obtain ⟨occ, hcc, hcd⟩ := T.cell
  subst efd
  have ndp : ∀ y ∈ ((("self" : Str)) :: ps).zip us, scope.names.lookup y.1 = some .local := fun ⟨n, v⟩ hy => S.par n (List.of_mem_zip hy).1
  refine PySem.ks_codeAny_call_defAt (binds := ((("self" : Str)) :: ps).zip us) rm.depth (inK _ _ lk) rfl (en.mod.nolimit.keeps fun b o e => (en.bs b o e).1) (PySem.W.codeRec_of inK T.code) rfl bd (fun x hx => S.nc x hx) ndp (fun h1 ns hk => ?_) S.co S.gen S.kind
  have I := inv_err (f := fI) (cda := cda) (qual := qual) (tk := s.toks + (((("self" : Str)) :: ps).zip us).length) S rm.hd en hl vv (inB _ _ hcc) hcd ns hk
  have hself : (((("self" : Str)) :: ps).zip us).reverse.lookup ("self" : Str) = some (.ref a) := by
    have h0 : vs[0]? = some (.ref a) := by rw [evs]; rfl
    obtain ⟨u, hu, ru⟩ := vv.get h0
    obtain rfl : u = Value.ref a := ru
    have ndP : ((("self" : Str)) :: ps).Nodup := by
      rw [← S.pre]
      exact S.nd.sublist (List.take_sublist _ _)
    have := look_rev (i := 0) ndP rfl hu []
    rw [List.append_nil] at this
    exact this
  have kIn1 : K.In h1 := inK.keeps hk
  have kb : ∀ b o, base.get? b = some o → h1.get? b = some o := fun b o e => hk _ _ (en.bs _ _ e).1
  obtain ⟨ofl, vfl, fl, tf, hfl1, hfl2, hfl3, hfl4⟩ := T.file
  obtain ⟨mb, hb1, hb2⟩ := en.mod.blt
  obtain ⟨nm, q, NN, bs, bm, sn, sub, ab, col, dd, k0, k1, k2, k3, k5, hC, hbm⟩ := T.oex.cls
  have hcl : PySem.W.clsIn K C = some { name := nm, bases := bs, mro := .ref C :: bm, ns := NN, qualname := q, hasDict := true, slotNames := sn, subclasses := sub, abstract := ab, collection := col, hasDel := false } := by unfold PySem.W.clsIn; rw [hC] <;> rfl
  have fin : ∀ {σ' : L2.St} {H' : Hp} {v : V} {u : Value} {s' : Shared}, Inv (eCx P w K mg base N qual scope fI cda cc A outer s H) [] σ' H' s' → RelV v u → Q v H' → CE outer P w H s Q u s' :=
    fun {σ' H' v u s'} J rv q => ⟨v, H', J.os, J.bare, J.base, J.hok, rv, q⟩
  refine PySem.ks_wpAt_execs_cons (PySem.ks_wpAt_Expr_any (PySem.ks_wpAt_MethodCall (PySem.ks_wpAt_super_base S.su S.cl rfl rfl (kIn1 _ _ lk) rfl hp rfl (kIn1 _ _ hfl1) hfl2 hfl3 hfl4 T.top ?_) (hev _)) I.quiet)
  refine PySem.W.ks_loadName_global S.kind S.su (PySem.Calls.loadGlobal_builtin (mg := mg) (mb := mb) (en.mod.glob.keeps kb) T.ms (hb1.keeps kb) ((hb2 _ (by decide +kernel)).trans PyProof.Rows.Boot.super) ⟨rfl, ?_⟩)
  refine wpAny_loadName_free S.kind S.cl rfl ⟨occ, kIn1 _ _ hcc, hcd⟩ ?_
  rw [har]
  refine wpAny_loadName_local S.kind (S.par "self" (.head _)) ns hself ?_
  refine PySem.ks_wpAny_isType_cls (kIn1 _ _ hC) rfl ⟨rfl, ?_⟩
  obtain ⟨t0, ho⟩ := exo_at I.hok ha0
  refine PySem.ks_wpAny_call_super (kIn1 _ _ hC) rfl ho rfl (fun c z => by cases z) (PySem.W.looks_mroIn kIn1 T.sub) fun h2 hso k2 => ?_
  have kIn2 := kIn1.keeps k2
  have I2 := I.kept (t' := s.toks + (((("self" : Str)) :: ps).zip us).length) k2
  obtain ⟨t02, ho2⟩ := exo_at I2.hok ha0
  have J2 : PySem.W.InstAt h2 a _ C none := ⟨ho2, rfl, rfl, trivial⟩
  have suc : PySem.W.alongIn K "__init__" ((((Value.ref C) :: bm).dropWhile (· != .ref C)).drop 1) = some (some (.builtin "ValueError.__init__")) := by
    have := T.su
    unfold PySem.W.ks_superIn at this
    rw [hcl] at this
    exact this
  refine PySem.W.kxs_getMethod PySem.W.kxs_ValueError hso (PySem.W.looks_opaque kIn2 T.st) (l₀ := .ref C :: bm) (fun A Q E s k q => wpAny_bind ((PySem.W.looks_clsIn kIn2 hcl) A _ E s k (wpAny_pure q))) rfl kIn2 suc (J2.type.andThen (PySem.W.looks_subIn kIn2 T.ve)) (PySem.W.ks_ne kIn2 J2 hcl) rfl ?_
  have k3 : ∀ b o, h2.get? b = some o → (h2.push (PySem.W.kxs_mw "ValueError.__init__" a)).get? b = some o := fun b o e => Heap.get?_push_of_some _ e
  have I3 := I2.kept (t' := s.toks + (((("self" : Str)) :: ps).zip us).length + 1) k3
  have hu3 : (h2.push (PySem.W.kxs_mw "ValueError.__init__" a)).get? h2.objs.size = some (PySem.W.kxs_mw "ValueError.__init__" a) := Heap.get?_push_size _ rfl
  have I4 : Inv (eCx P w K mg base N qual scope fI cda cc A outer s H) [(h2.objs.size, PySem.W.kxs_mw "ValueError.__init__" a)] (L2.start N vs) H ⟨h2.push (PySem.W.kxs_mw "ValueError.__init__" a), s.gens, s.drawn, s.toks + (((("self" : Str)) :: ps).zip us).length + 1, s.os⟩ :=
    ⟨I3.ok, I3.os, I3.bare, I3.base, I3.loc, I3.cell, I3.free, I3.freeC, fun p hp => by
      rw [List.mem_singleton.mp (show p ∈ [(h2.objs.size, PySem.W.kxs_mw "ValueError.__init__" a)] from hp)]
      exact ⟨hu3, I2.hok.fresh (Nat.le_refl _), fun z => by
        have := I2.lt
        exact absurd (show _ < h2.objs.size from this) (by rw [← z]; exact Nat.lt_irrefl _), I2.nofs (Nat.le_refl _), fun v z => by cases z⟩, I3.hok, I3.len⟩
  refine PySem.W.kxs_callWith (i := "ValueError.__init__") (x := a) (by rw [hst]; rfl) ?_
  rw [hst]
  refine PySem.Calls.evalArgs_plain ?_
  have hsp := hta.run p3 _ _ _ _ _ I4 hwish
  rw [hst] at hsp
  refine wpAny_mono hsp (fun zs s5 ⟨xs, H5, I5, r5, hz5, ha5, hw5⟩ => ?_) fun e s' hs => hs.elim
  have hu5 := (I5.pin (h2.objs.size, PySem.W.kxs_mw "ValueError.__init__" a) (List.mem_append_right _ (.head _))).1
  refine ⟨hu5, ?_⟩
  show wpAny _ _ (call (.ref h2.objs.size) zs) _ _ _
  refine mw_call (P := P) (w := w) (K := K) T.oex I5 ha5 hu5 (by rw [← r5.length, sizeLine_eq]; omega) fun s6 I6 => ?_
  have I7 : Inv (eCx P w K mg base N qual scope fI cda cc A outer s H) [] (L2.start N vs) H5 s6 := I6.pins_of fun p hp => I6.pin p (List.mem_append.mpr (.inl ((List.mem_append.mp hp).elim id fun z => (List.not_mem_nil z).elim)))
  refine wpAt_of_wpAny (wpAny_mono (ht.run [] s6 _ H5 _ I7 hw5) (fun flw s' hs => ?_) fun e s' hs => hs.elim)
  cases flw with
  | next => exact let ⟨_, H', J, q⟩ := hs; fin (v := V.non) (u := Value.none) J rfl q
  | brk => exact hs.elim fun _ q => q.elim fun _ q => q.2.elim
  | cont => exact hs.elim fun _ q => q.elim fun _ q => q.2.elim
  | ret u => exact let ⟨v, _, H', J, rv, q⟩ := hs; fin J rv q
end PL
namespace PL
open PySem PySem.Spec PyProof.Rows L2
/-! raise C(e, ..): an error with attributes -/
/-- the heap when the attributes l (the last one first) are stored -/
def finH (H : Hp) (a C dx : Addr) : List (Str × V) → Hp
  | [] => H
  | [p] => upd (upd H dx (exd dx [p])) a (exo a C (some dx))
  | p :: q :: l => upd (finH H a C dx (q :: l)) dx (exd dx (p :: q :: l))
theorem finH_at {H : Hp} {a C dx : Addr} (ne : dx ≠ a) : ∀ l : List (Str × V), l ≠ [] → finH H a C dx l a = some (exo a C (some dx)) ∧ finH H a C dx l dx = some (exd dx l) ∧ ∀ b, b ≠ a → b ≠ dx → finH H a C dx l b = H b
  | [], h => absurd rfl h
  | [p], _ => ⟨upd_same, by show upd _ a _ dx = _; rw [upd_ne ne, upd_same], fun b h1 h2 => by show upd _ a _ b = _; rw [upd_ne h1, upd_ne h2]⟩
  | p :: q :: l, _ => by
    obtain ⟨h1, h2, h3⟩ := finH_at ne (q :: l) (by simp)
    exact ⟨by show upd _ dx _ a = _; rw [upd_ne (Ne.symm ne)]; exact h1, upd_same, fun b k1 k2 => by show upd _ dx _ b = _; rw [upd_ne k2]; exact h3 b k1 k2⟩
/-- a short text, or an int that has a text -/
def smV : V → Prop
  | .str s => s.length ≤ 1000
  | .int i => i.natAbs.log2 < 1920
  | _ => False
def smD : D → Prop
  | .str s => s.length ≤ 1000
  | .int i => i.natAbs.log2 < 1920
  | _ => False
theorem sm_is {K : PySem.W.Frag} {F : Hp} {v : V} {d : D} (h : Is K F v d) (s : smD d) : smV v := by
  cases d with
  | str z => rw [h.str_inv]; exact s
  | int z => rw [h.int_inv]; exact s
  | _ => exact s.elim
/-- what the __init__ of such an error promises -/
def errSp (C : Addr) (fl : List Str) : Sp := fun vs H Q _ => ∃ a ws, vs = .ref a :: ws ∧ H a = some (exo a C none) ∧ ws.length = fl.length ∧ (∀ w ∈ ws, smV w) ∧ ∀ dx, H dx = none → dx ≠ a → Q .non (finH H a C dx (fl.zip ws).reverse)
/-- a class of errors with attributes -/
structure ErrI (P : Program) (w : World) (K : PySem.W.Frag) (mg : Str → Option Value) (base : Heap) (x : Str) (C : Addr) (k : Nat) (fl : List Str) : Prop where
  o : OexC K C
  i : ∃ fI fd ps, PySem.W.findIn K (.ref C) "__init__" = some (some (.ref fI)) ∧ PySem.W.typeIn K (.ref fI) = some (.type "function") ∧ FnOk P w K mg base CX0 k fI fd ps (errSp C fl) ∧ Binds K fd ps []
  m : mg x = some (.ref C)
  n : fl ≠ []
section
variable {K : PySem.W.Frag} {X : Cx} {a b c : Expr} {es : List Expr} {pos p q : Pos}
def sRaiseI (W : WX) (C : Addr) (fl : List Str) (hn : fl ≠ []) (y : AX K) : SX K := ⟨fun _ σ H => tMkO C (errSp C fl) [] y.t σ H fun cls d H' => W cls d σ H',
  fun δ E => E.W = W ∧ y.w δ fun as => dsD as fun ds => ds.length = fl.length ∧ (∀ d ∈ ds, smD d) ∧ E.xw C (fl.zip ds).reverse δ, fun δ E hw Z F0 F H σ D ok ke => by
  obtain ⟨eW, hw⟩ := hw
  refine y.ok δ _ hw Z F0 F H σ ok _ fun as vs F1 H1 n1 i1 hw1 => ?_
  obtain ⟨ds, e, hl, hlen, hsm, hq⟩ := dsD_inv hw1
  have l := dats_ok i1 e
  have lv : vs.length = ds.length := l.1
  refine ⟨by rw [lv]; exact hl, fun a ha => ?_⟩
  have zn : (fl.zip vs).reverse ≠ [] := fun z => hn (by
    have := congrArg List.length z
    rw [List.length_reverse, List.length_zip, lv, hlen, Nat.min_self] at this
    exact List.length_eq_zero_iff.mp this)
  refine ⟨a, vs, by rw [List.append_nil], upd_same, by rw [lv, hlen], fun v hv => ?_, fun dx hdx hne => ?_⟩
  · obtain ⟨i, hi, rfl⟩ := List.mem_iff_getElem.mp hv
    have hi2 : i < ds.length := by omega
    exact sm_is (l.2 i _ _ (List.getElem?_eq_getElem hi) (List.getElem?_eq_getElem hi2)) (hsm _ (List.getElem_mem hi2))
  have hd1 : H1 dx = none := by rw [upd_ne hne] at hdx; exact hdx
  obtain ⟨f1, f2, f3⟩ := finH_at (H := upd H1 a (exo a C none)) (C := C) hne _ zn
  refine ⟨rfl, dx, _, f1, f2, hd1, ?_⟩
  have eH : upd (del (finH (upd H1 a (exo a C none)) a C dx (fl.zip vs).reverse) a) dx (.xd (fl.zip vs).reverse) = upd H1 dx (.xd (fl.zip vs).reverse) := by
    funext b
    by_cases hb : b = dx
    · rw [hb, upd_same, upd_same]
    · rw [upd_ne hb, upd_ne hb]
      by_cases hba : b = a
      · rw [hba, del_same, ha]
      · rw [del_ne hba, f3 b hba hb, upd_ne hba]
  rw [eH]
  have n2 : Nx F1 H1 _ _ := Nx.new (o := .xd (fl.zip vs).reverse) n1.s hd1
  have hf : IsF K F1 (fl.zip vs).reverse (fl.zip ds).reverse := by
    refine ⟨?_, fun i p q e1 e2 => ?_⟩
    · rw [List.map_reverse, List.map_reverse, List.map_fst_zip (by omega), List.map_fst_zip (by omega)]
    · have li := (List.getElem?_eq_some_iff.mp e1).1
      rw [List.length_reverse, List.length_zip, lv, hlen, Nat.min_self] at li
      rw [List.getElem?_reverse (by rw [List.length_zip]; omega)] at e1 e2
      rw [List.length_zip, lv, hlen, Nat.min_self] at e1
      rw [List.length_zip, hlen, Nat.min_self] at e2
      obtain ⟨p1, p2⟩ := p
      obtain ⟨q1, q2⟩ := q
      have h1 := (List.getElem?_zip_eq_some.mp e1).2
      have h2 := (List.getElem?_zip_eq_some.mp e2).2
      exact l.2 _ _ _ h1 h2
  have zd : (fl.zip ds).reverse ≠ [] := fun z => hn (by
    have := congrArg List.length z
    rw [List.length_reverse, List.length_zip, hlen, Nat.min_self] at this
    exact List.length_eq_zero_iff.mp this)
  have := ke.xs C _ (some dx) δ _ _ σ (ok.next (n1.trans n2)) ⟨zd, _, upd_same, hf.mono n2.f⟩ hq
  rw [eW] at this
  exact this⟩
theorem s_raiseI {W : WX} {x : Str} {C : Addr} {j k : Nat} {fl : List Str} {y : AX K} {e : Expr} {pos2 : Pos} (cl : ErrI X.prog X.w K X.mg X.base x C k fl) (tk : Takes X W) (hr : Room j X.A) (h : pA K X (e :: es) y) (hjk : k + 1 ≤ j := by decide) (hc : X.calm = true := by rfl) (hg : Gl X x := by rfl) (hd : (x == ("__debug__" : Str)) = false := by decide +kernel)
    (hst : starEach (e :: es) X.env = (false, eval e X.env) :: starEach es X.env := by rfl) (hpl : (backTo pos (starEach es X.env)).any (·.1) = false := by rfl) :
    pS K X (.Raise (some (.Call (.Name x p) (e :: es) [] pos)) none pos2) (sRaiseI W C fl cl.n y) := by
  have hk0 : X.K = K := h.k
  subst hk0
  obtain ⟨fI, fd, ps, h1, h2, F, bn⟩ := cl.i
  exact ⟨rfl, ps_raise hc tk (pmk_oex cl.o h1 h2 F (hr.mono hjk) bn .nil pass0 hg cl.m h.h hd hst hpl)⟩
/-! the __init__ itself -/
theorem err_read1 {a C : Addr} {f : Str} {vs : List V} {v : V} {H : Hp} {Q : VK} {N : List Str} (o : OexC K C) (hf : PySem.W.findIn K (.ref C) f = some none) (e : vs = [.ref a, v]) (ha : H a = some (exo a C none)) (h : ∀ dx, H dx = none → dx ≠ a → Q .non (finH H a C dx [(f, v)])) :
    (tSeq (tOst K f (tVar 0) (tVar 1)) tNext) { nx := fun _ H' => Q .non H', rt := Q } (L2.start N vs) H := by
  subst e
  exact ⟨v, rfl, .ref a, rfl, a, C, rfl, o, hf, .inl ⟨ha, fun dx h1 h2 => h dx h1 h2⟩⟩
theorem err_read2 {a C : Addr} {f g : Str} {vs : List V} {v u : V} {H : Hp} {Q : VK} {N : List Str} (o : OexC K C) (hf : PySem.W.findIn K (.ref C) f = some none) (hg : PySem.W.findIn K (.ref C) g = some none) (e : vs = [.ref a, v, u]) (ha : H a = some (exo a C none)) (h : ∀ dx, H dx = none → dx ≠ a → Q .non (finH H a C dx [(g, u), (f, v)])) :
    (tSeq (tOst K f (tVar 0) (tVar 1)) (tSeq (tOst K g (tVar 0) (tVar 2)) tNext)) { nx := fun _ H' => Q .non H', rt := Q } (L2.start N vs) H := by
  subst e
  refine ⟨v, rfl, .ref a, rfl, a, C, rfl, o, hf, .inl ⟨ha, fun dx h1 h2 => ?_⟩⟩
  exact ⟨u, rfl, .ref a, rfl, a, C, rfl, o, hg, .inr ⟨dx, [(f, v)], upd_same, by rw [upd_ne h2, upd_same], by simp, h dx h1 h2⟩⟩
end
end PL
namespace PL
open PySem PySem.Spec PyProof.Rows L2
/-! try .. except C as e, C an error with attributes; e.f; isinstance(e, S) -/
section
variable {K : PySem.W.Frag} {X : Cx} {a b c : Expr} {es : List Expr} {pos p q : Pos}
def sTryI (C : Addr) (hx : PySem.W.exmOne K (.ref C) (.ref C) = some true) (i : Nat) (B : WX → SX K) (S : Addr → Option Addr → SX K) : SX K := ⟨fun D σ H => (B (wAs K (.ref C) i (fun a cl d D' σ' H' => cl = .ref C ∧ (S a d).t D' σ' H') (fun _ _ _ _ => False) D)).t D σ H,
  fun δ E => ∃ Xw : List (Str × D) → List Ent → Prop, (∀ W, (B W).w δ { E with xw := fun C' fs δ' => C' = C ∧ Xw fs δ', W := W }) ∧ (∀ fs δ', Xw fs δ' → fs ≠ []) ∧
    ∀ a dd fs δ', Xw fs δ' → (S a (some dd)).w (put δ' i (.dat (.err a dd fs))) { E with nx := fun δ2 => E.nx (put δ2 i .no), bk := fun δ2 => E.bk (put δ2 i .no), ct := fun δ2 => E.ct (put δ2 i .no) }, fun δ E hw Z F0 F H σ D ok ke => by
  obtain ⟨Xw, h1, h0, h2⟩ := hw
  refine (B _).ok δ _ (h1 _) Z F0 F H σ D ok ⟨ke.nx, ke.rt, ke.bk, ke.ct, ke.rl, ke.r2, ke.rm, ke.rb, fun C' fs d δ' F' H' σ' ok' he h => ?_⟩
  obtain ⟨rfl, hq⟩ := h
  cases d with
  | none => exact absurd (show fs = [] from he) (h0 fs δ' hq)
  | some dd =>
    obtain ⟨_, vs, hf, hi⟩ := he
    refine ⟨true, hx, fun _ a _ => ⟨rfl, ?_⟩, fun z => Bool.noConfusion z⟩
    exact (S a (some dd)).ok _ _ (h2 a dd fs δ' hq) Z F0 F' H' _ _ (ok'.setD (.err hf hi.1 hi.2)) ⟨fun δ2 F2 H2 σ2 ok2 h => ke.nx _ F2 H2 _ ok2.gone h, ke.rt, fun δ2 F2 H2 σ2 ok2 h => ke.bk _ F2 H2 _ ok2.gone h, fun δ2 F2 H2 σ2 ok2 h => ke.ct _ F2 H2 _ ok2.gone h, ke.rl, ke.r2, ke.rm, ke.rb, ke.xs⟩⟩
/-- what the text says of a class of errors that is caught -/
structure ErrK (K : PySem.W.Frag) (mg : Str → Option Value) (x : Str) (C : Addr) : Prop where
  m : mg x = some (.ref C)
  e : PySem.W.exmOne K (.ref C) (.ref C) = some true
  x : XfC K C
theorem s_tryI (i : Nat) {B : WX → SX K} {S : Addr → Option Addr → SX K} {C : Addr} {x n : Str} {body suite : List Stmt} {b₀ : Stmt} {np pos' : Pos} (e : ErrK K X.mg x C) (hN : X.N.Nodup)
    (hb : ∀ (W : WX) (pn : List (Addr × Obj)) (xe : Value → Shared → Prop), Takes (X.tr pn xe) W → pB K (X.tr pn xe) body (B W))
    (hsu : ∀ (a : Addr) (oe : Obj) (d : Option Addr) (pn : List (Addr × Obj)), Zc (.ref C) d oe → (∃ vs, oe.data = .fields vs) → pB K (X.suite a ((a, oe) :: pn)) (b₀ :: suite) (S a d))
    (hs : X.stack = X.env :: X.outer := by rfl) (hf : X.env.frame = some X.env.locals := by rfl) (hi : X.N[i]? = some n := by rfl) (hln : X.env.kindOf n = some .local := by rfl) (hg : Gl X x := by rfl) (hd : (x == ("__debug__" : Str)) = false := by decide +kernel) (hk : X.K = K := by rfl) :
    pS K X (.Try body [.ExceptHandler (some (.Name x np)) (some n) (b₀ :: suite) pos'] [] [] pos) (sTryI C e.e i B S) := by
  have hk0 : X.K = K := hk
  subst hk0
  exact ⟨rfl, ps_try_as (tb := fun W => (B W).t) (Wout := fun _ _ _ _ => False) hs hf hN hi hln ⟨hg, hd, .inl e.m⟩ takes0 (fun W pn xe tk _ => (hb W pn xe tk).h) fun a oe cls d pn hz hv => ⟨fun pins s σ H D I h => by
    obtain ⟨rfl, h⟩ := h
    exact (hsu a oe d pn hz hv).h.run pins s σ H D I h⟩⟩
/-- e.f of the caught error -/
def eXf (C a : Addr) (d : Option Addr) (f : Str) (i : Nat) : EX K := ⟨tXf a (.ref C) d C f (tVar i), fun δ Q => ∃ dd fs v, d = some dd ∧ nth δ i = .dat (.err a dd fs) ∧ fs.lookup f = some v ∧ Q v, fun δ Q hw Z F0 F H σ ok Q' k => by
  obtain ⟨dd, fs, v, rfl, e, hl, hq⟩ := hw
  have h := ok.at_ i
  rw [e] at h
  obtain ⟨u, h1, h2⟩ := h
  cases h2 with
  | err g1 g2 g3 =>
    obtain ⟨w, hw, hi⟩ := lookup_is g2 g3 hl
    exact ⟨_, h1, rfl, rfl, dd, _, w, rfl, ok.nx.s _ _ g1, hw, k v w F H (.refl ok.nx.s) hi hq⟩⟩
theorem x_xf (i : Nat) {Y : Cx} {C a : Addr} {d : Option Addr} {oe : Obj} {pn : List (Addr × Obj)} {n f : Str} (T : XfC K C) (hno : PySem.W.findIn K (.ref C) f = some none) (hz : Zc (.ref C) d oe) (hf : ∃ vs, oe.data = .fields vs) (hk0 : Y.K = K := by rfl)
    (hN : Y.N[i]? = some n := by rfl) (hv : Vis Y.env.scope n := by first | exact Or.inl rfl | exact Or.inr (Or.inl rfl) | exact Or.inr (Or.inr rfl)) (hd : (n == ("__debug__" : Str)) = false := by decide +kernel) (hcd : (n == ("__classdict__" : Str)) = false := by decide +kernel)
    (hb : attributeBase (.Name n q) f Y.env (eval (.Name n q) Y.env) = eval (.Name n q) Y.env := by rfl) : pE K (Y.suite a ((a, oe) :: pn)) (.Attribute (.Name n q) f pos) (eXf C a d f i) := by
  subst hk0
  exact ⟨rfl, pe_xf T hno hz hf (pe_var hN hv hd hcd) hb⟩
/-- isinstance of it -/
def rIsX (K : PySem.W.Frag) (C a dd : Addr) : List V → Hp → VK → Prop := fun xs H Q => ∃ (c : V) (cv : Value) (b : Bool) (fs : List (Str × V)), xs = [.ref a, c] ∧ (∀ u, RelV c u → u = cv) ∧ PySem.W.kitOne K (.ref C) cv = some b ∧ H dd = some (.xd fs) ∧ Q (.bl b) H
theorem call_isX {Y : Cx} {a dd C : Addr} {oe : Obj} {pn : List (Addr × Obj)} (T : ExcC Y.K C) (hz : Zc (.ref C) (some dd) oe) (hf : ∃ vs, oe.data = .fields vs) : CallR (Y.suite a ((a, oe) :: pn)) (.builtin "isinstance") (rIsX Y.K C a dd) := by
  intro pins s σ H xs us Q I r h
  obtain ⟨c, cv, b, fs, rfl, hcv, e, hdd, hq⟩ := h
  cases r with
  | cons rx rr =>
    cases rr with
    | cons rt rr =>
      cases rr
      cases rx
      have ec := hcv _ rt
      subst ec
      obtain ⟨hget, _⟩ := I.pin (a, oe) (List.mem_append.mpr (.inl List.mem_cons_self))
      obtain ⟨vs, hv⟩ := hf
      have hx : ObjOk Y.prog Y.w H s.heap dd (.xd fs) := I.hok dd _ hdd
      obtain ⟨mA, hns, _⟩ := hx
      obtain ⟨od, ho, _⟩ := lookIn_ns hns
      have J : PySem.W.InstAt s.heap a oe C (some od) := ⟨hget, hz.1, by unfold PySem.W.notCls; rw [hv] <;> rfl, by rw [hz.2]; exact ho⟩
      obtain ⟨cd, hcd, hcd2⟩ := PySem.W.any_some T.hd
      have is : (PySem.W.clsIn Y.K C).isSome = true := by rw [hcd]; rfl
      have kx : PySem.W.KitX Y.K (.ref a) (.ref C) (fun h => PySem.W.InstAt h a oe C (some od)) := by
        refine ⟨fun _ _ _ J => J.type, fun _ h X _ => ?_, fun h tp dd' its n sl X htp => ?_, fun X J k => ?_⟩
        · unfold PySem.W.clsIn at hcd
          split at hcd
          · rename_i c' d' cd' sl' ho'
            intro A' Q' E' s' k q
            unfold isType loadHead
            exact wpAny_bind (wpAny_loadPart (k _ _ (X _ _ ho')) (wpAny_pure q))
          · cases hcd
        · refine Bool.eq_false_iff.mpr fun q => ?_
          have e2 : C = tp := Value.ref.inj (beq_iff_eq.mp q)
          subst e2
          unfold PySem.W.clsIn at hcd
          split at hcd
          · rename_i c' d' cd' sl' ho'
            have z := (X _ _ ho').symm.trans htp
            cases z
          · cases hcd
        · exact PySem.W.kx_classE X J T.hg T.hk T.hs (PySem.W.findObj_dataE is T.ha T.hn T.ht) T.hm k
      exact PySem.W.kia_one kx I.kIn J e (fun z => nomatch z) fun tk => ⟨.bl b, H, I.kept (t' := tk) fun _ _ z => z, rfl, hq⟩
def eIsX (C a : Addr) (d : Option Addr) (i : Nat) (cv : V) (u : Value) (b : Bool) (hu : ∀ w, RelV cv w → w = u) (hk : PySem.W.kitOne K (.ref C) u = some b) : EX K := ⟨match d with | some dd => tCB (rIsX K C a dd) (tCons (tVar i) (tCons (tC cv) tNil)) | none => fun _ _ _ => False, fun δ Q => ∃ dd fs, d = some dd ∧ nth δ i = .dat (.err a dd fs) ∧ Q (.bl b), fun δ Q hw Z F0 F H σ ok Q' k => by
  obtain ⟨dd, fs, rfl, e, hq⟩ := hw
  have h := ok.at_ i
  rw [e] at h
  obtain ⟨v, h1, h2⟩ := h
  cases h2 with
  | err g1 g2 g3 => exact ⟨_, h1, cv, u, b, _, rfl, hu, hk, ok.nx.s _ _ g1, k _ _ F H (.refl ok.nx.s) (.bl b) hq⟩⟩
theorem x_isX (i : Nat) {Y : Cx} {C S a : Addr} {d : Option Addr} {oe : Obj} {pn : List (Addr × Obj)} {n y : Str} {b : Bool} {q2 : Pos} (E : ExcC K C) (hz : Zc (.ref C) d oe) (hf : ∃ vs, oe.data = .fields vs) (hk : PySem.W.kitOne K (.ref C) (.ref S) = some b) (hm : Y.mg "isinstance" = none) (hS : Y.mg y = some (.ref S)) (hk0 : Y.K = K := by rfl)
    (hN : Y.N[i]? = some n := by rfl) (hv : Vis Y.env.scope n := by first | exact Or.inl rfl | exact Or.inr (Or.inl rfl) | exact Or.inr (Or.inr rfl)) (hd : (n == ("__debug__" : Str)) = false := by decide +kernel) (hcd : (n == ("__classdict__" : Str)) = false := by decide +kernel)
    (hg : Gl Y "isinstance" := by rfl) (hgS : Gl Y y := by rfl) (hdS : (y == ("__debug__" : Str)) = false := by decide +kernel)
    (hs : starEach [.Name n q, .Name y q2] Y.env = [(false, eval (.Name n q) Y.env), (false, eval (.Name y q2) Y.env)] := by rfl) : pE K (Y.suite a ((a, oe) :: pn)) (.Call (.Name "isinstance" p) [.Name n q, .Name y q2] [] pos) (eIsX C a d i (.ref S) (.ref S) b (fun _ h => h) hk) := by
  subst hk0
  cases d with
  | none => exact ⟨rfl, ⟨fun pins s σ H Q I h => h.elim⟩⟩
  | some dd => exact ⟨rfl, pe_callB (call_isX E hz hf) hg hm (by decide +kernel) (pa_cons (pe_var hN hv hd hcd) (pa_cons (pe_glob hgS hS (v := .ref S) rfl hdS) pa_nil rfl) hs) (by decide +kernel) (by decide +kernel) hs (by rfl)⟩
/-- isinstance(e, ValueError): a built-in class -/
theorem x_isXT (i : Nat) (T : String) {Y : Cx} {C a : Addr} {d : Option Addr} {oe : Obj} {pn : List (Addr × Obj)} {n y : Str} {b : Bool} {q2 : Pos} (E : ExcC K C) (hz : Zc (.ref C) d oe) (hf : ∃ vs, oe.data = .fields vs) (hk : PySem.W.kitOne K (.ref C) (.type T) = some b) (hm : Y.mg "isinstance" = none) (hT : Y.mg y = none) (hbt : bootBuiltins y = some (.type T)) (hk0 : Y.K = K := by rfl)
    (hN : Y.N[i]? = some n := by rfl) (hv : Vis Y.env.scope n := by first | exact Or.inl rfl | exact Or.inr (Or.inl rfl) | exact Or.inr (Or.inr rfl)) (hd : (n == ("__debug__" : Str)) = false := by decide +kernel) (hcd : (n == ("__classdict__" : Str)) = false := by decide +kernel)
    (hg : Gl Y "isinstance" := by rfl) (hgS : Gl Y y := by rfl) (hnS : y ≠ "__name__" := by decide +kernel) (hdS : (y == ("__debug__" : Str)) = false := by decide +kernel)
    (hs : starEach [.Name n q, .Name y q2] Y.env = [(false, eval (.Name n q) Y.env), (false, eval (.Name y q2) Y.env)] := by rfl) : pE K (Y.suite a ((a, oe) :: pn)) (.Call (.Name "isinstance" p) [.Name n q, .Name y q2] [] pos) (eIsX C a d i (.ty T) (.type T) b (fun w h => by cases h; rfl) hk) := by
  subst hk0
  cases d with
  | none => exact ⟨rfl, ⟨fun pins s σ H Q I h => h.elim⟩⟩
  | some dd => exact ⟨rfl, pe_callB (call_isX E hz hf) hg hm (by decide +kernel) (pa_cons (pe_var hN hv hd hcd) (pa_cons (pe_bltn hgS hT hbt (v := .ty T) rfl hnS hdS) pa_nil rfl) hs) (by decide +kernel) (by decide +kernel) hs (by rfl)⟩
end
end PL
namespace PL
open PySem PySem.Spec PyProof.Rows L2
/-- a part of an f-string that is a short text -/
def Fine (t : TE) (σ : L2.St) (H : Hp) : Prop := ∃ y : Str, y.length ≤ 2000 ∧ ∀ Q : VK, Q (.str y) H → t σ H Q
theorem str_app (a b : Str) : (a ++ b).length = a.length + b.length := by
  show (a.cps ++ b.cps).size = _
  simp [Str.length]
theorem tJs_ok {σ : L2.St} {H : Hp} {Q : Str → Hp → Prop} (h : ∀ out, Q out H) : ∀ (ts : List TE) (acc : Str), (∀ t ∈ ts, Fine t σ H) → acc.length + 2000 * ts.length ≤ 16777216 → tJs ts acc σ H Q
  | [], acc, _, _ => h acc
  | t :: ts, acc, hf, hl => by
    obtain ⟨y, hy, k⟩ := hf t (.head _)
    rw [List.length_cons] at hl
    have e : (acc ++ y).length = acc.length + y.length := str_app acc y
    exact k _ ⟨y, rfl, by rw [e, sizeLine_eq]; omega, tJs_ok h ts (acc ++ y) (fun u hu => hf u (.tail _ hu)) (by rw [e]; omega)⟩
theorem fine_c {σ : L2.St} {H : Hp} {s : Str} (h : s.length ≤ 2000) : Fine (tC (.str s)) σ H := ⟨s, h, fun Q k => k⟩
theorem fine_v {σ : L2.St} {H : Hp} {i : Nat} {v : V} (e : σ[i]? = some (some v)) (h : smV v) : Fine (tFmt (tVar i)) σ H := by
  cases v with
  | str s => exact ⟨s, Nat.le_trans h (by decide), fun Q k => ⟨_, e, .inl ⟨s, rfl, by rw [sizeLine_eq]; exact Nat.le_trans h (by decide), k⟩⟩⟩
  | int i => exact ⟨toString i, Nat.le_trans (int_text_len_1921 h) (by decide), fun Q k => ⟨_, e, .inr ⟨i, rfl, h, k⟩⟩⟩
  | _ => exact h.elim
theorem kit_ofb {K : PySem.W.Frag} {C S : Addr} {b : Bool} (h1 : PySem.W.subIn K (.ref C) (.ref S) = some b) (h2 : PySem.W.typeIn K (.ref S) = some (.type "type")) (h3 : PySem.W.isClsIn K S = true) (hs : PySem.W.subIn K (.ref C) (.ref C) = some true) : PySem.W.kitOne K (.ref C) (.ref S) = some b := by
  unfold PySem.W.isClsIn at h3
  unfold PySem.W.kitOne PySem.W.kitCls
  simp [h1, h2, h3]
  intro e; subst e; rw [hs] at h1; cases h1; rfl
theorem exm_own {K : PySem.W.Frag} {C : Addr} (hb : PySem.W.subIn K (.ref C) (.type "BaseException") = some true) (hi : PySem.W.isClsIn K C = true) (ht : PySem.W.typeIn K (.ref C) = some (.type "type")) (hs : PySem.W.subIn K (.ref C) (.ref C) = some true) : PySem.W.exmOne K (.ref C) (.ref C) = some true := by
  unfold PySem.W.isClsIn at hi
  unfold PySem.W.exmOne PySem.W.kitCls
  simp [hb, ht, hs, hi]
end PL
namespace PL
open PySem PySem.Spec PyProof.Rows L2
/-! t + u; a dict of one's own that is lent: d.get(k, x), len(d) -/
section
variable {K : PySem.W.Frag} {X : Cx} {a b c f e1 : Expr} {es : List Expr} {p pos q apos cpos : Pos}
def oCatT : Op2 K := ⟨rCatT K, fun d e Q => tupD d fun ds => tupD e fun es => ds ≠ [] ∧ ds.length + es.length ≤ 1000 ∧ Q (.tup (ds ++ es)), fun d e v u F H Q Q' a b s h k => by
  obtain ⟨ds, rfl, h2⟩ := tupD_inv h
  obtain ⟨es, rfl, hn, hl, hq⟩ := tupD_inv h2
  obtain ⟨p, vs, rfl, st, l⟩ := a.tup_inv
  obtain ⟨q, us, rfl, su, m⟩ := b.tup_inv
  have lv := l.1
  have lu := m.1
  refine ⟨p, q, vs, us, rfl, rfl, same_t s st, same_t s su, fun z => hn (List.length_eq_zero_iff.mp (by rw [← lv, z]; rfl)), by rw [lv, lu]; exact small hl, fun z => ?_, fun z r hr => ?_⟩
  · have e : es = [] := List.length_eq_zero_iff.mp (by rw [← lu, z]; rfl)
    refine k _ _ F H (.refl s) ?_ hq
    rw [e, List.append_nil]
    exact a
  · have n2 : Nx F H _ _ := Nx.new (o := .tup (vs ++ us)) s hr
    exact k _ _ _ _ n2 (is_tup upd_same ((l.app m).mono n2.f)) hq⟩
theorem x_catT {x y : EX K} (ha : pE K X a x) (hb : pE K X b y) : pE K X (.BinOp a .Add b pos) (eOp oCatT x y) := by
  have hk0 : X.K = K := ha.k
  subst hk0
  exact x_bin op_catT ha hb
/-- tuple(t) -/
def eTupT (x : EX K) : EX K := ⟨tCB (fun xs H Q => ∃ a ys, xs = [.ref a] ∧ SqT K H a ys ∧ Q (.ref a) H) (tCons x.t tNil), fun δ Q => x.w δ fun d => tupD d fun ds => Q (.tup ds), fun δ Q hw Z F0 F H σ ok Q' k => by
  refine x.ok δ _ hw Z F0 F H σ ok _ fun d v F1 H1 n1 i1 hq => ?_
  obtain ⟨ds, rfl, hq⟩ := tupD_inv hq
  obtain ⟨p, vs, rfl, st, l⟩ := i1.tup_inv
  exact ⟨p, vs, rfl, same_t n1.s st, k _ _ F1 H1 n1 i1 hq⟩⟩
theorem x_tupT {x : EX K} (hm : X.mg "tuple" = none) (h : pE K X a x) (hg : Gl X "tuple" := by rfl) (hs : starEach [a] X.env = [(false, eval a X.env)] := by rfl) : pE K X (.Call (.Name "tuple" p) [a] [] pos) (eTupT x) := by
  have hk0 : X.K = K := h.k
  subst hk0
  exact ⟨rfl, pe_callTy call_tupleT hg hm (by decide +kernel) (pa1 h.h hs) (by decide +kernel) (by decide +kernel) hs (by rfl)⟩
/-- a dict that is lent -/
def DicL (K : PySem.W.Frag) (kvs : List (Key × D)) : Lob := ⟨fun F H p => ∃ ws, H p = some (.dK ws) ∧ IsM K F ws kvs, fun hF hH h => by
  obtain ⟨ws, a, b⟩ := h
  exact ⟨ws, hH _ _ a (fun C dx z => by cases z), b.mono hF⟩⟩
def dlD (K : PySem.W.Frag) (e : Ent) (Q : List (Key × D) → Prop) : Prop := ∃ kvs, ((∃ fp, e = .big (DicB K kvs) fp) ∨ e = .lob (DicL K kvs)) ∧ Q kvs
theorem dl_at {Z F0 F H : Hp} {σ : L2.St} {δ : List Ent} {i : Nat} {kvs : List (Key × D)} (ok : Ok K Z F0 F H σ δ) (h : (∃ fp, nth δ i = .big (DicB K kvs) fp) ∨ nth δ i = .lob (DicL K kvs)) : ∃ p ws, σ[i]? = some (some (.ref p)) ∧ H p = some (.dK ws) ∧ IsM K F ws kvs := by
  rcases h with ⟨fp, h⟩ | h
  · obtain ⟨p, ws, a, b, c, _⟩ := dic_at ok h
    exact ⟨p, ws, a, b, c⟩
  · have hs := ok.at_ i
    rw [h] at hs
    obtain ⟨p, a, ws, h1, h2⟩ := hs
    exact ⟨p, ws, a, ok.nx.h _ _ h1, h2⟩
def aDic (i : Nat) (r : AX K) : AX K := ⟨tCons (tVar i) r.t, fun δ Q => dlD K (nth δ i) fun kvs => r.w δ fun as => Q (.lob (DicL K kvs) :: as), fun δ Q hw Z F0 F H σ ok Q' k => by
  obtain ⟨kvs, h, hw⟩ := hw
  obtain ⟨p, ws, a, h1, h2⟩ := dl_at ok h
  refine ⟨_, a, ?_⟩
  refine r.ok δ _ hw Z F0 F H σ ok _ fun as vs F2 H2 n2 i2 hq => ?_
  exact k (.lob (DicL K kvs) :: as) (.ref p :: vs) F2 H2 n2 ⟨⟨p, rfl, ws, n2.h _ _ h1, h2.mono n2.f⟩, i2⟩ hq⟩
theorem a_dic (i : Nat) {n : Str} {y : AX K} (r : pA K X es y) (hN : X.N[i]? = some n := by rfl) (hv : Vis X.env.scope n := by first | exact Or.inl rfl | exact Or.inr (Or.inl rfl) | exact Or.inr (Or.inr rfl)) (hd : (n == ("__debug__" : Str)) = false := by decide +kernel)
    (hcd : (n == ("__classdict__" : Str)) = false := by decide +kernel) (hs : starEach (.Name n q :: es) X.env = (false, eval (.Name n q) X.env) :: starEach es X.env := by rfl) : pA K X (.Name n q :: es) (aDic i y) := by
  have hk0 : X.K = K := r.k
  subst hk0
  exact ⟨rfl, pa_cons (pe_var hN hv hd hcd) r.h hs⟩
def valM (kvs : List (Key × D)) (k : Key) : Option D := (kvs.find? fun kv => decide (kv.1 = k)).map (·.2)
theorem isM_val {F : Hp} (k : Key) : ∀ {kvs : List (Key × D)} {ws : List (Key × V)}, IsM K F ws kvs → (valV ws k = none ∧ valM kvs k = none) ∨ ∃ v d, valV ws k = some v ∧ valM kvs k = some d ∧ Is K F v d
  | [], ws, h => by rw [h.inv_nil]; exact .inl ⟨rfl, rfl⟩
  | (j, d) :: kvs, ws, h => by
    obtain ⟨v, us, rfl, h1, h2⟩ := h.inv
    by_cases e : j = k
    · exact .inr ⟨v, d, valV_pos (p := (j, v)) e, by simp [valM, List.find?_cons, e], h1⟩
    · have e1 : valV ((j, v) :: us) k = valV us k := valV_neg (p := (j, v)) e
      have e2 : valM ((j, d) :: kvs) k = valM kvs k := by simp [valM, List.find?_cons, e]
      rw [e1, e2]
      exact isM_val k h2
theorem valM_map (k j : Key) (y : D) : ∀ kvs : List (Key × D), valM (kvs.map fun kv => if kv.1 = k then (kv.1, y) else kv) j = (valM kvs j).map fun x => if j = k then y else x
  | [] => rfl
  | (a, d) :: r => by
    have ih := valM_map k j y r
    unfold valM at ih ⊢
    rw [List.map_cons, List.find?_cons, List.find?_cons]
    by_cases h1 : a = k
    · rw [if_pos h1]
      by_cases h2 : a = j
      · simp [h2, ← h1]
      · simp [h2]
        simpa using ih
    · rw [if_neg h1]
      by_cases h2 : a = j
      · have : ¬ j = k := fun z => h1 (h2.trans z)
        simp [h2, this]
      · simp [h2]
        simpa using ih
theorem valM_has (k : Key) : ∀ kvs : List (Key × D), hasK kvs k = (valM kvs k).isSome
  | [] => rfl
  | (a, d) :: r => by
    have ih := valM_has k r
    unfold valM hasK at ih ⊢
    rw [List.find?_cons, List.any_cons]
    by_cases h : a = k
    · simp [h]
    · simp [h]
      simpa using ih
theorem valM_snoc (k j : Key) (y : D) : ∀ kvs : List (Key × D), valM kvs k = none → valM (kvs ++ [(k, y)]) j = if j = k then some y else valM kvs j
  | [], _ => by
    unfold valM
    by_cases h : k = j
    · simp [h]
    · rw [if_neg (fun z : j = k => h z.symm)]
      simp [h]
  | (a, d) :: r, hn => by
    unfold valM at hn ⊢
    rw [List.find?_cons] at hn
    by_cases h1 : a = k
    · simp [h1] at hn
    · simp [h1] at hn
      have ih := valM_snoc k j y r (by unfold valM; simpa using hn)
      unfold valM at ih
      rw [List.cons_append, List.find?_cons, List.find?_cons]
      by_cases h2 : a = j
      · have : ¬ j = k := fun z => h1 (h2.trans z)
        simp [h2, this]
      · simp [h2]
        simpa using ih
theorem valM_put (kvs : List (Key × D)) (k j : Key) (y : D) : valM (putM kvs k y) j = if j = k then some y else valM kvs j := by
  unfold putM
  rw [valM_has]
  split
  · rename_i h
    rw [valM_map]
    by_cases e : j = k
    · subst e
      cases q : valM kvs j with
      | none => rw [q] at h; cases h
      | some x => simp
    · rw [if_neg e]
      cases valM kvs j with
      | none => rfl
      | some x => simp [e]
  · rename_i h
    exact valM_snoc k j y kvs (by cases q : valM kvs k with | none => rfl | some x => rw [q] at h; exact absurd rfl h)
theorem putM_len (kvs : List (Key × D)) (k : Key) (y : D) : (putM kvs k y).length ≤ kvs.length + 1 := by
  unfold putM
  split
  · rw [List.length_map]; omega
  · rw [List.length_append]; exact Nat.le_refl _
def eDGetD (i : Nat) (x y : EX K) : EX K := ⟨tDGet2 (tVar i) x.t y.t, fun δ Q => dlD K (nth δ i) fun kvs => x.w δ fun d => y.w δ fun e => ∃ k, keyD d = some k ∧ Q ((valM kvs k).getD e), fun δ Q hw Z F0 F H σ ok Q' k => by
  obtain ⟨kvs, h, hw⟩ := hw
  obtain ⟨p, ws, a, h1, h2⟩ := dl_at ok h
  refine ⟨_, a, p, rfl, .inl ⟨ws, .inl h1⟩, ?_⟩
  refine x.ok δ _ hw Z F0 F H σ ok _ fun d v F1 H1 n1 i1 hw1 => ?_
  refine y.ok δ _ hw1 Z F0 F1 H1 σ (ok.next n1) _ fun e u F2 H2 n2 i2 hw2 => ?_
  obtain ⟨k', hk, hq⟩ := hw2
  have n12 := n1.trans n2
  refine ⟨valV ws k', by rw [key_is i1 hk]; exact DGet.k (n12.h _ _ h1), ?_⟩
  rcases isM_val k' (h2.mono n12.f) with ⟨e1, e2⟩ | ⟨v', d', e1, e2, hi⟩
  · rw [e1]
    rw [e2] at hq
    exact k _ _ F2 H2 n12 i2 hq
  · rw [e1]
    rw [e2] at hq
    exact k _ _ F2 H2 n12 hi hq⟩
theorem x_dgetd (i : Nat) {k : Nat} {n : Str} {x y : EX K} (hr : Room k X.A) (h : pE K X e1 x) (h2 : pE K X f y) (hN : X.N[i]? = some n := by rfl) (hv : Vis X.env.scope n := by first | exact Or.inl rfl | exact Or.inr (Or.inl rfl) | exact Or.inr (Or.inr rfl)) (hd : (n == ("__debug__" : Str)) = false := by decide +kernel)
    (hcd : (n == ("__classdict__" : Str)) = false := by decide +kernel) (m : M2 X (.Name n q) "get" apos e1 f cpos := by exact ⟨rfl, rfl, rfl, rfl⟩) (hu : X.A.units + 1 < cLine := by exact Nat.lt_of_le_of_lt (Nat.add_le_add_left (by decide) _) hr.units) :
    pE K X (.Call (.Attribute (.Name n q) "get" apos) [e1, f] [] cpos) (eDGetD i x y) := by
  have hk0 : X.K = K := h.k
  subst hk0
  exact ⟨rfl, pe_dget2 hu (pe_var hN hv hd hcd) h.h h2.h m⟩
def eLenD (i : Nat) : EX K := ⟨tCB (fun xs H Q => ∃ a kvs, xs = [V.ref a] ∧ H a = some (.dK kvs) ∧ Q (.int kvs.length) H) (tCons (tVar i) tNil), fun δ Q => dlD K (nth δ i) fun kvs => Q (.int (kvs.length : Int)), fun δ Q hw Z F0 F H σ ok Q' k => by
  obtain ⟨kvs, h, hq⟩ := hw
  obtain ⟨p, ws, a, h1, h2⟩ := dl_at ok h
  refine ⟨_, a, p, ws, rfl, h1, ?_⟩
  rw [isM_len h2]
  exact k _ _ F H (.refl ok.nx.s) (.int _) hq⟩
theorem x_lenD (i : Nat) {n : Str} (hm : X.mg "len" = none) (hN : X.N[i]? = some n := by rfl) (hv : Vis X.env.scope n := by first | exact Or.inl rfl | exact Or.inr (Or.inl rfl) | exact Or.inr (Or.inr rfl)) (hd : (n == ("__debug__" : Str)) = false := by decide +kernel)
    (hcd : (n == ("__classdict__" : Str)) = false := by decide +kernel) (hg : Gl X "len" := by rfl) (hs : starEach [.Name n q] X.env = [(false, eval (.Name n q) X.env)] := by rfl) (hk : X.K = K := by rfl) : pE K X (.Call (.Name "len" p) [.Name n q] [] pos) (eLenD i) := by
  have hk0 : X.K = K := hk
  subst hk0
  exact ⟨rfl, pe_callB call_lenD hg hm boot_len (pa1 (pe_var hN hv hd hcd) hs) (by decide +kernel) (by decide +kernel) hs (by rfl)⟩
end
end PL
namespace PL
open PySem PySem.Spec PyProof.Rows L2
/-! one's own lists: pop, insert; handed over to a def that changes them and gives them back -/
section
variable {K : PySem.W.Frag} {X : Cx} {a b c e1 e2 : Expr} {es : List Expr} {p pos q apos cpos : Pos}
theorem isl_erase {F : Hp} : ∀ {vs : List V} {ds : List D} (j : Nat), IsL K F vs ds → IsL K F (vs.eraseIdx j) (ds.eraseIdx j)
  | vs, [], j, l => by rw [l.inv_nil]; exact .nil
  | vs, d :: ds, j, l => by
    obtain ⟨v, ws, rfl, h1, h2⟩ := l.inv_cons
    cases j with
    | zero => exact h2
    | succ j => exact .cons h1 (isl_erase j h2)
theorem isl_take {F : Hp} : ∀ {vs : List V} {ds : List D} (j : Nat), IsL K F vs ds → IsL K F (vs.take j) (ds.take j)
  | vs, [], j, l => by rw [l.inv_nil, List.take_nil, List.take_nil]; exact .nil
  | vs, d :: ds, j, l => by
    obtain ⟨v, ws, rfl, h1, h2⟩ := l.inv_cons
    cases j with
    | zero => exact .nil
    | succ j => exact .cons h1 (isl_take j h2)
theorem isl_drop {F : Hp} : ∀ {vs : List V} {ds : List D} (j : Nat), IsL K F vs ds → IsL K F (vs.drop j) (ds.drop j)
  | vs, [], j, l => by rw [l.inv_nil, List.drop_nil, List.drop_nil]; exact .nil
  | vs, d :: ds, j, l => by
    obtain ⟨v, ws, rfl, h1, h2⟩ := l.inv_cons
    cases j with
    | zero => exact l
    | succ j => exact isl_drop j h2
def sPopAt (i : Nat) (e : EX K) : SX K := ⟨tDrop (tBM K "list" rPopAt (tVar i) (tCons e.t tNil)), fun δ E => ownD (nth δ i) fun ds => ds.length ≤ 4000000 ∧ e.w δ fun d => intD d fun k => ∃ j, ixN ds.length k = some j ∧ E.nx (put δ i (.own (ds.eraseIdx j))), fun δ E hw Z F0 F H σ D ok ke => by
  obtain ⟨ds, hi, hb, hw⟩ := ownD_inv hw
  have hs := ok.at_ i
  rw [hi] at hs
  obtain ⟨p, vs, a, b, c, z, l⟩ := hs
  refine ⟨_, a, .inl ⟨rfl, _, SqL.of b⟩, ?_⟩
  refine e.ok δ _ hw Z F0 F H σ ok _ fun d v F1 H1 n1 i1 hq => ?_
  obtain ⟨k, rfl, j, hj, hq⟩ := intD_inv hq
  obtain ⟨h1, h2, h3, h4⟩ := ixN_seq hj
  have l1 := l.mono n1.f
  obtain ⟨y, hy, iy⟩ := l1.get (List.getElem?_eq_getElem h2)
  refine ⟨p, vs, k, j, y, rfl, by rw [i1.int_inv], n1.h _ _ b, by omega, by omega, by rw [l.1]; exact h1, hy, ?_⟩
  exact ke.nx _ F1 _ σ ((ok.next n1).chg hi a (isl_erase j l1)) hq⟩
theorem s_popAt (i : Nat) {x : Str} {e : EX K} (he : pE K X a e) (hN : X.N[i]? = some x := by rfl) (hv : Vis X.env.scope x := by first | exact Or.inl rfl | exact Or.inr (Or.inl rfl)) (hd : (x == ("__debug__" : Str)) = false := by decide +kernel)
    (hcd : (x == ("__classdict__" : Str)) = false := by decide +kernel) (hbase : attributeBase (.Name x q) "pop" X.env (eval (.Name x q) X.env) = eval (.Name x q) X.env := by rfl)
    (hfew : ((backTo cpos (starEach [a] X.env)).all (fun x => !x.1) && (backToKw cpos (keywordEach [] X.env)).all (fun x => x.1.isSome) && decide (([a] : List Expr).length + ([] : List Keyword).length + (if ([] : List Keyword).isEmpty then 0 else 1) < 30)) = true := by rfl)
    (hline : (apos.endLine == cpos.line) = true := by rfl) (hs : starEach [a] X.env = [(false, eval a X.env)] := by rfl) (hsw : swapsWith (.Call (.Attribute (.Name x q) "pop" apos) [a] [] cpos) none pos.line X.env = pure false := by rfl) :
    pS K X (.Expr (.Call (.Attribute (.Name x q) "pop" apos) [a] [] cpos) pos) (sPopAt i e) := by
  have hk0 : X.K = K := he.k
  subst hk0
  exact ⟨rfl, ps_expr (pe_bm PySem.F.plainAttrs_list PySem.F.slot_list_pop PySem.F.type_list_pop mt_popAt (pe_var hN hv hd hcd) (pa1 he.h hs) hbase hfew hline hs (by rfl)) hsw⟩
def rIns : V → List V → Hp → VK → Prop := fun x vs H Q => ∃ (l : Addr) (xs : List V) (i : Int) (y : V), x = .ref l ∧ vs = [.int i, y] ∧ H l = some (.lst xs) ∧ xs.length < sizeLine ∧ 0 ≤ i ∧ i < 2 ^ 63 ∧ Q .non (upd H l (.lst (xs.take i.toNat ++ [y] ++ xs.drop i.toNat)))
def sIns (i : Nat) (x e : EX K) : SX K := ⟨tDrop (tBM K "list" rIns (tVar i) (tCons x.t (tCons e.t tNil))), fun δ E => ownD (nth δ i) fun ds => ds.length < 4000000 ∧ x.w δ fun d => intD d fun k => (0 ≤ k ∧ k ≤ 4000000) ∧ e.w δ fun y => E.nx (put δ i (.own (ds.take k.toNat ++ [y] ++ ds.drop k.toNat))), fun δ E hw Z F0 F H σ D ok ke => by
  obtain ⟨ds, hi, hb, hw⟩ := ownD_inv hw
  have hs := ok.at_ i
  rw [hi] at hs
  obtain ⟨p, vs, a, b, c, z, l⟩ := hs
  refine ⟨_, a, .inl ⟨rfl, _, SqL.of b⟩, ?_⟩
  refine x.ok δ _ hw Z F0 F H σ ok _ fun d v F1 H1 n1 i1 hq => ?_
  obtain ⟨k, rfl, ⟨k0, k1⟩, hq⟩ := intD_inv hq
  refine e.ok δ _ hq Z F0 F1 H1 σ (ok.next n1) _ fun y u F2 H2 n2 i2 hq => ?_
  have n12 := n1.trans n2
  have l2 := l.mono n12.f
  refine ⟨p, vs, k, u, rfl, by rw [i1.int_inv], n12.h _ _ b, by rw [l.1, sizeLine_eq]; omega, k0, by omega, ?_⟩
  exact ke.nx _ F2 _ σ ((ok.next n12).chg hi a (((isl_take _ l2).snoc i2).app (isl_drop _ l2))) hq⟩
theorem s_ins (i : Nat) {x : Str} {ix e : EX K} (hx : pE K X a ix) (he : pE K X b e) (hN : X.N[i]? = some x := by rfl) (hv : Vis X.env.scope x := by first | exact Or.inl rfl | exact Or.inr (Or.inl rfl)) (hd : (x == ("__debug__" : Str)) = false := by decide +kernel)
    (hcd : (x == ("__classdict__" : Str)) = false := by decide +kernel) (hbase : attributeBase (.Name x q) "insert" X.env (eval (.Name x q) X.env) = eval (.Name x q) X.env := by rfl)
    (hfew : ((backTo cpos (starEach [a, b] X.env)).all (fun x => !x.1) && (backToKw cpos (keywordEach [] X.env)).all (fun x => x.1.isSome) && decide (([a, b] : List Expr).length + ([] : List Keyword).length + (if ([] : List Keyword).isEmpty then 0 else 1) < 30)) = true := by rfl)
    (hline : (apos.endLine == cpos.line) = true := by rfl) (hs : starEach [a, b] X.env = (false, eval a X.env) :: starEach [b] X.env := by rfl) (hs2 : starEach [b] X.env = [(false, eval b X.env)] := by rfl) (hpl : (backTo cpos (starEach [b] X.env)).any (·.1) = false := by rfl)
    (hsw : swapsWith (.Call (.Attribute (.Name x q) "insert" apos) [a, b] [] cpos) none pos.line X.env = pure false := by rfl) :
    pS K X (.Expr (.Call (.Attribute (.Name x q) "insert" apos) [a, b] [] cpos) pos) (sIns i ix e) := by
  have hk0 : X.K = K := he.k
  subst hk0
  exact ⟨rfl, ps_expr (pe_bm PySem.F.plainAttrs_list PySem.F.slot_list_insert PySem.F.type_list_insert mt_insert (pe_var hN hv hd hcd) (pa_cons hx.h (pa1 he.h hs2) hs) hbase hfew hline hs hpl) hsw⟩
/-! a list handed over -/
abbrev VSp := List D → List D → (List D → Prop) → Prop
def spOfV (K : PySem.W.Frag) (R : VSp) : Sp := fun vs H Q _ => ∃ (F : Hp) (ws : List V) (p : Addr) (us : List V) (ds ls : List D) (P : List D → Prop), vs = ws ++ [.ref p] ∧ Same F H ∧ H p = some (.lst us) ∧ F p = none ∧ IsL K F us ls ∧ IsL K F ws ds ∧ R ds ls P ∧
  ∀ ls' r us' F' H', P ls' → Same F F' → Same F' H' → (∀ q o, q ≠ p → H q = some o → H' q = some o) → (∀ q, q ≠ p → H q ≠ none → F q = none → F' q = none) → (r = p ∨ H r = none) → H' r = some (.lst us') → F' r = none → IsL K F' us' ls' → Q (.ref r) H'
structure VA (K : PySem.W.Frag) (j : Nat) where
  t : TA
  w : List Ent → (List D → Prop) → Prop
  ok : ∀ δ Q, w δ Q → ∀ Z F0 F H σ, Ok K Z F0 F H σ δ → ∀ p, σ[j]? = some (some (.ref p)) → ∀ Q' : List V → Hp → Prop, (∀ ds ws F' H', Nx F H F' H' → IsL K F' ws ds → Q ds → Q' (ws ++ [.ref p]) H') → t σ H Q'
def vaNil (j : Nat) : VA K j := ⟨tCons (tVar j) tNil, fun δ Q => Q [], fun δ Q hw Z F0 F H σ ok p hp Q' k => ⟨_, hp, k [] [] F H (.refl ok.nx.s) .nil hw⟩⟩
def vaCons {j : Nat} (x : EX K) (r : VA K j) : VA K j := ⟨tCons x.t r.t, fun δ Q => x.w δ fun d => r.w δ fun ds => Q (d :: ds), fun δ Q hw Z F0 F H σ ok p hp Q' k => by
  refine x.ok δ _ hw Z F0 F H σ ok _ fun d v F1 H1 n1 i1 hw1 => ?_
  refine r.ok δ _ hw1 Z F0 F1 H1 σ (ok.next n1) p hp _ fun ds ws F2 H2 n2 l2 hq => ?_
  exact k (d :: ds) (v :: ws) F2 H2 (n1.trans n2) (.cons (i1.mono n2.f) l2) hq⟩
theorem Ok.chgV {Z F0 F H F' H' : Hp} {σ : L2.St} {δ : List Ent} {j : Nat} {p r : Addr} {ls ls' : List D} {us' : List V} (ok : Ok K Z F0 F H σ δ) (hi : nth δ j = .own ls) (hx : σ[j]? = some (some (.ref p))) (g1 : Same F F') (g2 : Same F' H') (g3 : ∀ q o, q ≠ p → H q = some o → H' q = some o)
    (g4 : ∀ q, q ≠ p → H q ≠ none → F q = none → F' q = none) (g5 : r = p ∨ H r = none) (g6 : H' r = some (.lst us')) (g7 : F' r = none) (g8 : IsL K F' us' ls') : Ok K Z F0 F' H' (σ.set j (some (.ref r))) (put δ j (.own ls')) := by
  have hm := (ok.at_ j).mine (q := p) (by rw [hi]; exact hx)
  have nz : ∀ q, Z q ≠ none → q ≠ p := fun q h z => h (by rw [z]; exact hm.2.2)
  have own : ∀ k q, k ≠ j → (nth δ k).has σ[k]? q → q ≠ p := fun k q hk h z => hk (ok.ow k j p (by rw [← z]; exact h) (by rw [hi]; exact hx))
  have zr : Z r = none := by
    rcases g5 with e | e
    · rw [e]; exact hm.2.2
    · exact ok.nx.h.free e
  refine ok.chgE ⟨ok.nx.f.trans g1, fun q o e => g3 q o (nz q (by rw [e]; simp)) (ok.nx.h q o e), fun q hz hf => g4 q (nz q hz) (PL.Same.ne_none ok.nx.h hz) (ok.nx.g q hz hf), g2⟩ (by rw [List.length_set]) (fun k hk => List.getElem?_set_ne (Ne.symm hk)) (fun hj => ⟨r, us', by rw [List.getElem?_set_self (by rw [ok.len]; exact hj)], g6, g7, zr, g8⟩)
    (fun k hk => (ok.at_ k).frame g1 (fun q hq => g4 q (own k q hk hq) ((ok.at_ k).mine hq).1 ((ok.at_ k).mine hq).2.1) (fun q hq => ?_)) (fun k q hk h hj z => ?_)
  · have h1 := ((ok.at_ k).mine hq).1
    cases e : H q with
    | none => exact absurd e h1
    | some o => exact g3 q o (own k q hk hq) e
  · have z' : (σ.set j (some (.ref r)))[j]? = some (some (.ref q)) := z
    rw [List.getElem?_set_self (by rw [ok.len]; exact hj)] at z'
    cases z'
    rcases g5 with e | e
    · exact own k _ hk h e
    · exact ((ok.at_ k).mine h).1 e
def sSetV (R : VSp) (j : Nat) (y : VA K j) : SX K := ⟨tAsg (tCall (spOfV K R) [] E0 y.t) (gName j), fun δ E => ownD (nth δ j) fun ls => y.w δ fun ds => R ds ls fun ls' => E.nx (put δ j (.own ls')), fun δ E hw Z F0 F H σ D ok ke => by
  obtain ⟨ls, hi, hw⟩ := ownD_inv hw
  have hs := ok.at_ j
  rw [hi] at hs
  obtain ⟨p, us, a, b, c, z, l⟩ := hs
  refine y.ok δ _ hw Z F0 F H σ ok p a _ fun ds ws F1 H1 n1 l1 hR => ?_
  show spOfV K R ((ws ++ [.ref p]) ++ []) H1 _ E0
  rw [List.append_nil]
  refine ⟨F1, ws, p, us, ds, ls, _, rfl, n1.s, n1.h _ _ b, n1.g p (by rw [b]; simp) c, l.mono n1.f, l1, hR, fun ls' r us' F' H' hq g1 g2 g3 g4 g5 g6 g7 g8 => ?_⟩
  exact ke.nx _ F' H' _ ((ok.next n1).chgV hi a g1 g2 g3 g4 g5 g6 g7 g8) hq⟩
structure pV (K : PySem.W.Frag) (X : Cx) {j : Nat} (es : List Expr) (y : VA K j) : Prop where
  k : X.K = K
  h : PA X es y.t
theorem v_nil (j : Nat) {n : Str} (hN : X.N[j]? = some n := by rfl) (hv : Vis X.env.scope n := by first | exact Or.inl rfl | exact Or.inr (Or.inl rfl) | exact Or.inr (Or.inr rfl)) (hd : (n == ("__debug__" : Str)) = false := by decide +kernel)
    (hcd : (n == ("__classdict__" : Str)) = false := by decide +kernel) (hs : starEach [.Name n q] X.env = [(false, eval (.Name n q) X.env)] := by rfl) (hk : X.K = K := by rfl) : pV K X [.Name n q] (vaNil (K := K) j) := by
  exact ⟨hk, pa1 (pe_var hN hv hd hcd) hs⟩
theorem v_cons {j : Nat} {x : EX K} {y : VA K j} (h : pE K X a x) (r : pV K X es y) (hs : starEach (a :: es) X.env = (false, eval a X.env) :: starEach es X.env := by rfl) : pV K X (a :: es) (vaCons x y) := ⟨h.k, pa_cons h.h r.h hs⟩
def CalV (P : Program) (w : World) (K : PySem.W.Frag) (mg : Str → Option Value) (base : Heap) (x : Str) (k : Nat) (ps : List Str) (R : VSp) : Prop := ∃ f fd, FnOk P w K mg base CX0 k f fd ps (spOfV K R) ∧ mg x = some (.ref f) ∧ PySem.W.keepIn K (.ref f) = true ∧ Binds K fd ps []
theorem CalV.mk {P : Program} {w : World} {mg : Str → Option Value} {base : Heap} {x qual : Str} {st : Stmt} {f : Addr} {fd : FuncData} {k : Nat} {ps : List Str} {R : VSp} (Fn : Fun K x qual st f fd) (F : FnOk P w K mg base CX0 k f fd ps (spOfV K R)) (m : mg x = some (.ref f)) (b : Binds K fd ps []) : CalV P w K mg base x k ps R := ⟨f, fd, F, m, Fn.kp, b⟩
theorem s_setV (i : Nat) {n x : Str} {ps : List Str} {j k : Nat} {R : VSp} {y : VA K i} {e : Expr} {p2 p3 : Pos} (cc : CalV X.prog X.w K X.mg X.base x k ps R) (hr : Room j X.A) (hN : X.N.Nodup) (h : pV K X (e :: es) y) (hi : X.N[i]? = some n := by rfl) (hx : Loc X.env.scope n := by first | exact Or.inl rfl | exact Or.inr rfl)
    (hjk : k ≤ j := by decide) (hg : Gl X x := by rfl) (hd : (x == ("__debug__" : Str)) = false := by decide +kernel)
    (hst : starEach (e :: es) X.env = (false, eval e X.env) :: starEach es X.env := by rfl) (hpl : (backTo pos (starEach es X.env)).any (·.1) = false := by rfl)
    (hs : swapsWith (.Call (.Name x p) (e :: es) [] pos) (some (.Name n p2)) p3.line X.env = pure false := by rfl)
    (hf : X.fn n = true ∨ X.env.scope.names.lookup n = some .local := by first | exact .inl rfl | exact .inr rfl | assumption) : pS K X (.Assign [.Name n p2] (.Call (.Name x p) (e :: es) [] pos) p3) (sSetV R i y) := by
  have hk0 : X.K = K := h.k
  subst hk0
  obtain ⟨f, fd, F, m, kp, b⟩ := cc
  exact ⟨rfl, ps_set hN hi hx (pe_call F (hr.mono hjk) hg m kp b .nil pass0 h.h (hdb := hd) (he := hst) (hpl := hpl)) hs hf⟩
theorem nth_map {ds : List D} {i : Nat} {d : D} (h : ds[i]? = some d) : nth (ds.map Ent.dat) i = .dat d := by
  induction ds generalizing i with
  | nil => simp at h
  | cons x xs ih =>
    cases i with
    | zero =>
      have : x = d := by simpa using h
      subst this
      rfl
    | succ i => exact ih (by simpa using h)
theorem fnokV {P : Program} {w : World} {mg : Str → Option Value} {base : Heap} {x qual : Str} {st : Stmt} {f : Addr} {fd : FuncData} {N ps : List Str} {k : Nat} {R : VSp} (Fn : Fun K x qual st f fd) (S : FnScope N ps (defScope st))
    (len : ∀ ds ls P, R ds ls P → ds.length + 1 = ps.length) (hl : ps.length ≤ N.length)
    (h : ∀ (cdv : Value) (A : Around) (outer : List Env) (s : Shared) (H : Hp) (E : XK), Room k (A.deeper (envOfC qual (defScope st) s.heap.objs.size f cdv)) → ∃ B : SX K,
      pB K (cxOf CX0 P w K mg base N qual (defScope st) f cdv A outer s H E).nox (defBody st) B ∧ ∀ ds ls Q, R ds ls Q → B.w (ds.map .dat ++ (.own ls :: nos (N.length - (ds.length + 1)))) { nx := fun _ => False, rt := fun _ => False, rl := Q }) : FnOk P w K mg base CX0 (k + 1) f fd ps (spOfV K R) := by
  refine Fn.ok S (fun vs H Q E h => ?_) (fun cdv A outer s H vs Q E hr hsp => ?_)
  · obtain ⟨F, ws, p, us, ds, ls, P, rfl, _, _, _, _, lw, hR, _⟩ := h
    have := len ds ls P hR
    rw [List.length_append, lw.1]
    exact this
  · obtain ⟨F, ws, p, us, ds, ls, P, rfl, sf, hp, hfp, lu, lw, hR, kk⟩ := hsp
    obtain ⟨B, hB, hw⟩ := h cdv A outer s H E hr
    have hlen := len ds ls P hR
    have wl := lw.1
    let Z : Hp := fun q => if q = p then none else H q
    have zp : Z p = none := if_pos rfl
    have zn : ∀ q, q ≠ p → Z q = H q := fun q hq => if_neg hq
    have zs : Same Z H := fun q o e => by
      by_cases hq : q = p
      · rw [hq, zp] at e; cases e
      · rw [← zn q hq]; exact e
    have st : ∀ i, (L2.start N (ws ++ [.ref p]))[i]? = if i < ds.length then (ws.map some)[i]? else if i = ds.length then some (some (.ref p)) else (L2.start N (ws ++ [.ref p]))[i]? := fun i => by
      split
      · rename_i hi
        unfold L2.start
        rw [List.map_append, List.append_assoc, List.getElem?_append_left (by rw [List.length_map]; omega)]
      · split
        · rename_i hi
          unfold L2.start
          rw [List.map_append, List.append_assoc, List.getElem?_append_right (by rw [List.length_map]; omega), List.length_map, hi, wl, Nat.sub_self]
          rfl
        · rfl
    have en : ∀ i, nth (ds.map Ent.dat ++ (.own ls :: nos (N.length - (ds.length + 1)))) i = if i < ds.length then nth (ds.map Ent.dat) i else if i = ds.length then .own ls else .no := fun i => by
      rw [nth_app, List.length_map]
      split
      · rfl
      · split
        · rename_i hi
          rw [hi, Nat.sub_self]
          rfl
        · rename_i h1 h2
          obtain ⟨m, hm⟩ : ∃ m, i - ds.length = m + 1 := ⟨i - ds.length - 1, by omega⟩
          rw [hm]
          exact nth_nos _ _
    have m0 : ∀ i q, (nth (ds.map Ent.dat ++ (.own ls :: nos (N.length - (ds.length + 1)))) i).has (L2.start N (ws ++ [.ref p]))[i]? q → i = ds.length ∧ q = p := fun i q hq => by
      rw [en i] at hq
      split at hq
      · rename_i hi
        rw [nth_map (List.getElem?_eq_getElem hi)] at hq
        exact hq.elim
      · split at hq
        · rename_i h1 hi
          rw [st i, if_neg h1, if_pos hi] at hq
          refine ⟨hi, ?_⟩
          have hq : some (some (V.ref p)) = some (some (V.ref q)) := hq
          cases hq
          rfl
        · exact hq.elim
    have okS : Ok K Z F F H (L2.start N (ws ++ [.ref p])) (ds.map Ent.dat ++ (.own ls :: nos (N.length - (ds.length + 1)))) := by
      refine ⟨⟨.refl _, zs, fun _ _ h => h, sf⟩, ?_, fun i => ?_, fun i j q h1 h2 => ?_⟩
      · simp [L2.start, nos_len, wl]
      · rw [en i]
        split
        · rename_i hi
          rw [nth_map (List.getElem?_eq_getElem hi), st i, if_pos hi, List.getElem?_map, List.getElem?_eq_getElem (show i < ws.length by omega)]
          exact ⟨_, rfl, lw.2 i _ _ (List.getElem?_eq_getElem (by omega)) (List.getElem?_eq_getElem hi)⟩
        · split
          · rename_i h1 hi
            rw [st i, if_neg h1, if_pos hi]
            exact ⟨p, us, rfl, hp, hfp, zp, lu⟩
          · trivial
      · rw [(m0 i q h1).1, (m0 j q h2).1]
    refine ⟨B.t, hB.h, B.ok _ _ (hw ds ls P hR) Z F F H _ _ okS ⟨fun _ _ _ _ _ q => q.elim, fun _ _ _ _ _ _ q => q.elim, fun _ _ _ _ _ q => q.elim, fun _ _ _ _ _ q => q.elim, fun ls' r us' F' H' n hz hp' hf l q => ?_, fun _ _ _ _ _ _ _ _ _ _ _ _ _ _ _ _ _ q => q.elim, fun _ _ _ _ _ _ _ _ q => q.elim, fun _ _ _ _ _ _ _ _ _ q => q.elim, fun _ _ _ _ _ _ _ _ _ q => q.elim⟩⟩
    refine kk ls' r us' F' H' q n.f n.s (fun q o hq e => n.h q o (by rw [zn q hq]; exact e)) (fun q hq e ef => n.g q (by rw [zn q hq]; exact e) ef) ?_ hp' hf l
    by_cases hr' : r = p
    · exact .inl hr'
    · exact .inr (by rw [← zn r hr']; exact hz)
end
end PL
namespace PL
open PySem PySem.Spec PyProof.Rows L2
/-! max and min of a list of ints -/
section
variable {K : PySem.W.Frag} {X : Cx} {a b c : Expr} {es : List Expr} {p pos q : Pos}
def eMaxL (x : RX K) : EX K := ⟨tCB (rMax K) (tCons x.t tNil), fun δ Q => x.w δ fun ds => ∃ ns : List Int, ds = ns.map D.int ∧ ns ≠ [] ∧ ∀ m, m ∈ ns → (∀ y ∈ ns, y ≤ m) → Q (.int m), fun δ Q hw Z F0 F H σ ok Q' k => by
  refine x.ok δ _ hw Z F0 F H σ ok _ fun ds p vs F1 H1 n1 s l hq => ?_
  obtain ⟨ns, rfl, hn, hq⟩ := hq
  have e := ints_inv l
  subst e
  exact ⟨p, ns, rfl, s, List.length_pos_iff.mpr hn, fun m h1 h2 => k _ _ F1 H1 n1 (.int _) (hq m h1 h2)⟩⟩
theorem x_maxL {x : RX K} (hc : X.calm = true) (hm : X.mg "max" = none) (h : pR K X a x) (hg : Gl X "max" := by rfl) (hs : starEach [a] X.env = [(false, eval a X.env)] := by rfl) : pE K X (.Call (.Name "max" p) [a] [] pos) (eMaxL x) := by
  have hk0 : X.K = K := h.k
  subst hk0
  exact ⟨rfl, pe_callB (cr_max hc) hg hm (by decide +kernel) (pa1 h.h hs) (by decide +kernel) (by decide +kernel) hs (by rfl)⟩
def eMinL (x : RX K) : EX K := ⟨tCB (rMin K) (tCons x.t tNil), fun δ Q => x.w δ fun ds => ∃ ns : List Int, ds = ns.map D.int ∧ ns ≠ [] ∧ ∀ m, m ∈ ns → (∀ y ∈ ns, m ≤ y) → Q (.int m), fun δ Q hw Z F0 F H σ ok Q' k => by
  refine x.ok δ _ hw Z F0 F H σ ok _ fun ds p vs F1 H1 n1 s l hq => ?_
  obtain ⟨ns, rfl, hn, hq⟩ := hq
  have e := ints_inv l
  subst e
  exact ⟨p, ns, rfl, s, List.length_pos_iff.mpr hn, fun m h1 h2 => k _ _ F1 H1 n1 (.int _) (hq m h1 h2)⟩⟩
theorem x_minL {x : RX K} (hc : X.calm = true) (hm : X.mg "min" = none) (h : pR K X a x) (hg : Gl X "min" := by rfl) (hs : starEach [a] X.env = [(false, eval a X.env)] := by rfl) : pE K X (.Call (.Name "min" p) [a] [] pos) (eMinL x) := by
  have hk0 : X.K = K := h.k
  subst hk0
  exact ⟨rfl, pe_callB (cr_min hc) hg hm (by decide +kernel) (pa1 h.h hs) (by decide +kernel) (by decide +kernel) hs (by rfl)⟩
end
end PL
namespace PL
open PySem PySem.Spec PyProof.Rows L2
/-! max(xs, default=d) of a list of ints -/
section
variable {K : PySem.W.Frag} {X : Cx} {a b c : Expr} {es : List Expr} {p pos q kpos : Pos}
theorem foldl_max (ys : List Int) : ∀ y : Int, (ys.foldl (fun a z => if a < z then z else a) y ∈ y :: ys) ∧ ∀ z ∈ y :: ys, z ≤ ys.foldl (fun a z => if a < z then z else a) y := by
  induction ys with
  | nil => exact fun y => ⟨.head _, fun z hz => by rw [List.mem_singleton.mp hz]; exact Int.le_refl _⟩
  | cons x xs ih =>
    intro y
    rw [List.foldl_cons]
    obtain ⟨h1, h2⟩ := ih (if y < x then x else y)
    refine ⟨?_, fun z hz => ?_⟩
    · rcases List.mem_cons.mp h1 with e | e
      · rw [e]
        split
        · exact .tail _ (.head _)
        · exact .head _
      · exact .tail _ (.tail _ e)
    · have h0 := h2 _ (.head _)
      rcases List.mem_cons.mp hz with rfl | hz
      · exact Int.le_trans (by split <;> omega) h0
      · rcases List.mem_cons.mp hz with rfl | hz
        · exact Int.le_trans (by split <;> omega) h0
        · exact h2 z (.tail _ hz)
def rMaxD (K : PySem.W.Frag) : List V → List V → Hp → VK → Prop := fun vs zs H Q => ∃ (a : Addr) (ns : List Int) (d : Int), vs = [V.ref a] ∧ zs = [V.int d] ∧ SqL K H a (ns.map V.int) ∧ (ns = [] → Q (.int d) H) ∧ ∀ m, m ∈ ns → (∀ y ∈ ns, y ≤ m) → Q (.int m) H
theorem cr_maxD (hc : X.calm = true) (hu : X.A.units + 1 < cLine) : CallRK X (.builtin "max") ["default"] (rMaxD X.K) := by
  intro pins s σ H xs zs us ws Q I r1 r2 h
  obtain ⟨a, ns, d, rfl, rfl, hs, q0, q1⟩ := h
  obtain ⟨its, rv, hl, _⟩ := I.list hs
  rw [Vals.ref1 r1]
  cases r2 with
  | cons ry rr =>
    cases rr
    obtain ⟨t, rfl⟩ := ry
    show wpAny _ _ (call (.builtin "max") [.ref a] [(Str.ofString "default", .int d t)]) _ _ _
    refine PySem.W.max_list_datum_default (α := Int) (I.ok.hd hc) hl.isList (PySem.W.HoldAll.of_ints rv.ints) hu (fun e h' tk hk => ⟨.int d, H, I.kept hk, ⟨_, rfl⟩, q0 e⟩) (fun y ys i v h' tk e hi hv hk => ?_)
    obtain ⟨as, hr⟩ := hv
    cases hr
    subst e
    have z := foldl_max ys y
    refine ⟨.int _, H, I.kept hk, ⟨_, rfl⟩, q1 _ ?_ ?_⟩
    · have := z.1
      simpa [PySem.W.maxOf, PySem.W.DatumOrd.lt] using this
    · have := z.2
      simpa [PySem.W.maxOf, PySem.W.DatumOrd.lt] using this
def eMaxD (x : RX K) (y : EX K) : EX K := ⟨tCKw (rMaxD K) (tCons x.t tNil) (tCons y.t tNil), fun δ Q => x.w δ fun ds => y.w δ fun d => intD d fun k => ∃ ns : List Int, ds = ns.map D.int ∧ (ns = [] → Q (.int k)) ∧ ∀ m, m ∈ ns → (∀ y ∈ ns, y ≤ m) → Q (.int m), fun δ Q hw Z F0 F H σ ok Q' k => by
  refine x.ok δ _ hw Z F0 F H σ ok _ fun ds p vs F1 H1 n1 s l hq => ?_
  refine y.ok δ _ hq Z F0 F1 H1 σ (ok.next n1) _ fun d v F2 H2 n2 i2 hq => ?_
  obtain ⟨j, rfl, ns, rfl, h0, h1⟩ := intD_inv hq
  have e := ints_inv l
  subst e
  exact ⟨p, ns, j, rfl, by rw [i2.int_inv], n2.h.seq s, fun e => k _ _ F2 H2 (n1.trans n2) (.int _) (h0 e), fun m a1 a2 => k _ _ F2 H2 (n1.trans n2) (.int _) (h1 m a1 a2)⟩⟩
theorem x_maxD {k : Nat} {x : RX K} {y : EX K} (hc : X.calm = true) (hm : X.mg "max" = none) (hr : Room k X.A) (h : pR K X a x) (h2 : pE K X b y) (hg : Gl X "max" := by rfl) (hs : starEach [a] X.env = [(false, eval a X.env)] := by rfl)
    (he : backTo pos (starEach [a] X.env) = (false, eval a X.env) :: backTo pos (starEach [] X.env) := by rfl) (hpl : (backTo pos (starEach [a] X.env)).any (·.1) = false := by rfl)
    (hall : (backToKw pos (keywordEach [⟨some "default", b, kpos⟩] X.env)).all (·.1.isSome) = true := by rfl) (hnone : (backToKw pos (keywordEach [⟨some "default", b, kpos⟩] X.env)).any (·.1.isNone) = false := by rfl) (hks : (backToKw pos (keywordEach [⟨some "default", b, kpos⟩] X.env)).filterMap (·.1) = [("default" : Str)] := by rfl)
    (hu : X.A.units + 1 < cLine := by exact Nat.lt_of_le_of_lt (Nat.add_le_add_left (by decide) _) hr.units) : pE K X (.Call (.Name "max" p) [a] [⟨some "default", b, kpos⟩] pos) (eMaxD x y) := by
  have hk0 : X.K = K := h.k
  subst hk0
  exact ⟨rfl, pe_callBK (cr_maxD hc hu) hg hm (by decide +kernel) (pa1 h.h hs) (pk_cons h2.h pk_nil) (by decide +kernel) (by decide +kernel) he hpl hall hnone hks⟩
end
end PL
namespace PL
open PySem PySem.Spec PyProof.Rows L2
/-! return ('word', f(..)), f one that may raise -/
section
variable {K : PySem.W.Frag} {X : Cx} {a b c : Expr} {es : List Expr} {p pos q kpos : Pos}
def sRetTX (W : WX) (R : XSp) (z : Str) (a : AX K) : SX K := ⟨tRet (tTup (tCons (tC (.str z)) (tCons (tCallS (spOfX K R) (WE W) a.t) tNil))), fun δ E => E.W = W ∧ a.w δ fun as => R as (fun d => E.rt (.tup [.str z, d])) fun C fs => E.xw C fs δ, fun δ E hw Z F0 F H σ D ok ke => by
  obtain ⟨e, hw⟩ := hw
  refine a.ok δ _ hw Z F0 F H σ ok _ fun as vs F1 H1 n1 i1 hw1 => ?_
  refine ⟨F1, as, _, _, n1.s, i1, hw1, fun d v F' H' q n i' => ⟨small (by show 2 ≤ 1000; decide), fun p hp => ?_⟩, fun C fs d F' H' q n he => ?_⟩
  · have n2 : Nx F' H' _ _ := Nx.new (o := .tup [.str z, v]) n.s hp
    exact ke.rt _ _ _ _ (((ok.next n1).next n).next n2).nx (is_tup upd_same (.cons (.str z) (.cons (i'.mono n2.f) .nil))) q
  have := ke.xs C fs d δ F' H' σ ((ok.next n1).next n) he q
  rw [e] at this
  exact this⟩
theorem s_retTX {W : WX} {x z : Str} {ps : List Str} {j k m : Nat} {R : XSp} {y : AX K} {e : Expr} {tp rp : Pos} (cl : CalX X.prog X.w K X.mg X.base x k ps R) (tk : Takes X W) (hr : Room j X.A) (h0 : pE K X a (eS z)) (h : pA K X (e :: es) y)
    (hjk : k ≤ j := by decide) (hg : Gl X x := by rfl) (hd : (x == ("__debug__" : Str)) = false := by decide +kernel)
    (hst : starEach (e :: es) X.env = (false, eval e X.env) :: starEach es X.env := by rfl) (hpl : (backTo pos (starEach es X.env)).any (·.1) = false := by rfl)
    (h1 : starEach [a, .Call (.Name x p) (e :: es) [] pos] X.env = (false, eval a X.env) :: starEach [.Call (.Name x p) (e :: es) [] pos] X.env := by rfl)
    (h2 : starEach [.Call (.Name x p) (e :: es) [] pos] X.env = (false, eval (.Call (.Name x p) (e :: es) [] pos) X.env) :: starEach [] X.env := by rfl) :
    pS K X (.Return (some (.Tuple [a, .Call (.Name x p) (e :: es) [] pos] m tp)) rp) (sRetTX W R z y) := by
  have hk0 : X.K = K := h.k
  subst hk0
  obtain ⟨f, fd, F, mm, kp, bn⟩ := cl
  exact ⟨rfl, ps_ret (pe_tup (pa_cons h0.h (pa_cons (pe_callS F (hr.mono hjk) hg mm kp bn (fun σ => passAt tk σ) h.h (hdb := hd) (he := hst) (hpl := hpl)) pa_nil h2) h1))⟩
end
end PL
namespace PL
open PySem PySem.Spec PyProof.Rows L2
/-! for x in reversed(t), t a tuple -/
section
variable {K : PySem.W.Frag} {X : Cx} {a b c : Expr} {es : List Expr} {p pos q kpos : Pos}
theorem walk_revT {m : Bool} {Z F H : Hp} {l : Addr} {vs : List V} {ds : List D} (il : IsL K F vs ds) (sq : SqT K F l vs) : Walk K m Z F H (RT.ItvT K l vs.length) ds.length (fun i d => ds[ds.length - 1 - i]? = some d) := by
  intro i F1 H1 s1 s2 s3 s4
  have l1 := il.1
  have h1 := same_t s2 (same_t s1 sq)
  refine ⟨fun hi => ⟨⟨by omega, vs, vs[vs.length - 1 - i]'(by omega), h1, List.getElem?_eq_getElem _⟩, ?_⟩, fun hi => by show vs.length ≤ i; omega⟩
  rintro x H2 ⟨rfl, hx⟩
  have hd : ds[ds.length - 1 - i]? = some (ds[ds.length - 1 - i]'(by omega)) := List.getElem?_eq_getElem _
  have hv := hx vs h1
  rw [l1] at hv
  exact ⟨_, F1, .refl s2, (il.2 _ _ _ hv hd).mono s1, hd⟩
def iRevT (x : EX K) : IX K := ⟨false, RT.iRevA K x.t, fun δ Q => x.w δ fun d => tupD d fun ds => ds.length ≤ 4000000 ∧ Q ds.length fun i d => ds[ds.length - 1 - i]? = some d, fun δ Q hw Z F0 F H σ ok R k => by
  refine x.ok δ _ hw Z F0 F H σ ok _ fun d v F1 H1 n1 i1 hw1 => ?_
  obtain ⟨ds, rfl, hb, hq⟩ := tupD_inv hw1
  obtain ⟨l, vs, rfl, sq, il⟩ := i1.tup_inv
  exact ⟨l, vs, rfl, .inr ⟨same_t n1.s sq, k _ _ _ F1 H1 n1 (walk_revT il sq) hb hq⟩⟩⟩
theorem i_revT {tg : Expr} {x : EX K} (hm : X.mg "reversed" = none) (h : pE K X a x) (hg : Gl X "reversed" := by rfl) (hs : starEach [a] X.env = (false, eval a X.env) :: starEach [] X.env := by rfl) : pI K X tg (.Call (.Name "reversed" p) [a] [] pos) (iRevT x) := by
  have hk0 : X.K = K := h.k
  subst hk0
  exact ⟨rfl, RT.pi_revA hg hm h.h hs⟩
end
end PL
namespace PL
open PySem PySem.Spec PyProof.Rows L2
/-! zip of two tuples, reversed(range(a, b)), list(t), two except clauses with names -/
section
variable {K : PySem.W.Frag} {X : Cx} {a b c : Expr} {es : List Expr} {p pos q kpos : Pos}
theorem walk_zipT {m : Bool} {Z F H : Hp} {k l : Addr} {vs us : List V} {ds es : List D} (iv : IsL K F vs ds) (iu : IsL K F us es) (sv : SqT K F k vs) (su : SqT K F l us) :
    Walk K m Z F H (RZ.ItzT K k l) (min ds.length es.length) (fun i d => ∃ x y, d = .tup [x, y] ∧ ds[i]? = some x ∧ es[i]? = some y) := by
  intro i F1 H1 s1 s2 s3 s4
  have l1 := iv.1
  have l2 := iu.1
  have h1 := same_t s2 (same_t s1 sv)
  have h2 := same_t s2 (same_t s1 su)
  constructor
  · intro hi
    refine ⟨⟨vs, us, vs[i]'(by omega), us[i]'(by omega), h1, h2, List.getElem?_eq_getElem _, List.getElem?_eq_getElem _⟩, ?_⟩
    rintro x H2 ⟨T, v, u, rfl, hT, rfl, y1, y2⟩
    have hd : ds[i]? = some (ds[i]'(by omega)) := List.getElem?_eq_getElem _
    have he : es[i]? = some (es[i]'(by omega)) := List.getElem?_eq_getElem _
    have nw : Nx F1 H1 _ _ := Nx.new (o := .tup [v, u]) s2 hT
    exact ⟨_, _, nw, is_tup upd_same (.cons ((iv.2 i _ _ (y1 vs h1) hd).mono (s1.trans nw.f)) (.cons ((iu.2 i _ _ (y2 us h2) he).mono (s1.trans nw.f)) .nil)), _, _, rfl, hd, he⟩
  · intro hi
    exact ⟨vs, us, h1, h2, by omega⟩
def iZpT (x y : EX K) : IX K := ⟨false, RZ.iZipA K (tCons x.t (tCons y.t tNil)), fun δ Q => x.w δ fun d => y.w δ fun e => tupD d fun ds => tupD e fun es => min ds.length es.length ≤ 4000000 ∧ Q (min ds.length es.length) fun i d => ∃ x y, d = .tup [x, y] ∧ ds[i]? = some x ∧ es[i]? = some y, fun δ Q hw Z F0 F H σ ok R k => by
  refine x.ok δ _ hw Z F0 F H σ ok _ fun d v F1 H1 n1 i1 hw1 => ?_
  refine y.ok δ _ hw1 Z F0 F1 H1 σ (ok.next n1) _ fun e u F2 H2 n2 i2 hw2 => ?_
  obtain ⟨ds, rfl, hw3⟩ := tupD_inv hw2
  obtain ⟨es, rfl, hb, hq⟩ := tupD_inv hw3
  obtain ⟨p, vs, rfl, s, l⟩ := (i1.mono n2.f).tup_inv
  obtain ⟨q, us, rfl, t, m⟩ := i2.tup_inv
  exact ⟨p, q, vs, us, rfl, .inr ⟨same_t n2.s s, same_t n2.s t, k _ _ _ F2 H2 (n1.trans n2) (walk_zipT l m s t) hb hq⟩⟩⟩
theorem i_zpT {x y : EX K} {j : Nat} {tp : Pos} (hm : X.mg "zip" = none) (h : pE K X a x) (h2 : pE K X b y) (hg : Gl X "zip" := by rfl) (hs : starEach [a, b] X.env = [(false, eval a X.env), (false, eval b X.env)] := by rfl) (hs2 : starEach [b] X.env = [(false, eval b X.env)] := by rfl)
    (hs3 : starEach [a, b] X.env = (false, eval a X.env) :: starEach [b] X.env := by rfl) (hpl : (backTo pos (starEach [b] X.env)).any (·.1) = false := by rfl) : pI K X (.Tuple es j tp) (.Call (.Name "zip" p) [a, b] [] pos) (iZpT x y) := by
  have hk0 : X.K = K := h.k
  subst hk0
  exact ⟨rfl, RZ.pi_zipA hg hm (pa2 h.h h2.h hs hs2) hs3 hpl⟩
def iRev2 (x y : EX K) : IX K := ⟨false, iRevR (tRg2 x.t y.t), fun δ Q => x.w δ fun d => y.w δ fun e => intD d fun lo => intD e fun hi => (-2000000 ≤ lo ∧ lo ≤ 2000000 ∧ -2000000 ≤ hi ∧ hi ≤ 2000000) ∧ Q (hi - lo).toNat fun i d => d = .int (lo + ((hi - lo).toNat : Int) - 1 - (i : Nat)), fun δ Q hw Z F0 F H σ ok R k => by
  refine x.ok δ _ hw Z F0 F H σ ok _ fun d v F1 H1 n1 i1 hw1 => ?_
  refine y.ok δ _ hw1 Z F0 F1 H1 σ (ok.next n1) _ fun e u F2 H2 n2 i2 hw2 => ?_
  obtain ⟨lo, rfl, hw3⟩ := intD_inv hw2
  obtain ⟨hi, rfl, hb, hq⟩ := intD_inv hw3
  exact ⟨lo, hi, i1.int_inv, i2.int_inv, by omega, by omega, by omega, by omega, k _ _ _ F2 H2 (n1.trans n2) walk_rev (by omega) hq⟩⟩
theorem i_rev2 {tg : Expr} {x y : EX K} {p2 q2 : Pos} (hm : X.mg "reversed" = none) (hm2 : X.mg "range" = none) (h : pE K X a x) (h2 : pE K X b y) (hg : Gl X "reversed" := by rfl) (hg2 : Gl X "range" := by rfl) (na : starEach [a, b] X.env = (false, eval a X.env) :: starEach [b] X.env := by rfl)
    (nb : starEach [b] X.env = (false, eval b X.env) :: starEach [] X.env := by rfl) (hp : (backTo pos (starEach [b] X.env)).any (·.1) = false := by rfl)
    (hs2 : starEach [.Call (.Name "range" p) [a, b] [] pos] X.env = (false, eval (.Call (.Name "range" p) [a, b] [] pos) X.env) :: starEach [] X.env := by rfl) : pI K X tg (.Call (.Name "reversed" p2) [.Call (.Name "range" p) [a, b] [] pos] [] q2) (iRev2 x y) := by
  have hk0 : X.K = K := h.k
  subst hk0
  exact ⟨rfl, pi_revR hg hm (prg_2 hg2 hm2 h.h h2.h na nb hp) hs2⟩
/-- list(t), t a tuple -/
def lListT (x : EX K) : LX K := ⟨tCB (rListS K) (tCons x.t tNil), fun δ Q => x.w δ fun d => tupD d Q, fun δ Q hw Z F0 F H σ ok Q' k => by
  refine x.ok δ _ hw Z F0 F H σ ok _ fun d v F1 H1 n1 i1 hq => ?_
  obtain ⟨ds, rfl, hq⟩ := tupD_inv hq
  obtain ⟨p, vs, rfl, s1, l⟩ := i1.tup_inv
  refine ⟨p, vs, rfl, .inr (same_t n1.s s1), fun q hq' => ?_⟩
  have n2 : Nx F1 H1 _ _ := Nx.own (o := .lst vs) n1.s hq'
  exact k ds q vs _ _ (n1.trans n2) (n1.h.free hq') upd_same (some_ne n1.s hq') l hq⟩
theorem l_listT {x : EX K} (hm : X.mg "list" = none) (h : pE K X a x) (hg : Gl X "list" := by rfl) (hs : starEach [a] X.env = [(false, eval a X.env)] := by rfl) : pL K X (.Call (.Name "list" p) [a] [] pos) (lListT x) := by
  have hk0 : X.K = K := h.k
  subst hk0
  exact ⟨rfl, (l_list (x := ⟨x.t, fun _ _ => False, fun δ Q z => z.elim⟩) hm ⟨rfl, h.h⟩ hg hs).h⟩
end
end PL
namespace PL
open PySem PySem.Spec PyProof.Rows L2
/-! several clauses 'except x as n' -/
/-- one clause: its class, the slot of its name, its suite -/
structure Cls1 where
  c : Value
  i : Nat
  ts : Addr → Value → Option Addr → TS
/-- the ends of a suite whose name goes when it ends -/
def goes (i : Nat) (D : Ends) : Ends := { nx := fun τ G => D.nx (τ.set i none) G, rt := D.rt, bk := fun τ G => D.bk (τ.set i none) G, ct := fun τ G => D.ct (τ.set i none) G }
/-- the wish of an exception of the body; it must meet a clause -/
def wNamed (K : PySem.W.Frag) (D : Ends) : List Cls1 → WX
  | [] => fun _ _ _ _ => False
  | k :: r => fun cl d τ G => ∃ v, PySem.W.exmOne K cl k.c = some v ∧ (v = true → ∀ x, G x = none → k.ts x cl d (goes k.i D) (τ.set k.i (some (.ref x))) G) ∧ (v = false → wNamed K D r cl d τ G)
inductive Named (X : Cx) : List ExceptHandler → List Cls1 → Prop
  | no : Named X [] []
  | one {y m : Str} {k : Cls1} {st : Stmt} {sts : List Stmt} {e1 e2 : Pos} {hs : List ExceptHandler} {r : List Cls1} (nm : Names X y k.c) (at_ : X.N[k.i]? = some m) (lo : X.env.kindOf m = some .local)
      (su : ∀ (x : Addr) (ob : Obj) (cl : Value) (d : Option Addr) (pn : List (Addr × Obj)), Zc cl d ob → (∃ us, ob.data = .fields us) → PSs (X.suite x ((x, ob) :: pn)) (st :: sts) (k.ts x cl d)) (t : Named X hs r) :
      Named X (.ExceptHandler (some (.Name y e1)) (some m) (st :: sts) e2 :: hs) (k :: r)
section
variable {X : Cx} {B : List Stmt} {h0 : ExceptHandler} {hs : List ExceptHandler} {r : List Cls1} {e0 : Pos} {tb : WX → TS}
theorem ps_named (stk : X.stack = X.env :: X.outer) (fr : X.env.frame = some X.env.locals) (nd : X.N.Nodup)
    (bd : ∀ (W : WX) (pn : List (Addr × Obj)) (xe : Value → Shared → Prop), Takes (X.tr pn xe) W → PSs (X.tr pn xe) B (tb W))
    (N : Named X (h0 :: hs) r) : PS X (.Try B (h0 :: hs) [] [] e0) fun D σ H => tb (wNamed X.K D r) D σ H := by
  constructor
  intro pins s σ H D I hw
  have okx := I.ok
  have frs_ : X.A.frames = some (X.env :: X.outer) := okx.frames.trans (congrArg some stk)
  apply wpAny_Try_except
  refine wpAny_mono ((bd (wNamed X.K D r) (X.pn ++ pins) (fun ex t1 => wpAny (model X.prog X.w) X.A (noteFrame ex X.env) (fun _ t2 => wpAny (model X.prog X.w) X.A (setFlight ex none) (fun _ t3 =>
    wpAny (model X.prog X.w) X.A (handleBy ex X.env (h0 :: hs)) (SP X pins D) X.xe t3) X.xe t2) X.xe t1) ?tk).run [] s σ H D (I.toTry _) hw) ?ends (fun _ _ z => z)
  case tk =>
    rintro u t ⟨x, Bs, tI, pins', σ', H', cl, d, rfl, J0, nb, up, sky, na, os, ag, wish⟩
    have J1 : Inv X pins σ' H' tI := J0.ofTry okx
    have sk : Sky Bs (X.env :: X.outer) x (Zc cl d) X.env.locals t.heap := stk ▸ sky
    show wpAny (model X.prog X.w) X.A (noteFrame (.ref x) X.env) _ _ _
    refine Sky.land Zc.steady frs_ fr sk fun g3 fl up3 => ?_
    have J3 : Inv X pins σ' H' { t with heap := g3 } := J1.landed nb fl.1 (up.trans up3) os ag
    obtain ⟨ob, us, eo, zo, da⟩ := fl.there
    have apart : x ∉ frs (X.env :: X.outer) := fun hm => by
      obtain ⟨_, o2, e2, hn⟩ := fl.2.2.1.mem hm
      exact hn us (by rw [eo] at e2; cases e2; exact da)
    have aL : x ≠ X.env.locals := fun z => apart (List.mem_filterMap.mpr ⟨X.env, .head _, by rw [fr, z]⟩)
    have aF : x ∉ X.fs := fun hm => by
      obtain ⟨ev, hev, q⟩ := List.mem_filterMap.mp hm
      exact apart (List.mem_filterMap.mpr ⟨ev, .tail _ hev, q⟩)
    have S3 := J3.suite eo da na aL aF
    have ty : PySem.W.Looks (model X.prog X.w) g3 (typeOf (.ref x)) cl := fun A Q E t4 kk q => wpAny_typeOf_ref (kk _ _ eo) (zo.1.symm ▸ q)
    have main : ∀ {hs' : List ExceptHandler} {r' : List Cls1}, Named X hs' r' → wNamed X.K D r' cl d σ' H' →
        wpAny (model X.prog X.w) X.A (handleBy (.ref x) X.env hs') (SP X pins D) X.xe { t with heap := g3 } := by
      intro hs' r' N'
      induction N' with
      | no => exact False.elim
      | @one y m k st sts e1 e2 hs2 r2 nm at_ lo su _ ih =>
        rintro ⟨v, ev, yes, no⟩
        refine wpAny_handleBy_cons (codeAny_handlers_test ?_) (fun z => by cases z)
        have mt := PySem.W.exm_one (M := model X.prog X.w) J3.kIn ty ev
        have rd : ∀ {Q E : Value → Shared → Prop}, Q k.c { t with heap := g3 } → wpAny (model X.prog X.w) (X.A.mark (some (.ref x))) (eval (.Name y e1) X.env) Q E { t with heap := g3 } := by
          intro Q E q
          rcases nm with ⟨gl, db, mg | ⟨mg, bo, nn⟩⟩
          · exact ld_glob (X := X.suite x ((x, ob) :: (X.pn ++ pins))) S3 gl mg q db
          · exact ld_blt (X := X.suite x ((x, ob) :: (X.pn ++ pins))) S3 gl mg bo q nn db
        apply rd
        apply mt.here
        cases v with
        | false => exact ih (no rfl)
        | true =>
          apply codeAny_handlers_suite_as
          refine HandSPX.lands_againZ fl fun g4 fl4 up4 => ?_
          have J4 : Inv X pins σ' H' { t with heap := g4 } := J1.landed nb fl4.1 ((up.trans up3).trans up4) os ag
          obtain ⟨ob4, us4, eo4, zo4, da4⟩ := fl4.there
          have S4 := J4.suite eo4 da4 na aL aF
          refine store_ok (X := X.suite x ((x, ob4) :: (X.pn ++ pins))) (v := .ref x) S4 nd at_ (.inl lo) rfl (fun t5 S5 => ?_) (.inr lo)
          refine wpAny_mono ((su x ob4 cl d (X.pn ++ pins) zo4 ⟨_, da4⟩).run [] t5 _ H' _ S5 (yes rfl x na)) (fun f t6 sp => ?_) (fun _ _ z => z.elim)
          have drop : ∀ {τ : L2.St} {G : Hp} {Q : Shared → Prop}, Inv (X.suite x ((x, ob4) :: (X.pn ++ pins))) [] τ G t6 → (∀ t7, Inv X pins (τ.set k.i none) G t7 → Q t7) →
              wpAny (model X.prog X.w) X.A (do bindName X.env m .none; unbindBehindTheSuite X.env m e2) (fun _ t7 => Q t7) X.xe t6 := fun S q => gone_ok (S.unsuite okx) nd at_ lo q
          cases f with
          | ret u =>
            obtain ⟨v6, τ, G, S, rr, q⟩ := sp
            exact drop S fun t7 J => ⟨_, _, _, J, rr, q⟩
          | next =>
            obtain ⟨τ, G, S, q⟩ := sp
            exact drop S fun t7 J => ⟨_, _, J, q⟩
          | brk =>
            obtain ⟨τ, G, S, q⟩ := sp
            exact drop S fun t7 J => ⟨_, _, J, q⟩
          | cont =>
            obtain ⟨τ, G, S, q⟩ := sp
            exact drop S fun t7 J => ⟨_, _, J, q⟩
    exact main N wish
  case ends =>
    intro f t1 sp
    cases f with
    | ret u =>
      obtain ⟨v, σ', H', J, rr, q⟩ := sp
      exact ⟨v, σ', H', J.ofTry okx, rr, q⟩
    | next =>
      obtain ⟨σ', H', J, q⟩ := sp
      exact wpAny_execs_nil ⟨σ', H', J.ofTry okx, q⟩
    | brk =>
      obtain ⟨σ', H', J, q⟩ := sp
      exact ⟨σ', H', J.ofTry okx, q⟩
    | cont =>
      obtain ⟨σ', H', J, q⟩ := sp
      exact ⟨σ', H', J.ofTry okx, q⟩
end
end PL
namespace PL
open PySem PySem.Spec PyProof.Rows L2
/-! try .. except C1 as n (attributes) .. except C2 as m (none) -/
section
variable {K : PySem.W.Frag} {X : Cx}
def ke2 (E : Ke) (i : Nat) : Ke := { E with nx := fun δ2 => E.nx (put δ2 i .no), bk := fun δ2 => E.bk (put δ2 i .no), ct := fun δ2 => E.ct (put δ2 i .no) }
def sTry2 (C1 C2 : Addr) (h1 : PySem.W.exmOne K (.ref C1) (.ref C1) = some true) (h2 : PySem.W.exmOne K (.ref C2) (.ref C2) = some true) (h3 : PySem.W.exmOne K (.ref C2) (.ref C1) = some false) (i j : Nat) (B : WX → SX K) (S1 : Addr → Option Addr → SX K) (S2 : Addr → SX K) : SX K :=
  ⟨fun D σ H => (B (wNamed K D [⟨.ref C1, i, fun a cl d D' σ' H' => cl = .ref C1 ∧ (S1 a d).t D' σ' H'⟩, ⟨.ref C2, j, fun a cl d D' σ' H' => (cl = .ref C2 ∧ d = none) ∧ (S2 a).t D' σ' H'⟩])).t D σ H,
  fun δ E => ∃ (Xw : List (Str × D) → List Ent → Prop) (Yw : List Ent → Prop), (∀ W, (B W).w δ { E with xw := fun C' fs δ' => (C' = C1 ∧ Xw fs δ') ∨ (C' = C2 ∧ fs = [] ∧ Yw δ'), W := W }) ∧ (∀ fs δ', Xw fs δ' → fs ≠ []) ∧
    (∀ a dd fs δ', Xw fs δ' → (S1 a (some dd)).w (put δ' i (.dat (.err a dd fs))) (ke2 E i)) ∧ ∀ a δ', Yw δ' → (S2 a).w (put δ' j (.dat (.ref (.ref a)))) (ke2 E j), fun δ E hw Z F0 F H σ D ok ke => by
  obtain ⟨Xw, Yw, w1, w0, w2, w3⟩ := hw
  refine (B _).ok δ _ (w1 _) Z F0 F H σ D ok ⟨ke.nx, ke.rt, ke.bk, ke.ct, ke.rl, ke.r2, ke.rm, ke.rb, fun C' fs d δ' F' H' σ' ok' he h => ?_⟩
  rcases h with ⟨rfl, hq⟩ | ⟨rfl, rfl, hq⟩
  · cases d with
    | none => exact absurd (show fs = [] from he) (w0 fs δ' hq)
    | some dd =>
      obtain ⟨_, vs, hf, hi⟩ := he
      refine ⟨true, h1, fun _ a _ => ⟨rfl, ?_⟩, fun z => Bool.noConfusion z⟩
      exact (S1 a (some dd)).ok _ _ (w2 a dd fs δ' hq) Z F0 F' H' _ _ (ok'.setD (.err hf hi.1 hi.2)) ⟨fun δ2 F2 H2 σ2 ok2 h => ke.nx _ F2 H2 _ ok2.gone h, ke.rt, fun δ2 F2 H2 σ2 ok2 h => ke.bk _ F2 H2 _ ok2.gone h, fun δ2 F2 H2 σ2 ok2 h => ke.ct _ F2 H2 _ ok2.gone h, ke.rl, ke.r2, ke.rm, ke.rb, ke.xs⟩
  · have hd : d = none := by
      cases d with
      | none => rfl
      | some p => exact absurd rfl he.1
    subst hd
    refine ⟨false, h3, fun z => Bool.noConfusion z, fun _ => ⟨true, h2, fun _ a _ => ⟨⟨rfl, rfl⟩, ?_⟩, fun z => Bool.noConfusion z⟩⟩
    exact (S2 a).ok _ _ (w3 a δ' hq) Z F0 F' H' _ _ (ok'.setD (.ref _)) ⟨fun δ2 F2 H2 σ2 ok2 h => ke.nx _ F2 H2 _ ok2.gone h, ke.rt, fun δ2 F2 H2 σ2 ok2 h => ke.bk _ F2 H2 _ ok2.gone h, fun δ2 F2 H2 σ2 ok2 h => ke.ct _ F2 H2 _ ok2.gone h, ke.rl, ke.r2, ke.rm, ke.rb, ke.xs⟩⟩
theorem s_try2 (i j : Nat) {B : WX → SX K} {S1 : Addr → Option Addr → SX K} {S2 : Addr → SX K} {C1 C2 : Addr} {x n x2 n2 : Str} {body suite suite2 : List Stmt} {b₀ b2 : Stmt} {np p1 np2 p2 pos : Pos} (e : ErrK K X.mg x C1) (e2 : ErrC K X.mg x2 C2) (h3 : PySem.W.exmOne K (.ref C2) (.ref C1) = some false) (hN : X.N.Nodup)
    (hb : ∀ (W : WX) (pn : List (Addr × Obj)) (xe : Value → Shared → Prop), Takes (X.tr pn xe) W → pB K (X.tr pn xe) body (B W))
    (hsu : ∀ (a : Addr) (oe : Obj) (d : Option Addr) (pn : List (Addr × Obj)), Zc (.ref C1) d oe → (∃ vs, oe.data = .fields vs) → pB K (X.suite a ((a, oe) :: pn)) (b₀ :: suite) (S1 a d))
    (hsu2 : ∀ (a : Addr) (oe : Obj) (pn : List (Addr × Obj)), Zc (.ref C2) none oe → (∃ vs, oe.data = .fields vs) → pB K (X.suite a ((a, oe) :: pn)) (b2 :: suite2) (S2 a))
    (hs : X.stack = X.env :: X.outer := by rfl) (hf : X.env.frame = some X.env.locals := by rfl) (hi : X.N[i]? = some n := by rfl) (hln : X.env.kindOf n = some .local := by rfl) (hi2 : X.N[j]? = some n2 := by rfl) (hln2 : X.env.kindOf n2 = some .local := by rfl) (hg : Gl X x := by rfl) (hd : (x == ("__debug__" : Str)) = false := by decide +kernel) (hg2 : Gl X x2 := by rfl) (hd2 : (x2 == ("__debug__" : Str)) = false := by decide +kernel) (hk : X.K = K := by rfl) :
    pS K X (.Try body [.ExceptHandler (some (.Name x np)) (some n) (b₀ :: suite) p1, .ExceptHandler (some (.Name x2 np2)) (some n2) (b2 :: suite2) p2] [] [] pos) (sTry2 C1 C2 e.e e2.exm h3 i j B S1 S2) := by
  have hk0 : X.K = K := hk
  subst hk0
  refine ⟨rfl, ps_named (tb := fun W => (B W).t) hs hf hN (fun W pn xe tk => (hb W pn xe tk).h) ?_⟩
  refine .one ⟨hg, hd, .inl e.m⟩ hi hln (fun a oe cls d pn hz hv => ⟨fun pins s σ H D I h => ?_⟩) (.one ⟨hg2, hd2, .inl e2.gC⟩ hi2 hln2 (fun a oe cls d pn hz hv => ⟨fun pins s σ H D I h => ?_⟩) .no)
  · obtain ⟨rfl, h⟩ := h
    exact (hsu a oe d pn hz hv).h.run pins s σ H D I h
  · obtain ⟨⟨rfl, rfl⟩, h⟩ := h
    exact (hsu2 a oe pn hz hv).h.run pins s σ H D I h
theorem exm_not {C A : Addr} (hb : PySem.W.subIn K (.ref A) (.type "BaseException") = some true) (hi : PySem.W.isClsIn K A = true) (ht : PySem.W.typeIn K (.ref A) = some (.type "type")) (hs : PySem.W.subIn K (.ref C) (.ref A) = some false) : PySem.W.exmOne K (.ref C) (.ref A) = some false := by
  unfold PySem.W.isClsIn at hi
  unfold PySem.W.exmOne PySem.W.kitCls
  simp [hb, ht, hs, hi]
end
end PL
namespace PL
open PySem PySem.Spec PyProof.Rows L2
/-! tuples of ints in order: sorted(xs), t < u; a def that calls itself -/
theorem le_tups {β : Type} (x : β → List Int) : PySem.W.dataLe false (fun b => PyData.tuple ((x b).map .int)) = fun p q => decide (x p ≤ x q) := by
  funext p q
  rw [PySem.W.dataLe_eq]
  show (!PySem.W.dataLt (.tuple ((x q).map .int)) (.tuple ((x p).map .int))) = _
  rw [PySem.W.dataLt_tuple]
  show (!PySem.W.rowLt ((x q).map .int) ((x p).map .int)) = _
  rw [PySem.W.dataLt_ints]
  by_cases h : x q < x p
  · have h' : ¬ x p ≤ x q := fun r => List.not_lt.mpr r h
    simp [h, h']
  · have h' : x p ≤ x q := List.not_lt.mp h
    simp [h, h']
theorem reads_ints {h : Heap} : ∀ {us : List Value} {ns : List Int}, Vals (ns.map V.int) us → ∃ as, ReadsAll h us (ns.map .int) as
  | us, [], r => by
    cases r
    exact ⟨[], .nil⟩
  | us, n :: ns, r => by
    cases r with
    | cons rx rr =>
      obtain ⟨t, rfl⟩ := rx
      obtain ⟨as, z⟩ := reads_ints rr
      exact ⟨_, .cons (.int n t) z⟩
/-- sorted(xs), xs a list of tuples of ints, of any lengths -/
def rSortTI (K : PySem.W.Frag) : List V → Hp → VK → Prop := fun vs H Q => ∃ (a : Addr) (ps : List (V × List Int)), vs = [V.ref a] ∧ SqL K H a (ps.map (·.1)) ∧ (∀ q ∈ ps, ∃ t, q.1 = V.ref t ∧ SqT K H t (q.2.map V.int)) ∧ (ps.length < 2 ∨ ∀ q ∈ ps, q.2 ≠ []) ∧
  ∀ (ps' : List (V × List Int)) (p : Addr), ps'.Perm ps → ps'.Pairwise (fun x y => x.2 ≤ y.2) → H p = none → Q (.ref p) (upd H p (.lst (ps'.map (·.1))))
theorem each_of {ps : List (V × List Int)} : ∀ {its : List Value}, Vals (ps.map (·.1)) its → PySem.W.EachIs (fun (u : Value) (q : V × List Int) => RelV q.1 u) its ps := by
  induction ps with
  | nil =>
    intro its r
    cases r
    exact .nil
  | cons q ps ih =>
    intro its r
    cases r with
    | cons a b => exact .cons a (ih b)
theorem of_each {ps : List (V × List Int)} : ∀ {its : List Value}, PySem.W.EachIs (fun (u : Value) (q : V × List Int) => RelV q.1 u) its ps → Vals (ps.map (·.1)) its := by
  induction ps with
  | nil =>
    intro its r
    cases r
    exact .nil
  | cons q ps ih =>
    intro its r
    cases r with
    | cons a b => exact .cons a (ih b)
theorem each_read {h : Heap} : ∀ {ps : List (V × List Int)} {its : List Value}, Vals (ps.map (·.1)) its → (∀ q ∈ ps, ∀ u, RelV q.1 u → ∃ as, Reads h u (.tuple (q.2.map .int)) as) → PySem.W.EachIs (fun (u : Value) (q : V × List Int) => ∃ as, Reads h u (.tuple (q.2.map .int)) as) its ps
  | [], its, r, _ => by
    cases r
    exact .nil
  | q :: ps, its, r, k => by
    cases r with
    | cons a b => exact .cons (k q (.head _) _ a) (each_read b fun q' m => k q' (.tail _ m))
section
variable {X : Cx}
theorem cr_sortedTI {j : Nat} (hr : Room j X.A) : CallR X (.builtin "sorted") (rSortTI X.K) := by
  intro pins s σ H vs us Q I r h
  obtain ⟨a, ps, rfl, hs, ht, h2, q⟩ := h
  obtain ⟨its, rv, hl, hz⟩ := I.list hs
  obtain ⟨u, rfl, ru⟩ := vals1 r
  obtain rfl : u = Value.ref a := ru
  have fin : ∀ (out : List Value) (ps' : List (V × List Int)), Vals (ps'.map (·.1)) out → ps'.Perm ps → ps'.Pairwise (fun x y => x.2 ≤ y.2) → EP X pins σ Q (.ref (s.heap.objs.size + 1)) { s with heap := sortedAll s.heap its out.toArray } := by
    intro out ps' ro hp hw
    obtain ⟨e, he⟩ := sortedAll_at s.heap its out.toArray
    refine ⟨.ref (s.heap.objs.size + 1), upd H (s.heap.objs.size + 1) (.lst (ps'.map (·.1))), I.laid (t' := s.toks) (fun b o z => sortedAll_old z) (Nat.le_succ _) ⟨?_, out, e, ro, he⟩, rfl, q ps' _ hp hw (I.hok.fresh (Nat.le_succ _))⟩
    rw [List.length_map, hp.length_eq]
    simpa using hz
  rcases h2 with h2 | h2
  · refine Srt.sorted_any hl.isList (by rw [← rv.length]; exact hz) (fun z => absurd z (by have := rv.length; simp at this; omega)) fun out hp => ?_
    have e : out = its := by
      have hlen : its.length < 2 := by have := rv.length; simp at this; omega
      match its, hlen, hp with
      | [], _, hp => exact List.perm_nil.mp hp
      | [x], _, hp => exact List.perm_singleton.mp hp
    subst e
    refine fin out ps rv (.refl _) ?_
    match ps, h2 with
    | [], _ => exact .nil
    | [x], _ => exact List.pairwise_singleton _ _
  · refine PySem.W.sorted_data (enc := fun q : V × List Int => PyData.tuple (q.2.map .int)) hl.isList (each_of rv) (each_read rv fun p hm u ru => ?_) ?_ ?_ (by simpa using hz) (fun b hb => ?_) fun out hlen ho => ?_
    · obtain ⟨t, e, hT⟩ := ht p hm
      obtain ⟨v, ns⟩ := p
      simp only at e hT
      subst e
      cases ru
      obtain ⟨us, r3, ⟨o, ho, hc, n, hd⟩, _⟩ := I.tuple hT
      obtain ⟨as, ra⟩ := reads_ints (h := s.heap) r3
      exact ⟨as, .tuple (vs := us.toArray) ho hc hd (by simpa using ra)⟩
    · intro d hd d' hd'
      obtain ⟨p, _, rfl⟩ := List.mem_map.mp hd
      obtain ⟨p', _, rfl⟩ := List.mem_map.mp hd'
      simp only [PySem.W.alike]
      exact PySem.W.alike_ints _ _
    · refine .inl fun d hd => ?_
      obtain ⟨p, hm, rfl⟩ := List.mem_map.mp hd
      have := h2 p hm
      obtain ⟨v, ns⟩ := p
      cases ns with
      | nil => exact absurd rfl this
      | cons n ns => exact ⟨_, _, rfl⟩
    · have := hr.un
      simp only [PyData.depth, PySem.W.depth_ints]
      omega
    · rw [le_tups] at ho
      refine fin out _ (of_each ho) (List.mergeSort_perm _ _) ?_
      have hpw := List.pairwise_mergeSort (le := fun p q : V × List Int => decide (p.2 ≤ q.2)) (fun a b c h1 h2 => by
        simp only [decide_eq_true_eq] at h1 h2 ⊢
        exact List.le_trans h1 h2) (fun a b => by
        rcases List.le_total a.2 b.2 with z | z <;> simp [z]) ps
      exact hpw.imp fun z => by simpa using z
/-- t < u -/
def rLtT (K : PySem.W.Frag) : R2 := fun x y H Q => ∃ (a b : Addr) (ns ms : List Int), x = .ref a ∧ y = .ref b ∧ SqT K H a (ns.map V.int) ∧ SqT K H b (ms.map V.int) ∧ Q (.bl (decide (ns < ms))) H
theorem lex_lt : ∀ (ns ms : List Int) (i k : Nat) (e r : Nat → Bool) (z : Bool), k = min ns.length ms.length → (∀ j, e (i + j) = decide (ns.getD j 0 = ms.getD j 0)) → (∀ j, r (i + j) = decide (ns.getD j 0 < ms.getD j 0)) → z = decide (ns.length < ms.length) → Ob.lexAt e r z i k = decide (ns < ms)
  | [], ms, i, k, e, r, z, hk, he, hr, hz => by
    simp at hk
    subst hk hz
    rw [Ob.lexAt_zero]
    cases ms <;> simp
  | n :: ns, [], i, k, e, r, z, hk, he, hr, hz => by
    simp at hk
    subst hk hz
    rw [Ob.lexAt_zero]
    simp
  | n :: ns, m :: ms, i, k, e, r, z, hk, he, hr, hz => by
    have h0 := he 0
    have h1 := hr 0
    simp only [Nat.add_zero, List.getD_cons_zero] at h0 h1
    obtain ⟨k', rfl⟩ : ∃ k', k = k' + 1 := ⟨min ns.length ms.length, by simp at hk; omega⟩
    rw [Ob.lexAt_succ, h0]
    by_cases h : n = m
    · rw [if_pos (by simpa using h), lex_lt ns ms (i + 1) k' e r z (by simp at hk; omega) (fun j => by have := he (j + 1); rw [show i + 1 + j = i + (j + 1) by omega, this]; simp) (fun j => by have := hr (j + 1); rw [show i + 1 + j = i + (j + 1) by omega, this]; simp) (by rw [hz]; simp)]
      subst h
      simp [List.cons_lt_cons_iff]
    · rw [if_neg (by simpa using h), h1]
      simp [List.cons_lt_cons_iff, h]
theorem op_ltT (hu : X.A.units < cLine) : OpR X (compareOp .Lt) (rLtT X.K) := by
  intro pins s σ H x y v u Q I rx ry h
  obtain ⟨a, b, ns, ms, rfl, rfl, ha, hb, q⟩ := h
  cases rx
  cases ry
  obtain ⟨us, r1, p1, _⟩ := I.tuple ha
  obtain ⟨ws, r2, p2, _⟩ := I.tuple hb
  have i1 : IntsAre us ns := Vals.ints r1
  have i2 : IntsAre ws ms := Vals.ints r2
  have l1 : us.length = ns.length := i1.length
  have l2 : ws.length = ms.length := i2.length
  have g1 : ∀ j (h1 : j < us.toArray.size), ∃ t, us.toArray[j] = .int (ns.getD j 0) t := fun j h1 => PyProof.Rows.IntsAre.int_at i1 _ _ (by simp at h1; simp [h1])
  have g2 : ∀ j (h1 : j < ws.toArray.size), ∃ t, ws.toArray[j] = .int (ms.getD j 0) t := fun j h1 => PyProof.Rows.IntsAre.int_at i2 _ _ (by simp at h1; simp [h1])
  have R := Ob.RcOp.tuples_lt (A := X.A) (s := s) (e := fun j => ns.getD j 0 == ms.getD j 0) (r := fun j => decide (ns.getD j 0 < ms.getD j 0)) p1 p2 hu
    (fun j h1 h2 => by
      obtain ⟨t, et⟩ := g1 j h1
      obtain ⟨t', et'⟩ := g2 j h2
      rw [et, et']
      exact SeqAt.EqAt.int_int _ _ _ _)
    (fun j h1 h2 _ => by
      obtain ⟨t, et⟩ := g1 j h1
      obtain ⟨t', et'⟩ := g2 j h2
      rw [et, et']
      exact Ob.RcOp.lt_int _ _ _ _)
  rw [lex_lt ns ms 0 _ _ _ _ (by simp [l1, l2]) (fun j => by simp only [Nat.zero_add]; exact Bool.beq_eq_decide_eq _ _) (fun j => by simp) (by simp [l1, l2])] at R
  have z : wpAny (model X.prog X.w) X.A (compareOp .Lt (.ref a) (.ref b)) (EP X pins σ Q) X.xe s := R X.prog X.w X.xe (EP X pins σ Q) ⟨.bl _, H, I, rfl, q⟩
  exact z
end
def TUI (ns : List Int) : D := .tup (ns.map .int)
def intsD : List D → Option (List Int)
  | [] => some []
  | .int i :: r => (intsD r).map (i :: ·)
  | _ => none
theorem intsD_inv : ∀ {ds : List D} {ns : List Int}, intsD ds = some ns → ds = ns.map .int
  | [], ns, h => by cases h; rfl
  | d :: r, ns, h => by
    cases d <;> simp only [intsD] at h
    case int i =>
      cases e : intsD r with
      | none => rw [e] at h; cases h
      | some ms =>
        rw [e] at h
        cases h
        rw [intsD_inv e]
        rfl
    all_goals cases h
theorem intsD_map : ∀ ns : List Int, intsD (ns.map .int) = some ns
  | [] => rfl
  | n :: ns => by
    show (intsD (ns.map .int)).map (n :: ·) = _
    rw [intsD_map ns]
    rfl
theorem isV_ints {K : PySem.W.Frag} {F : Hp} : ∀ {ns : List Int} {vs : List V}, IsL K F vs (ns.map .int) → vs = ns.map V.int
  | [], vs, h => h.inv_nil
  | n :: ns, vs, h => by
    obtain ⟨v, ws, rfl, i, l⟩ := h.inv_cons
    rw [i.int_inv, isV_ints l]
    rfl
section
variable {K : PySem.W.Frag} {X : Cx} {a b : Expr} {p pos : Pos}
def gLtT : D → D → (D → Prop) → Prop := fun d e Q => ∃ ns ms : List Int, d = TUI ns ∧ e = TUI ms ∧ Q (.bl (decide (ns < ms)))
def oLtT : Op2 K := ⟨rLtT K, gLtT, fun d e v u F H Q Q' i j s h k => by
  obtain ⟨ns, ms, rfl, rfl, q⟩ := h
  obtain ⟨p, vs, rfl, sv, l⟩ := i.tup_inv
  obtain ⟨p', us, rfl, su, m⟩ := j.tup_inv
  rw [isV_ints l] at sv
  rw [isV_ints m] at su
  exact ⟨p, p', ns, ms, rfl, rfl, same_t s sv, same_t s su, k _ _ F H (.refl s) (.bl _) q⟩⟩
theorem h_ltT {j : Nat} (hr : Room j X.A) (hk : X.K = K := by rfl) : OpR X (compareOp .Lt) (oLtT (K := K)).r := by
  subst hk
  exact op_ltT hr.units0
theorem isL_tups {F : Hp} : ∀ {nss : List (List Int)} {vs : List V}, IsL K F vs (nss.map TUI) → ∃ ps : List (V × List Int), vs = ps.map (·.1) ∧ nss = ps.map (·.2) ∧ ∀ q ∈ ps, Is K F q.1 (TUI q.2)
  | [], vs, h => ⟨[], by rw [h.inv_nil]; rfl, rfl, fun q m => nomatch m⟩
  | ns :: nss, vs, h => by
    obtain ⟨v, ws, rfl, i, l⟩ := h.inv_cons
    obtain ⟨ps, rfl, rfl, k⟩ := isL_tups l
    exact ⟨(v, ns) :: ps, rfl, rfl, fun q m => by
      cases m with
      | head => exact i
      | tail _ m => exact k q m⟩
theorem tups_isL {F : Hp} : ∀ {ps : List (V × List Int)}, (∀ q ∈ ps, Is K F q.1 (TUI q.2)) → IsL K F (ps.map (·.1)) ((ps.map (·.2)).map TUI)
  | [], _ => .nil
  | q :: ps, h => .cons (h q (.head _)) (tups_isL fun q' m => h q' (.tail _ m))
def lSortT (x : RX K) : LX K := ⟨tCB (rSortTI K) (tCons x.t tNil), fun δ Q => x.w δ fun ds => ∃ nss : List (List Int), ds = nss.map TUI ∧ (nss.length < 2 ∨ ∀ ns ∈ nss, ns ≠ []) ∧ ∀ nss' : List (List Int), nss'.Perm nss → nss'.Pairwise (· ≤ ·) → Q (nss'.map TUI), fun δ Q hw Z F0 F H σ ok Q' k => by
  refine x.ok δ _ hw Z F0 F H σ ok _ fun ds p vs F1 H1 n1 s1 l hq => ?_
  obtain ⟨nss, rfl, h2, hq⟩ := hq
  obtain ⟨ps, rfl, rfl, hp⟩ := isL_tups l
  refine ⟨p, ps, rfl, s1, fun q m => ?_, ?_, fun ps' q hp' hw' hf => ?_⟩
  · obtain ⟨t, us, e, st, m'⟩ := (hp q m).tup_inv
    rw [isV_ints m'] at st
    exact ⟨t, e, same_t n1.s st⟩
  · rcases h2 with h2 | h2
    · exact .inl (by simpa using h2)
    · exact .inr fun q m => h2 _ (List.mem_map_of_mem m)
  · have n2 : Nx F1 H1 _ _ := Nx.own (o := .lst (ps'.map (·.1))) n1.s hf
    exact k _ q _ _ _ (n1.trans n2) (n1.h.free hf) upd_same (some_ne n1.s hf) (tups_isL fun q m => hp q (hp'.mem_iff.mp m)) (hq (ps'.map (·.2)) (hp'.map _) (List.pairwise_map.mpr hw'))⟩
theorem l_sortT {j : Nat} {x : RX K} (hr : Room j X.A) (hm : X.mg "sorted" = none) (h : pR K X a x) (hg : Gl X "sorted" := by rfl) (hs : starEach [a] X.env = [(false, eval a X.env)] := by rfl) : pL K X (.Call (.Name "sorted" p) [a] [] pos) (lSortT x) := by
  have hk0 : X.K = K := h.k
  subst hk0
  exact ⟨rfl, pe_callB (cr_sortedTI hr) hg hm (by decide +kernel) (pa1 h.h hs) (by decide +kernel) (by decide +kernel) hs (by rfl)⟩
end
section
variable {K : PySem.W.Frag} {X : Cx} {a : Expr} {es : List Expr} {p pos : Pos}
/-- [.., *t, ..], t a tuple -/
def aStarT (x : EX K) (r : AX K) : AX K := ⟨StX.tStar K x.t r.t, fun δ Q => x.w δ fun d => tupD d fun ds => r.w δ fun as => Q (dAr ds as), fun δ Q hw Z F0 F H σ ok Q' k => by
  refine x.ok δ _ hw Z F0 F H σ ok _ fun d v F1 H1 n1 i1 hw1 => ?_
  obtain ⟨ds, rfl, hw1⟩ := tupD_inv hw1
  obtain ⟨l, vs, rfl, sq, il⟩ := i1.tup_inv
  refine ⟨l, vs, rfl, .inl (same_t n1.s sq), ?_⟩
  refine r.ok δ _ hw1 Z F0 F1 H1 σ (ok.next n1) _ fun as us F2 H2 n2 i2 hq => ?_
  exact k _ _ F2 H2 (n1.trans n2) (ars_dats (il.mono n2.f) i2) hq⟩
theorem a_starT {x : EX K} {y : AX K} (h : pE K X a x) (r : pA K X es y) (hs : starEach (.Starred a p :: es) X.env = (true, eval a X.env) :: starEach es X.env := by rfl) : pA K X (.Starred a p :: es) (aStarT x y) := by
  have hk0 : X.K = K := h.k
  subst hk0
  exact ⟨rfl, StX.pa_star h.h r.h hs⟩
/-- for y in x, x a list or a tuple -/
def iAny (K : PySem.W.Frag) (t : TE) : TI := fun σ H R => t σ H fun x H1 => ∃ l, x = .ref l ∧ ((∃ xs, SqL K H1 l xs) ∧ R (Itl K l) H1 ∨ (∃ xs, SqT K H1 l xs) ∧ R (Itt K l) H1)
theorem pi_any {tg : Expr} {t : TE} (h : PE X a t) : PI X tg a (iAny X.K t) := by
  refine ⟨fun pins s σ H R I hw => thn (h.run pins s σ H _ I hw) fun v s1 z => ?_⟩
  obtain ⟨y, H1, J, ry, l, rfl, z⟩ := z
  cases ry
  have fr : ∀ b ∈ [s1.heap.objs.size], FpOk X pins H1 b := fun b hb => by
    rw [List.mem_singleton.mp hb]
    exact J.fpOk (Nat.le_refl _) (J.hok.fresh (Nat.le_refl _))
  rcases z with ⟨⟨xs, hq⟩, q⟩ | ⟨⟨xs, hq⟩, q⟩
  · obtain ⟨us, _, pl, _⟩ := J.list hq
    exact wpAny_pyIter_list pl.isList ⟨_, _, _, _, H1, rfl, J.kept (t' := s1.toks) fun b o e => Heap.get?_push_of_some _ e, turn_list l _, ⟨_, Heap.get?_push_size _ rfl, rfl, rfl⟩, fr, q⟩
  · obtain ⟨us, _, pt, _⟩ := J.tuple hq
    exact wpAny_pyIter_tuple (show s1.heap.IsTuple l us.toArray from pt) ⟨_, _, _, _, H1, rfl, J.kept (t' := s1.toks) fun b o e => Heap.get?_push_of_some _ e, turn_tuple l _, ⟨_, Heap.get?_push_size _ rfl, rfl, rfl⟩, fr, q⟩
def sqD : D → (List D → Prop) → Prop
  | .lst ds, Q => Q ds
  | .tup ds, Q => Q ds
  | _, _ => False
theorem sqD_inv : ∀ {d : D} {Q : List D → Prop}, sqD d Q → ∃ ds, (d = .lst ds ∨ d = .tup ds) ∧ Q ds
  | .lst ds, _, h => ⟨ds, .inl rfl, h⟩
  | .tup ds, _, h => ⟨ds, .inr rfl, h⟩
  | .non, _, h => h.elim
  | .bl _, _, h => h.elim
  | .int _, _, h => h.elim
  | .str _, _, h => h.elim
  | .ref _, _, h => h.elim
  | .ktp _, _, h => h.elim
  | .ins _ _, _, h => h.elim
  | .err _ _ _, _, h => h.elim
def iA (x : EX K) : IX K := ⟨false, iAny K x.t, fun δ Q => x.w δ fun d => sqD d fun ds => ds.length ≤ 4000000 ∧ Q ds.length fun i d => ds[i]? = some d, fun δ Q hw Z F0 F H σ ok R k => by
  refine x.ok δ _ hw Z F0 F H σ ok _ fun d v F1 H1 n1 i1 hw1 => ?_
  obtain ⟨ds, e, hb, hq⟩ := sqD_inv hw1
  rcases e with rfl | rfl
  · obtain ⟨p, vs, rfl, s, l⟩ := i1.lst_inv
    exact ⟨p, rfl, .inl ⟨⟨vs, n1.s.seq s⟩, k _ _ _ F1 H1 n1 (walk_list (B := H1) l fun F2 H2 a b _ _ => b.seq (a.seq s)) hb hq⟩⟩
  · obtain ⟨l, vs, rfl, sq, il⟩ := i1.tup_inv
    exact ⟨l, rfl, .inr ⟨⟨vs, same_t n1.s sq⟩, k _ _ _ F1 H1 n1 (walk_tup il sq) hb hq⟩⟩⟩
theorem i_a {tg : Expr} {x : EX K} (h : pE K X a x) : pI K X tg a (iA x) := by
  have hk0 : X.K = K := h.k
  subst hk0
  exact ⟨rfl, pi_any h.h⟩
end
/-- nobody calls it -/
theorem fnok_false {P : Program} {w : World} {K : PySem.W.Frag} {mg : Str → Option Value} {base : Heap} {f : Addr} {fd : FuncData} {ps : List Str} {k : Nat} {R : FSp} (h : ∀ as Q, ¬ R as Q) : FnOk P w K mg base CX0 k f fd ps (spOf K R) :=
  ⟨fun vs H Q E z => by
    obtain ⟨_, as, Q', _, _, hR, _⟩ := z
    exact absurd hR (h as Q'), fun A outer s H args us vs Q E _ _ _ _ z => by
    obtain ⟨_, as, Q', _, _, hR, _⟩ := z
    exact absurd hR (h as Q')⟩
end PL
namespace PL
open PySem PySem.Spec PyProof.Rows L2
/-! a stack of one's own: while xs, .. = xs.pop() -/
section
variable {K : PySem.W.Frag} {X : Cx} {a b c : Expr} {es : List Expr} {p pos q apos cpos tp : Pos}
/-- the truth of a list -/
def tTruL (x : RX K) : TX K := ⟨fun σ H Q => x.t σ H fun v H' => ∃ k, TruV K v H' k ∧ Q k H', fun δ Q => x.w δ fun ds => Q (!ds.isEmpty), fun δ Q hw Z F0 F H σ ok Q' k => by
  refine x.ok δ _ hw Z F0 F H σ ok _ fun ds p vs F1 H1 n1 s1 l hq => ?_
  have e : vs.isEmpty = ds.isEmpty := by
    cases ds with
    | nil => rw [l.inv_nil]; rfl
    | cons d ds =>
      obtain ⟨v, ws, rfl, _, _⟩ := l.inv_cons
      rfl
  refine ⟨_, ?_, k _ F1 H1 n1 hq⟩
  exact .inl ⟨vs, s1, by rw [e]⟩⟩
theorem t_truL {x : RX K} (h : pR K X a x) (he : ∀ whole, isTrue a X.env whole = (do let v ← whole; standAt a.pos; holding [v] (truthy v)) := by intro _; rfl) : pT K X a (tTruL x) := by
  have hk0 : X.K = K := h.k
  subst hk0
  exact ⟨rfl, pt_truth h.h he⟩
/-- xs.pop() of one's own list -/
def mPop (i : Nat) : MX K := ⟨tBM0 K "list" rPop (tVar i), fun δ Q => ownD (nth δ i) fun ds => ∃ ds' d, ds = ds' ++ [d] ∧ Q d (put δ i (.own ds')), fun δ Q hw Z F0 F H σ ok Q' k => by
  obtain ⟨ds, hi, ds', d, rfl, hq⟩ := ownD_inv hw
  have hs := ok.at_ i
  rw [hi] at hs
  obtain ⟨p, vs, a, b, c, z, l⟩ := hs
  refine ⟨_, a, .inl ⟨rfl, _, SqL.of b⟩, ?_⟩
  have hlen : vs.length = ds'.length + 1 := by rw [l.1]; simp
  obtain ⟨y, hy, iy⟩ := l.get (i := ds'.length) (d := d) (by simp)
  refine ⟨p, vs, y, rfl, rfl, b, by rw [hlen, Nat.add_sub_cancel]; exact hy, ?_⟩
  have l2 : IsL K F vs.dropLast ds' := by
    have := isl_take ds'.length l
    rw [List.take_left'  rfl] at this
    rw [List.dropLast_eq_take, hlen, Nat.add_sub_cancel]
    exact this
  exact k _ y _ F _ (ok.chg hi a l2) (.refl _) iy hq⟩
theorem m_pop (i : Nat) {x : Str} (hk : X.K = K := by rfl) (hN : X.N[i]? = some x := by rfl) (hv : Vis X.env.scope x := by first | exact Or.inl rfl | exact Or.inr (Or.inl rfl)) (hd : (x == ("__debug__" : Str)) = false := by decide +kernel)
    (hcd : (x == ("__classdict__" : Str)) = false := by decide +kernel) (hbase : attributeBase (.Name x q) "pop" X.env (eval (.Name x q) X.env) = eval (.Name x q) X.env := by rfl)
    (hline : (apos.endLine == cpos.line) = true := by rfl) :
    pM K X (.Call (.Attribute (.Name x q) "pop" apos) [] [] cpos) (mPop i) := by
  have hk0 : X.K = K := hk
  subst hk0
  exact ⟨rfl, pe_bm0 PySem.F.plainAttrs_list PySem.F.slot_list_pop PySem.F.type_list_pop mt_pop (pe_var hN hv hd hcd) hbase hline⟩
def sAsgM (g : GX K) (e : MX K) : SX K := ⟨tAsg e.t g.t, fun δ E => e.w δ fun d δ1 => g.w d δ1 E.nx, fun δ E hw Z F0 F H σ D ok ke => by
  refine e.ok δ _ hw Z F0 F H σ ok _ fun d v δ1 F1 H1 ok1 s1 i1 hq => ?_
  exact g.ok d δ1 _ hq Z F0 F1 H1 σ v ok1 i1 _ fun δ' F' H' σ' ok' _ _ _ h => ke.nx δ' F' H' σ' ok' h⟩
theorem s_asgM {tg : Expr} {g : GX K} {e : MX K} (he : pM K X a e) (hg : pG K X tg g) (hs : swapsWithSole [tg] a pos.line X.env = pure false := by rfl) (hw : swappedStores [tg] a X.env = pure none := by rfl)
    (h1 : (assignEach [tg] X.env).map (·.2) = [assign tg X.env] := by rfl) : pS K X (.Assign [tg] a pos) (sAsgM g e) := by
  have hk0 : X.K = K := he.k
  subst hk0
  exact ⟨rfl, ps_asg he.h hg.h hs hw h1⟩
end
end PL
namespace PL
open PySem PySem.Spec PyProof.Rows L2
/-! the keys of a dict that a comprehension makes, in their order: list({t: v for ..}), t tuples of ints -/
/-- a dict under tuples, told with the places of its keys -/
def DxO (P : Program) (w : World) (D : Addr) (xs : List (List Key × Addr × Value)) : HO := .ext fun h => (D == sysModules) = false ∧ ∃ o es ep, h.get? D = some o ∧ o.ExactDict ∧ o.data = .dict es ep ∧ es.toList = xs.map (entryOfKey (tupleKind (mixKind P w))) ∧ (xs.map (·.1)).Nodup
theorem dx_ok {P : Program} {w : World} {H : Hp} {h : Heap} {D : Addr} {xs : List (List Key × Addr × Value)} {o : Obj} {es : Array DictEntry} {ep : Nat} (h0 : (D == sysModules) = false) (h1 : h.get? D = some o) (h2 : o.ExactDict) (h3 : o.data = .dict es ep)
    (h4 : es.toList = xs.map (entryOfKey (tupleKind (mixKind P w)))) (h5 : (xs.map (·.1)).Nodup) : ObjOk P w H h D (DxO P w D xs) :=
  ⟨⟨h0, o, es, ep, h1, h2, h3, h4, h5⟩, ⟨o, h1⟩, fun _ _ z k => by
    obtain ⟨z0, o', es', ep', a, b⟩ := z
    exact ⟨z0, o', es', ep', k _ a, b⟩⟩
section
variable {X : Cx} {pins : List (Addr × Obj)} {σ : L2.St} {H : Hp} {s : Shared}
/-- where the keys stand -/
def KeysAt (H : Hp) (xs : List (List Key × Addr × Value)) : Prop := ∀ x ∈ xs, H x.2.1 = some (.tup (x.1.map kV))
theorem dx_set {A : Around} {E : Value → Shared → Prop} {Q : Unit → Shared → Prop} {D b : Addr} {xs : List (List Key × Addr × Value)} {k : List Key} {r : Value} (hu : A.units < cLine) (I : Inv X pins σ H s) (hD : H D = some (DxO X.prog X.w D xs)) (hb : H b = some (.tup (k.map kV))) (hk : KeysAt H xs) (hn : k ∉ xs.map (·.1)) (hl : xs.length ≤ sizeLine)
    (h : ∀ s', Inv X pins σ (upd H D (DxO X.prog X.w D (xs ++ [(k, b, r)]))) s' → Q () s') : wpAny (model X.prog X.w) A (dictSet D (.ref b) r) Q E s := by
  obtain ⟨⟨h0, o, es, ep, ho, hx, hd, he, hnd⟩, _⟩ := (show ObjOk X.prog X.w H s.heap D (DxO X.prog X.w D xs) from I.hok D _ hD)
  have dd : s.heap.DictOfH (tupleKind (mixKind X.prog X.w)) D xs := ⟨o, es, ep, ho, hx, hd, he, fun x hx => key_of I.hok (hk x hx), hnd⟩
  have e : storedH xs k b r = xs ++ [(k, b, r)] := storedH_new (atKey_none_of_get fun j p z => hn (List.mem_map.mpr ⟨_, List.mem_of_getElem? z, rfl⟩)) b r
  refine wpAny_dictSet_heap (hsz := hl) hu (key_of I.hok hb) dd fun h' dd' hs => h _ ?_
  rw [e] at dd'
  obtain ⟨q, es', ep', hq, h2, h3, h4, _, h5⟩ := dd'
  exact d_write I (by rw [hD]; exact True.intro) hs ⟨q, hq⟩ (dx_ok h0 hq h2 h3 h4 h5)
/-- what the making of the dict asks; W: what holds ahead of the i-th turn -/
def tDx (P : Program) (w : World) (wi : L2.TI) (g : TG) (tk tv : TE) (vs : List Nat) : TE := fun σ H Q => wi σ H fun J H1 => ∀ D, H1 D = none → ∃ W : Nat → Nat → Hp → Prop, (∃ m, W 0 m (upd H1 D (DxO P w D []))) ∧ ∀ i m H, W i m H →
  (J.stop i H ∧ Q (.ref D) H) ∨ (J.go i H ∧ ∃ N : Hp → Prop, (∀ H', N H' → ∃ m', m' < m ∧ W (i + 1) m' H') ∧ ∀ x H', J.yld i H x H' → g x (wipe σ vs) H' fun σ2 H2 => wipe σ2 vs = wipe σ vs ∧ tk σ2 H2 fun y H4 => tv σ2 H4 fun _ H5 =>
    ∃ xs k b, y = .ref b ∧ H5 D = some (DxO P w D xs) ∧ H5 b = some (.tup (k.map kV)) ∧ KeysAt H5 xs ∧ k ∉ xs.map (·.1) ∧ xs.length ≤ sizeLine ∧ ∀ r, N (upd H5 D (DxO P w D (xs ++ [(k, b, r)]))))
theorem pe_dx {kx vx tg iter : Expr} {scope : Scope} {own : List (Str × Nat)} {pos : Pos} {j : Nat} {wi : L2.TI} {g : TG} {tk tv : TE} (hr : Room j X.A) (hc : X.calm = true) (hN : X.N.Nodup) (hi : PI X tg iter wi) (ok : BlkOk X.N X.env.scope scope own)
    (hg : ∀ (s : Shared) (H : Hp) (C : Addr) (cl : List (Str × Addr)) (fp : List Addr), PG (X.blk s H scope (compEnvC scope cl C X.env) fp) tg g)
    (hk : ∀ (s : Shared) (H : Hp) (C : Addr) (cl : List (Str × Addr)) (fp : List Addr), PE (X.blk s H scope (compEnvC scope cl C X.env) fp) kx tk)
    (hv : ∀ (s : Shared) (H : Hp) (C : Addr) (cl : List (Str × Addr)) (fp : List Addr), PE (X.blk s H scope (compEnvC scope cl C X.env) fp) vx tv) (hs : ∀ x, foldedSetIterable iter X.env x = pure x) :
    PE X (.DictComp kx vx [⟨tg, iter, [], 0⟩] scope pos) (tDx X.prog X.w wi g tk tv (own.map (·.2))) := by
  refine ⟨fun pins s σ H Q I h => ?_⟩
  rw [arm_eval_DictComp]
  have free : ∀ y ∈ scope.names, y.2 = .free → ∃ c, X.env.cells.lookup y.1 = some c := fun y hy e => (ok.free y hy e).elim (fun z => I.ok.has _ (.inl z)) fun z => I.ok.has _ (.inr z)
  refine wpAny_comprehension_free (use := none) rfl hs (closure_ok free) ok.kind (fun y hy e => by rw [ok.uniq y hy, e]) (thn (hi.run pins s σ H _ I h) fun xv s1 hx => thn hx fun itv s2 z => ?_)
  obtain ⟨it, fp, tn, J, H2, rfl, I2, T, st2, f2, q⟩ := z
  refine wpAny_newObj_type (newEnv_comp ?_)
  obtain ⟨D, hD⟩ : ∃ D, s2.heap.objs.size = D := ⟨_, rfl⟩
  have D0 : H2 D = none := I2.hok.fresh (Nat.le_of_eq hD)
  obtain ⟨W, ⟨m0, w0⟩, turn⟩ := q D D0
  obtain ⟨s3, hs3⟩ : ∃ s3 : Shared, ({ s2 with heap := s2.heap.push { cls := .type "dict", data := .dict #[] } } : Shared) = s3 := ⟨_, rfl⟩
  have h3 : s3.heap = s2.heap.push { cls := .type "dict", data := .dict #[] } := by rw [← hs3]
  have grow : ∀ b o, s2.heap.get? b = some o → s3.heap.get? b = some o := fun b o e => by rw [h3]; exact Heap.get?_push_of_some _ e
  have I3 : Inv X pins σ (upd H2 D (DxO X.prog X.w D [])) s3 := by
    rw [← hs3]
    refine I2.laid (t' := s2.toks) (fun b o e => Heap.get?_push_of_some _ e) (Nat.le_of_eq hD) ?_
    refine dx_ok (es := #[]) (ep := 0) ?_ (by rw [← hD]; exact Heap.get?_push_size _ rfl) ⟨rfl, rfl, rfl⟩ rfl rfl List.nodup_nil
    rw [← hD]
    exact beq_eq_false_iff_ne.mpr (Ne.symm (Nat.ne_of_lt I2.big))
  have f3 : ∀ b ∈ fp, FpOk X pins (upd H2 D (DxO X.prog X.w D [])) b ∧ b < s3.heap.objs.size := fun b hb => by
    obtain ⟨o, e, _⟩ := T.obj _ _ st2 b hb
    have hlt := Heap.lt_size e
    obtain ⟨a0, a1⟩ := f2 b hb
    exact ⟨⟨by rw [upd_ne (by rw [← hD]; exact Nat.ne_of_lt hlt)]; exact a0, a1⟩, by rw [h3, Heap.size_push]; exact Nat.lt_succ_of_lt hlt⟩
  have st3 : tn 0 s3.heap := T.keep _ _ _ st2 fun b _ => grow b
  have I4 := block_start I3 ok hN f3
  have pg := hg s3 (upd H2 D (DxO X.prog X.w D [])) s3.heap.objs.size (cellsFrom (s3.heap.objs.size + 1) scope.names (cloFrom X.env.cells scope.names [])) fp
  have pk := hk s3 (upd H2 D (DxO X.prog X.w D [])) s3.heap.objs.size (cellsFrom (s3.heap.objs.size + 1) scope.names (cloFrom X.env.cells scope.names [])) fp
  have pv := hv s3 (upd H2 D (DxO X.prog X.w D [])) s3.heap.objs.size (cellsFrom (s3.heap.objs.size + 1) scope.names (cloFrom X.env.cells scope.names [])) fp
  rw [hD, hs3]
  have nfp : ∀ b ∈ fp, (upd H2 D (DxO X.prog X.w D [])) b = none := fun b hb => (f3 b hb).1.1
  generalize upd H2 D (DxO X.prog X.w D []) = H3 at I3 I4 pg pk pv w0 nfp f3
  show codeAny _ _ (.compStart (.DictComp kx vx [⟨tg, iter, [], 0⟩] scope pos) 0 (.ref it) (.ref D) (compEnvC scope (cellsFrom (s3.heap.objs.size + 1) scope.names (cloFrom X.env.cells scope.names [])) s3.heap.objs.size X.env)) (compPost (model X.prog X.w) X.A X.xe none (EP X pins σ Q) (.ref D) s3.heap.objs.size) { s3 with heap := pushCells (s3.heap.push { cls := .type "dict", data := .dict #[] }) scope.names }
  generalize hce : compEnvC scope (cellsFrom (s3.heap.objs.size + 1) scope.names (cloFrom X.env.cells scope.names [])) s3.heap.objs.size X.env = ce at I4 pg pk pv ⊢
  have cL : ce.locals = s3.heap.objs.size := by subst hce; rfl
  generalize hs4 : ({ s3 with heap := pushCells (s3.heap.push { cls := .type "dict", data := .dict #[] }) scope.names } : Shared) = s4 at I4 ⊢
  have st4 : tn 0 s4.heap := T.keep _ _ _ st3 fun b _ o e => by rw [← hs4]; exact pushCells_keeps _ _ _ _ (Heap.get?_push_of_some _ e)
  have apart : ∀ {σ' : L2.St} {H' : Hp} {s' : Shared}, Inv (X.blk s3 H3 scope ce fp) [] σ' H' s' → (∀ b ∈ fp, H' b = none) → ∀ b ∈ fp, FpOk (X.blk s3 H3 scope ce fp) [] H' b := fun {σ' H' s'} I' hn b hb =>
    ⟨hn b hb, (I'.ok.exf b hb).1, I'.ok.exfs b hb, .inl hb, fun x c e => (I'.ok.exf b hb).2 x c e, fun p hp => absurd (show p ∈ ([] : List (Addr × Obj)) ++ [] from hp) (by simp)⟩
  have back : ∀ {H' : Hp} {s' : Shared}, Inv (X.blk s3 H3 scope ce fp) [] (wipe σ (own.map (·.2))) H' s' → Q (.ref D) H' → compPost (model X.prog X.w) X.A X.xe none (EP X pins σ Q) (.ref D) s3.heap.objs.size (.ok .next) s' := fun {H' s'} I' hq => by
    have I7 : Inv X pins σ H' s' := I3.call' (ch := fp) I'.os I'.base I'.hok I'.bare fun b hb => ⟨(f3 b hb).1.2.2.2.1, (f3 b hb).1.2.1, (f3 b hb).1.2.2.2.2.1, (f3 b hb).1.2.2.2.2.2⟩
    have nC : H' s3.heap.objs.size = none := by
      have z : H' ce.locals = none := I'.free
      rwa [cL] at z
    obtain ⟨m, hn, _⟩ := I'.loc
    have hn : s'.heap.Ns ce.locals m := hn
    rw [cL] at hn
    obtain ⟨g0, g1, _, g3, g4, g5⟩ := I3.fpOk (H' := H') (Nat.le_refl _) nC
    exact ⟨m, hn, fun h'' sb => ⟨.ref D, H', I7.turned (t' := s'.toks) (fun b o hb e => (sb.2 b hb).trans e) g0 g1 g3 g4 g5, rfl, hq⟩⟩
  have loop : codeAny (model X.prog X.w) X.A (.compLoop (.DictComp kx vx [⟨tg, iter, [], 0⟩] scope pos) 0 (.ref it) (.ref D) ce) (compPost (model X.prog X.w) X.A X.xe none (EP X pins σ Q) (.ref D) s3.heap.objs.size) s4 := by
    refine compLoop_anyD (fun n s' => ∃ i H', Inv (X.blk s3 H3 scope ce fp) [] (wipe σ (own.map (·.2))) H' s' ∧ tn i s'.heap ∧ (∀ b ∈ fp, H' b = none) ∧ W i n H') ?_ m0 ⟨0, H3, I4, st4, nfp, w0⟩
    rintro n s5 ⟨i, H5, I5, st5, n5, w5⟩
    rcases turn i n H5 w5 with ⟨stop, hq⟩ | ⟨go, N, hN', step⟩
    · refine thnF (T.done (X.blk s3 H3 scope ce fp) rfl rfl rfl hc i [] s5 _ H5 (fun _ _ => False) I5 (apart I5 n5) st5 stop) fun r s6 z => ?_
      obtain ⟨rfl, I6⟩ := z
      exact back I6 hq
    · refine thnF (T.item (X.blk s3 H3 scope ce fp) rfl rfl rfl hc i [] s5 _ H5 (fun _ _ => False) I5 (apart I5 n5) st5 go) fun r s6 z => ?_
      obtain ⟨u, rfl, z⟩ := z
      refine thnF z fun _ s7 z => ?_
      obtain ⟨x, H7, I7, r7, y7, st7, n7⟩ := z
      have J7 := I7.pinned (apart I7 n7) (T.obj _ _ st7)
      refine thnF (pg.run _ s7 _ H7 x u _ J7 r7 (step x H7 y7)) fun _ s8 z => ?_
      obtain ⟨σ8, H8, I8, hw8, q8⟩ := z
      refine thnF (((pts_nil : PTs (X.blk s3 H3 scope ce fp) [] tYes)).run _ s8 σ8 H8 (fun b H => b = true ∧ H = H8) I8 ⟨rfl, rfl⟩) fun b s9 z => ?_
      obtain ⟨H9, I9, rfl, rfl⟩ := z
      rw [if_pos rfl]
      refine thnF (pk.run _ s9 σ8 H9 _ I9 q8) fun z s10 y => ?_
      obtain ⟨yk, H10, I10, r10, q10⟩ := y
      refine thnF (pv.run _ s10 σ8 H10 _ I10 q10) fun z2 s11 y => ?_
      obtain ⟨yv, H11, I11, _, xs, k, b, rfl, hD11, hb11, hk11, hn11, hl11, nx⟩ := y
      cases r10
      refine dx_set (X := X.blk s3 H3 scope ce fp) hr.units0 I11 hD11 hb11 hk11 hn11 hl11 fun s12 I12 => ?_
      obtain ⟨m', hm, w'⟩ := hN' _ (nx z2)
      have keep : ∀ b ∈ fp, ∀ o, s7.heap.get? b = some o → s12.heap.get? b = some o ∧ (upd H11 D (DxO X.prog X.w D (xs ++ [(k, _, z2)]))) b = none := fun b hb o e =>
        let y := I12.pin (b, o) (List.mem_append_right _ (List.mem_append_right _ (mem_pinsAt hb e)))
        ⟨y.1, y.2.1⟩
      refine ⟨m', hm, i + 1, _, (I12.unpinned (pins := [])).weak (by rw [← hw8, wipe_length]) (fun j v e => ?_), T.keep _ _ _ st7 fun b hb o e => (keep b hb o e).1, fun b hb => ?_, w'⟩
      · rw [← hw8] at e
        exact (wipe_some e).1
      · obtain ⟨o, e, _⟩ := T.obj _ _ st7 b hb
        exact (keep b hb o e).2
  exact codeAny_compStart_dict loop (T.self X.A 0 _ _ _ st4 loop)
/-- list(d) -/
def rListDx (P : Program) (w : World) : List V → Hp → VK → Prop := fun vs H Q => ∃ (D : Addr) (xs : List (List Key × Addr × Value)), vs = [V.ref D] ∧ H D = some (DxO P w D xs) ∧ xs.length ≤ sizeLine ∧ ∀ p, H p = none → Q (.ref p) (upd H p (.lst (xs.map fun x => V.ref x.2.1)))
theorem call_list_dx (hc : X.calm = true) : CallR X (.type "list") (rListDx X.prog X.w) := by
  intro pins s σ H vs us Q I r h
  obtain ⟨D, xs, rfl, hD, hl, q⟩ := h
  obtain ⟨u, rfl, ru⟩ := r.one
  cases ru
  obtain ⟨⟨h0, o, es, ep, ho, hx, hd, he, _⟩, _⟩ := (show ObjOk X.prog X.w H s.heap D (DxO X.prog X.w D xs) from I.hok D _ hD)
  have hz : es.size = xs.length := size_of_entries he
  refine PySem.W.kdl_call (kdl_raw h0 hx hd) (I.ok.hd hc) ho (by omega) fun h' tk acc c kp e it => ?_
  have ea : acc.toList = (xs.map fun x => x.2.1).map Value.ref := by
    apply List.ext_getElem?
    intro j
    have hlen : acc.size = es.size := it.1
    by_cases hj : j < acc.size
    · have e1 : acc.toList[j]? = some acc[j] := by rw [Array.getElem?_toList, Array.getElem?_eq_getElem hj]
      obtain ⟨en, hen, hv⟩ := it.2 j acc[j] (Array.getElem?_eq_getElem hj)
      have q := entry_at he j
      rw [hen, List.getElem?_eq_getElem (show j < xs.length by omega)] at q
      have q2 : en = entryOfKey (tupleKind (mixKind X.prog X.w)) xs[j] := Option.some.inj q
      rw [e1, hv, q2, List.getElem?_map, List.getElem?_map, List.getElem?_eq_getElem (show j < xs.length by omega)]
      rfl
    · rw [List.getElem?_eq_none (by simp; omega), List.getElem?_eq_none (by simp; omega)]
  have em : (xs.map fun x => V.ref x.2.1) = (xs.map fun x => x.2.1).map V.ref := by rw [List.map_map]; rfl
  refine ⟨.ref s.heap.objs.size, _, I.laid (t' := tk) (o := .lst (xs.map fun x => V.ref x.2.1)) kp (Nat.le_refl _) ⟨by rw [List.length_map]; exact hl, acc.toList, c, by rw [ea, em]; exact vals_refs _, by rw [Array.toArray_toList]; exact e⟩, rfl, q _ (I.hok.fresh (Nat.le_refl _))⟩
end
section
variable {K : PySem.W.Frag} {X : Cx} {pos pos2 p : Pos}
def inK (ns : List Int) : List Key := ns.map Sum.inl
theorem inK_V (ns : List Int) : (inK ns).map kV = ns.map V.int := by
  unfold inK
  rw [List.map_map]
  rfl
theorem inK_inj {a b : List Int} (h : inK a = inK b) : a = b := by
  unfold inK at h
  exact (List.map_inj_right fun x y z => Sum.inl.inj z).mp h
/-- list({e: v for g in it}), the keys e tuples of ints, all different -/
def lKeys (P : Program) (w : World) (it : IX K) (g : GX K) (e v : EX K) (vs : List Nat) : LX K := ⟨tCB (rListDx P w) (tCons (tDx P w it.t g.t e.t v.t vs) tNil),
  fun δ Q => (g.own.all fun j => vs.contains j) = true ∧ it.w δ fun n at_ => ∃ f : Nat → List Int, (∀ (i : Nat) (d : D), i < n → at_ i d → g.w d (wipeE δ vs) fun δ2 => e.w δ2 fun d' => d' = TUI (f i) ∧ v.w δ2 fun _ => True) ∧ ((List.range n).map f).Nodup ∧ Q ((List.range n).map fun i => TUI (f i)), fun δ Q hw Z F0 F H σ ok Q' k => by
  obtain ⟨hs, hw⟩ := hw
  have hs : ∀ j ∈ g.own, j ∈ vs := fun j hj => by simpa using List.all_eq_true.mp hs j hj
  refine it.ok δ _ hw Z F0 F H σ ok _ fun n at_ J F1 H1 n1 wk hn hw1 => ?_
  obtain ⟨f, hf, hnd, hq⟩ := hw1
  intro Dl hD
  have h0 := n1.h.free hD
  let W : Nat → Hp → Prop := fun i H' => i ≤ n ∧ ∃ F' xs, Nx F1 H1 F' H' ∧ H' Dl = some (DxO P w Dl xs) ∧ F' Dl = none ∧ KeysAt F' xs ∧ xs.map (·.1) = (List.range i).map fun i => inK (f i)
  refine ⟨fun i m H' => m = n - i ∧ W i H', ⟨n, rfl, Nat.zero_le _, F1, [], .own n1.s hD, upd_same, some_ne n1.s hD, fun x hx => (List.not_mem_nil hx).elim, rfl⟩, ?_⟩
  rintro i m H' ⟨rfl, hi, F', xs, n2, hDl, hFD, hk, hx⟩
  have lx : xs.length = i := by have := congrArg List.length hx; simpa using this
  have hz : n ≤ sizeLine := Nat.le_trans hn (by decide)
  have wk1 := wk i F' H' n2.f n2.s ((ok.next n1).nx.h.trans n2.h) fun _ => n2.h
  by_cases hlt : i < n
  · right
    obtain ⟨go, yl⟩ := wk1.1 hlt
    refine ⟨go, W (i + 1), fun H'' w => ⟨n - (i + 1), by omega, rfl, w⟩, fun x H2 y => ?_⟩
    obtain ⟨d, F2, n3, hd, hat⟩ := yl x H2 y
    have ok2 := (((ok.next n1).next n2).next n3).wipe vs
    refine g.ok d _ _ (hf i d hlt hat) Z F0 F2 H2 _ x ok2 hd _ fun δ2 F3 H3 σ2 ok3 n4 ha hl hw2 => ?_
    refine ⟨wipe_back hs ha.1 hl, ?_⟩
    have nA := n3.trans n4
    have hDn : H' Dl ≠ none := by rw [hDl]; simp
    show e.t σ2 H3 _
    refine e.ok δ2 _ hw2 Z F0 F3 H3 σ2 ok3 _ fun d' y F4 H4 n5 i5 hw3 => ?_
    obtain ⟨rfl, hw3⟩ := hw3
    refine v.ok δ2 _ hw3 Z F0 F4 H4 σ2 (ok3.next n5) _ fun d2 y2 F5 H5 n6 i6 _ => ?_
    have nB := (nA.trans n5).trans n6
    have hF5 := nB.g Dl hDn hFD
    obtain ⟨b, us, rfl, hb, lb⟩ := (i5.mono n6.f).tup_inv0
    rw [isV_ints lb] at hb
    refine ⟨xs, inK (f i), b, rfl, nB.h _ _ hDl, by rw [inK_V]; exact nB.s _ _ hb, fun z hz => nB.s _ _ (nB.f _ _ (hk z hz)), ?_, by omega, fun r => ?_⟩
    · rw [hx]
      intro hm
      obtain ⟨i', hi', e'⟩ := List.mem_map.mp hm
      have hi' := List.mem_range.mp hi'
      have e' := inK_inj e'
      have := List.pairwise_iff_getElem.mp hnd i' i (by simp; omega) (by simp; omega) hi'
      simp at this
      exact this e'
    · refine ⟨by omega, F5, xs ++ [(inK (f i), b, r)], ⟨(n2.trans nB).f, same_mut (n2.trans nB).h hD, (n2.trans nB).g, same_mut nB.s hF5⟩, upd_same, hF5, fun z hz => ?_, ?_⟩
      · rcases List.mem_append.mp hz with m | m
        · exact nB.f _ _ (hk z m)
        · rw [List.mem_singleton.mp m, inK_V]
          exact hb
      · rw [List.map_append, hx, List.range_succ, List.map_append]
        rfl
  · left
    have e1 : i = n := by omega
    subst e1
    refine ⟨wk1.2 rfl, Dl, xs, rfl, hDl, by omega, fun q hq' => ?_⟩
    have n3 : Nx F' H' F' (upd H' q (.lst (xs.map fun x => V.ref x.2.1))) := Nx.own n2.s hq'
    have hF' : F' q = none := some_ne n2.s hq'
    refine k _ q _ F' _ ((n1.trans n2).trans n3) ((n1.trans n2).h.free hq') upd_same hF' ?_ hq
    have e2 : ((List.range i).map fun i => TUI (f i)) = (xs.map (·.1)).map fun k => D.tup (k.map fun z => match z with | .inl n => D.int n | .inr t => D.str t) := by
      rw [hx, List.map_map]
      refine List.map_congr_left fun j _ => ?_
      show TUI (f j) = D.tup ((inK (f j)).map _)
      unfold TUI inK
      rw [List.map_map]
      rfl
    rw [e2, List.map_map]
    clear e2 hx hDl lx n3
    induction xs with
    | nil => exact .nil
    | cons z zs ih =>
      refine .cons ?_ (ih (fun z' m => hk z' (.tail _ m)))
      refine is_tup (hk z (.head _)) ?_
      have key : ∀ ks : List Key, IsL K F' (ks.map kV) (ks.map fun z => match z with | .inl n => D.int n | .inr t => D.str t) := fun ks => by
        induction ks with
        | nil => exact .nil
        | cons c cs ih =>
          refine .cons ?_ ih
          cases c with
          | inl n => exact .int _
          | inr t => exact .str _
      exact key z.1⟩
theorem l_keys {kx vx tg iter : Expr} {scope : Scope} {own : List (Str × Nat)} {j : Nat} {it : IX K} {g : GX K} {e v : EX K} (hr : Room j X.A) (hm : X.mg "list" = none) (hc : X.calm = true) (hN : X.N.Nodup) (ok : BlkOk X.N X.env.scope scope own) (hi : pI K X tg iter it)
    (hg : ∀ (s : Shared) (H : Hp) (C : Addr) (cl : List (Str × Addr)) (fp : List Addr), pG K (X.blk s H scope (compEnvC scope cl C X.env) fp) tg g)
    (he : ∀ (s : Shared) (H : Hp) (C : Addr) (cl : List (Str × Addr)) (fp : List Addr), pE K (X.blk s H scope (compEnvC scope cl C X.env) fp) kx e)
    (hv : ∀ (s : Shared) (H : Hp) (C : Addr) (cl : List (Str × Addr)) (fp : List Addr), pE K (X.blk s H scope (compEnvC scope cl C X.env) fp) vx v) (hf : ∀ x, foldedSetIterable iter X.env x = pure x)
    (hgl : Gl X "list" := by rfl) (hs : starEach [.DictComp kx vx [⟨tg, iter, [], 0⟩] scope pos] X.env = [(false, eval (.DictComp kx vx [⟨tg, iter, [], 0⟩] scope pos) X.env)] := by rfl) :
    pL K X (.Call (.Name "list" p) [.DictComp kx vx [⟨tg, iter, [], 0⟩] scope pos] [] pos2) (lKeys X.prog X.w it g e v (own.map (·.2))) := by
  have hk0 : X.K = K := hi.k
  subst hk0
  exact ⟨rfl, pe_callTy (call_list_dx hc) hgl hm (by decide +kernel) (pa1 (pe_dx hr hc hN hi.h ok (fun s H C cl fp => (hg s H C cl fp).h) (fun s H C cl fp => (he s H C cl fp).h) (fun s H C cl fp => (hv s H C cl fp).h) hf) hs) (by decide +kernel) (by decide +kernel) hs (by rfl)⟩
end
end PL
namespace PL
open PySem PySem.Spec PyProof.Rows L2
/-! dicts with keys that are ints or texts, one's own or lent: d[k], k in d, sorted(d); xs.pop(k) as a value; xs.index(x); list(range(..)) -/
section
variable {K : PySem.W.Frag} {X : Cx} {a b c e1 e2 : Expr} {es : List Expr} {p pos q apos cpos : Pos}
/-- d[k], own or lent -/
def eDGetL (i : Nat) (x : EX K) : EX K := ⟨tDGet (tVar i) x.t, fun δ Q => dlD K (nth δ i) fun kvs => x.w δ fun d => ∃ k y, keyD d = some k ∧ valM kvs k = some y ∧ Q y, fun δ Q hw Z F0 F H σ ok Q' k => by
  obtain ⟨kvs, he, hw⟩ := hw
  obtain ⟨p, _, a, _, _⟩ := dl_at ok he
  refine ⟨_, a, ?_⟩
  refine x.ok δ _ hw Z F0 F H σ ok _ fun d y F1 H1 n1 i1 hq => ?_
  obtain ⟨kk, y2, hk, hv, hq⟩ := hq
  obtain ⟨p2, ws, a2, h1, h2⟩ := dl_at (ok.next n1) he
  rw [a] at a2
  cases a2
  rcases isM_val kk h2 with ⟨_, z⟩ | ⟨v, d2, z1, z2, z3⟩
  · rw [z] at hv
    cases hv
  · rw [z2] at hv
    cases hv
    exact ⟨p, v, rfl, by rw [key_is i1 hk, ← z1]; exact DGet.k h1, k _ _ F1 H1 n1 z3 hq⟩⟩
/-- k in d, k not in d, own or lent -/
def eDInL (neg : Bool) (i : Nat) (x : EX K) : EX K := ⟨if neg then tDNotIn x.t (tVar i) else tDIn x.t (tVar i), fun δ Q => x.w δ fun d => dlD K (nth δ i) fun kvs => ∃ k, keyD d = some k ∧ Q (.bl (if neg then !hasK kvs k else hasK kvs k)), fun δ Q hw Z F0 F H σ ok Q' k => by
  have key : ∀ (y : V) (F1 H1 : Hp) (d : D), Nx F H F1 H1 → Is K F1 y d → (dlD K (nth δ i) fun kvs => ∃ k, keyD d = some k ∧ Q (.bl (if neg then !hasK kvs k else hasK kvs k))) → ∃ v, σ[i]? = some (some v) ∧ ∃ a o, v = .ref a ∧ DGet H1 a y o ∧ Q' (.bl (if neg then !o.isSome else o.isSome)) H1 := fun y F1 H1 d n1 i1 hd => by
    obtain ⟨kvs, he, kk, hk, hq⟩ := hd
    obtain ⟨p, ws, a, h1, h2⟩ := dl_at (ok.next n1) he
    refine ⟨_, a, p, valV ws kk, rfl, by rw [key_is i1 hk]; exact DGet.k h1, ?_⟩
    rw [isM_has kk h2]
    exact k _ _ F1 H1 n1 (.bl _) hq
  cases neg with
  | true => exact x.ok δ _ hw Z F0 F H σ ok _ fun d y F1 H1 n1 i1 hd => key y F1 H1 d n1 i1 hd
  | false => exact x.ok δ _ hw Z F0 F H σ ok _ fun d y F1 H1 n1 i1 hd => key y F1 H1 d n1 i1 hd⟩
theorem x_dninL (i : Nat) {k : Nat} {n : Str} {x : EX K} (hr : Room k X.A) (h : pE K X a x) (hN : X.N[i]? = some n := by rfl) (hv : Vis X.env.scope n := by first | exact Or.inl rfl | exact Or.inr (Or.inl rfl) | exact Or.inr (Or.inr rfl)) (hd : (n == ("__debug__" : Str)) = false := by decide +kernel)
    (hcd : (n == ("__classdict__" : Str)) = false := by decide +kernel) (hm : behindInMarks .NotIn (.Name n q) = false := by rfl) (hu : X.A.units + 1 < cLine := by exact Nat.lt_of_le_of_lt (Nat.add_le_add_left (by decide) _) hr.units) : pE K X (.Compare a [.NotIn] [.Name n q] pos) (eDInL true i x) := by
  have hk0 : X.K = K := h.k
  subst hk0
  exact ⟨rfl, pe_cmp (pc_dnotin hu h.h (pe_var hN hv hd hcd)) hm⟩
theorem x_dinL (i : Nat) {k : Nat} {n : Str} {x : EX K} (hr : Room k X.A) (h : pE K X a x) (hN : X.N[i]? = some n := by rfl) (hv : Vis X.env.scope n := by first | exact Or.inl rfl | exact Or.inr (Or.inl rfl) | exact Or.inr (Or.inr rfl)) (hd : (n == ("__debug__" : Str)) = false := by decide +kernel)
    (hcd : (n == ("__classdict__" : Str)) = false := by decide +kernel) (hm : behindInMarks .In (.Name n q) = false := by rfl) (hu : X.A.units + 1 < cLine := by exact Nat.lt_of_le_of_lt (Nat.add_le_add_left (by decide) _) hr.units) : pE K X (.Compare a [.In] [.Name n q] pos) (eDInL false i x) := by
  have hk0 : X.K = K := h.k
  subst hk0
  exact ⟨rfl, pe_cmp (pc_din hu h.h (pe_var hN hv hd hcd)) hm⟩
theorem x_dgetL (i : Nat) {k : Nat} {n : Str} {x : EX K} (hr : Room k X.A) (h : pE K X a x) (hs : NoSl a) (hN : X.N[i]? = some n := by rfl) (hv : Vis X.env.scope n := by first | exact Or.inl rfl | exact Or.inr (Or.inl rfl) | exact Or.inr (Or.inr rfl)) (hd : (n == ("__debug__" : Str)) = false := by decide +kernel)
    (hcd : (n == ("__classdict__" : Str)) = false := by decide +kernel) (hu : X.A.units + 1 < cLine := by exact Nat.lt_of_le_of_lt (Nat.add_le_add_left (by decide) _) hr.units) : pE K X (.Subscript (.Name n q) a pos) (eDGetL i x) := by
  have hk0 : X.K = K := h.k
  subst hk0
  exact ⟨rfl, pe_dget hu (pe_var hN hv hd hcd) h.h hs⟩
/-- xs.pop(k) as a value -/
def mPopAt (i : Nat) (e : EX K) : MX K := ⟨tBM K "list" rPopAt (tVar i) (tCons e.t tNil), fun δ Q => ownD (nth δ i) fun ds => ds.length ≤ 4000000 ∧ e.w δ fun d => intD d fun k => ∃ j y, ixN ds.length k = some j ∧ ds[j]? = some y ∧ Q y (put δ i (.own (ds.eraseIdx j))), fun δ Q hw Z F0 F H σ ok Q' kk => by
  obtain ⟨ds, hi, hb, hw⟩ := ownD_inv hw
  have hs := ok.at_ i
  rw [hi] at hs
  obtain ⟨p, vs, a, b, c, z, l⟩ := hs
  refine ⟨_, a, .inl ⟨rfl, _, SqL.of b⟩, ?_⟩
  refine e.ok δ _ hw Z F0 F H σ ok _ fun d v F1 H1 n1 i1 hq => ?_
  obtain ⟨k, rfl, j, y, hj, hy, hq⟩ := intD_inv hq
  obtain ⟨h1, h2, h3, h4⟩ := ixN_seq hj
  have l1 := l.mono n1.f
  obtain ⟨u, hu, iu⟩ := l1.get hy
  refine ⟨p, vs, k, j, u, rfl, by rw [i1.int_inv], n1.h _ _ b, by omega, by omega, by rw [l.1]; exact h1, hu, ?_⟩
  exact kk y u _ F1 _ ((ok.next n1).chg hi a (isl_erase j l1)) n1.f iu hq⟩
theorem m_popAt (i : Nat) {x : Str} {e : EX K} (he : pE K X a e) (hN : X.N[i]? = some x := by rfl) (hv : Vis X.env.scope x := by first | exact Or.inl rfl | exact Or.inr (Or.inl rfl)) (hd : (x == ("__debug__" : Str)) = false := by decide +kernel)
    (hcd : (x == ("__classdict__" : Str)) = false := by decide +kernel) (hbase : attributeBase (.Name x q) "pop" X.env (eval (.Name x q) X.env) = eval (.Name x q) X.env := by rfl)
    (hfew : ((backTo cpos (starEach [a] X.env)).all (fun x => !x.1) && (backToKw cpos (keywordEach [] X.env)).all (fun x => x.1.isSome) && decide (([a] : List Expr).length + ([] : List Keyword).length + (if ([] : List Keyword).isEmpty then 0 else 1) < 30)) = true := by rfl)
    (hline : (apos.endLine == cpos.line) = true := by rfl) (hs : starEach [a] X.env = [(false, eval a X.env)] := by rfl) :
    pM K X (.Call (.Attribute (.Name x q) "pop" apos) [a] [] cpos) (mPopAt i e) := by
  have hk0 : X.K = K := he.k
  subst hk0
  exact ⟨rfl, pe_bm PySem.F.plainAttrs_list PySem.F.slot_list_pop PySem.F.type_list_pop mt_popAt (pe_var hN hv hd hcd) (pa1 he.h hs) hbase hfew hline hs (by rfl)⟩
/-- xs.append(e), e changing what one has -/
def sAppM (i : Nat) (e : MX K) : SX K := ⟨tDrop (tBM K "list" rAppend (tVar i) (tCons e.t tNil)), fun δ E => (ownD (nth δ i) fun _ => True) ∧ e.w δ fun d δ1 => ownD (nth δ1 i) fun ds => ds.length < 4000000 ∧ E.nx (put δ1 i (.own (ds ++ [d]))), fun δ E hw Z F0 F H σ D ok ke => by
  obtain ⟨h0, hw⟩ := hw
  obtain ⟨ds0, hi0, _⟩ := ownD_inv h0
  have hs := ok.at_ i
  rw [hi0] at hs
  obtain ⟨p, vs0, a, b, _, _, _⟩ := hs
  refine ⟨_, a, .inl ⟨rfl, _, SqL.of b⟩, ?_⟩
  refine e.ok δ _ hw Z F0 F H σ ok _ fun d v δ1 F1 H1 ok1 s1 i1 hq => ?_
  obtain ⟨ds, hi, hb, hq⟩ := ownD_inv hq
  have hs := ok1.at_ i
  rw [hi] at hs
  obtain ⟨p1, vs, a1, b1, c1, z1, l1⟩ := hs
  rw [a] at a1
  cases a1
  refine ⟨p, vs, v, rfl, rfl, b1, ?_, ?_⟩
  · rw [l1.1]
    exact Nat.lt_trans hb (by decide)
  · exact ke.nx _ F1 _ σ (ok1.chg hi a (l1.snoc i1)) hq⟩
theorem s_appM (i : Nat) {x : Str} {e : MX K} {apos cpos : Pos} (he : pM K X a e) (hN : X.N[i]? = some x := by rfl) (hv : Vis X.env.scope x := by first | exact Or.inl rfl | exact Or.inr (Or.inl rfl)) (hd : (x == ("__debug__" : Str)) = false := by decide +kernel)
    (hcd : (x == ("__classdict__" : Str)) = false := by decide +kernel) (hbase : attributeBase (.Name x q) "append" X.env (eval (.Name x q) X.env) = eval (.Name x q) X.env := by rfl)
    (hfew : ((backTo cpos (starEach [a] X.env)).all (fun x => !x.1) && (backToKw cpos (keywordEach [] X.env)).all (fun x => x.1.isSome) && decide (([a] : List Expr).length + ([] : List Keyword).length + (if ([] : List Keyword).isEmpty then 0 else 1) < 30)) = true := by rfl)
    (hline : (apos.endLine == cpos.line) = true := by rfl) (hs : starEach [a] X.env = [(false, eval a X.env)] := by rfl) (hsw : swapsWith (.Call (.Attribute (.Name x q) "append" apos) [a] [] cpos) none pos.line X.env = pure false := by rfl) :
    pS K X (.Expr (.Call (.Attribute (.Name x q) "append" apos) [a] [] cpos) pos) (sAppM i e) := by
  have hk0 : X.K = K := he.k
  subst hk0
  exact ⟨rfl, ps_expr (pe_bm PySem.F.plainAttrs_list PySem.F.slot_list_append PySem.F.type_list_append mt_append (pe_var hN hv hd hcd) (pa1 he.h hs) hbase hfew hline hs (by rfl)) hsw⟩
/-- list(range(a, b)) -/
def lRg2 (x y : EX K) : LX K := ⟨tLstRg (tRg2 x.t y.t), fun δ Q => x.w δ fun d => y.w δ fun e => intD d fun lo => intD e fun hi => (-2000000 ≤ lo ∧ lo ≤ 2000000 ∧ -2000000 ≤ hi ∧ hi ≤ 2000000) ∧ Q ((List.range (hi - lo).toNat).map fun i => D.int (lo + (i : Nat))), fun δ Q hw Z F0 F H σ ok Q' k => by
  refine x.ok δ _ hw Z F0 F H σ ok _ fun d v F1 H1 n1 i1 hw1 => ?_
  refine y.ok δ _ hw1 Z F0 F1 H1 σ (ok.next n1) _ fun e u F2 H2 n2 i2 hw2 => ?_
  obtain ⟨lo, rfl, hw3⟩ := intD_inv hw2
  obtain ⟨hi, rfl, hb, hq⟩ := intD_inv hw3
  refine ⟨lo, hi, i1.int_inv, i2.int_inv, ⟨by omega, by omega, by omega, by omega, by omega⟩, fun q hq' => ?_⟩
  have n3 : Nx F2 H2 F2 (upd H2 q (.lst (rgV lo hi))) := Nx.own n2.s hq'
  have n12 := n1.trans n2
  refine k _ q _ F2 _ (n12.trans n3) (n12.h.free hq') upd_same (some_ne n2.s hq') ?_ hq
  unfold rgV
  generalize List.range (hi - lo).toNat = js
  induction js with
  | nil => exact .nil
  | cons j js ih => exact .cons (.int _) ih⟩
theorem l_rg2 {x y : EX K} {pos2 p2 : Pos} (hm : X.mg "list" = none) (hm2 : X.mg "range" = none) (hc : X.calm = true) (h : pE K X a x) (h2 : pE K X b y) (hg : Gl X "list" := by rfl) (hg2 : Gl X "range" := by rfl) (na : starEach [a, b] X.env = (false, eval a X.env) :: starEach [b] X.env := by rfl)
    (nb : starEach [b] X.env = (false, eval b X.env) :: starEach [] X.env := by rfl) (hp : (backTo pos (starEach [b] X.env)).any (·.1) = false := by rfl)
    (ns : starEach [.Call (.Name "range" p) [a, b] [] pos] X.env = (false, eval (.Call (.Name "range" p) [a, b] [] pos) X.env) :: starEach [] X.env := by rfl) : pL K X (.Call (.Name "list" p2) [.Call (.Name "range" p) [a, b] [] pos] [] pos2) (lRg2 x y) := by
  have hk0 : X.K = K := h.k
  subst hk0
  exact ⟨rfl, pe_listRg hc hg hm (prg_2 hg2 hm2 h.h h2.h na nb hp) ns⟩
/-- xs.index(x): ints -/
def eIndexI (x : RX K) (e : EX K) : EX K := ⟨tBM K "list" (rIndex K) x.t (tCons e.t tNil), fun δ Q => x.w δ fun ds => e.w δ fun d => intD d fun n => ∃ (ns : List Int) (j : Nat), ds = ns.map D.int ∧ ns[j]? = some n ∧ (∀ m, m < j → ns[m]? ≠ some n) ∧ Q (.int ((j : Nat) : Int)), fun δ Q hw Z F0 F H σ ok Q' k => by
  refine x.ok δ _ hw Z F0 F H σ ok _ fun ds p vs F1 H1 n1 s1 l hq => ?_
  refine ⟨.inl ⟨rfl, _, s1⟩, ?_⟩
  refine e.ok δ _ hq Z F0 F1 H1 σ (ok.next n1) _ fun d v F2 H2 n2 i2 hq => ?_
  obtain ⟨n, rfl, ns, j, rfl, hj, hno, hq⟩ := intD_inv hq
  rw [isV_ints l] at s1
  rw [i2.int_inv]
  refine ⟨p, ns.map V.int, .int n, j, .int n, rfl, rfl, n2.h.seq s1, rfl, ?_, by rw [List.getElem?_map, hj]; rfl, by simp [eqV], fun m z hm hz => ?_, k _ _ F2 H2 (n1.trans n2) (.int _) hq⟩
  · rw [List.all_map]
    exact List.all_eq_true.mpr fun _ _ => rfl
  · rw [List.getElem?_map] at hz
    cases e : ns[m]? with
    | none => rw [e] at hz; cases hz
    | some y =>
      rw [e] at hz
      cases hz
      have hne : y ≠ n := fun z => hno m hm (by rw [e, z])
      simp [eqV, hne]⟩
theorem x_index {x : RX K} {e : EX K} (hx : pR K X a x) (he : pE K X b e) (hbase : attributeBase a "index" X.env (eval a X.env) = eval a X.env := by rfl)
    (hfew : ((backTo cpos (starEach [b] X.env)).all (fun x => !x.1) && (backToKw cpos (keywordEach [] X.env)).all (fun x => x.1.isSome) && decide (([b] : List Expr).length + ([] : List Keyword).length + (if ([] : List Keyword).isEmpty then 0 else 1) < 30)) = true := by rfl)
    (hline : (apos.endLine == cpos.line) = true := by rfl) (hs : starEach [b] X.env = [(false, eval b X.env)] := by rfl) : pE K X (.Call (.Attribute a "index" apos) [b] [] cpos) (eIndexI x e) := by
  have hk0 : X.K = K := hx.k
  subst hk0
  exact ⟨rfl, pe_bm PySem.F.plainAttrs_list PySem.F.slot_list_index PySem.F.type_list_index mt_index hx.h (pa1 he.h hs) hbase hfew hline hs (by rfl)⟩
/-- sorted(d), the keys ints -/
def lSortD (i : Nat) : LX K := ⟨tCB (fun xs H Q => ∃ (a : Addr) (kvs : List (Key × V)) (ks : List Int), xs = [.ref a] ∧ Rd H a (.dK kvs) ∧ kvs.map (·.1) = ks.map Sum.inl ∧ ks.length < 64 ∧ ∀ (ys : List Int) (p : Addr), ys.Perm ks → ys.Pairwise (· ≤ ·) → H p = none → Q (.ref p) (upd H p (.lst (ys.map V.int)))) (tCons (tVar i) tNil),
  fun δ Q => dlD K (nth δ i) fun kvs => ∃ ks : List Int, kvs.map (·.1) = ks.map Sum.inl ∧ ks.length < 64 ∧ ∀ ys : List Int, ys.Perm ks → ys.Pairwise (· ≤ ·) → Q (ys.map D.int), fun δ Q hw Z F0 F H σ ok Q' k => by
  obtain ⟨kvs, he, ks, h1, h2, hq⟩ := hw
  obtain ⟨p, ws, a, g1, g2⟩ := dl_at ok he
  refine ⟨_, a, p, ws, ks, rfl, .inl g1, by rw [g2.1, h1], h2, fun ys q hp hs hn => ?_⟩
  have n1 : Nx F H F (upd H q (.lst (ys.map V.int))) := Nx.own ok.nx.s hn
  refine k _ q _ F _ n1 hn upd_same (some_ne ok.nx.s hn) ?_ (hq ys hp hs)
  clear hp hs hq n1
  induction ys with
  | nil => exact .nil
  | cons y ys ih => exact .cons (.int _) ih⟩
theorem l_sortD (i : Nat) {n : Str} (hc : X.calm = true) (hm : X.mg "sorted" = none) (hN : X.N[i]? = some n := by rfl) (hv : Vis X.env.scope n := by first | exact Or.inl rfl | exact Or.inr (Or.inl rfl) | exact Or.inr (Or.inr rfl)) (hd : (n == ("__debug__" : Str)) = false := by decide +kernel)
    (hcd : (n == ("__classdict__" : Str)) = false := by decide +kernel) (hg : Gl X "sorted" := by rfl) (hs : starEach [.Name n q] X.env = [(false, eval (.Name n q) X.env)] := by rfl) (hk : X.K = K := by rfl) : pL K X (.Call (.Name "sorted" p) [.Name n q] [] pos) (lSortD (K := K) i) := by
  have hk0 : X.K = K := hk
  subst hk0
  exact ⟨rfl, pe_callB (call_sortedDI hc) hg hm (by decide +kernel) (pa1 (pe_var hN hv hd hcd) hs) (by decide +kernel) (by decide +kernel) hs (by rfl)⟩
end
end PL
namespace PL
open PySem PySem.Spec PyProof.Rows L2
/-! a thing of one's own (a dict, an instance) that a def returns, or that is handed over to a def which changes it -/
section
variable {K : PySem.W.Frag} {X : Cx} {a b c e1 e2 : Expr} {es : List Expr} {p pos q apos cpos : Pos}
/-- the thing of one's own at a name -/
def bigE (e : Ent) (Q : Big → List Addr → Prop) : Prop := ∃ B fp, e = .big B fp ∧ Q B fp
/-- return x, a thing of one's own -/
def sRetB (i : Nat) : SX K := ⟨tRet (tVar i), fun δ E => bigE (nth δ i) fun B fp => ∀ p, p ∈ fp → E.rb p B fp, fun δ E hw Z F0 F H σ D ok ke => by
  obtain ⟨B, fp, hi, hw⟩ := hw
  have hs := ok.at_ i
  rw [hi] at hs
  obtain ⟨p, a, hm, hq, hB⟩ := hs
  exact ⟨_, a, ke.rb p B fp F H ok.nx hm hq hB (hw p hm)⟩⟩
theorem s_retB (i : Nat) {x : Str} (hN : X.N[i]? = some x := by rfl) (hv : Vis X.env.scope x := by first | exact Or.inl rfl | exact Or.inr (Or.inl rfl) | exact Or.inr (Or.inr rfl)) (hd : (x == ("__debug__" : Str)) = false := by decide +kernel)
    (hcd : (x == ("__classdict__" : Str)) = false := by decide +kernel) (hk : X.K = K := by rfl) : pS K X (.Return (some (.Name x p)) pos) (sRetB i) := by
  have hk0 : X.K = K := hk
  subst hk0
  exact ⟨rfl, ps_ret (pe_var hN hv hd hcd)⟩
/-- what a def that returns a thing of its own promises -/
abbrev BSp := List Ar → (Addr → Big → List Addr → Prop) → Prop
def spOfB (K : PySem.W.Frag) (R : BSp) : Sp := fun vs H Q _ => ∃ (F : Hp) (as : List Ar) (P : Addr → Big → List Addr → Prop), Same F H ∧ ArsOk K F H vs as ∧ R as P ∧
  ∀ p B fp F' H', P p B fp → Nx F H F' H' → p ∈ fp → (∀ q ∈ fp, H' q ≠ none ∧ F' q = none ∧ H q = none) → B.P F' H' p fp → Q (.ref p) H'
/-- x = f(..), a thing of one's own -/
def sSetB (R : BSp) (i : Nat) (a : AX K) : SX K := ⟨tAsg (tCall (spOfB K R) [] E0 a.t) (gName i), fun δ E => a.w δ fun as => R as fun p B fp => E.nx (put δ i (.big B fp)), fun δ E hw Z F0 F H σ D ok ke => by
  refine a.ok δ _ hw Z F0 F H σ ok _ fun as vs F1 H1 n1 i1 hw1 => ?_
  show spOfB K R (vs ++ []) H1 _ E0
  rw [List.append_nil]
  have ok1 := ok.next n1
  refine ⟨F1, as, _, n1.s, i1, hw1, fun p B fp F' H' q n hm hq hB => ?_⟩
  refine ke.nx _ F' H' _ ((ok1.next n).newBig hm (fun q' h' => ⟨(hq q' h').1, (hq q' h').2.1, ok1.nx.h.free (hq q' h').2.2⟩) hB (fun j q' h1 h2 => ?_)) q
  exact ((ok1.at_ j).mine h1).1 (hq q' h2).2.2⟩
def CalB (P : Program) (w : World) (K : PySem.W.Frag) (mg : Str → Option Value) (base : Heap) (x : Str) (k : Nat) (ps : List Str) (R : BSp) : Prop := ∃ f fd, FnOk P w K mg base CX0 k f fd ps (spOfB K R) ∧ mg x = some (.ref f) ∧ PySem.W.keepIn K (.ref f) = true ∧ Binds K fd ps []
theorem CalB.mk {P : Program} {w : World} {mg : Str → Option Value} {base : Heap} {x qual : Str} {st : Stmt} {f : Addr} {fd : FuncData} {k : Nat} {ps : List Str} {R : BSp} (Fn : Fun K x qual st f fd) (F : FnOk P w K mg base CX0 k f fd ps (spOfB K R)) (m : mg x = some (.ref f)) (b : Binds K fd ps []) : CalB P w K mg base x k ps R := ⟨f, fd, F, m, Fn.kp, b⟩
theorem s_setB (i : Nat) {n x : Str} {ps : List Str} {j k : Nat} {R : BSp} {y : AX K} {e : Expr} {p2 p3 : Pos} (cc : CalB X.prog X.w K X.mg X.base x k ps R) (hr : Room j X.A) (hN : X.N.Nodup) (h : pA K X (e :: es) y) (hi : X.N[i]? = some n := by rfl) (hx : Loc X.env.scope n := by first | exact Or.inl rfl | exact Or.inr rfl)
    (hjk : k ≤ j := by decide) (hg : Gl X x := by rfl) (hd : (x == ("__debug__" : Str)) = false := by decide +kernel)
    (hst : starEach (e :: es) X.env = (false, eval e X.env) :: starEach es X.env := by rfl) (hpl : (backTo pos (starEach es X.env)).any (·.1) = false := by rfl)
    (hs : swapsWith (.Call (.Name x p) (e :: es) [] pos) (some (.Name n p2)) p3.line X.env = pure false := by rfl)
    (hf : X.fn n = true ∨ X.env.scope.names.lookup n = some .local := by first | exact .inl rfl | exact .inr rfl | assumption) : pS K X (.Assign [.Name n p2] (.Call (.Name x p) (e :: es) [] pos) p3) (sSetB R i y) := by
  have hk0 : X.K = K := h.k
  subst hk0
  obtain ⟨f, fd, F, m, kp, b⟩ := cc
  exact ⟨rfl, ps_set hN hi hx (pe_call F (hr.mono hjk) hg m kp b .nil pass0 h.h (hdb := hd) (he := hst) (hpl := hpl)) hs hf⟩
theorem fnokB {P : Program} {w : World} {mg : Str → Option Value} {base : Heap} {x qual : Str} {st : Stmt} {f : Addr} {fd : FuncData} {N ps : List Str} {k : Nat} {R : BSp} (Fn : Fun K x qual st f fd) (S : FnScope N ps (defScope st))
    (len : ∀ as P, R as P → as.length = ps.length) (hl : ps.length ≤ N.length)
    (h : ∀ (cdv : Value) (A : Around) (outer : List Env) (s : Shared) (H : Hp) (E : XK), Room k (A.deeper (envOfC qual (defScope st) s.heap.objs.size f cdv)) → ∃ B : SX K,
      pB K (cxOf CX0 P w K mg base N qual (defScope st) f cdv A outer s H E).nox (defBody st) B ∧ ∀ as Q, R as Q → B.w (ents as N.length) { nx := fun _ => False, rt := fun _ => False, rb := Q }) : FnOk P w K mg base CX0 (k + 1) f fd ps (spOfB K R) := by
  refine Fn.ok S (fun vs H Q E h => ?_) (fun cdv A outer s H vs Q E hr hsp => ?_)
  · obtain ⟨F, as, P, _, ha, hR, _⟩ := h
    rw [ars_len ha]
    exact len as P hR
  · obtain ⟨F, as, P, sf, ha, hR, kk⟩ := hsp
    obtain ⟨B, hB, hw⟩ := h cdv A outer s H E hr
    refine ⟨B.t, hB.h, B.ok _ _ (hw as P hR) H F F H _ _ (ok_start sf ha (by rw [len as P hR]; exact hl)) ⟨fun _ _ _ _ _ q => q.elim, fun _ _ _ _ _ _ q => q.elim, fun _ _ _ _ _ q => q.elim, fun _ _ _ _ _ q => q.elim, fun _ _ _ _ _ _ _ _ _ _ q => q.elim, fun _ _ _ _ _ _ _ _ _ _ _ _ _ _ _ _ _ q => q.elim, fun _ _ _ _ _ _ _ _ q => q.elim, fun p B fp F' H' n hm hq hB q => kk p B fp F' H' q n hm hq hB, fun _ _ _ _ _ _ _ _ _ q => q.elim⟩⟩
end
end PL
namespace PL
open PySem PySem.Spec PyProof.Rows L2
/-! a thing of one's own (a dict) handed over, among data, to a def that changes it and may raise; an instance that a def returns -/
section
variable {K : PySem.W.Frag} {X : Cx} {a b c e1 e2 : Expr} {es : List Expr} {p pos q apos cpos : Pos}
/-- return o, an instance of one's own -/
def sRetO (C : Addr) (i : Nat) : SX K := ⟨tRet (tVar i), fun δ E => obD K C (nth δ i) fun p fs fp => E.rb p (ObjB K C p fs) fp, fun δ E hw Z F0 F H σ D ok ke => by
  obtain ⟨p, fs, fp, hi, hw⟩ := hw
  have hs := ok.at_ i
  rw [hi] at hs
  obtain ⟨p', a, hm, hq, hB⟩ := hs
  have e : p' = p := hB.1
  subst e
  exact ⟨_, a, ke.rb _ _ fp F H ok.nx hm hq hB hw⟩⟩
theorem s_retO {C : Addr} (i : Nat) {x : Str} (hN : X.N[i]? = some x := by rfl) (hv : Vis X.env.scope x := by first | exact Or.inl rfl | exact Or.inr (Or.inl rfl) | exact Or.inr (Or.inr rfl)) (hd : (x == ("__debug__" : Str)) = false := by decide +kernel)
    (hcd : (x == ("__classdict__" : Str)) = false := by decide +kernel) (hk : X.K = K := by rfl) : pS K X (.Return (some (.Name x p)) pos) (sRetO C i) := by
  have hk0 : X.K = K := hk
  subst hk0
  exact ⟨rfl, ps_ret (pe_var hN hv hd hcd)⟩
/-- a thing of one's own, changed -/
theorem Ok.chgB {Z F0 F H F' H' : Hp} {σ : L2.St} {δ : List Ent} {i : Nat} {B : Big} {e : Ent} {fp : List Addr} (ok : Ok K Z F0 F H σ δ) (hi : nth δ i = .big B fp) (s1 : Same F F') (s2 : Same F' H')
    (h1 : ∀ q o, q ∉ fp → H q = some o → H' q = some o) (h2 : ∀ q, q ∉ fp → H q ≠ none → F q = none → F' q = none)
    (he : (∀ q ∈ fp, Z q = none) → (∀ q, H q = none → Z q = none) → SlotOk K Z F' H' σ[i]? e) (hh : ∀ q, e.has σ[i]? q → H q ≠ none → q ∈ fp) : Ok K Z F0 F' H' σ (put δ i e) := by
  have hs := ok.at_ i
  rw [hi] at hs
  obtain ⟨_, _, _, hm, _⟩ := hs
  have nz : ∀ q o, Z q = some o → q ∉ fp := fun q o e z => by rw [(hm q z).2.2] at e; cases e
  have own : ∀ j q, j ≠ i → (nth δ j).has σ[j]? q → q ∉ fp := fun j q hj h z => hj (ok.ow j i q h (by rw [hi]; exact z))
  refine ok.chgE (σ' := σ) ⟨ok.nx.f.trans s1, fun q o e => h1 q o (nz q o e) (ok.nx.h q o e), fun q hz hf => ?_, s2⟩ rfl (fun _ _ => rfl) (fun _ => he (fun q hq => (hm q hq).2.2) (fun q hq => ok.nx.h.free hq)) (fun j hj => (ok.at_ j).frame s1 (fun q hq => ?_) (fun q hq => ?_)) (fun j q hj h hl z => ?_)
  · have hq : q ∉ fp := by
      cases e : Z q with
      | none => exact absurd e hz
      | some o => exact nz q o e
    exact h2 q hq (PL.Same.ne_none ok.nx.h hz) (ok.nx.g q hz hf)
  · have m := (ok.at_ j).mine hq
    exact h2 q (own j q hj hq) m.1 m.2.1
  · have m := (ok.at_ j).mine hq
    cases e : H q with
    | none => exact absurd e m.1
    | some o => exact h1 q o (own j q hj hq) e
  · exact own j q hj h (hh q z ((ok.at_ j).mine h).1)
/-- what a def promises that is handed a thing over, among data: the data ahead, the thing, the data behind -/
abbrev HSp := List D → Big → List D → (D → Big → Prop) → (Addr → List (Str × D) → Prop) → Prop
def spOfH (K : PySem.W.Frag) (R : HSp) : Sp := fun vs H Q E => ∃ (F : Hp) (ws : List V) (p : Addr) (us : List V) (ds es : List D) (B : Big) (fp : List Addr) (P : D → Big → Prop) (X : Addr → List (Str × D) → Prop), vs = ws ++ .ref p :: us ∧ Same F H ∧ B.P F H p fp ∧ p ∈ fp ∧ (∀ q ∈ fp, H q ≠ none ∧ F q = none) ∧ IsL K F ws ds ∧ IsL K F us es ∧ R ds B es P X ∧
  (∀ d v B' fp' F' H', P d B' → Same F F' → Same F' H' → (∀ q o, q ∉ fp → H q = some o → H' q = some o) → (∀ q, q ∉ fp → H q ≠ none → F q = none → F' q = none) → p ∈ fp' → B'.P F' H' p fp' → (∀ q ∈ fp', H' q ≠ none ∧ F' q = none ∧ (H q ≠ none → q ∈ fp)) → Is K F' v d → Q v H') ∧
  ∀ C' fs' d F' H', X C' fs' → Same F F' → Same F' H' → (∀ q o, q ∉ fp → H q = some o → H' q = some o) → (∀ q, q ∉ fp → H q ≠ none → F q = none → F' q = none) → ErrOk K F' H' d fs' → E (.ref C') d H'
/-- the arguments of such a call -/
structure HA (K : PySem.W.Frag) (j : Nat) where
  t : TA
  w : List Ent → (List D → List D → Prop) → Prop
  ok : ∀ δ Q, w δ Q → ∀ Z F0 F H σ, Ok K Z F0 F H σ δ → ∀ p, σ[j]? = some (some (.ref p)) → ∀ Q' : List V → Hp → Prop, (∀ ds es ws us F' H', Nx F H F' H' → IsL K F' ws ds → IsL K F' us es → Q ds es → Q' (ws ++ .ref p :: us) H') → t σ H Q'
def haName (j : Nat) (r : AX K) : HA K j := ⟨tCons (tVar j) r.t, fun δ Q => r.w δ fun as => dsD as fun es => Q [] es, fun δ Q hw Z F0 F H σ ok p hp Q' k => ⟨_, hp, by
  refine r.ok δ _ hw Z F0 F H σ ok _ fun as us F1 H1 n1 i1 hq => ?_
  obtain ⟨es, e, _, hq⟩ := dsD_inv hq
  exact k [] es [] us F1 H1 n1 .nil (dats_ok i1 e) hq⟩⟩
def haCons {j : Nat} (x : EX K) (r : HA K j) : HA K j := ⟨tCons x.t r.t, fun δ Q => x.w δ fun d => r.w δ fun ds es => Q (d :: ds) es, fun δ Q hw Z F0 F H σ ok p hp Q' k => by
  refine x.ok δ _ hw Z F0 F H σ ok _ fun d v F1 H1 n1 i1 hw1 => ?_
  refine r.ok δ _ hw1 Z F0 F1 H1 σ (ok.next n1) p hp _ fun ds es ws us F2 H2 n2 l2 l3 hq => ?_
  exact k (d :: ds) es (v :: ws) us F2 H2 (n1.trans n2) (.cons (i1.mono n2.f) l2) l3 hq⟩
structure pH (K : PySem.W.Frag) (X : Cx) {j : Nat} (es : List Expr) (y : HA K j) : Prop where
  k : X.K = K
  h : PA X es y.t
theorem h_name (j : Nat) {n : Str} {r : AX K} (hr : pA K X es r) (hN : X.N[j]? = some n := by rfl) (hv : Vis X.env.scope n := by first | exact Or.inl rfl | exact Or.inr (Or.inl rfl) | exact Or.inr (Or.inr rfl)) (hd : (n == ("__debug__" : Str)) = false := by decide +kernel)
    (hcd : (n == ("__classdict__" : Str)) = false := by decide +kernel) (hs : starEach (.Name n q :: es) X.env = (false, eval (.Name n q) X.env) :: starEach es X.env := by rfl) : pH K X (.Name n q :: es) (haName (K := K) j r) := by
  have hk0 : X.K = K := hr.k
  subst hk0
  exact ⟨rfl, pa_cons (pe_var hN hv hd hcd) hr.h hs⟩
theorem h_cons {j : Nat} {x : EX K} {y : HA K j} (h : pE K X a x) (r : pH K X es y) (hs : starEach (a :: es) X.env = (false, eval a X.env) :: starEach es X.env := by rfl) : pH K X (a :: es) (haCons x y) := ⟨h.k, pa_cons h.h r.h hs⟩
/-- f(.., x, ..) as a statement: the thing at x is changed; nothing is raised -/
def sCalH (R : HSp) (j : Nat) (y : HA K j) : SX K := ⟨tDrop (tCall (spOfH K R) [] E0 y.t), fun δ E => bigE (nth δ j) fun B fp => y.w δ fun ds es => R ds B es (fun _ B' => ∀ fp', E.nx (put δ j (.big B' fp'))) fun _ _ => False, fun δ E hw Z F0 F H σ D ok ke => by
  obtain ⟨B, fp, hi, hw⟩ := hw
  have hs := ok.at_ j
  rw [hi] at hs
  obtain ⟨p, a, hm, hq, hB⟩ := hs
  refine y.ok δ _ hw Z F0 F H σ ok p a _ fun ds es ws us F1 H1 n1 l1 l2 hR => ?_
  show spOfH K R ((ws ++ .ref p :: us) ++ []) H1 _ E0
  rw [List.append_nil]
  have ok1 := ok.next n1
  have hs := ok1.at_ j
  rw [hi] at hs
  obtain ⟨p1, a1, hm1, hq1, hB1⟩ := hs
  have e := a.symm.trans a1
  cases e
  refine ⟨F1, ws, p, us, ds, es, B, fp, _, _, rfl, n1.s, hB1, hm, fun q h => ⟨(hq1 q h).1, (hq1 q h).2.1⟩, l1, l2, hR, fun d v B' fp' F' H' hP g1 g2 g3 g4 g5 g6 g7 i => ?_, fun _ _ _ _ _ q => q.elim⟩
  refine ke.nx _ F' H' σ (ok1.chgB (e := .big B' fp') hi g1 g2 g3 g4 (fun zf zn => ⟨p, a, g5, fun q h => ⟨(g7 q h).1, (g7 q h).2.1, ?_⟩, g6⟩) (fun q h hn => (g7 q h).2.2 hn)) (hP fp')
  by_cases hn : H1 q = none
  · exact zn q hn
  · exact zf q ((g7 q h).2.2 hn)⟩
/-- the same; what it raises goes on, the thing at x is no longer known then -/
def sCalHX (W : WX) (R : HSp) (j : Nat) (y : HA K j) : SX K := ⟨tDrop (tCallS (spOfH K R) (WE W) y.t), fun δ E => E.W = W ∧ bigE (nth δ j) fun B fp => y.w δ fun ds es => R ds B es (fun _ B' => ∀ fp', E.nx (put δ j (.big B' fp'))) fun C fs => E.xw C fs (put δ j .no), fun δ E hw Z F0 F H σ D ok ke => by
  obtain ⟨eW, B, fp, hi, hw⟩ := hw
  have hs := ok.at_ j
  rw [hi] at hs
  obtain ⟨p, a, hm, hq, hB⟩ := hs
  refine y.ok δ _ hw Z F0 F H σ ok p a _ fun ds es ws us F1 H1 n1 l1 l2 hR => ?_
  have ok1 := ok.next n1
  have hs := ok1.at_ j
  rw [hi] at hs
  obtain ⟨p1, a1, hm1, hq1, hB1⟩ := hs
  have e := a.symm.trans a1
  cases e
  refine ⟨F1, ws, p, us, ds, es, B, fp, _, _, rfl, n1.s, hB1, hm, fun q h => ⟨(hq1 q h).1, (hq1 q h).2.1⟩, l1, l2, hR, fun d v B' fp' F' H' hP g1 g2 g3 g4 g5 g6 g7 i => ?_, fun C' fs' d F' H' q g1 g2 g3 g4 he => ?_⟩
  · refine ke.nx _ F' H' σ (ok1.chgB (e := .big B' fp') hi g1 g2 g3 g4 (fun zf zn => ⟨p, a, g5, fun q h => ⟨(g7 q h).1, (g7 q h).2.1, ?_⟩, g6⟩) (fun q h hn => (g7 q h).2.2 hn)) (hP fp')
    by_cases hn : H1 q = none
    · exact zn q hn
    · exact zf q ((g7 q h).2.2 hn)
  · have := ke.xs C' fs' d _ F' H' σ (ok1.chgB (e := .no) hi g1 g2 g3 g4 (fun _ _ => trivial) (fun q h => h.elim)) he q
    rw [eW] at this
    exact this⟩
def CalH (P : Program) (w : World) (K : PySem.W.Frag) (mg : Str → Option Value) (base : Heap) (x : Str) (k : Nat) (ps : List Str) (R : HSp) : Prop := ∃ f fd, FnOk P w K mg base CX0 k f fd ps (spOfH K R) ∧ mg x = some (.ref f) ∧ PySem.W.keepIn K (.ref f) = true ∧ Binds K fd ps []
theorem CalH.mk {P : Program} {w : World} {mg : Str → Option Value} {base : Heap} {x qual : Str} {st : Stmt} {f : Addr} {fd : FuncData} {k : Nat} {ps : List Str} {R : HSp} (Fn : Fun K x qual st f fd) (F : FnOk P w K mg base CX0 k f fd ps (spOfH K R)) (m : mg x = some (.ref f)) (b : Binds K fd ps []) : CalH P w K mg base x k ps R := ⟨f, fd, F, m, Fn.kp, b⟩
def CalHX (P : Program) (w : World) (K : PySem.W.Frag) (mg : Str → Option Value) (base : Heap) (x : Str) (k : Nat) (ps : List Str) (R : HSp) : Prop := ∃ f fd, FnOk P w K mg base (L2.CX P w) k f fd ps (spOfH K R) ∧ mg x = some (.ref f) ∧ PySem.W.keepIn K (.ref f) = true ∧ Binds K fd ps []
theorem CalHX.mk {P : Program} {w : World} {mg : Str → Option Value} {base : Heap} {x qual : Str} {st : Stmt} {f : Addr} {fd : FuncData} {k : Nat} {ps : List Str} {R : HSp} (Fn : Fun K x qual st f fd) (F : FnOk P w K mg base (L2.CX P w) k f fd ps (spOfH K R)) (m : mg x = some (.ref f)) (b : Binds K fd ps []) : CalHX P w K mg base x k ps R := ⟨f, fd, F, m, Fn.kp, b⟩
theorem s_calH (i : Nat) {x : Str} {ps : List Str} {j k : Nat} {R : HSp} {y : HA K i} {e : Expr} {p3 : Pos} (cc : CalH X.prog X.w K X.mg X.base x k ps R) (hr : Room j X.A) (h : pH K X (e :: es) y) (hjk : k ≤ j := by decide) (hg : Gl X x := by rfl) (hd : (x == ("__debug__" : Str)) = false := by decide +kernel)
    (hst : starEach (e :: es) X.env = (false, eval e X.env) :: starEach es X.env := by rfl) (hpl : (backTo pos (starEach es X.env)).any (·.1) = false := by rfl)
    (hs : swapsWith (.Call (.Name x p) (e :: es) [] pos) none p3.line X.env = pure false := by rfl) : pS K X (.Expr (.Call (.Name x p) (e :: es) [] pos) p3) (sCalH R i y) := by
  have hk0 : X.K = K := h.k
  subst hk0
  obtain ⟨f, fd, F, m, kp, b⟩ := cc
  exact ⟨rfl, ps_expr (pe_call F (hr.mono hjk) hg m kp b .nil pass0 h.h (hdb := hd) (he := hst) (hpl := hpl)) hs⟩
theorem s_calHX (i : Nat) {W : WX} {x : Str} {ps : List Str} {j k : Nat} {R : HSp} {y : HA K i} {e : Expr} {p3 : Pos} (cc : CalHX X.prog X.w K X.mg X.base x k ps R) (tk : Takes X W) (hr : Room j X.A) (h : pH K X (e :: es) y) (hjk : k ≤ j := by decide) (hg : Gl X x := by rfl) (hd : (x == ("__debug__" : Str)) = false := by decide +kernel)
    (hst : starEach (e :: es) X.env = (false, eval e X.env) :: starEach es X.env := by rfl) (hpl : (backTo pos (starEach es X.env)).any (·.1) = false := by rfl)
    (hs : swapsWith (.Call (.Name x p) (e :: es) [] pos) none p3.line X.env = pure false := by rfl) : pS K X (.Expr (.Call (.Name x p) (e :: es) [] pos) p3) (sCalHX W R i y) := by
  have hk0 : X.K = K := h.k
  subst hk0
  obtain ⟨f, fd, F, m, kp, b⟩ := cc
  exact ⟨rfl, ps_expr (pe_callS F (hr.mono hjk) hg m kp b (fun σ => passAt tk σ) h.h (hdb := hd) (he := hst) (hpl := hpl)) hs⟩
end
end PL
namespace PL
open PySem PySem.Spec PyProof.Rows L2
/-! the def that is handed a thing over: its body -/
section
variable {K : PySem.W.Frag} {X : Cx}
/-- the state at the start -/
def entsH (ds : List D) (B : Big) (fp : List Addr) (es : List D) (n : Nat) : List Ent := ds.map .dat ++ (.big B fp :: (es.map .dat ++ nos (n - (ds.length + 1 + es.length))))
/-- the thing at slot i, where it was -/
def atB (i : Nat) (fp : List Addr) (Q : Big → Prop) (δ : List Ent) : Prop := bigE (nth δ i) fun B fp' => fp' = fp ∧ Q B
/-- a thing with one address, as a dict is -/
def Big.one (B : Big) : Prop := ∀ (F H : Hp) (p : Addr) (fp : List Addr), B.P F H p fp → fp = [p]
theorem DicB.one (kvs : List (Key × D)) : (DicB K kvs).one := fun _ _ _ _ h => h.1
theorem okH {F H : Hp} {N : List Str} {ws us : List V} {p : Addr} {fp : List Addr} {B : Big} {ds es : List D} (sf : Same F H) (hB : B.P F H p fp) (hm : p ∈ fp) (hfp : ∀ q ∈ fp, H q ≠ none ∧ F q = none) (lw : IsL K F ws ds) (lu : IsL K F us es)
    (hl : ds.length + 1 + es.length ≤ N.length) :
    Ok K (fun q => if q ∈ fp then none else H q) F F H (L2.start N (ws ++ .ref p :: us)) (entsH ds B fp es N.length) := by
  have wl := lw.1
  have ul := lu.1
  have zp : ∀ q, q ∈ fp → (fun q => if q ∈ fp then none else H q) q = none := fun q hq => if_pos hq
  have zs : Same (fun q => if q ∈ fp then none else H q) H := fun q o e => by
    by_cases hq : q ∈ fp
    · rw [zp q hq] at e; cases e
    · have e : (if q ∈ fp then none else H q) = some o := e
      rw [if_neg hq] at e
      exact e
  have st : ∀ i, (L2.start N (ws ++ .ref p :: us))[i]? = if i < ds.length then (ws.map some)[i]? else if i = ds.length then some (some (.ref p)) else if i - (ds.length + 1) < es.length then (us.map some)[i - (ds.length + 1)]? else (L2.start N (ws ++ .ref p :: us))[i]? := fun i => by
    split
    · rename_i hi
      unfold L2.start
      rw [List.map_append, List.append_assoc, List.getElem?_append_left (by rw [List.length_map]; omega)]
    · split
      · rename_i hi
        unfold L2.start
        rw [List.map_append, List.append_assoc, List.getElem?_append_right (by rw [List.length_map]; omega), List.length_map, hi, wl, Nat.sub_self]
        rfl
      · split
        · rename_i h1 h2 hi
          unfold L2.start
          rw [List.map_append, List.append_assoc, List.getElem?_append_right (by rw [List.length_map]; omega), List.length_map, wl]
          obtain ⟨m, e⟩ : ∃ m, i - ds.length = m + 1 := ⟨i - ds.length - 1, by omega⟩
          have e2 : i - (ds.length + 1) = m := by omega
          rw [e2] at hi ⊢
          rw [e, List.map_cons, List.cons_append, List.getElem?_cons_succ, List.getElem?_append_left (by rw [List.length_map]; omega)]
        · rfl
  have en : ∀ i, nth (entsH ds B fp es N.length) i = if i < ds.length then nth (ds.map Ent.dat) i else if i = ds.length then .big B fp else if i - (ds.length + 1) < es.length then nth (es.map Ent.dat) (i - (ds.length + 1)) else .no := fun i => by
    unfold entsH
    rw [nth_app, List.length_map]
    split
    · rfl
    · split
      · rename_i hi
        rw [hi, Nat.sub_self]
        rfl
      · rename_i h1 h2
        obtain ⟨m, e⟩ : ∃ m, i - ds.length = m + 1 := ⟨i - ds.length - 1, by omega⟩
        have e2 : i - (ds.length + 1) = m := by omega
        rw [e, e2]
        show nth (es.map Ent.dat ++ nos _) m = _
        rw [nth_app, List.length_map]
        split
        · rfl
        · exact nth_nos _ _
  have m0 : ∀ i q, (nth (entsH ds B fp es N.length) i).has (L2.start N (ws ++ .ref p :: us))[i]? q → i = ds.length := fun i q hq => by
    rw [en i] at hq
    split at hq
    · rename_i hi
      rw [nth_map (List.getElem?_eq_getElem hi)] at hq
      exact hq.elim
    · split at hq
      · rename_i h1 hi
        exact hi
      · split at hq
        · rename_i hi
          rw [nth_map (List.getElem?_eq_getElem hi)] at hq
          exact hq.elim
        · exact hq.elim
  refine ⟨⟨.refl _, zs, fun _ _ h => h, sf⟩, ?_, fun i => ?_, fun i j q h1 h2 => ?_⟩
  · simp [L2.start, entsH, nos_len, wl, ul]
    omega
  · rw [en i]
    split
    · rename_i hi
      rw [nth_map (List.getElem?_eq_getElem hi), st i, if_pos hi, List.getElem?_map, List.getElem?_eq_getElem (show i < ws.length by omega)]
      exact ⟨_, rfl, lw.2 i _ _ (List.getElem?_eq_getElem (by omega)) (List.getElem?_eq_getElem hi)⟩
    · split
      · rename_i h1 hi
        rw [st i, if_neg h1, if_pos hi]
        exact ⟨p, rfl, hm, fun q hq => ⟨(hfp q hq).1, (hfp q hq).2, zp q hq⟩, hB⟩
      · split
        · rename_i h1 h2 hi
          rw [nth_map (List.getElem?_eq_getElem hi), st i, if_neg h1, if_neg h2, if_pos hi, List.getElem?_map, List.getElem?_eq_getElem (show i - (ds.length + 1) < us.length by omega)]
          exact ⟨_, rfl, lu.2 _ _ _ (List.getElem?_eq_getElem (by omega)) (List.getElem?_eq_getElem hi)⟩
        · trivial
  · rw [m0 i q h1, m0 j q h2]
theorem fnokH {P : Program} {w : World} {mg : Str → Option Value} {base : Heap} {x qual : Str} {st : Stmt} {f : Addr} {fd : FuncData} {N ps : List Str} {k : Nat} {R : HSp} (Fn : Fun K x qual st f fd) (S : FnScope N ps (defScope st)) (m : Nat)
    (len : ∀ ds B es P X, R ds B es P X → ds.length = m ∧ ds.length + 1 + es.length = ps.length ∧ B.one) (hl : ps.length ≤ N.length)
    (h : ∀ (cdv : Value) (A : Around) (outer : List Env) (s : Shared) (H : Hp) (E : XK), Room k (A.deeper (envOfC qual (defScope st) s.heap.objs.size f cdv)) → ∃ T : SX K,
      pB K (cxOf CX0 P w K mg base N qual (defScope st) f cdv A outer s H E).nox (defBody st) T ∧ ∀ ds B fp es Q X, R ds B es Q X → T.w (entsH ds B fp es N.length) { nx := atB m fp (Q .non), rt := fun _ => False, rm := fun d => atB m fp (Q d) }) : FnOk P w K mg base CX0 (k + 1) f fd ps (spOfH K R) := by
  refine Fn.ok S (fun vs H Q E h => ?_) (fun cdv A outer s H vs Q E hr hsp => ?_)
  · obtain ⟨F, ws, p, us, ds, es, B, fp, P, X, rfl, _, _, _, _, lw, lu, hR, _⟩ := h
    have := (len ds B es P X hR).2.1
    simp [lw.1, lu.1]
    omega
  · obtain ⟨F, ws, p, us, ds, es, B, fp, P, X, rfl, sf, hB, hm, hfp, lw, lu, hR, kk, kx⟩ := hsp
    obtain ⟨T, hT, hw⟩ := h cdv A outer s H E hr
    obtain ⟨hlen1, hlen, h1⟩ := len ds B es P X hR
    have e1 := h1 _ _ _ _ hB
    have hn : ∀ q, q ∉ fp → (fun q => if q ∈ fp then none else H q) q = H q := fun q hq => if_neg hq
    have fin : ∀ d v δ F' H' σ', Ok K (fun q => if q ∈ fp then none else H q) F F' H' σ' δ → Is K F' v d → atB m fp (P d) δ → Q v H' := fun d v δ F' H' σ' ok' hi hq => by
      obtain ⟨B', fp', e0, ef, hq⟩ := hq
      subst ef
      have hs := ok'.at_ m
      rw [e0] at hs
      obtain ⟨p', a, b, c, hB'⟩ := hs
      have hp' : p' = p := by
        rw [e1] at b
        exact List.mem_singleton.mp b
      subst hp'
      exact kk d v B' _ F' H' hq ok'.nx.f ok'.nx.s (fun q o hn0 hH => ok'.nx.h q o ((hn q hn0).trans hH)) (fun q hn0 hH hF => ok'.nx.g q (fun z => hH ((hn q hn0).symm.trans z)) hF) b hB' (fun q hq' => ⟨(c q hq').1, (c q hq').2.1, fun _ => hq'⟩) hi
    exact ⟨T.t, hT.h, T.ok _ _ (hw ds B fp es P X hR) _ F F H _ _ (okH sf hB hm hfp lw lu (by omega)) ⟨fun δ F' H' σ' ok' q => fin .non .non δ F' H' σ' ok' .non q, fun _ _ _ _ _ _ q => q.elim, fun _ _ _ _ _ q => q.elim, fun _ _ _ _ _ q => q.elim, fun _ _ _ _ _ _ _ _ _ _ q => q.elim, fun _ _ _ _ _ _ _ _ _ _ _ _ _ _ _ _ _ q => q.elim, fun d v δ F' H' σ' ok' hi q => fin d v δ F' H' σ' ok' hi q, fun _ _ _ _ _ _ _ _ _ q => q.elim, fun _ _ _ _ _ _ _ _ _ q => q.elim⟩⟩
theorem fnokHX {P : Program} {w : World} {mg : Str → Option Value} {base : Heap} {x qual : Str} {st : Stmt} {f : Addr} {fd : FuncData} {N ps : List Str} {k : Nat} {R : HSp} (Fn : Fun K x qual st f fd) (S : FnScope N ps (defScope st)) (m : Nat)
    (len : ∀ ds B es P X, R ds B es P X → ds.length = m ∧ ds.length + 1 + es.length = ps.length ∧ B.one) (hl : ps.length ≤ N.length)
    (h : ∀ (cdv : Value) (A : Around) (outer : List Env) (s : Shared) (H : Hp) (E : XK), Room k (A.deeper (envOfC qual (defScope st) s.heap.objs.size f cdv)) → ∃ T : SX K,
      pB K (cxOf (L2.CX P w) P w K mg base N qual (defScope st) f cdv A outer s H E) (defBody st) T ∧ ∀ ds B fp es Q X, R ds B es Q X → T.w (entsH ds B fp es N.length) { nx := atB m fp (Q .non), rt := fun _ => False, rm := fun d => atB m fp (Q d), xw := fun C fs _ => X C fs, W := fun cls d _ H => E cls d H }) : FnOk P w K mg base (L2.CX P w) (k + 1) f fd ps (spOfH K R) := by
  refine Fn.okX S (fun vs H Q E h => ?_) (fun cdv A outer s H vs Q E hr hsp => ?_)
  · obtain ⟨F, ws, p, us, ds, es, B, fp, P, X, rfl, _, _, _, _, lw, lu, hR, _⟩ := h
    have := (len ds B es P X hR).2.1
    simp [lw.1, lu.1]
    omega
  · obtain ⟨F, ws, p, us, ds, es, B, fp, P, X, rfl, sf, hB, hm, hfp, lw, lu, hR, kk, kx⟩ := hsp
    obtain ⟨T, hT, hw⟩ := h cdv A outer s H E hr
    obtain ⟨hlen1, hlen, h1⟩ := len ds B es P X hR
    have e1 := h1 _ _ _ _ hB
    have hn : ∀ q, q ∉ fp → (fun q => if q ∈ fp then none else H q) q = H q := fun q hq => if_neg hq
    have fin : ∀ d v δ F' H' σ', Ok K (fun q => if q ∈ fp then none else H q) F F' H' σ' δ → Is K F' v d → atB m fp (P d) δ → Q v H' := fun d v δ F' H' σ' ok' hi hq => by
      obtain ⟨B', fp', e0, ef, hq⟩ := hq
      subst ef
      have hs := ok'.at_ m
      rw [e0] at hs
      obtain ⟨p', a, b, c, hB'⟩ := hs
      have hp' : p' = p := by
        rw [e1] at b
        exact List.mem_singleton.mp b
      subst hp'
      exact kk d v B' _ F' H' hq ok'.nx.f ok'.nx.s (fun q o hn0 hH => ok'.nx.h q o ((hn q hn0).trans hH)) (fun q hn0 hH hF => ok'.nx.g q (fun z => hH ((hn q hn0).symm.trans z)) hF) b hB' (fun q hq' => ⟨(c q hq').1, (c q hq').2.1, fun _ => hq'⟩) hi
    exact ⟨T.t, hT.h, T.ok _ _ (hw ds B fp es P X hR) _ F F H _ _ (okH sf hB hm hfp lw lu (by omega)) ⟨fun δ F' H' σ' ok' q => fin .non .non δ F' H' σ' ok' .non q, fun _ _ _ _ _ _ q => q.elim, fun _ _ _ _ _ q => q.elim, fun _ _ _ _ _ q => q.elim, fun _ _ _ _ _ _ _ _ _ _ q => q.elim, fun _ _ _ _ _ _ _ _ _ _ _ _ _ _ _ _ _ q => q.elim, fun d v δ F' H' σ' ok' hi q => fin d v δ F' H' σ' ok' hi q, fun _ _ _ _ _ _ _ _ _ q => q.elim, fun C' fs' d δ F' H' σ' ok' he q => kx C' fs' d F' H' q ok'.nx.f ok'.nx.s (fun q o hn0 hH => ok'.nx.h q o ((hn q hn0).trans hH)) (fun q hn0 hH hF => ok'.nx.g q (fun z => hH ((hn q hn0).symm.trans z)) hF) he⟩⟩
end
end PL
namespace PL
open PySem PySem.Spec PyProof.Rows L2
/-! for g in list(f(..)), f one that may raise -/
section
variable {K : PySem.W.Frag} {X : Cx} {a b c e1 e2 : Expr} {es : List Expr} {p pos q apos cpos : Pos}
/-- for g in list(f(..)): body; what f raises goes on -/
def sForX (W : WX) (R : XSp) (a : AX K) (g : GX K) (body : SX K) : SX K := ⟨tFor (iList K (tCB (rListS K) (tCons (tCallS (spOfX K R) (WE W) a.t) tNil))) g.t body.t,
  fun δ E => E.W = W ∧ a.w δ fun as => R as (fun d => lstD d fun ds => ds.length ≤ 4000000 ∧ ∃ I : Nat → List Ent → Prop, I 0 δ ∧
    (∀ (i : Nat) (d : D) (δ' : List Ent), i < ds.length → ds[i]? = some d → I i δ' → g.w d δ' fun δ2 => body.w δ2 ⟨I (i + 1), E.rt, E.nx, I (i + 1), E.rl, E.r2, E.rm, E.rb, E.xw, E.W⟩) ∧ (∀ δ', I ds.length δ' → E.nx δ')) fun C fs => E.xw C fs δ, fun δ E hw Z F0 F H σ D ok ke => by
  obtain ⟨eW, hw⟩ := hw
  refine a.ok δ _ hw Z F0 F H σ ok _ fun as vs Fa Ha na ia hwa => ?_
  refine ⟨Fa, as, _, _, na.s, ia, hwa, fun d v Fb Hb hq nb ib => ?_, fun C fs d F' H' q n he => ?_⟩
  · obtain ⟨ds, rfl, hlen, I, h0, hs, hd⟩ := lstD_inv hq
    obtain ⟨p, vs, rfl, s, l⟩ := ib.lst_inv
    refine ⟨p, vs, rfl, .inl (nb.s.seq s), fun q hq' => ?_⟩
    have n3 : Nx Fb Hb Fb (upd Hb q (.lst vs)) := Nx.own (o := .lst vs) nb.s hq'
    have n4 := n3.frz hq' upd_same (some_ne nb.s hq')
    have n1 := (na.trans nb).trans n4
    have l1 := l.mono n4.f
    have ok1 := ok.next n1
    refine ⟨q, rfl, ⟨vs, .of upd_same⟩, ?_⟩
    have wk : Walk K false Z _ _ (Itl K q) ds.length (fun i d => ds[i]? = some d) := walk_list (H := upd Hb q (.lst vs)) (B := Hb) l1 fun F2 H2 a b _ _ => b.seq (a.seq (.of upd_same))
    generalize upd Fb q (.lst vs) = F1 at *
    generalize upd Hb q (.lst vs) = H1 at *
    generalize ds.length = n at *
    have okB : Ok K Z F1 F1 H1 σ δ := ⟨⟨.refl _, ok1.nx.h, fun _ _ h => h, ok1.nx.s⟩, ok1.len, ok1.at_, ok1.ow⟩
    refine ⟨fun i m σ' H' => m = n - i ∧ i ≤ n ∧ ∃ F' δ', Ok K Z F1 F' H' σ' δ' ∧ I i δ', ⟨n, rfl, Nat.zero_le _, F1, δ, okB, h0⟩, ?_⟩
    rintro i m σ' H' ⟨rfl, hi, F', δ', ok', hI⟩
    have wk1 := wk i F' H' ok'.nx.f ok'.nx.s ok'.nx.h fun z => by cases z
    by_cases hlt : i < n
    · right
      obtain ⟨go, yl⟩ := wk1.1 hlt
      refine ⟨go, fun σ2 H2 => ∃ F2 δ2, Ok K Z F1 F2 H2 σ2 δ2 ∧ I (i + 1) δ2, fun σ2 H2 ⟨F2, δ2, o2, q⟩ => ⟨n - (i + 1), by omega, rfl, hlt, F2, δ2, o2, q⟩, fun x H2 y => ?_⟩
      obtain ⟨d, F2, n3, hd', hat⟩ := yl x H2 y
      refine g.ok d δ' _ (hs i d δ' hlt hat hI) Z F1 F2 H2 σ' x (ok'.next n3) hd' _ fun δ2 F3 H3 σ2 ok3 n4 _ _ hw2 => ?_
      refine body.ok δ2 _ hw2 Z F1 F3 H3 σ2 _ ok3 ⟨fun δ4 F4 H4 σ4 ok4 h => ⟨F4, δ4, ok4, h⟩, fun d v F4 H4 n5 i5 h => ?_, fun δ4 F4 H4 σ4 ok4 h => ke.nx δ4 F4 H4 σ4 (Ok.base ok1.nx ok4) h, fun δ4 F4 H4 σ4 ok4 h => ⟨F4, δ4, ok4, h⟩, fun ds p vs F4 H4 n5 hz hp hf hl h => ke.rl ds p vs F4 H4 ⟨ok1.nx.f.trans n5.f, n5.h, fun p hz hf => n5.g p hz (ok1.nx.g p hz hf), n5.s⟩ hz hp hf hl h, fun ds es p x y vs us F4 H4 n5 h1 h2 h3 h4 h5 h6 h7 h => ke.r2 ds es p x y vs us F4 H4 ⟨ok1.nx.f.trans n5.f, n5.h, fun p hz hf => n5.g p hz (ok1.nx.g p hz hf), n5.s⟩ h1 h2 h3 h4 h5 h6 h7 h, fun d v δ4 F4 H4 σ4 ok4 i4 h => ke.rm d v δ4 F4 H4 σ4 (Ok.base ok1.nx ok4) i4 h, fun p B fp F4 H4 n5 h1 h2 h3 h => ke.rb p B fp F4 H4 ⟨ok1.nx.f.trans n5.f, n5.h, fun p hz hf => n5.g p hz (ok1.nx.g p hz hf), n5.s⟩ h1 h2 h3 h, fun C fs d δ4 F4 H4 σ4 ok4 i4 h => ke.xs C fs d δ4 F4 H4 σ4 (Ok.base ok1.nx ok4) i4 h⟩
      exact ke.rt d v F4 H4 ⟨ok1.nx.f.trans n5.f, n5.h, fun p hz hf => n5.g p hz (ok1.nx.g p hz hf), n5.s⟩ i5 h
    · left
      have e1 : i = n := by omega
      subst e1
      exact ⟨wk1.2 rfl, ke.nx δ' F' H' σ' (Ok.base ok1.nx ok') (hd δ' hI)⟩
  · have := ke.xs C fs d δ F' H' σ ((ok.next na).next n) he q
    rw [eW] at this
    exact this⟩
theorem s_forX {W : WX} {x : Str} {ps : List Str} {j k : Nat} {R : XSp} {y : AX K} {e tg : Expr} {body : List Stmt} {g : GX K} {s : SX K} {p2 p3 : Pos} (cl : CalX X.prog X.w K X.mg X.base x k ps R) (tk : Takes X W) (hp : PassesOwn (model X.prog X.w) X.A X.env X.xe) (hc : X.calm = true) (hr : Room j X.A) (hm : X.mg "list" = none) (h : pA K X (e :: es) y) (hg : pG K X tg g) (hs : pB K X body s)
    (hjk : k ≤ j := by decide) (hgx : Gl X x := by rfl) (hd : (x == ("__debug__" : Str)) = false := by decide +kernel) (hl : Gl X "list" := by rfl)
    (hst : starEach (e :: es) X.env = (false, eval e X.env) :: starEach es X.env := by rfl) (hpl : (backTo pos (starEach es X.env)).any (·.1) = false := by rfl)
    (hsl : starEach [.Call (.Name x p) (e :: es) [] pos] X.env = [(false, eval (.Call (.Name x p) (e :: es) [] pos) X.env)] := by rfl)
    (hf : ∀ v, foldedSetIterable (.Call (.Name "list" p2) [.Call (.Name x p) (e :: es) [] pos] [] cpos) X.env v = pure v := by intro _; rfl) :
    pS K X (.For tg (.Call (.Name "list" p2) [.Call (.Name x p) (e :: es) [] pos] [] cpos) body [] p3) (sForX W R y g s) := by
  have hk0 : X.K = K := h.k
  subst hk0
  obtain ⟨f, fd, F, m, kp, bn⟩ := cl
  have hcall := pe_callS (p := p) F (hr.mono hjk) hgx m kp bn (fun σ => passAt tk σ) h.h (hdb := hd) (he := hst) (hpl := hpl)
  exact ⟨rfl, ps_for hp hc (pi_list (pe_callTy call_list_of hl hm (by decide +kernel) (pa1 hcall hsl) (by decide +kernel) (by decide +kernel) hsl (by rfl))) hg.h hs.h hf⟩
end
end PL
namespace PL
open PySem PySem.Spec PyProof.Rows L2
/-! x = {k: v, ..} -/
section
variable {K : PySem.W.Frag} {X : Cx} {a b c e1 e2 : Expr} {es : List Expr} {p pos q apos cpos : Pos}
def mergeM (kvs more : List (Key × D)) : List (Key × D) := more.foldl (fun acc kv => putM acc kv.1 kv.2) kvs
theorem isM_merge {F : Hp} : ∀ {more : List (Key × D)} {ms : List (Key × V)} {kvs : List (Key × D)} {ws : List (Key × V)}, IsM K F ms more → IsM K F ws kvs → IsM K F (mergeK ws ms) (mergeM kvs more)
  | [], ms, kvs, ws, h, l => by rw [h.inv_nil]; exact l
  | (k, d) :: more, ms, kvs, ws, h, l => by
    obtain ⟨v, us, rfl, i, h2⟩ := h.inv
    exact isM_merge (more := more) (kvs := putM kvs k d) (ws := putK ws k v) h2 (isM_put i l)
/-- the pairs of a display -/
structure PX (K : PySem.W.Frag) where
  t : List (TE × TE)
  w : List Ent → (List (Key × D) → Prop) → Prop
  ok : ∀ δ Q, w δ Q → ∀ Z F0 F H σ, Ok K Z F0 F H σ δ → ∀ Q' : List (V × V) → Hp → Prop, (∀ kvs ws F' H', Nx F H F' H' → IsM K F' ws kvs → Q kvs → Q' (ws.map fun kv => (kV kv.1, kv.2)) H') → tPairs t σ H Q'
def pxNil : PX K := ⟨[], fun δ Q => Q [], fun δ Q hw Z F0 F H σ ok Q' k => k [] [] F H (.refl ok.nx.s) .nil hw⟩
def pxCons (x y : EX K) (r : PX K) : PX K := ⟨(x.t, y.t) :: r.t, fun δ Q => x.w δ fun dk => y.w δ fun d => ∃ k, keyD dk = some k ∧ r.w δ fun kvs => Q ((k, d) :: kvs), fun δ Q hw Z F0 F H σ ok Q' kk => by
  refine x.ok δ _ hw Z F0 F H σ ok _ fun dk vk F1 H1 n1 i1 hw1 => ?_
  refine y.ok δ _ hw1 Z F0 F1 H1 σ (ok.next n1) _ fun d v F2 H2 n2 i2 hw2 => ?_
  obtain ⟨k, hk, hw2⟩ := hw2
  refine r.ok δ _ hw2 Z F0 F2 H2 σ (ok.next (n1.trans n2)) _ fun kvs ws F3 H3 n3 l hq => ?_
  have := kk ((k, d) :: kvs) ((k, v) :: ws) F3 H3 ((n1.trans n2).trans n3) (.cons (i2.mono n3.f) l) hq
  rw [key_is i1 hk]
  exact this⟩
def sDisp (i : Nat) (r : PX K) : SX K := ⟨tAsg (tDisp r.t) (gName i), fun δ E => r.w δ fun kvs => kvs.length ≤ 15 ∧ ∀ p, E.nx (put δ i (.big (DicB K (mergeM [] kvs)) [p])), fun δ E hw Z F0 F H σ D ok ke => by
  intro p hp
  have n0 : Nx F H F (upd H p (.dK [])) := Nx.own (o := .dK []) ok.nx.s hp
  have hF : F p = none := some_ne ok.nx.s hp
  refine r.ok δ _ hw Z F0 F _ σ (ok.next n0) _ fun kvs ws F2 H2 n2 l hq => ?_
  have h2 := n2.h _ _ (upd_same (H := H) (a := p) (o := .dK []))
  have hF2 : F2 p = none := n2.g p (by rw [upd_same]; simp) hF
  refine ⟨h2, ws, rfl, ?_, ?_⟩
  · rw [isM_len l]
    exact hq.1
  · have nn : Nx F H F2 (upd H2 p (.dK (mergeK [] ws))) := by
      have n02 := n0.trans n2
      refine ⟨n02.f, fun q o e => ?_, n02.g, fun q o e => ?_⟩
      · by_cases z : q = p
        · rw [z, hp] at e; cases e
        · rw [upd_ne z]; exact n02.h q o e
      · by_cases z : q = p
        · rw [z, hF2] at e; cases e
        · rw [upd_ne z]; exact n02.s q o e
    refine ke.nx _ F2 _ _ ((ok.next nn).newBig (B := DicB K (mergeM [] kvs)) (p := p) (fp := [p]) (by simp) (fun q hq => ?_) ⟨rfl, _, upd_same, isM_merge l .nil⟩ (fun j q h1 h2 => ?_)) (hq.2 p)
    · rw [List.mem_singleton.mp hq]
      exact ⟨by rw [upd_same]; simp, hF2, ok.nx.h.free hp⟩
    · rw [List.mem_singleton.mp h2] at h1
      exact ((ok.at_ j).mine h1).1 hp⟩
structure pPX (K : PySem.W.Frag) (X : Cx) (pos : Pos) (ks : List (Option Expr)) (vs : List Expr) (y : PX K) : Prop where
  k : X.K = K
  h : PPs X pos ks vs y.t
theorem px_nil (hk : X.K = K := by rfl) : pPX K X pos [] [] pxNil := ⟨hk, pps_nil⟩
theorem px_cons {x y : EX K} {r : PX K} {ks : List (Option Expr)} {vs : List Expr} (hx : pE K X a x) (hy : pE K X b y) (hr : pPX K X pos ks vs r) : pPX K X pos (some a :: ks) (b :: vs) (pxCons x y r) := ⟨hr.k, pps_cons hx.h hy.h hr.h⟩
theorem s_disp (i : Nat) {x : Str} {ks : List (Option Expr)} {vs : List Expr} {y : PX K} (hN : X.N.Nodup) (h : pPX K X q ks vs y) (hi : X.N[i]? = some x := by rfl) (hx : Loc X.env.scope x := by first | exact Or.inl rfl | exact Or.inr rfl) (hf : X.fn x = true ∨ X.env.scope.names.lookup x = some .local := by first | exact .inl rfl | exact .inr rfl | assumption)
    (hall : ks.all (·.isSome) = true := by rfl) (hl : ks.length = vs.length := by rfl) (h0 : ks ≠ [] := by simp) (h15 : ks.length ≤ 15 := by decide)
    (hs : swapsWithSole [.Name x p] (.Dict ks vs q) pos.line X.env = pure false := by rfl) (hw : swappedStores [.Name x p] (.Dict ks vs q) X.env = pure none := by rfl) : pS K X (.Assign [.Name x p] (.Dict ks vs q) pos) (sDisp i y) := by
  have hk0 : X.K = K := h.k
  subst hk0
  exact ⟨rfl, ps_asg (pe_disp h.h hall hl h0 h15) (pg_name hN hi hx hf) hs hw⟩
end
end PL
namespace PL
open PySem PySem.Spec PyProof.Rows L2
/-! isinstance(e, ValueError): a class that is built in -/
theorem kit_ofT {K : PySem.W.Frag} {C : Addr} {T : String} {b : Bool} (h1 : PySem.W.subIn K (.ref C) (.type T) = some b) (hm : PySem.W.kitMeta T = true := by decide +kernel) : PySem.W.kitOne K (.ref C) (.type T) = some b := by
  unfold PySem.W.kitOne PySem.W.kitCls
  have hne : ((Value.ref C : Value) == Value.type T) = false := rfl
  rw [hne]
  simp only [hm, if_true, h1, Bool.false_eq_true, if_false]
theorem boot_ValueError : bootBuiltins "ValueError" = some (.type "ValueError") := by decide +kernel
section
variable {K : PySem.W.Frag} {X : Cx} {a : Expr} {q pos : Pos}
theorem t_dninL (i : Nat) {k : Nat} {n : Str} {x : EX K} (hr : Room k X.A) (h : pE K X a x) (hN : X.N[i]? = some n := by rfl) (hv : Vis X.env.scope n := by first | exact Or.inl rfl | exact Or.inr (Or.inl rfl) | exact Or.inr (Or.inr rfl)) (hd : (n == ("__debug__" : Str)) = false := by decide +kernel)
    (hcd : (n == ("__classdict__" : Str)) = false := by decide +kernel) (hm : behindInMarks .NotIn (.Name n q) = false := by rfl) (hu : X.A.units + 1 < cLine := by exact Nat.lt_of_le_of_lt (Nat.add_le_add_left (by decide) _) hr.units) : pT K X (.Compare a [.NotIn] [.Name n q] pos) (tVal (eDInL true i x)) := by
  have hk0 : X.K = K := h.k
  subst hk0
  exact ⟨rfl, pt_cmp (pc_dnotin hu h.h (pe_var hN hv hd hcd)) hm⟩
theorem t_dinL (i : Nat) {k : Nat} {n : Str} {x : EX K} (hr : Room k X.A) (h : pE K X a x) (hN : X.N[i]? = some n := by rfl) (hv : Vis X.env.scope n := by first | exact Or.inl rfl | exact Or.inr (Or.inl rfl) | exact Or.inr (Or.inr rfl)) (hd : (n == ("__debug__" : Str)) = false := by decide +kernel)
    (hcd : (n == ("__classdict__" : Str)) = false := by decide +kernel) (hm : behindInMarks .In (.Name n q) = false := by rfl) (hu : X.A.units + 1 < cLine := by exact Nat.lt_of_le_of_lt (Nat.add_le_add_left (by decide) _) hr.units) : pT K X (.Compare a [.In] [.Name n q] pos) (tVal (eDInL false i x)) := by
  have hk0 : X.K = K := h.k
  subst hk0
  exact ⟨rfl, pt_cmp (pc_din hu h.h (pe_var hN hv hd hcd)) hm⟩
/-- == and != in an except suite -/
theorem units_suite {k : Nat} {Y : Cx} {a : Addr} {pn : List (Addr × Obj)} (hr : Room k Y.A) : (Y.suite a pn).A.units + 64 < cLine := by
  have := hr.un
  show (Y.A.mark (some (.ref a))).units + 64 < cLine
  have e : (Y.A.mark (some (.ref a))).units ≤ Y.A.units + 8 := by
    simp [Around.mark, Around.units]
  omega
theorem h_eqS {k : Nat} {Y : Cx} {a : Addr} {pn : List (Addr × Obj)} (hr : Room k Y.A) (hk : Y.K = K := by rfl) : OpR (Y.suite a pn) (compareOp .Eq) (oEq (K := K)).r := by
  subst hk
  exact op_eqP (X := Y.suite a pn) (units_suite hr)
theorem h_neS {k : Nat} {Y : Cx} {a : Addr} {pn : List (Addr × Obj)} (hr : Room k Y.A) (hk : Y.K = K := by rfl) : OpR (Y.suite a pn) (compareOp .NotEq) (oNe (K := K)).r := by
  subst hk
  exact op_neP (X := Y.suite a pn) (units_suite hr)
end
end PL
namespace PL
open PySem PySem.Spec PyProof.Rows L2
/-! isinstance of a class of the text; its own ==; an instance that is made and returned as one's own; a lent instance seen as data -/
section
variable {K : PySem.W.Frag} {X : Cx} {a b c e1 e2 : Expr} {es : List Expr} {p pos q apos cpos : Pos}
structure InsC (K : PySem.W.Frag) (C : Addr) : Prop where
  cl : Cls K C
  ha : PySem.W.findIn K (.ref C) "__class__" = some (some (.builtin "object.__class__"))
  hn : PySem.W.specialIn K (.builtin "object.__class__") "__get__" = some (some (.builtin "getset_descriptor.__get__"))
  ht : PySem.W.takesIn K (.builtin "object.__class__") = some true
  hm : PySem.W.mroIn K C (.type "object") = some true
  hk : PySem.W.kitOne K (.ref C) (.ref C) = some true
/-- isinstance(x, C), an instance of C -/
def eIsO (C : Addr) (c : InsC K C) (x : EX K) : EX K := ⟨tCB (rIsi K) (tCons x.t (tCons (tC (.ref C)) tNil)), fun δ Q => x.w δ fun d => (∃ fs, d = .ins C fs) ∧ Q (.bl true), fun δ Q hw Z F0 F H σ ok Q' k => by
  refine x.ok δ _ hw Z F0 F H σ ok _ fun d v F1 H1 n1 i1 hq => ?_
  obtain ⟨⟨fs, rfl⟩, hq⟩ := hq
  cases i1 with
  | ins a b _ => exact ⟨_, .ref C, .ref C, .ref C, true, rfl, .own C, .base (.ins (n1.s _ _ a) c.cl c.ha c.hn c.ht c.hm), c.hk, k _ _ F1 H1 n1 (.bl true) hq⟩⟩
theorem x_isO {C : Addr} {x : EX K} {n : Str} (c : InsC K C) (hm : X.mg "isinstance" = none) (hC : X.mg n = some (.ref C)) (h : pE K X a x) (hg : Gl X "isinstance" := by rfl) (hgC : Gl X n := by rfl)
    (hd : (n == ("__debug__" : Str)) = false := by decide +kernel) (hs : starEach [a, .Name n q] X.env = [(false, eval a X.env), (false, eval (.Name n q) X.env)] := by rfl) : pE K X (.Call (.Name "isinstance" p) [a, .Name n q] [] pos) (eIsO C c x) := by
  have hk0 : X.K = K := h.k
  subst hk0
  exact ⟨rfl, pe_callB call_isi hg hm (by decide +kernel) (pa_cons h.h (pa_cons (pe_glob hgC hC (v := .ref C) rfl hd) pa_nil rfl) hs) (by decide +kernel) (by decide +kernel) hs (by rfl)⟩
/-! own == -/
/-- what the own == is shown of two instances -/
def eqIn (K : PySem.W.Frag) (R : FSp) (a b : Addr) (H : Hp) : Prop := ∃ (d e : D) (F : Hp), Same F H ∧ Is K F (.ref a) d ∧ Is K F (.ref b) e ∧ R [.dat d, .dat e] fun r => r = .bl true
def gEqO (C : Addr) (R : FSp) (d e : D) (Q : D → Prop) : Prop := (∃ fs, d = .ins C fs) ∧ (∃ gs, e = .ins C gs) ∧ R [.dat d, .dat e] (fun r => r = .bl true) ∧ Q (.bl true)
def oEqO (C : Addr) (R : FSp) : Op2 K := ⟨rEqG (DIns C (eqIn K R)), gEqO C R, fun d e v u F H Q Q' i1 i2 s h k => by
  obtain ⟨⟨fs, e1⟩, ⟨gs, e2⟩, hR, hq⟩ := h
  have j1 := i1
  have j2 := i2
  rw [e1] at j1
  rw [e2] at j2
  cases j1 with
  | ins a1 _ _ =>
    cases j2 with
    | ins a2 _ _ =>
      exact ⟨⟨_, _, _, _, _, _, rfl, rfl, s _ _ a1, s _ _ a2, d, e, F, s, i1, i2, hR⟩, fun H' x => k _ _ F H' ⟨.refl _, x, fun _ _ n => n, s.trans x⟩ (.bl true) hq⟩⟩
theorem eq_sp {R : FSp} (vs : List V) (H : Hp) (Q : VK) (E : XK) (h : spEq (eqIn K R) vs H Q E) : spOf K R vs H Q E := by
  obtain ⟨a, b, rfl, ⟨d, e, F, s, i1, i2, hR⟩, hq⟩ := h
  refine ⟨F, [.dat d, .dat e], _, s, ⟨i1, i2, trivial⟩, hR, fun r v F' H' hr n i => ?_⟩
  subst hr
  cases i
  exact hq H' n.h
theorem h_eqO {C : Addr} {R : FSp} {ps : List Str} {j k : Nat} (m : Met X.prog X.w K X.mg X.base C "__eq__" k ps R) (hr : Room j X.A) (hjk : k ≤ j := by decide) (hk : X.K = K := by rfl) : OpR X (compareOp .Eq) (oEqO (K := K) C R).r := by
  have hk0 : X.K = K := hk
  subst hk0
  obtain ⟨f, fd, M, F, b⟩ := m
  exact op_eqG (rcG_ins (F.imp eq_sp) M.1 M.2 b pass0) (hr.mono hjk)
/-! an instance made as one's own -/
abbrev OSp := List Ar → (FS → Prop) → Prop
def spInitO (K : PySem.W.Frag) (C : Addr) (R : OSp) : Sp := fun vs H Q _ => ∃ (p dx : Addr) (rest : List V) (F : Hp) (as : List Ar) (P : FS → Prop), vs = .ref p :: rest ∧ H p = some (.ins C dx []) ∧ F p = none ∧ Same F H ∧ ArsOk K F H rest as ∧ R as P ∧
  ∀ fs fp F' H', P fs → Same F F' → Same F' H' → (∀ q o, q ≠ p → H q = some o → H' q = some o) → (∀ q, q ≠ p → H q ≠ none → F q = none → F' q = none) → (ObjB K C p fs).P F' H' p fp → (∀ q ∈ fp, H' q ≠ none ∧ F' q = none ∧ (H q ≠ none → q = p)) → Q .non H'
theorem ArsOk.mono {F H F' H' : Hp} (n : Nx F H F' H') : ∀ {vs : List V} {as : List Ar}, ArsOk K F H vs as → ArsOk K F' H' vs as
  | [], [], h => h
  | _ :: _, _ :: _, h => ⟨h.1.mono n, h.2.mono n⟩
  | [], _ :: _, h => h.elim
  | _ :: _, [], h => h.elim
/-- return C(..), the instance one's own -/
def sRetNewO (C : Addr) (R : OSp) (y : AX K) : SX K := ⟨tRet (tMake C (spInitO K C R) [] E0 y.t), fun δ E => y.w δ fun as => R as fun fs => ∀ p fp, E.rb p (ObjB K C p fs) fp, fun δ E hw Z F0 F H σ D ok ke => by
  refine y.ok δ _ hw Z F0 F H σ ok _ fun as vs F1 H1 n1 i1 hw1 => ?_
  intro x dx nx ndx nex
  show spInitO K C R (.ref x :: (vs ++ [])) _ _ E0
  rw [List.append_nil]
  have ok1 := ok.next n1
  have s1 : Same H1 (upd (upd H1 dx (.own x)) x (.ins C dx [])) := fun b o e => by
    rw [upd_ne (ne_of_none e nx), upd_ne (ne_of_none e ndx)]
    exact e
  refine ⟨x, dx, vs, F1, as, _, rfl, upd_same, some_ne n1.s nx, n1.s.trans s1, i1.mono ⟨.refl _, s1, fun _ _ n => n, n1.s.trans s1⟩, hw1, fun fs fp F' H' hq g1 g2 g3 g4 g5 g6 => ⟨rfl, ?_⟩⟩
  have hx1 : ∀ q, H1 q ≠ none → q ≠ x := fun q hq z => hq (by rw [z]; exact nx)
  have nn : Nx F1 H1 F' H' := ⟨g1, fun q o e => g3 q o (hx1 q (by rw [e]; simp)) (s1 q o e), fun q hq hf => g4 q (hx1 q hq) (Same.ne_none s1 hq) hf, g2⟩
  have hm : x ∈ fp := by
    obtain ⟨_, _, _, _, e, _⟩ := g5
    rw [e]; simp
  refine ke.rb x (ObjB K C x fs) fp F' H' (ok1.nx.trans nn) hm (fun q hq' => ⟨(g6 q hq').1, (g6 q hq').2.1, ?_⟩) g5 (hq x fp)
  cases e : Z q with
  | none => rfl
  | some o =>
    have h1 : H1 q ≠ none := by rw [ok1.nx.h q o e]; simp
    exact absurd ((g6 q hq').2.2 (Same.ne_none s1 h1)) (hx1 q h1)⟩
def MakO (P : Program) (w : World) (K : PySem.W.Frag) (mg : Str → Option Value) (base : Heap) (x : Str) (C : Addr) (k : Nat) (ps : List Str) (R : OSp) : Prop := ∃ f fd, Mk K C f ∧ FnOk P w K mg base CX0 k f fd ps (spInitO K C R) ∧ mg x = some (.ref C) ∧ Binds K fd ps []
theorem s_retNewO {x : Str} {C : Addr} {ps : List Str} {j k : Nat} {R : OSp} {y : AX K} {e : Expr} {p3 : Pos} (c : MakO X.prog X.w K X.mg X.base x C k ps R) (hr : Room j X.A) (h : pA K X (e :: es) y)
    (hjk : k + 1 ≤ j := by decide) (hg : Gl X x := by rfl) (hd : (x == ("__debug__" : Str)) = false := by decide +kernel)
    (hst : starEach (e :: es) X.env = (false, eval e X.env) :: starEach es X.env := by rfl) (hpl : (backTo pos (starEach es X.env)).any (·.1) = false := by rfl) : pS K X (.Return (some (.Call (.Name x p) (e :: es) [] pos)) p3) (sRetNewO C R y) := by
  have hk0 : X.K = K := h.k
  subst hk0
  obtain ⟨f, fd, M, F, m, b⟩ := c
  exact ⟨rfl, ps_ret (pe_make M F (hr.mono hjk) hg m b .nil pass0 h.h (hdb := hd) (he := hst) (hpl := hpl))⟩
theorem initokO {P : Program} {w : World} {mg : Str → Option Value} {base : Heap} {x qual : Str} {st : Stmt} {f C : Addr} {fd : FuncData} {N ps : List Str} {k : Nat} {R : OSp} (Fn : Fun K x qual st f fd) (S : FnScope N ps (defScope st))
    (len : ∀ as P, R as P → as.length + 1 = ps.length) (hl : ps.length ≤ N.length)
    (h : ∀ (cdv : Value) (A : Around) (outer : List Env) (s : Shared) (H : Hp) (E : XK), Room k (A.deeper (envOfC qual (defScope st) s.heap.objs.size f cdv)) → ∃ B : SX K,
      pB K (cxOf CX0 P w K mg base N qual (defScope st) f cdv A outer s H E).nox (defBody st) B ∧ ∀ p as Q, R as Q → B.w (.big (ObjB K C p []) [p] :: ents as (N.length - 1)) { nx := fun δ => obE K C p (nth δ 0) Q, rt := fun _ => False }) : FnOk P w K mg base CX0 (k + 1) f fd ps (spInitO K C R) := by
  refine Fn.ok S (fun vs H Q E h => ?_) (fun cdv A outer s H vs Q E hr hsp => ?_)
  · obtain ⟨p, dx, rest, F, as, P, rfl, _, _, _, ha, hR, _⟩ := h
    have := len as P hR
    simp [ars_len ha]
    omega
  · obtain ⟨p, dx, rest, F, as, P, rfl, hp, hf, sf, ha, hR, kk⟩ := hsp
    obtain ⟨B, hB, hw⟩ := h cdv A outer s H E hr
    have hlen := len as P hR
    have hrl := ars_len ha
    let Z : Hp := fun q => if q = p then none else H q
    have zp : Z p = none := if_pos rfl
    have zn : ∀ q, q ≠ p → Z q = H q := fun q hq => if_neg hq
    have zs : Same Z H := fun q o e => by
      by_cases hq : q = p
      · rw [hq, zp] at e
        cases e
      · rw [← zn q hq]
        exact e
    have aZ : ∀ {vs : List V} {as : List Ar}, ArsOk K F H vs as → ArsOk K F Z vs as := by
      intro vs
      induction vs with
      | nil => intro as h; cases as <;> exact h
      | cons v r ih =>
        intro as h
        cases as with
        | nil => exact h
        | cons a t =>
          refine ⟨?_, ih h.2⟩
          cases a with
          | dat d => exact h.1
          | bor ds =>
            obtain ⟨q, ws, e, s, l⟩ := h.1
            refine ⟨q, ws, e, ?_, l⟩
            rcases s with (s | ⟨o, s⟩) | s
            · exact .inl (.inl (by rw [zn q (fun z => by rw [z, hp] at s; cases s)]; exact s))
            · exact .inl (.inr ⟨o, by rw [zn q (fun z => by rw [z, hp] at s; cases s)]; exact s⟩)
            · exact .inr s
          | lob L =>
            obtain ⟨q, e, b⟩ := h.1
            refine ⟨q, e, L.st (.refl _) (fun r o e ho => ?_) b⟩
            by_cases hr : r = p
            · rw [hr, hp] at e
              cases e
              exact absurd rfl (ho C dx)
            · rw [zn r hr]
              exact e
    have okS : Ok K Z F F H (L2.start N (.ref p :: rest)) (.big (ObjB K C p []) [p] :: ents as (N.length - 1)) := by
      refine ⟨⟨.refl _, zs, fun _ _ h => h, sf⟩, ?_, fun i => ?_, fun i j q h1 h2 => ?_⟩
      · simp [L2.start, ents, nos_len, hrl]
        omega
      · cases i with
        | zero => exact ⟨p, rfl, by simp, fun q hq => by rw [List.mem_singleton.mp hq]; exact ⟨by rw [hp]; simp, hf, zp⟩, rfl, dx, [], [], rfl, by simp, hp, rfl⟩
        | succ i =>
          show SlotOk K Z F H (L2.start N (.ref p :: rest))[i + 1]? (nth (as.map arE ++ nos (N.length - 1 - as.length)) i)
          rw [nth_app]
          by_cases hi : i < (as.map arE).length
          · rw [if_pos hi]
            rw [List.length_map] at hi
            have : (L2.start N (.ref p :: rest))[i + 1]? = (rest.map some)[i]? := by
              unfold L2.start
              rw [List.map_cons, List.cons_append, List.getElem?_cons_succ, List.getElem?_append_left (by simp; omega)]
            rw [this]
            exact ars_at (aZ ha) i hi
          · rw [if_neg hi, nth_nos]
            trivial
      · have m0 : ∀ i x, (nth (.big (ObjB K C p []) [p] :: ents as (N.length - 1)) i).has x q → i = 0 := fun i x h => by
          cases i with
          | zero => rfl
          | succ i =>
            exfalso
            have h2 : (nth (as.map arE ++ nos (N.length - 1 - as.length)) i).has x q := h
            rw [nth_app] at h2
            split at h2
            · exact ar_own h2
            · rw [nth_nos] at h2
              exact h2.elim
        rw [m0 i _ h1, m0 j _ h2]
    refine ⟨B.t, hB.h, B.ok _ _ (hw p as P hR) Z F F H _ _ okS ⟨fun δ F' H' σ' ok' q => ?_, fun d v F' H' n i q => q.elim, fun _ _ _ _ _ q => q.elim, fun _ _ _ _ _ q => q.elim, fun _ _ _ _ _ _ _ _ _ _ q => q.elim, fun _ _ _ _ _ _ _ _ _ _ _ _ _ _ _ _ _ q => q.elim, fun _ _ _ _ _ _ _ _ q => q.elim, fun _ _ _ _ _ _ _ _ _ q => q.elim, fun _ _ _ _ _ _ _ _ _ q => q.elim⟩⟩
    obtain ⟨fs', fp', e0, hq⟩ := q
    have hs := ok'.at_ 0
    rw [e0] at hs
    obtain ⟨p', a, b, c, hB'⟩ := hs
    have hp' : p' = p := hB'.1
    subst hp'
    refine kk fs' fp' F' H' hq ok'.nx.f ok'.nx.s (fun q o hn hH => ok'.nx.h q o (by rw [zn q hn]; exact hH)) (fun q hn hH hF => ok'.nx.g q (by rw [zn q hn]; exact hH) hF) hB' (fun q hq' => ⟨(c q hq').1, (c q hq').2.1, fun hH => ?_⟩)
    by_cases hm : q = p'
    · exact hm
    · have := (c q hq').2.2
      rw [zn q hm] at this
      exact absurd this hH
/-! f(o), o an instance of one's own that f sees as data -/
def fvD : FV → Option D
  | .dat d => some d
  | .lst ds => some (.lst ds)
  | .dT _ => none
def fsD : FS → Option (List (Str × D))
  | [] => some []
  | (n, x) :: r => match fvD x, fsD r with
    | some d, some gs => some ((n, d) :: gs)
    | _, _ => none
theorem fs_is {F H Fv : Hp} (s : Same F Fv) : ∀ {us : List (Str × V)} {fs : FS} {A : List Addr} {gs : List (Str × D)}, FsOk K F H us fs A → fsD fs = some gs → (∀ q ∈ A, Fv q = H q) →
    us.map (·.1) = gs.map (·.1) ∧ ∀ (i : Nat) (p : Str × V) (q : Str × D), us[i]? = some p → gs[i]? = some q → Is K Fv p.2 q.2
  | [], [], A, gs, h, e, _ => by
    cases e
    exact ⟨rfl, fun i p q a _ => by simp at a⟩
  | (n, v) :: us, (m, x) :: fs, A, gs, h, e, hA => by
    obtain ⟨rfl, A1, A2, rfl, h1, h2⟩ := h
    unfold fsD at e
    cases e1 : fvD x with
    | none => rw [e1] at e; cases e
    | some d =>
      cases e2 : fsD fs with
      | none => rw [e1, e2] at e; cases e
      | some gr =>
        rw [e1, e2] at e
        cases e
        obtain ⟨k1, k2⟩ := fs_is s h2 e2 fun q hq => hA q (by simp [hq])
        refine ⟨by rw [List.map_cons, List.map_cons, k1], fun i p q a b => ?_⟩
        cases i with
        | zero =>
          simp at a b
          subst a
          subst b
          cases x with
          | dat d' => cases e1; exact h1.2.mono s
          | lst ds =>
            cases e1
            obtain ⟨a, vs, rfl, rfl, ha, l⟩ := h1
            exact is_lst (.of (by rw [hA a (by simp)]; exact ha)) (l.mono s)
          | dT kvs => cases e1
        | succ i => exact k2 i p q (by simpa using a) (by simpa using b)
  | [], _ :: _, _, _, h, _, _ => h.elim
  | _ :: _, [], _, _, h, _, _ => h.elim
def sLendV (C : Addr) (R : FSp) (i : Nat) : SX K := ⟨tDrop (tCall (spOf K R) [] E0 (tCons (tVar i) tNil)), fun δ E => obD K C (nth δ i) fun _ fs _ => ∃ gs, fsD fs = some gs ∧ R [.dat (.ins C gs)] fun _ => E.nx δ, fun δ E hw Z F0 F H σ D ok ke => by
  obtain ⟨p, fs, fp, hi, gs, hg, hR⟩ := hw
  obtain ⟨dx, us, A, a, e, nd, hp, hf, hm⟩ := ob_at ok hi
  let Fv : Hp := fun q => if q ∈ fp then H q else F q
  have vp : ∀ q, q ∈ fp → Fv q = H q := fun q hq => if_pos hq
  have vn : ∀ q, q ∉ fp → Fv q = F q := fun q hq => if_neg hq
  have s1 : Same F Fv := fun q o z => by
    by_cases hq : q ∈ fp
    · rw [(hm q hq).2.1] at z; cases z
    · rw [vn q hq]; exact z
  have s2 : Same Fv H := fun q o z => by
    by_cases hq : q ∈ fp
    · rw [vp q hq] at z; exact z
    · rw [vn q hq] at z; exact ok.nx.s q o z
  obtain ⟨k1, k2⟩ := fs_is s1 hf hg fun q hq => vp q (by rw [e]; exact List.mem_cons_of_mem _ hq)
  refine ⟨_, a, ?_⟩
  show spOf K R ([.ref p] ++ []) H _ E0
  refine ⟨Fv, [.dat (.ins C gs)], _, s2, ⟨.ins (by rw [vp p (by rw [e]; simp)]; exact hp) k1 k2, trivial⟩, hR, fun d v F' H' hq n i => ?_⟩
  exact ke.nx _ F H' _ (ok.next ⟨.refl _, n.h, fun _ _ z => z, ok.nx.s.trans n.h⟩) hq⟩
theorem s_lendV {C : Addr} (i : Nat) {n x : Str} {ps : List Str} {j k : Nat} {R : FSp} {p2 p3 : Pos} (cc : Cal X.prog X.w K X.mg X.base x k ps R) (hr : Room j X.A) (hN : X.N[i]? = some n := by rfl) (hv : Vis X.env.scope n := by first | exact Or.inl rfl | exact Or.inr (Or.inl rfl) | exact Or.inr (Or.inr rfl)) (hdn : (n == ("__debug__" : Str)) = false := by decide +kernel)
    (hcd : (n == ("__classdict__" : Str)) = false := by decide +kernel) (hjk : k ≤ j := by decide) (hg : Gl X x := by rfl) (hd : (x == ("__debug__" : Str)) = false := by decide +kernel)
    (hst : starEach [.Name n p2] X.env = [(false, eval (.Name n p2) X.env)] := by rfl) (hpl : (backTo pos (starEach [] X.env)).any (·.1) = false := by rfl)
    (hs : swapsWith (.Call (.Name x p) [.Name n p2] [] pos) none p3.line X.env = pure false := by rfl) (hk : X.K = K := by rfl) : pS K X (.Expr (.Call (.Name x p) [.Name n p2] [] pos) p3) (sLendV C R i) := by
  have hk0 : X.K = K := hk
  subst hk0
  obtain ⟨f, fd, F, m, kp, b⟩ := cc
  exact ⟨rfl, ps_expr (pe_call F (hr.mono hjk) hg m kp b .nil pass0 (pa1 (pe_var hN hv hdn hcd) hst) (hdb := hd) (he := hst) (hpl := hpl)) hs⟩
end
end PL
namespace PL
open PySem PySem.Spec PyProof.Rows L2
/-! a list of lists of one's own; x[i] op= e -/
section
variable {K : PySem.W.Frag} {X : Cx} {a b c e1 e2 : Expr} {es : List Expr} {p pos q apos cpos : Pos}
/-- a list of lists of one's own -/
def MatB (K : PySem.W.Frag) (rows : List (List D)) : Big := ⟨fun F H p fp => ∃ qs : List Addr, fp = p :: qs ∧ fp.Nodup ∧ H p = some (.lst (qs.map V.ref)) ∧ qs.length = rows.length ∧ ∀ (i : Nat) (q : Addr) (ds : List D), qs[i]? = some q → rows[i]? = some ds → ∃ vs, H q = some (.lst vs) ∧ IsL K F vs ds, fun hF hH h => by
  obtain ⟨qs, e, nd, hp, hl, hr⟩ := h
  refine ⟨qs, e, nd, by rw [hH _ (by rw [e]; simp)]; exact hp, hl, fun i q ds h1 h2 => ?_⟩
  obtain ⟨vs, h3, l⟩ := hr i q ds h1 h2
  exact ⟨vs, by rw [hH _ (by rw [e]; exact List.mem_cons_of_mem _ (List.mem_of_getElem? h1))]; exact h3, l.mono hF⟩⟩
def matD (K : PySem.W.Frag) (e : Ent) (Q : List (List D) → List Addr → Prop) : Prop := ∃ rows fp, e = .big (MatB K rows) fp ∧ Q rows fp
theorem mat_at {Z F0 F H : Hp} {σ : L2.St} {δ : List Ent} {i : Nat} {rows : List (List D)} {fp : List Addr} (ok : Ok K Z F0 F H σ δ) (h : nth δ i = .big (MatB K rows) fp) :
    ∃ p qs, σ[i]? = some (some (.ref p)) ∧ fp = p :: qs ∧ fp.Nodup ∧ H p = some (.lst (qs.map V.ref)) ∧ qs.length = rows.length ∧ (∀ (i : Nat) (q : Addr) (ds : List D), qs[i]? = some q → rows[i]? = some ds → ∃ vs, H q = some (.lst vs) ∧ IsL K F vs ds) ∧ ∀ q ∈ fp, H q ≠ none ∧ F q = none ∧ Z q = none := by
  have hs := ok.at_ i
  rw [h] at hs
  obtain ⟨p, a, hm, hq, qs, e, nd, hp, hl, hr⟩ := hs
  exact ⟨p, qs, a, e, nd, hp, hl, hr, hq⟩
/-- x = [[..] for ..], each a new list -/
def sSetMat (j : Nat) (it : IX K) (g : GX K) (e : LX K) (vs : List Nat) : SX K := ⟨tAsg (tLc it.t g.t tYes e.t vs) (gName j),
  fun δ E => (g.own.all fun j => vs.contains j) = true ∧ it.w δ fun n at_ => ∃ f : Nat → List D, (∀ (i : Nat) (d : D), i < n → at_ i d → g.w d (wipeE δ vs) fun δ2 => e.w δ2 fun ds => f i = ds) ∧ ∀ fp, E.nx (put δ j (.big (MatB K ((List.range n).map f)) fp)), fun δ E hw Z F0 F H σ D ok ke => by
  obtain ⟨hs, hw⟩ := hw
  have hs : ∀ j ∈ g.own, j ∈ vs := fun j hj => by simpa using List.all_eq_true.mp hs j hj
  refine it.ok δ _ hw Z F0 F H σ ok _ fun n at_ J F1 H1 n1 wk hn hw1 => ?_
  obtain ⟨f, hf, hq⟩ := hw1
  intro Dl hD
  have h0 := n1.h.free hD
  have okM := ok.next n1
  let W : Nat → Hp → Prop := fun i H' => i ≤ n ∧ ∃ (F' : Hp) (qs : List Addr), Nx F1 H1 F' H' ∧ (Dl :: qs).Nodup ∧ H' Dl = some (.lst (qs.map V.ref)) ∧ qs.length = i ∧ (∀ q ∈ Dl :: qs, H1 q = none ∧ H' q ≠ none ∧ F' q = none) ∧
    ∀ (k : Nat) (q : Addr), qs[k]? = some q → ∃ us, H' q = some (.lst us) ∧ IsL K F' us (f k)
  refine ⟨fun i m H' => m = n - i ∧ W i H', ⟨n, rfl, Nat.zero_le _, F1, [], .own n1.s hD, by simp, upd_same, rfl, fun q hq => ?_, fun k q h => by simp at h⟩, ?_⟩
  · rw [List.mem_singleton.mp hq]
    exact ⟨hD, by rw [upd_same]; simp, some_ne n1.s hD⟩
  rintro i m H' ⟨rfl, hi, F', qs, n2, nd, hDl, hlen, hfr, hrow⟩
  have wk1 := wk i F' H' n2.f n2.s (okM.nx.h.trans n2.h) fun _ => n2.h
  by_cases hlt : i < n
  · right
    obtain ⟨go, yl⟩ := wk1.1 hlt
    refine ⟨go, W (i + 1), fun H'' w => ⟨n - (i + 1), by omega, rfl, w⟩, fun x H2 y => ?_⟩
    obtain ⟨d, F2, n3, hd, hat⟩ := yl x H2 y
    have ok2 := ((okM.next n2).next n3).wipe vs
    refine g.ok d _ _ (hf i d hlt hat) Z F0 F2 H2 _ x ok2 hd _ fun δ2 F3 H3 σ2 ok3 n4 ha hl hw2 => ?_
    refine ⟨wipe_back hs ha.1 hl, ?_⟩
    have nA := n3.trans n4
    show e.t σ2 H3 _
    refine e.ok δ2 _ hw2 Z F0 F3 H3 σ2 ok3 _ fun ds r us F5 H5 n6 g0 g1 g2 lr hfi => ?_
    have nB := nA.trans n6
    have rD : ∀ q ∈ Dl :: qs, q ≠ r := fun q hq z => by
      have h1 := Same.ne_none nA.h (hfr q hq).2.1
      rw [z] at h1
      exact h1 g0
    have hF5 : ∀ q ∈ Dl :: qs, F5 q = none := fun q hq => nB.g q (hfr q hq).2.1 (hfr q hq).2.2
    have hH1r : H1 r = none := (n2.h.trans nA.h).free g0
    have ne : ∀ q, q ≠ Dl → upd H5 Dl (.lst (qs.map V.ref ++ [V.ref r])) q = H5 q := fun q hq => upd_ne hq
    have hD5 := hF5 Dl (by simp)
    refine ⟨qs.map V.ref, nB.h _ _ hDl, by rw [List.length_map, hlen]; exact Nat.lt_of_le_of_lt hi (Nat.lt_of_le_of_lt hn (by decide)), by omega, F5, qs ++ [r], ⟨(n2.trans nB).f, same_mut (n2.trans nB).h hD, (n2.trans nB).g, same_mut nB.s hD5⟩, ?_, by rw [List.map_append]; exact upd_same, by simp [hlen], fun q hq => ?_, fun k q hk => ?_⟩
    · rw [← List.cons_append, List.nodup_append]
      exact ⟨nd, by simp, fun x hx y hy => by rw [List.mem_singleton.mp hy]; exact rD x hx⟩
    · rw [← List.cons_append] at hq
      rcases List.mem_append.mp hq with hq | hq
      · refine ⟨(hfr q hq).1, ?_, hF5 q hq⟩
        by_cases hqD : q = Dl
        · rw [hqD, upd_same]; simp
        · rw [ne q hqD]
          exact Same.ne_none nB.h (hfr q hq).2.1
      · rw [List.mem_singleton.mp hq]
        exact ⟨hH1r, by rw [ne r (Ne.symm (rD Dl (by simp))), g1]; simp, g2⟩
    · by_cases hkl : k < qs.length
      · rw [List.getElem?_append_left hkl] at hk
        obtain ⟨us', e1, l1⟩ := hrow k q hk
        have hm : q ∈ qs := List.mem_of_getElem? hk
        have hqD : q ≠ Dl := fun z => (List.nodup_cons.mp nd).1 (by rw [← z]; exact hm)
        exact ⟨us', by rw [ne q hqD]; exact nB.h _ _ e1, l1.mono nB.f⟩
      · rw [List.getElem?_append_right (by omega)] at hk
        have hk0 : k - qs.length = 0 := by
          have := (List.getElem?_eq_some_iff.mp hk).1
          simp at this
          omega
        rw [hk0] at hk
        simp at hk
        subst hk
        have hki : k = i := by omega
        rw [hki, hfi]
        exact ⟨us, by rw [ne r (Ne.symm (rD Dl (by simp)))]; exact g1, lr⟩
  · left
    have e1 : i = n := by omega
    subst e1
    refine ⟨wk1.2 rfl, ?_⟩
    have okE := okM.next n2
    refine ke.nx _ F' H' _ (okE.newBig (B := MatB K ((List.range i).map f)) (p := Dl) (fp := Dl :: qs) (by simp) (fun q hq => ⟨(hfr q hq).2.1, (hfr q hq).2.2, okM.nx.h.free (hfr q hq).1⟩) ⟨qs, rfl, nd, hDl, by rw [hlen]; simp, fun k q ds h1 h2 => ?_⟩ (fun k q h1 h2 => ((okM.at_ k).mine h1).1 (hfr q h2).1)) (hq _)
    rw [List.getElem?_map] at h2
    cases h3 : (List.range i)[k]? with
    | none => rw [h3] at h2; cases h2
    | some k' =>
      rw [h3] at h2
      cases h2
      have hk' : k' = k := by
        have h4 := List.getElem?_eq_some_iff.mp h3
        obtain ⟨h5, h6⟩ := h4
        rw [List.getElem_range] at h6
        exact h6.symm
      rw [hk']
      exact hrow k q h1⟩
theorem s_setMat (i : Nat) {y : Str} {elt tg iter : Expr} {scope : Scope} {own : List (Str × Nat)} {spos : Pos} {it : IX K} {g : GX K} {e : LX K} (hc : X.calm = true) (hN : X.N.Nodup)
    (hsw : swapsWith (.ListComp elt [⟨tg, iter, [], 0⟩] scope pos) (some (.Name y p)) spos.line X.env = pure true) (ok : BlkOk X.N X.env.scope scope own) (hi : pI K X tg iter it)
    (hg : ∀ (s : Shared) (H : Hp) (C : Addr) (cl : List (Str × Addr)) (fp : List Addr), pG K (X.blk s H scope (compEnvC scope cl C X.env) fp) tg g)
    (he : ∀ (s : Shared) (H : Hp) (C : Addr) (cl : List (Str × Addr)) (fp : List Addr), pL K (X.blk s H scope (compEnvC scope cl C X.env) fp) elt e) (hy : X.N[i]? = some y) (hyl : X.env.scope.names.lookup y = some .local) (hf : ∀ x, foldedSetIterable iter X.env x = pure x) :
    pS K X (.Assign [.Name y p] (.ListComp elt [⟨tg, iter, [], 0⟩] scope pos) spos) (sSetMat i it g e (own.map (·.2))) := by
  have hk0 : X.K = K := hi.k
  subst hk0
  exact ⟨rfl, ps_setLc hc hN hy hyl hsw hi.h ok (fun s H C cl fp => (hg s H C cl fp).h) (fun _ _ _ _ _ => pts_nil) (fun s H C cl fp => (he s H C cl fp).h) hf⟩
/-- xs[i].append(e) -/
def sMatApp (i : Nat) (x e : EX K) : SX K := ⟨tDrop (tBM K "list" rAppend (tOp (rIxL K) (tVar i) x.t) (tCons e.t tNil)), fun δ E => matD K (nth δ i) fun rows fp => x.w δ fun k => intD k fun n => ∃ j row, ixN rows.length n = some j ∧ rows[j]? = some row ∧ row.length < 4000000 ∧ e.w δ fun d => E.nx (put δ i (.big (MatB K (rows.set j (row ++ [d]))) fp)), fun δ E hw Z F0 F H σ D ok ke => by
  obtain ⟨rows, fp, hi, hw⟩ := hw
  obtain ⟨p, qs, a, ef, nd, hp, hl, hr, hm⟩ := mat_at ok hi
  refine ⟨_, a, ?_⟩
  refine x.ok δ _ hw Z F0 F H σ ok _ fun k u F1 H1 n1 i1 hw1 => ?_
  obtain ⟨n, rfl, j, row, hj, hrow, hlen, hw2⟩ := intD_inv hw1
  have hjl : j < qs.length := by
    have := (List.getElem?_eq_some_iff.mp hrow).1
    omega
  have hqj : qs[j]? = some qs[j] := List.getElem?_eq_getElem hjl
  obtain ⟨vs, h3, l3⟩ := hr j _ _ hqj hrow
  have hqm : qs[j] ∈ fp := by rw [ef]; exact List.mem_cons_of_mem _ (List.getElem_mem _)
  refine ⟨p, qs.map V.ref, n, .ref qs[j], rfl, i1.int_inv, .of (n1.h _ _ hp), ?_, ?_⟩
  · unfold atI
    rw [List.length_map, hl, hj]
    show (qs.map V.ref)[j]? = _
    rw [List.getElem?_map, hqj]
    rfl
  refine ⟨.inl ⟨rfl, _, SqL.of (n1.h _ _ h3)⟩, ?_⟩
  have ok1 := ok.next n1
  refine e.ok δ _ hw2 Z F0 F1 H1 σ ok1 _ fun d v F2 H2 n2 i2 hq => ?_
  have n12 := n1.trans n2
  refine ⟨qs[j], vs, v, rfl, rfl, n12.h _ _ h3, by rw [l3.1]; exact Nat.lt_trans hlen (by decide), ?_⟩
  have ok2 := ok1.next n2
  have hi2 := hi
  have hF2 : ∀ q ∈ fp, F2 q = none := fun q hq => n12.g q (hm q hq).1 (hm q hq).2.1
  refine ke.nx _ F2 _ σ (ok2.only (i := i) (e := .big (MatB K (rows.set j (row ++ [d]))) fp) (p := qs[j]) (o := .lst (vs ++ [v])) (hm _ hqm).2.2 (hF2 _ hqm) (by rw [hi]; exact hqm) ⟨p, a, by rw [ef]; simp, fun q hq => ⟨?_, hF2 q hq, (hm q hq).2.2⟩, qs, ef, nd, ?_, by rw [List.length_set]; exact hl, fun i' q ds h1 h2 => ?_⟩ (fun q hq => by rw [hi]; exact hq)) hq
  · by_cases hqe : q = qs[j]
    · rw [hqe, upd_same]; simp
    · rw [upd_ne hqe]
      exact Same.ne_none n12.h (hm q hq).1
  · rw [upd_ne (fun z => ?_)]
    · exact n12.h _ _ hp
    · rw [ef] at nd
      exact (List.nodup_cons.mp nd).1 (by rw [z]; exact List.getElem_mem _)
  · have ndq : qs.Nodup := by rw [ef] at nd; exact (List.nodup_cons.mp nd).2
    by_cases hij : i' = j
    · subst hij
      rw [hqj] at h1
      cases h1
      rw [List.getElem?_set_self (by omega)] at h2
      cases h2
      exact ⟨vs ++ [v], upd_same, (l3.mono n12.f).snoc i2⟩
    · rw [List.getElem?_set_ne (Ne.symm hij)] at h2
      obtain ⟨us, h4, l4⟩ := hr i' q ds h1 h2
      have hne : q ≠ qs[j] := fun z => hij (by
        obtain ⟨g1, g2⟩ := List.getElem?_eq_some_iff.mp h1
        have e1 := ndq.idxOf_getElem i' g1
        have e2 := ndq.idxOf_getElem j hjl
        rw [g2.trans z, e2] at e1
        exact e1.symm)
      exact ⟨us, by rw [upd_ne hne]; exact n12.h _ _ h4, l4.mono n12.f⟩⟩
theorem s_matApp (i : Nat) {x : Str} {ix v : EX K} {p2 : Pos} (hx : pE K X e1 ix) (he : pE K X a v) (hN : X.N[i]? = some x := by rfl) (hv : Vis X.env.scope x := by first | exact Or.inl rfl | exact Or.inr (Or.inl rfl) | exact Or.inr (Or.inr rfl)) (hd : (x == ("__debug__" : Str)) = false := by decide +kernel)
    (hcd : (x == ("__classdict__" : Str)) = false := by decide +kernel) (hix : PlainIx e1 := by intro _ _; rfl) (hbase : attributeBase (.Subscript (.Name x p) e1 p2) "append" X.env (eval (.Subscript (.Name x p) e1 p2) X.env) = eval (.Subscript (.Name x p) e1 p2) X.env := by rfl)
    (hfew : ((backTo cpos (starEach [a] X.env)).all (fun x => !x.1) && (backToKw cpos (keywordEach [] X.env)).all (fun x => x.1.isSome) && decide (([a] : List Expr).length + ([] : List Keyword).length + (if ([] : List Keyword).isEmpty then 0 else 1) < 30)) = true := by rfl)
    (hline : (apos.endLine == cpos.line) = true := by rfl) (hs : starEach [a] X.env = [(false, eval a X.env)] := by rfl)
    (hsw : swapsWith (.Call (.Attribute (.Subscript (.Name x p) e1 p2) "append" apos) [a] [] cpos) none pos.line X.env = pure false := by rfl) : pS K X (.Expr (.Call (.Attribute (.Subscript (.Name x p) e1 p2) "append" apos) [a] [] cpos) pos) (sMatApp i ix v) := by
  have hk0 : X.K = K := hx.k
  subst hk0
  exact ⟨rfl, ps_expr (pe_bm PySem.F.plainAttrs_list PySem.F.slot_list_append PySem.F.type_list_append mt_append (pe_ix ix_list (pe_var hN hv hd hcd) hx.h hix) (pa1 he.h hs) hbase hfew hline hs (by rfl)) hsw⟩
/-- from here on the lists are data -/
def sFrzM (i : Nat) (s : SX K) : SX K := ⟨s.t, fun δ E => matD K (nth δ i) fun rows _ => s.w (put δ i (.dat (.lst (rows.map D.lst)))) E, fun δ E hw Z F0 F H σ D ok ke => by
  obtain ⟨rows, fp, hi, hw⟩ := hw
  obtain ⟨p, qs, a, ef, nd, hp, hl, hr, hm⟩ := mat_at ok hi
  let Fv : Hp := fun q => if q ∈ fp then H q else F q
  have vp : ∀ q, q ∈ fp → Fv q = H q := fun q hq => if_pos hq
  have vn : ∀ q, q ∉ fp → Fv q = F q := fun q hq => if_neg hq
  have s1 : Same F Fv := fun q o z => by
    by_cases hq : q ∈ fp
    · rw [(hm q hq).2.1] at z; cases z
    · rw [vn q hq]; exact z
  have s2 : Same Fv H := fun q o z => by
    by_cases hq : q ∈ fp
    · rw [vp q hq] at z; exact z
    · rw [vn q hq] at z; exact ok.nx.s q o z
  have hin : ∀ q, q ∈ qs → q ∈ fp := fun q hq => by rw [ef]; exact List.mem_cons_of_mem _ hq
  refine s.ok _ E hw Z F0 Fv H σ D (ok.chgE ⟨ok.nx.f.trans s1, ok.nx.h, fun q hz hf => ?_, s2⟩ rfl (fun _ _ => rfl) (fun _ => ⟨.ref p, a, is_lst (.of (by rw [vp p (by rw [ef]; simp)]; exact hp)) ⟨by rw [List.length_map, List.length_map, hl], fun j v d h1 h2 => ?_⟩⟩) (fun j hj => (ok.at_ j).frame s1 (fun q hq => ?_) (fun _ _ => rfl)) (fun _ _ _ _ _ z => z)) ke
  · have hq : q ∉ fp := fun z => hz (hm q z).2.2
    rw [vn q hq]
    exact ok.nx.g q hz hf
  · rw [List.getElem?_map] at h1 h2
    cases e3 : qs[j]? with
    | none => rw [e3] at h1; cases h1
    | some r =>
      cases e4 : rows[j]? with
      | none => rw [e4] at h2; cases h2
      | some ds =>
        rw [e3] at h1
        rw [e4] at h2
        cases h1
        cases h2
        obtain ⟨us, h5, l5⟩ := hr j r ds e3 e4
        exact is_lst (.of (by rw [vp r (hin r (List.mem_of_getElem? e3))]; exact h5)) (l5.mono s1)
  · have hq' : q ∉ fp := fun z => hj (ok.ow j i q hq (by rw [hi]; exact z))
    rw [vn q hq']
    exact ((ok.at_ j).mine hq).2.1⟩
theorem b_frzM {sts : List Stmt} (i : Nat) {x : SX K} (h : pB K X sts x) : pB K X sts (sFrzM i x) := by
  have hk0 : X.K = K := h.k
  subst hk0
  exact ⟨rfl, h.h⟩
/-! xs[i] op= e, ints in a list of one's own -/
def rGetL (K : PySem.W.Frag) : V → V → Hp → VK → Prop := fun x y H Q => ∃ p xs i v, x = .ref p ∧ y = .int i ∧ 0 ≤ i ∧ SqL K H p xs ∧ atI xs i = some v ∧ Q v H
theorem get_list : PGet X (rGetL X.K) := by
  intro pins s σ H x y v u Q I rx ry h
  obtain ⟨p, xs, i, z, rfl, rfl, h0, hq, he, q⟩ := h
  cases rx
  obtain ⟨t, rfl⟩ := ry
  obtain ⟨its, r, pl, hz⟩ := I.list hq
  obtain ⟨j, h1, h2, h3, h4, h5⟩ := atI_get he
  obtain ⟨w, ew, rw'⟩ := r.get h2
  have hl := r.length
  have hn := line63
  have hj : i.toNat = j := by
    rw [seqIndex_of h0 h5] at h1
    exact Option.some.inj h1
  exact wpAny_getItem_list (x := w) pl.isList h0 (by omega) (by rw [hj]; simpa using ew) ⟨z, H, I, rw', q⟩
def sPutOp (i : Nat) (f : Int → Int → Int) (ix e : EX K) : SX K := ⟨tAugS (tVar i) ix.t e.t (rGetL K) (ipI f) rSetL, fun δ E => ownD (nth δ i) fun ds => ix.w δ fun k => intD k fun n => 0 ≤ n ∧ ∃ (j : Nat) (x : Int), ixN ds.length n = some j ∧ ds[j]? = some (.int x) ∧ e.w δ fun d => intD d fun y => E.nx (put δ i (.own (ds.set j (.int (f x y))))), fun δ E hw Z F0 F H σ D ok ke => by
  obtain ⟨ds, hi, hw⟩ := ownD_inv hw
  have hs := ok.at_ i
  rw [hi] at hs
  obtain ⟨p, vs, ha, hb, hc, hz, l⟩ := hs
  refine ⟨_, ha, ?_⟩
  refine ix.ok δ _ hw Z F0 F H σ ok _ fun k u F1 H1 n1 i1 hw1 => ?_
  obtain ⟨n, rfl, h0, j, x, hj, hx, hw2⟩ := intD_inv hw1
  obtain ⟨w, hvw, iw⟩ := l.get hx
  have ew := iw.int_inv
  subst ew
  refine ⟨p, vs, n, .int x, rfl, i1.int_inv, h0, .of (n1.h _ _ hb), ?_, ?_⟩
  · unfold atI
    rw [l.1, hj]
    exact hvw
  refine e.ok δ _ hw2 Z F0 F1 H1 σ (ok.next n1) _ fun d v F2 H2 n2 i2 hw3 => ?_
  obtain ⟨y, rfl, hq⟩ := intD_inv hw3
  refine ⟨x, y, rfl, i2.int_inv, ?_⟩
  have n12 := n1.trans n2
  exact ⟨p, vs, n, j, rfl, i1.int_inv, n12.h _ _ hb, by rw [l.1]; exact hj, ke.nx _ F2 _ σ ((ok.next n12).chg hi ha (isl_set (l.mono n12.f) (.int _))) hq⟩⟩
theorem s_putOp (i : Nat) {x : Str} {op : Operator} {f : Int → Int → Int} {ix e : EX K} {p2 : Pos} (ho : PIp X op (ipI f)) (he : pE K X a e) (hx : pE K X e1 ix) (hN : X.N[i]? = some x := by rfl) (hv : Vis X.env.scope x := by first | exact Or.inl rfl | exact Or.inr (Or.inl rfl) | exact Or.inr (Or.inr rfl)) (hd : (x == ("__debug__" : Str)) = false := by decide +kernel)
    (hcd : (x == ("__classdict__" : Str)) = false := by decide +kernel) (haug : ∀ ov iv new, augStore e1 ov iv new = (do holding [new, ov, iv] (setItem ov iv new); release [new, ov, iv] []; pure .next) := by intros; rfl) :
    pS K X (.AugAssign (.Subscript (.Name x p) e1 p2) op a pos) (sPutOp i f ix e) := by
  have hk0 : X.K = K := he.k
  subst hk0
  exact ⟨rfl, ps_augS (pe_var hN hv hd hcd) hx.h get_list he.h ho set_list haug⟩
/-! enumerate of a list, nothing of the heap being changed meanwhile -/
def iEnR (a : RX K) : IX K := ⟨true, iEnum K (tCons a.t tNil), fun δ Q => a.w δ fun ds => ds.length ≤ 4000000 ∧ Q ds.length fun i d => ∃ x, d = .tup [.int (i : Nat), x] ∧ ds[i]? = some x, fun δ Q hw Z F0 F H σ ok R k => by
  refine a.ok δ _ hw Z F0 F H σ ok _ fun ds p vs F1 H1 n1 s l hq => ?_
  exact ⟨p, vs, rfl, s, k _ _ _ F1 H1 n1 (walk_enum l fun F2 H2 _ _ _ b => (b rfl).seq s) hq.1 hq.2⟩⟩
theorem i_enR {tp : Pos} {x : RX K} {j : Nat} (hm : X.mg "enumerate" = none) (h : pR K X a x) (hg : Gl X "enumerate" := by rfl) (hs : starEach [a] X.env = [(false, eval a X.env)] := by rfl) : pI K X (.Tuple es j tp) (.Call (.Name "enumerate" p) [a] [] pos) (iEnR x) := by
  have hk0 : X.K = K := h.k
  subst hk0
  exact ⟨rfl, pi_enum hg hm (pa1 h.h hs) hs⟩
end
end PL
namespace PL
open PySem PySem.Spec PyProof.Rows L2
/-! texts that are cut, a, *b = list, defs as values, an object handed to a def that changes it -/
section
variable {K : PySem.W.Frag} {X : Cx} {a b c : Expr} {es : List Expr} {p pos q apos cpos tp : Pos}
/-! a, *b = list -/
def gStr (K : PySem.W.Frag) (i j : Nat) : TG := fun v σ H Q => ∃ l x xs, v = .ref l ∧ SqL K H l (x :: xs) ∧ ∀ r, H r = none → Q ((σ.set i (some x)).set j (some (.ref r))) (upd H r (.lst xs))
theorem star_run {A : Around} {prog : Program} {w : World} {E : Value → Shared → Prop} {s : Shared} {l : Addr} {u : Value} {us : List Value} {Q : List Value → Shared → Prop} (hl : s.heap.IsList l (u :: us).toArray) (hh : A.handled = none) (hz : (u :: us).length ≤ sizeLine)
    (h : ∀ (h' : Heap) (tk : Nat), (∀ b o, s.heap.get? b = some o → h'.get? b = some o) → Q [u, .ref h'.objs.size] { s with heap := h'.push { cls := .type "list", data := .seq us.toArray }, toks := tk }) : wpAny (model prog w) A (unpackItems (.ref l) 2 (some 1)) Q E s := by
  have hlt : l < s.heap.objs.size := by
    obtain ⟨o, ho, _⟩ := hl
    exact Heap.lt_size ho
  have hle : l ≠ s.heap.objs.size := Nat.ne_of_lt hlt
  unfold unpackItems notIterableAtAll
  refine wpAny_bind (wpAny_bind (wpAny_specialOf hl.typeIs slot_list_iter.lookup (wpAny_pure ?_)))
  rw [if_neg (by decide)]
  refine wpAny_bind (wpAny_holding (wpAny_pyIter_list hl ?_))
  refine wpAny_bind (wpAny_holding (PySem.W.kun_draw hle 1 0 _ _ ⟨_, Heap.get?_push_size _ rfl, rfl, rfl⟩ (hl.push _) (by simp) fun h1 ht hs => ?_))
  have hl1 : h1.IsList l (u :: us).toArray := (hl.push _).extBut hs.extBut hle
  have ht1 := ht
  obtain ⟨oi, hoi, _⟩ := ht1
  have hs1 := hl1
  obtain ⟨ol, hol, _⟩ := hs1
  rw [List.drop_zero]
  have e1 : (u :: us).toArray.toList.take 1 = [u] := by simp
  rw [e1, if_neg (by simp)]
  refine wpAny_bind (wpAny_holding (PySem.W.kun_collect (s := { s with heap := h1 }) (T := "list_iterator") (items := (u :: us).toArray) (k := 1) (.inr (.inr (.inl rfl))) (Walks.list (A := A.in1) hh s.heap.objs.size l hle _) (fun j z st => st.1.typeIs) (by simp) ⟨ht, hl1⟩ (Heap.lt_size hoi) (Heap.lt_size hol) (fun h2 tk hk => ?_) (by simpa using hz)))
  have e2 : (u :: us).toArray.toList.drop 1 = us := by simp
  rw [e2]
  have hk2 : ∀ b o, s.heap.get? b = some o → h2.get? b = some o := fun b o e => by
    have hb : b ≠ s.heap.objs.size := Nat.ne_of_lt (Heap.lt_size e)
    exact hk b o hb (hs.extBut b o hb (Heap.get?_push_of_some _ e))
  show wpAny _ _ (if us.length < 0 then _ else _) _ _ _
  rw [if_neg (by omega)]
  refine wpAny_bind (wpAny_newList (wpAny_pure ?_) ?_)
  · have e3 : us.take us.length = us := List.take_length
    have e4 : us.drop us.length = [] := List.drop_length
    have hq := h h2 tk hk2
    show Q ([u] ++ [_] ++ us.drop us.length) { s with heap := h2.push { cls := .type "list", data := .seq (us.take us.length).toArray }, toks := tk }
    rw [e3, e4]
    exact hq
  · have : (us.take us.length).length = us.length := by rw [List.take_length]
    show (us.take us.length).length ≤ sizeLine
    rw [this]
    have := hz
    rw [List.length_cons] at this
    omega
theorem pg_star {i j : Nat} {x y : Str} {k : Nat} {p1 p2 p3 : Pos} {ps : Pos} (hc : X.calm = true) (hN : X.N.Nodup) (hi : X.N[i]? = some x) (hj : X.N[j]? = some y) (hx : Loc X.env.scope x) (hy : Loc X.env.scope y)
    (fx : X.fn x = true ∨ X.env.scope.names.lookup x = some .local) (fy : X.fn y = true ∨ X.env.scope.names.lookup y = some .local)
    (he : assignEach [.Name x p1, .Starred (.Name y p2) p3] X.env = [(false, assign (.Name x p1) X.env), (true, assign (.Name y p2) X.env)] := by rfl) : PG X (.Tuple [.Name x p1, .Starred (.Name y p2) p3] k ps) (gStr X.K i j) := by
  refine ⟨fun pins s σ H v u Q I r hw => ?_⟩
  obtain ⟨l, d, xs, e1, hq, hw⟩ := hw
  subst e1
  cases r
  obtain ⟨its, rv, ht, hz⟩ := I.list hq
  obtain ⟨w, ws, rfl, r1, r2⟩ : ∃ w ws, its = w :: ws ∧ RelV d w ∧ Vals xs ws := by
    cases rv with
    | cons r1 r2 => exact ⟨_, _, rfl, r1, r2⟩
  rw [assign_Tuple]
  refine wpAny_bind (wpAny_standAt ?_)
  unfold unpack
  rw [he]
  have hlist : s.heap.IsList l (w :: ws).toArray := by
    obtain ⟨o, n, e, c, _, dd⟩ := ht
    exact ⟨o, e, c, n, dd⟩
  refine wpAny_bind (wpAny_holding (star_run hlist (I.ok.hd hc) (by rw [← rv.length]; exact hz) fun h' tk hk => ?_))
  have I1 : Inv X pins σ H { s with heap := h', toks := tk } := I.kept hk
  have hf := I1.hok.fresh (Nat.le_refl _)
  have I2 : Inv X pins σ (upd H h'.objs.size (.lst xs)) { s with heap := h'.push { cls := .type "list", data := .seq ws.toArray }, toks := tk } := I1.laid (fun b u q => Heap.get?_push_of_some _ q) (Nat.le_refl _) ⟨by
    have := hz
    rw [List.length_cons] at this
    omega, ws, _, r2, Heap.get?_push_size _ rfl⟩
  show wpAny _ _ (assignInOrder [assign (.Name x p1) X.env, assign (.Name y p2) X.env] [w, .ref h'.objs.size]) _ _ _
  have s1 := store_ok (M := model X.prog X.w) (A := X.A) (E := X.xe) (Q := fun _ s' => Inv X pins (σ.set i (some d)) (upd H h'.objs.size (.lst xs)) s') I2 hN hi hx r1 (fun s' I' => I') fx
  refine assignInOrder_cons (thn (wpAny_assign_Name s1) fun _ s3 I3 => ?_)
  have s2 := store_ok (M := model X.prog X.w) (A := X.A) (E := X.xe) (v := .ref h'.objs.size) (u := .ref h'.objs.size) (Q := fun _ s' => ∃ σ' H', Inv X pins σ' H' s' ∧ Q σ' H') I3 hN hj hy rfl (fun s' I' => ⟨_, _, I', hw _ hf⟩) fy
  refine assignInOrder_cons (thn (wpAny_assign_Name s2) fun _ s4 h4 => ?_)
  exact assignInOrder_nil h4
def gStar (i j : Nat) : GX K := ⟨gStr K i j, [i, j], fun d δ Q => ∃ e es, d = .lst (e :: es) ∧ Q (put (put δ i (.dat e)) j (.dat (.lst es))), fun d δ Q hw Z F0 F H σ v ok h Q' k => by
  obtain ⟨e, es, rfl, hq⟩ := hw
  obtain ⟨a, vs, rfl, s, l⟩ := h.lst_inv
  obtain ⟨x, xs, rfl, h1, h2⟩ := l.inv_cons
  refine ⟨a, x, xs, rfl, ok.nx.s.seq s, fun r hr => ?_⟩
  have n : Nx F H (upd F r (.lst xs)) (upd H r (.lst xs)) := Nx.new ok.nx.s hr
  have ok1 := (ok.next n).setD (i := i) (h1.mono n.f)
  have ok2 := ok1.setD (i := j) (is_lst (SqL.of upd_same) (h2.mono n.f))
  exact k _ _ _ _ ok2 n ⟨fun z hz => by
    rw [List.getElem?_set_ne (fun e => hz (by simp [e])), List.getElem?_set_ne (fun e => hz (by simp [e]))], fun z q hq => setD_has (setD_has hq)⟩ (by simp) hq⟩
theorem g_star (i j : Nat) {x y : Str} {k : Nat} {p1 p2 p3 ps : Pos} (hN : X.N.Nodup) (hc : X.calm = true := by rfl) (hk : X.K = K := by rfl) (hi : X.N[i]? = some x := by rfl) (hj : X.N[j]? = some y := by rfl) (hx : Loc X.env.scope x := by first | exact Or.inl rfl | exact Or.inr rfl) (hy : Loc X.env.scope y := by first | exact Or.inl rfl | exact Or.inr rfl)
    (fx : X.fn x = true ∨ X.env.scope.names.lookup x = some .local := by first | exact .inl rfl | exact .inr rfl | assumption) (fy : X.fn y = true ∨ X.env.scope.names.lookup y = some .local := by first | exact .inl rfl | exact .inr rfl | assumption)
    (he : assignEach [.Name x p1, .Starred (.Name y p2) p3] X.env = [(false, assign (.Name x p1) X.env), (true, assign (.Name y p2) X.env)] := by rfl) : pG K X (.Tuple [.Name x p1, .Starred (.Name y p2) p3] k ps) (gStar i j) := by
  have hk0 : X.K = K := hk
  subst hk0
  exact ⟨rfl, pg_star hc hN hi hj hx hy fx fy he⟩
/-! o.m() -/
theorem x_omet0 (i : Nat) {n : Str} {C : Addr} {m : Str} {ps : List Str} {j k : Nat} {R : FSp} {f1 : Sem Bool} (cc : Met X.prog X.w K X.mg X.base C m k ps R) (hc : Cls K C) (hr : Room j X.A) (hjk : k ≤ j := by decide)
    (hN : X.N[i]? = some n := by rfl) (hv : Vis X.env.scope n := by first | exact Or.inl rfl | exact Or.inr (Or.inl rfl) | exact Or.inr (Or.inr rfl)) (hd : (n == ("__debug__" : Str)) = false := by decide +kernel) (hcd : (n == ("__classdict__" : Str)) = false := by decide +kernel) (hk : X.K = K := by rfl)
    (ht : eval (.Call (.Attribute (.Name n q) m apos) [] [] pos) X.env = (do
      let o ← eval (.Name n q) X.env
      standAt apos.atName
      let (f, fst) ← holding [o] (getMethod o m f1)
      callWith pos f fst (backTo pos (starEach [] X.env)) (backToKw pos (keywordEach [] X.env))) := by rfl) : pE K X (.Call (.Attribute (.Name n q) m apos) [] [] pos) (eOMeth C m R i aNil) := by
  have hk0 : X.K = K := hk
  subst hk0
  obtain ⟨f, fd, M, F, b⟩ := cc
  exact ⟨rfl, pe_meth0 (pe_var hN hv hd hcd) hc M F (hr.mono hjk) b .nil pass0 ht⟩
/-! a test that changes the state -/
structure pTM (K : PySem.W.Frag) (X : Cx) (e : Expr) (x : MX K) : Prop where
  k : X.K = K
  h : PT X e (tB x.t)
def sIfM (e : MX K) (a b : SX K) : SX K := ⟨tIfS (tB e.t) a.t b.t, fun δ E => e.w δ fun d δ1 => blD d fun c => (c = true → a.w δ1 E) ∧ (c = false → b.w δ1 E), fun δ E hw Z F0 F H σ D ok ke => by
  refine e.ok δ _ hw Z F0 F H σ ok _ fun d v δ1 F1 H1 ok1 s1 i1 hw1 => ?_
  obtain ⟨c, rfl, hw1⟩ := blD_inv hw1
  refine ⟨c, i1.bl_inv, ?_⟩
  cases c with
  | true => exact a.ok δ1 E (hw1.1 rfl) Z F0 F1 H1 σ D ok1 ke
  | false => exact b.ok δ1 E (hw1.2 rfl) Z F0 F1 H1 σ D ok1 ke⟩
theorem t_cmpM {op : CmpOp} {o : Op2 K} {x y : MX K} (ho : OpR X (compareOp op) o.r) (ha : pM K X a x) (hb : pM K X b y) (hm : behindInMarks op b = false := by exact nomark _) : pTM K X (.Compare a [op] [b] pos) (mOp o x y) := by
  have hk0 : X.K = K := ha.k
  subst hk0
  exact ⟨rfl, pt_cmpR ho ha.h hb.h hm⟩
theorem s_ifM {e : MX K} {x y : SX K} {as bs : List Stmt} (ht : pTM K X c e) (ha : pB K X as x) (hb : pB K X bs y) : pS K X (.If c as bs pos) (sIfM e x y) := by
  have hk0 : X.K = K := ht.k
  subst hk0
  exact ⟨rfl, ps_if ht.h ha.h hb.h⟩
/-! x.split(y) -/
def rSplit : V → List V → Hp → VK → Prop := fun x xs H Q => ∃ u z, x = .str u ∧ xs = [.str z] ∧ (z.length == 0) = false ∧ u.length + 2 ≤ sizeLine ∧ rNewStrs (Txt.split u z) H Q
theorem isl_strs {F : Hp} : ∀ l : List Str, IsL K F (l.map V.str) (l.map D.str)
  | [] => .nil
  | x :: l => .cons (.str x) (isl_strs l)
def lSplit (x y : EX K) : LX K := ⟨tM1 rSplit x.t y.t, fun δ Q => x.w δ fun d => (∃ u, d = .str u) ∧ y.w δ fun e => ∃ u z, d = .str u ∧ e = .str z ∧ (z.length == 0) = false ∧ u.length + 2 ≤ sizeLine ∧ Q ((Txt.split u z).map D.str), fun δ Q hw Z F0 F H σ ok Q' k => by
  refine x.ok δ _ hw Z F0 F H σ ok _ fun d v F1 H1 n1 i1 hw1 => ?_
  obtain ⟨⟨u, rfl⟩, hw1⟩ := hw1
  refine ⟨⟨u, i1.str_inv⟩, ?_⟩
  refine y.ok δ _ hw1 Z F0 F1 H1 σ (ok.next n1) _ fun e v2 F2 H2 n2 i2 hq => ?_
  obtain ⟨u', z, e1, rfl, hz, hl, hq⟩ := hq
  cases e1
  refine ⟨u, z, i1.str_inv, by rw [i2.str_inv], hz, hl, fun r hr => ?_⟩
  have n3 : Nx F2 H2 F2 (upd H2 r (.lst ((Txt.split u z).map V.str))) := Nx.own n2.s hr
  have n12 := n1.trans n2
  exact k _ r _ _ _ (n12.trans n3) (n12.h.free hr) upd_same (some_ne n2.s hr) (isl_strs _) hq⟩
theorem l_split {x y : EX K} (ha : pE K X a x) (hb : pE K X b y) (hs : starEach [b] X.env = [(false, eval b X.env)] := by rfl) (hbase : attributeBase a "split" X.env (eval a X.env) = eval a X.env := by rfl) (hline : (apos.endLine == pos.line) = true := by rfl) : pL K X (.Call (.Attribute a "split" apos) [b] [] pos) (lSplit x y) := by
  have hk0 : X.K = K := ha.k
  subst hk0
  exact ⟨rfl, pe_split ha.h hb.h hs hbase hline⟩
/-! o.f += e -/
def sOAug (C : Addr) (hc : Cls K C) (f : Str) (hn : NoAttr K C f) (i : Nat) (e : EX K) : SX K := ⟨sFldAug K (tVar i) e.t rAdd f, fun δ E => obD K C (nth δ i) fun p fs fp => fs.length < 1000 ∧ ∃ n, fs.lookup f = some (.dat (.int n)) ∧ e.w δ fun d => intD d fun m => ∀ fp', E.nx (put δ i (.big (ObjB K C p (putV f (.dat (.int (n + m))) fs)) fp')), fun δ E hw Z F0 F H σ D ok ke => by
  obtain ⟨p, fs, fp, hi, hl, n, hf, hw⟩ := hw
  obtain ⟨dx, us, A, hxs, he, nd, hp, hfs, hm⟩ := ob_at ok hi
  obtain ⟨v, A1, hv, hvf, _⟩ := hfs.get hf
  obtain ⟨_, hv1⟩ := hvf
  cases hv1.int_inv
  refine ⟨_, hxs, p, C, dx, us, _, rfl, hp, hc, hn, hv, ?_⟩
  refine e.ok δ _ hw Z F0 F H σ ok _ fun d u F1 H1 n1 i1 hw1 => ?_
  obtain ⟨m, rfl, hq⟩ := intD_inv hw1
  have ok1 := ok.next n1
  obtain ⟨dx1, us1, B, hxs1, he1, nd1, hp1, hfs1, hm1⟩ := ob_at ok1 hi
  refine ⟨n, m, rfl, i1.int_inv, ?_⟩
  obtain ⟨fp', ok2⟩ := ok1.putO (f := f) (v := .int (n + m)) (x := .dat (.int (n + m))) (A1 := []) hi hp1 (.refl _) n1.s ⟨rfl, .int _⟩ List.nodup_nil (fun q hq => by simp at hq)
  have hx2 : C = C ∧ us1 = us := by
    have := n1.h _ _ hp
    rw [hp1] at this
    cases this
    exact ⟨rfl, rfl⟩
  exact ⟨dx1, us1, hp1, by rw [hfs1.len]; exact hl, ke.nx _ F1 _ σ ok2 (hq fp')⟩⟩
theorem s_oaug (i : Nat) {C : Addr} {f n : Str} {e : EX K} (hc : Cls K C) (hn : NoAttr K C f) (he : pE K X a e) (hN : X.N[i]? = some n := by rfl) (hv : Vis X.env.scope n := by first | exact Or.inl rfl | exact Or.inr (Or.inl rfl)) (hd : (n == ("__debug__" : Str)) = false := by decide +kernel)
    (hcd : (n == ("__classdict__" : Str)) = false := by decide +kernel) : pS K X (.AugAssign (.Attribute (.Name n q) f p) .Add a pos) (sOAug C hc f hn i e) := by
  have hk0 : X.K = K := he.k
  subst hk0
  exact ⟨rfl, ps_fldaug (pe_var hN hv hd hcd) he.h in_add⟩
/-! defs as values -/
def eFn (f : Addr) : EX K := ⟨tC (.ref f), fun δ Q => Q (.ref (.ref f)), fun δ Q hw Z F0 F H σ ok Q' k => k _ _ F H (.refl ok.nx.s) (.ref _) hw⟩
theorem x_fn {x : Str} {f : Addr} (hm : X.mg x = some (.ref f)) (hk : X.K = K := by rfl) (hg : Gl X x := by rfl) (hd : (x == ("__debug__" : Str)) = false := by decide +kernel) : pE K X (.Name x pos) (eFn f) :=
  ⟨hk, pe_glob hg hm rfl hd⟩
def tCalV (K : PySem.W.Frag) (fs : List (Addr × FSp)) (i : Nat) (t : TA) : TE := fun σ H Q => ∃ x ∈ fs, tCallL i x.1 (spOf K x.2) [] E0 t σ H Q
def eCalV (fs : List (Addr × FSp)) (i : Nat) (y : AX K) : EX K := ⟨tCalV K fs i y.t, fun δ Q => ∃ f R, nth δ i = .dat (.ref (.ref f)) ∧ (f, R) ∈ fs ∧ y.w δ fun as => R as Q, fun δ Q hw Z F0 F H σ ok Q' k => by
  obtain ⟨f, R, hi, hm, hw⟩ := hw
  have hs := ok.at_ i
  rw [hi] at hs
  obtain ⟨v, av, iv⟩ := hs
  cases iv
  refine ⟨(f, R), hm, av, ?_⟩
  refine y.ok δ _ hw Z F0 F H σ ok _ fun as vs F1 H1 n1 i1 hw1 => ?_
  show spOf K R (vs ++ []) H1 Q' E0
  rw [List.append_nil]
  exact ⟨F1, as, Q, n1.s, i1, hw1, fun d v F' H' q n i => k d v F' H' (n1.trans n) i q⟩⟩
def CalF (P : Program) (w : World) (K : PySem.W.Frag) (mg : Str → Option Value) (base : Heap) (k : Nat) (fs : List (Addr × FSp)) : Prop := ∀ x ∈ fs, ∃ fd ps, FnOk P w K mg base CX0 k x.1 fd ps (spOf K x.2) ∧ PySem.W.keepIn K (.ref x.1) = true ∧ Binds K fd ps []
theorem CalF.nil {P : Program} {w : World} {mg : Str → Option Value} {base : Heap} {k : Nat} : CalF P w K mg base k [] := fun x h => by cases h
theorem CalF.cons {P : Program} {w : World} {mg : Str → Option Value} {base : Heap} {k j : Nat} {fs : List (Addr × FSp)} {x : Str} {f : Addr} {ps : List Str} {R : FSp} (c : Cal P w K mg base x j ps R) (m : mg x = some (.ref f)) (t : CalF P w K mg base k fs) (hj : j ≤ k := by decide) : CalF P w K mg base k ((f, R) :: fs) := fun z hz => by
  rcases List.mem_cons.mp hz with rfl | hz
  · obtain ⟨f', fd, F, m', kp, b⟩ := c
    rw [m] at m'
    cases m'
    exact ⟨fd, ps, F.mono hj, kp, b⟩
  · exact t z hz
theorem x_calV (i : Nat) {x : Str} {j k : Nat} {fs : List (Addr × FSp)} {y : AX K} {e : Expr} (cc : CalF X.prog X.w K X.mg X.base k fs) (hr : Room j X.A) (h : pA K X (e :: es) y) (hjk : k ≤ j := by decide) (hN : X.N[i]? = some x := by rfl) (hv : Vis X.env.scope x := by first | exact Or.inl rfl | exact Or.inr (Or.inl rfl) | exact Or.inr (Or.inr rfl))
    (hd : (x == ("__debug__" : Str)) = false := by decide +kernel) (hcd : (x == ("__classdict__" : Str)) = false := by decide +kernel)
    (hst : starEach (e :: es) X.env = (false, eval e X.env) :: starEach es X.env := by rfl) (hpl : (backTo pos (starEach es X.env)).any (·.1) = false := by rfl) : pE K X (.Call (.Name x p) (e :: es) [] pos) (eCalV fs i y) := by
  have hk0 : X.K = K := h.k
  subst hk0
  refine ⟨rfl, ⟨fun pins s σ H Q I hw => ?_⟩⟩
  obtain ⟨z, hz, hw⟩ := hw
  obtain ⟨fd, ps, F, kp, b⟩ := cc z hz
  exact (pe_callL F (hr.mono hjk) hN hv kp b .nil pass0 h.h (hdb := hd) (hcd := hcd) (he := hst) (hpl := hpl)).run pins s σ H Q I hw
/-! f(o, ..), a def that changes an object of one's own -/
def CalM (P : Program) (w : World) (K : PySem.W.Frag) (mg : Str → Option Value) (base : Heap) (x : Str) (C : Addr) (k : Nat) (ps : List Str) (R : MSp) : Prop := ∃ f fd, FnOk P w K mg base CX0 k f fd ps (spOfM K C R) ∧ mg x = some (.ref f) ∧ PySem.W.keepIn K (.ref f) = true ∧ Binds K fd ps []
theorem CalM.mk {P : Program} {w : World} {mg : Str → Option Value} {base : Heap} {C : Addr} {x qual : Str} {st : Stmt} {f : Addr} {fd : FuncData} {k : Nat} {ps : List Str} {R : MSp} (Fn : Fun K x qual st f fd) (F : FnOk P w K mg base CX0 k f fd ps (spOfM K C R)) (m : mg x = some (.ref f)) (b : Binds K fd ps []) : CalM P w K mg base x C k ps R := ⟨f, fd, F, m, Fn.kp, b⟩
def mCalO (C : Addr) (R : MSp) (i : Nat) (y : MA K) : MX K := ⟨tCall (spOfM K C R) [] E0 (tCons (tVar i) y.t), fun δ Q => (obD K C (nth δ i) fun p fs fp => y.w δ fun ds δ1 => obD K C (nth δ1 i) fun p1 fs1 fp1 => p1 = p ∧ R fs1 ds fun d fs' => ∀ fp', Q d (put δ1 i (.big (ObjB K C p fs') fp'))), fun δ Q hw Z F0 F H σ ok Q' k => by
  obtain ⟨p, fs, fp, hi, hw⟩ := hw
  obtain ⟨dx, us, A, hx, he, nd, hp, hf, hmm⟩ := ob_at ok hi
  refine ⟨_, hx, ?_⟩
  refine y.ok δ _ hw Z F0 F H σ ok _ fun ds vs δ1 F1 H1 ok1 s1 i1 hr => ?_
  obtain ⟨p1, fs1, fp1, hi1, e1, hr⟩ := hr
  subst e1
  obtain ⟨dx1, us1, A1, hx1, he1, nd1, hp1, hf1, hm1⟩ := ob_at ok1 hi1
  show spOfM K C R ((.ref p1 :: vs) ++ []) H1 Q' E0
  rw [List.append_nil]
  refine ⟨p1, vs, F1, fs1, fp1, ds, _, rfl, ok1.nx.s, ⟨rfl, dx1, us1, A1, he1, nd1, hp1, hf1⟩, fun q hq => ⟨(hm1 q hq).1, (hm1 q hq).2.1⟩, i1, hr, fun d v fs' fp' F' H' hq g1 g2 g3 g4 g5 g6 i => ?_⟩
  exact k d v _ F' H' (ok1.chgO hi1 g1 g2 g3 g4 g5 g6) (s1.trans g1) i (hq fp')⟩
theorem m_calO (i : Nat) {x n : Str} {C : Addr} {ps : List Str} {j k : Nat} {R : MSp} {y : MA K} {p2 : Pos} (cc : CalM X.prog X.w K X.mg X.base x C k ps R) (hr : Room j X.A) (h2 : pMA K X es y) (hjk : k ≤ j := by decide) (hg : Gl X x := by rfl) (hd : (x == ("__debug__" : Str)) = false := by decide +kernel)
    (hN : X.N[i]? = some n := by rfl) (hv : Vis X.env.scope n := by first | exact Or.inl rfl | exact Or.inr (Or.inl rfl) | exact Or.inr (Or.inr rfl)) (hd2 : (n == ("__debug__" : Str)) = false := by decide +kernel) (hcd : (n == ("__classdict__" : Str)) = false := by decide +kernel)
    (hst : starEach (.Name n p2 :: es) X.env = (false, eval (.Name n p2) X.env) :: starEach es X.env := by rfl) (hpl : (backTo pos (starEach es X.env)).any (·.1) = false := by rfl) : pM K X (.Call (.Name x p) (.Name n p2 :: es) [] pos) (mCalO C R i y) := by
  have hk0 : X.K = K := h2.k
  subst hk0
  obtain ⟨f, fd, F, m, kp, b⟩ := cc
  exact ⟨rfl, pe_call F (hr.mono hjk) hg m kp b .nil pass0 (pa_cons (pe_var hN hv hd2 hcd) h2.h hst) (hdb := hd) (he := hst) (hpl := hpl)⟩
/-! int of a text, str of a text or an int -/
def rIntS : List V → Hp → VK → Prop := fun xs H Q => ∃ u n, xs = [.str u] ∧ PySem.intText? u = some n ∧ u.length ≤ 640 ∧ Q (.int n) H
def eIntS (x : EX K) : EX K := ⟨tCB rIntS (tCons x.t tNil), fun δ Q => x.w δ fun d => ∃ u n, d = .str u ∧ PySem.intText? u = some n ∧ u.length ≤ 640 ∧ Q (.int n), fun δ Q hw Z F0 F H σ ok Q' k => by
  refine x.ok δ _ hw Z F0 F H σ ok _ fun d v F1 H1 n1 i1 hq => ?_
  obtain ⟨u, n, rfl, hu, hl, hq⟩ := hq
  exact ⟨u, n, by rw [i1.str_inv], hu, hl, k _ _ F1 H1 n1 (.int _) hq⟩⟩
theorem x_intS {x : EX K} (hm : X.mg "int" = none) (h : pE K X a x) (hg : Gl X "int" := by rfl) (hs : starEach [a] X.env = [(false, eval a X.env)] := by rfl) : pE K X (.Call (.Name "int" p) [a] [] pos) (eIntS x) := by
  have hk0 : X.K = K := h.k
  subst hk0
  exact ⟨rfl, pe_callTy L2.call_int_str hg hm (by decide +kernel) (pa1 h.h hs) (by decide +kernel) (by decide +kernel) hs (by rfl)⟩
def rStrA : List V → Hp → VK → Prop := fun xs H Q => (∃ i, xs = [.int i] ∧ i.natAbs.log2 < 1920 ∧ Q (.str (toString i)) H) ∨ ∃ u, xs = [.str u] ∧ Q (.str u) H
theorem call_strA : CallR X (.type "str") rStrA := by
  intro pins s σ H xs us Q I r h
  rcases h with h | h
  · exact call_str_int pins s σ H xs us Q I r h
  · exact SkE.call_str_str pins s σ H xs us Q I r h
def strAD (d : D) (Q : D → Prop) : Prop := match d with
  | .int i => i.natAbs.log2 < 1920 ∧ Q (.str (toString i))
  | .str u => Q (.str u)
  | _ => False
def eStrA (x : EX K) : EX K := ⟨tCB rStrA (tCons x.t tNil), fun δ Q => x.w δ fun d => strAD d Q, fun δ Q hw Z F0 F H σ ok Q' k => by
  refine x.ok δ _ hw Z F0 F H σ ok _ fun d v F1 H1 n1 i1 hq => ?_
  cases d with
  | int i => exact .inl ⟨i, by rw [i1.int_inv], hq.1, k _ _ F1 H1 n1 (.str _) hq.2⟩
  | str u => exact .inr ⟨u, by rw [i1.str_inv], k _ _ F1 H1 n1 (.str _) hq⟩
  | _ => exact hq.elim⟩
theorem x_strA {x : EX K} (hm : X.mg "str" = none) (h : pE K X a x) (hg : Gl X "str" := by rfl) (hs : starEach [a] X.env = [(false, eval a X.env)] := by rfl) : pE K X (.Call (.Name "str" p) [a] [] pos) (eStrA x) := by
  have hk0 : X.K = K := h.k
  subst hk0
  exact ⟨rfl, pe_callTy call_strA hg hm (by decide +kernel) (pa1 h.h hs) (by decide +kernel) (by decide +kernel) hs (by rfl)⟩
end
end PL
namespace My
open PySem PySem.Spec PyProof.Rows L2 PL
local macro_rules | `(tactic| walk_at "no") => `(tactic| (exfalso; rename_i h; simp at h; done))
local macro_rules | `(tactic| walk_at "pl") => `(tactic| first | assumption | exact pl_pairs _ _ _ | rfl)
local macro_rules | `(tactic| walk_at "one") => `(tactic| (conv => whnf) <;> first
  | refine gNe_same (by walk_at "pl") ?_
  | refine gEq_same (by walk_at "pl") ?_
  | refine ⟨rfl, _, rfl, ?_⟩
  | refine ⟨⟨_, rfl⟩, ?_⟩
  | refine ⟨_, rfl, ?_⟩
  | refine ⟨_, _, rfl, ?_⟩
  | refine ⟨_, _, _, rfl, ?_⟩
  | (refine ⟨fun h => ?_, fun h => ?_⟩ <;> first | (exfalso; simp at h; done) | skip)
  | refine ⟨(show (0 : Int) < _ by decide), ?_⟩
  | refine ⟨⟨by decide, by decide⟩, ?_⟩
  | refine ⟨Nat.le_of_ble_eq_true rfl, ?_⟩
  | refine ⟨.inl (by decide), ?_⟩
  | refine ⟨.inr (by decide), ?_⟩
  | refine ⟨rfl, ?_⟩
  | (refine fun (_ : List Addr) => ?_)
  | refine ⟨_, .inr rfl, ?_⟩
  | refine ⟨_, .inl ⟨_, _, rfl⟩, ?_⟩
  | refine ⟨List.cons_ne_nil _ _, ?_⟩
  | (refine ⟨_, by decide +kernel, ?_⟩)
  | fail)
local macro_rules | `(tactic| walk_at "go") => `(tactic| repeat' walk_at "one")
def top (i : Nat) : Stmt := PySem.Challenge.pw_suregate_k12_circuit_texts.main.body.getD i (.Pass ⟨0, 0, 0, 0⟩)
abbrev s_Net_init : Stmt := inClass (top 6) 0
theorem sc_Net_init : FnScope ["self", "input_count", "latches", "ands"] ["self", "input_count", "latches", "ands"] (defScope s_Net_init) := ⟨rfl, rfl, rfl, by decide +kernel, rfl, by decide +kernel, by decide +kernel⟩
abbrev s_Net_first_and : Stmt := inClass (top 6) 2
theorem sc_Net_first_and : FnScope ["self"] ["self"] (defScope s_Net_first_and) := ⟨rfl, rfl, rfl, by decide +kernel, rfl, by decide +kernel, by decide +kernel⟩
abbrev s_Net_node_count : Stmt := inClass (top 6) 3
theorem sc_Net_node_count : FnScope ["self"] ["self"] (defScope s_Net_node_count) := ⟨rfl, rfl, rfl, by decide +kernel, rfl, by decide +kernel, by decide +kernel⟩
abbrev s_is_name : Stmt := top 12
theorem sc_is_name : FnScope ["text", "character"] ["text"] (defScope s_is_name) := ⟨rfl, rfl, rfl, by decide +kernel, rfl, by decide +kernel, by decide +kernel⟩
abbrev s_Circuit_init : Stmt := inClass (top 13) 0
theorem sc_Circuit_init : FnScope ["self", "inputs", "latches", "ands", "outputs"] ["self", "inputs", "latches", "ands", "outputs"] (defScope s_Circuit_init) := ⟨rfl, rfl, rfl, by decide +kernel, rfl, by decide +kernel, by decide +kernel⟩
abbrev s_Circuit_as_net : Stmt := inClass (top 13) 1
theorem sc_Circuit_as_net : FnScope ["self", "latches", "_", "start", "literal"] ["self"] (defScope s_Circuit_as_net) := ⟨rfl, rfl, rfl, by decide +kernel, rfl, by decide +kernel, by decide +kernel⟩
abbrev s_Circuit_eq : Stmt := inClass (top 13) 2
theorem sc_Circuit_eq : FnScope ["self", "other"] ["self", "other"] (defScope s_Circuit_eq) := ⟨rfl, rfl, rfl, by decide +kernel, rfl, by decide +kernel, by decide +kernel⟩
abbrev s_check_circuit : Stmt := top 14
theorem sc_check_circuit : FnScope ["circuit", "net", "end", "input_count", "new_names", "name", "_", "new_outputs", "new", "start", "literal", "node", "left", "right"] ["circuit"] (defScope s_check_circuit) := ⟨rfl, rfl, rfl, by decide +kernel, rfl, by decide +kernel, by decide +kernel⟩
abbrev s_tell_new_names : Stmt := top 15
theorem sc_tell_new_names : FnScope ["texts", "told", "answers", "text"] ["texts"] (defScope s_tell_new_names) := ⟨rfl, rfl, rfl, by decide +kernel, rfl, by decide +kernel, by decide +kernel⟩
abbrev s_check_part : Stmt := top 16
theorem sc_check_part : FnScope ["part", "valid", "index", "is_valid"] ["part", "valid"] (defScope s_check_part) := ⟨rfl, rfl, rfl, by decide +kernel, rfl, by decide +kernel, by decide +kernel⟩
abbrev s_LineReader_init : Stmt := inClass (top 20) 0
theorem sc_LineReader_init : FnScope ["self", "text", "lines", "line"] ["self", "text"] (defScope s_LineReader_init) := ⟨rfl, rfl, rfl, by decide +kernel, rfl, by decide +kernel, by decide +kernel⟩
abbrev s_LineReader_has_more : Stmt := inClass (top 20) 1
theorem sc_LineReader_has_more : FnScope ["self"] ["self"] (defScope s_LineReader_has_more) := ⟨rfl, rfl, rfl, by decide +kernel, rfl, by decide +kernel, by decide +kernel⟩
abbrev s_LineReader_take_title : Stmt := inClass (top 20) 2
theorem sc_LineReader_take_title : FnScope ["self", "word"] ["self", "word"] (defScope s_LineReader_take_title) := ⟨rfl, rfl, rfl, by decide +kernel, rfl, by decide +kernel, by decide +kernel⟩
abbrev s_LineReader_take_entries : Stmt := inClass (top 20) 3
theorem sc_LineReader_take_entries : FnScope ["self", "word", "entry_of", "entries", "first", "words", "entry"] ["self", "word", "entry_of"] (defScope s_LineReader_take_entries) := ⟨rfl, rfl, rfl, by decide +kernel, rfl, by decide +kernel, by decide +kernel⟩
abbrev s_LineReader_finish : Stmt := inClass (top 20) 4
theorem sc_LineReader_finish : FnScope ["self"] ["self"] (defScope s_LineReader_finish) := ⟨rfl, rfl, rfl, by decide +kernel, rfl, by decide +kernel, by decide +kernel⟩
abbrev s_numbers_of : Stmt := top 21
theorem sc_numbers_of : FnScope ["words", "word"] ["words"] (defScope s_numbers_of) := ⟨rfl, rfl, rfl, by decide +kernel, rfl, by decide +kernel, by decide +kernel⟩
abbrev s_is_number : Stmt := top 22
theorem sc_is_number : FnScope ["word", "digit"] ["word"] (defScope s_is_number) := ⟨rfl, rfl, rfl, by decide +kernel, rfl, by decide +kernel, by decide +kernel⟩
abbrev s_line_of : Stmt := top 23
theorem sc_line_of : FnScope ["word", "entries", "entry"] ["word", "entries"] (defScope s_line_of) := ⟨rfl, rfl, rfl, by decide +kernel, rfl, by decide +kernel, by decide +kernel⟩
abbrev s_write_circuit : Stmt := top 25
theorem sc_write_circuit : FnScope ["circuit", "lines", "name", "latch", "pair", "output"] ["circuit"] (defScope s_write_circuit) := ⟨rfl, rfl, rfl, by decide +kernel, rfl, by decide +kernel, by decide +kernel⟩
abbrev s_read_circuit : Stmt := top 26
theorem sc_read_circuit : FnScope ["text", "reader", "parts"] ["text"] (defScope s_read_circuit) := ⟨rfl, rfl, rfl, by decide +kernel, rfl, by decide +kernel, by decide +kernel⟩
abbrev s_take_circuit : Stmt := top 27
theorem sc_take_circuit : FnScope ["reader", "inputs", "latches", "ands", "outputs"] ["reader"] (defScope s_take_circuit) := ⟨rfl, rfl, rfl, by decide +kernel, rfl, by decide +kernel, by decide +kernel⟩
abbrev s_circuit_of : Stmt := top 28
theorem sc_circuit_of : FnScope ["parts", "inputs", "latches", "ands", "outputs"] ["parts"] (defScope s_circuit_of) := ⟨rfl, rfl, rfl, by decide +kernel, rfl, by decide +kernel, by decide +kernel⟩
abbrev s_input_of : Stmt := top 29
theorem sc_input_of : FnScope ["words"] ["words"] (defScope s_input_of) := ⟨rfl, rfl, rfl, by decide +kernel, rfl, by decide +kernel, by decide +kernel⟩
abbrev s_latch_of : Stmt := top 30
theorem sc_latch_of : FnScope ["words", "numbers"] ["words"] (defScope s_latch_of) := ⟨rfl, rfl, rfl, by decide +kernel, rfl, by decide +kernel, by decide +kernel⟩
abbrev s_and_of : Stmt := top 31
theorem sc_and_of : FnScope ["words"] ["words"] (defScope s_and_of) := ⟨rfl, rfl, rfl, by decide +kernel, rfl, by decide +kernel, by decide +kernel⟩
abbrev s_output_of : Stmt := top 32
theorem sc_output_of : FnScope ["words", "numbers"] ["words"] (defScope s_output_of) := ⟨rfl, rfl, rfl, by decide +kernel, rfl, by decide +kernel, by decide +kernel⟩
abbrev s_law_rows : Stmt := top 34
theorem sc_law_rows : FnScope ["script", "count", "rows", "k", "cell"] ["script", "count"] (defScope s_law_rows) := ⟨rfl, rfl, rfl, by decide +kernel, rfl, by decide +kernel, by decide +kernel⟩
abbrev s_law_name : Stmt := top 35
theorem sc_law_name : FnScope ["row", "k", "signs", "rest", "name", "j", "place"] ["row", "k"] (defScope s_law_name) := ⟨rfl, rfl, rfl, by decide +kernel, rfl, by decide +kernel, by decide +kernel⟩
abbrev s_law_literal : Stmt := top 36
theorem sc_law_literal : FnScope ["row", "near", "count", "node"] ["row", "near", "count"] (defScope s_law_literal) := ⟨rfl, rfl, rfl, by decide +kernel, rfl, by decide +kernel, by decide +kernel⟩
abbrev s_law_ands : Stmt := top 37
theorem sc_law_ands : FnScope ["rows", "at", "first_and", "count", "ands", "k", "row", "size", "left", "right"] ["rows", "at", "first_and", "count"] (defScope s_law_ands) := ⟨rfl, rfl, rfl, by decide +kernel, rfl, by decide +kernel, by decide +kernel⟩
abbrev s_law_parts : Stmt := top 38
theorem sc_law_parts : FnScope ["rows", "most_inputs", "most_latches", "most_ands", "head", "input_count", "latch_count", "gate_count", "output_count", "names", "k", "first_and", "size", "ands", "latches", "row", "outputs"] ["rows", "most_inputs", "most_latches", "most_ands"] (defScope s_law_parts) := ⟨rfl, rfl, rfl, by decide +kernel, rfl, by decide +kernel, by decide +kernel⟩
abbrev s_law_text : Stmt := top 39
theorem sc_law_text : FnScope ["inputs", "latches", "ands", "outputs", "text", "name", "row", "pair"] ["inputs", "latches", "ands", "outputs"] (defScope s_law_text) := ⟨rfl, rfl, rfl, by decide +kernel, rfl, by decide +kernel, by decide +kernel⟩
abbrev s_law : Stmt := top 40
theorem sc_law : FnScope ["script", "rows", "inputs", "latches", "ands", "outputs", "circuit", "text", "back"] ["script"] (defScope s_law) := ⟨rfl, rfl, rfl, by decide +kernel, rfl, by decide +kernel, by decide +kernel⟩
structure Txt (K : PySem.W.Frag) (mg : Str → Option Value) (C_Net : Addr) (C_Circuit : Addr) (C_LineReader : Addr) (w : World) (D_GREATEST_COUNTS : Addr) (f_input_of : Addr) (f_latch_of : Addr) (f_and_of : Addr) (f_output_of : Addr) : Prop where
  kd_GREATEST_COUNTS : KDc K w mg "GREATEST_COUNTS" D_GREATEST_COUNTS [("inputs", 16), ("latches", 40), ("ands", 2000), ("outputs", 32)]
  gF_input_of : mg "_input_of" = some (.ref f_input_of)
  gF_latch_of : mg "_latch_of" = some (.ref f_latch_of)
  gF_and_of : mg "_and_of" = some (.ref f_and_of)
  gF_output_of : mg "_output_of" = some (.ref f_output_of)
  all : mg "all" = none
  enumerate : mg "enumerate" = none
  int : mg "int" = none
  isinstance : mg "isinstance" = none
  len : mg "len" = none
  list : mg "list" = none
  min : mg "min" = none
  range : mg "range" = none
  str : mg "str" = none
  tuple : mg "tuple" = none
  zip : mg "zip" = none
  g_DIGITS : ∃ t, mg "DIGITS" = some (.str "0123456789" t)
  g_LETTERS : ∃ t, mg "LETTERS" = some (.str "abcdefghijklmnopqrstuvwxyz" t)
  g_LONGEST_NAME : ∃ t, mg "LONGEST_NAME" = some (.int 12 t)
  g_LONGEST_NUMBER : ∃ t, mg "LONGEST_NUMBER" = some (.int 6 t)
  g_NAME_CHARACTERS : ∃ t, mg "NAME_CHARACTERS" = some (.str "abcdefghijklmnopqrstuvwxyz0123456789_" t)
  cl_Net : Cls K C_Net
  na_Net_ands : NoAttr K C_Net "ands"
  na_Net_input_count : NoAttr K C_Net "input_count"
  na_Net_latches : NoAttr K C_Net "latches"
  cl_Circuit : Cls K C_Circuit
  na_Circuit_ands : NoAttr K C_Circuit "ands"
  na_Circuit_inputs : NoAttr K C_Circuit "inputs"
  na_Circuit_latches : NoAttr K C_Circuit "latches"
  na_Circuit_outputs : NoAttr K C_Circuit "outputs"
  cl_LineReader : Cls K C_LineReader
  na_LineReader_rows : NoAttr K C_LineReader "_rows"
  na_LineReader_taken : NoAttr K C_LineReader "_taken"
  ic_Circuit : InsC K C_Circuit
  gK_Circuit : mg "Circuit" = some (.ref C_Circuit)
def pr (p : Int × Int) : D := .tup [.int p.1, .int p.2]
def at2 (A : List (Int × Int)) (k : Nat) : Int × Int := A.getD k (0, 0)
theorem pr_at {A : List (Int × Int)} {i : Nat} {z : D} (h : (A.map pr)[i]? = some z) : z = .tup [.int (at2 A i).1, .int (at2 A i).2] := by
  rw [List.getElem?_map] at h
  unfold at2
  rw [List.getD_eq_getElem?_getD]
  cases e : A[i]? with
  | none => rw [e] at h; cases h
  | some p => rw [e] at h; cases h; rfl
theorem ints_at {c : List Int} {i : Nat} {d : D} (h : (c.map D.int)[i]? = some d) : d = .int (c.getD i 0) := by
  rw [List.getElem?_map] at h
  rw [List.getD_eq_getElem?_getD]
  cases e : c[i]? with
  | none => rw [e] at h; cases h
  | some p => rw [e] at h; cases h; rfl
def bt (vs : List Int) (l : Int) : Int := if l % 2 = 1 then 1 - vs.getD (l / 2).toNat 0 else vs.getD (l / 2).toNat 0
def LV : List Int → List (Int × Int) → List Int
  | vs, [] => vs
  | vs, p :: A => LV (vs ++ [bt vs p.1 * bt vs p.2]) A
theorem LV_snoc : ∀ (A : List (Int × Int)) (ws : List Int) (p : Int × Int), LV ws (A ++ [p]) = LV ws A ++ [bt (LV ws A) p.1 * bt (LV ws A) p.2]
  | [], ws, p => rfl
  | a :: A, ws, p => LV_snoc A _ p
theorem LV_len : ∀ (A : List (Int × Int)) (ws : List Int), (LV ws A).length = ws.length + A.length
  | [], ws => rfl
  | a :: A, ws => by
    show (LV _ A).length = _
    rw [LV_len A]
    simp
    omega
def okA : Nat → List (Int × Int) → Prop
  | _, [] => True
  | n, p :: A => (0 ≤ p.1 ∧ p.1 / 2 < n) ∧ (0 ≤ p.2 ∧ p.2 / 2 < n) ∧ okA (n + 1) A
theorem okA_at : ∀ {A : List (Int × Int)} {n : Nat}, okA n A → ∀ i, i < A.length → (0 ≤ (at2 A i).1 ∧ (at2 A i).1 / 2 < ((n + i : Nat) : Int)) ∧ (0 ≤ (at2 A i).2 ∧ (at2 A i).2 / 2 < ((n + i : Nat) : Int))
  | [], _, _, i, hi => by simp at hi
  | p :: A, n, h, 0, _ => ⟨h.1, h.2.1⟩
  | p :: A, n, h, i + 1, hi => by
    have := okA_at h.2.2 i (by simpa using hi)
    rw [show n + (i + 1) = n + 1 + i by omega]
    exact this
theorem okA_snoc : ∀ {A : List (Int × Int)} {n : Nat} {p : Int × Int}, okA n A → (0 ≤ p.1 ∧ p.1 / 2 < ((n + A.length : Nat) : Int)) → (0 ≤ p.2 ∧ p.2 / 2 < ((n + A.length : Nat) : Int)) → okA n (A ++ [p])
  | [], _, _, _, h1, h2 => ⟨h1, h2, trivial⟩
  | a :: A, n, p, h, h1, h2 => ⟨h.1, h.2.1, okA_snoc h.2.2 (by rw [show n + 1 + A.length = n + (A.length + 1) by omega]; exact h1) (by rw [show n + 1 + A.length = n + (A.length + 1) by omega]; exact h2)⟩
theorem take_at (A : List (Int × Int)) (i : Nat) (h : i < A.length) : A.take (i + 1) = A.take i ++ [at2 A i] := by
  rw [List.take_succ, List.getElem?_eq_getElem h]
  unfold at2
  rw [List.getD_eq_getElem?_getD, List.getElem?_eq_getElem h]
  rfl
def bits (v : List Int) : Prop := ∀ x ∈ v, x = 0 ∨ x = 1
theorem bits_at {v : List Int} (h : bits v) (n : Nat) : v.getD n 0 = 0 ∨ v.getD n 0 = 1 := by
  rw [List.getD_eq_getElem?_getD]
  cases e : v[n]? with
  | none => exact .inl rfl
  | some x => exact h x (List.mem_of_getElem? e)
theorem bits_bt {v : List Int} (h : bits v) (l : Int) : bt v l = 0 ∨ bt v l = 1 := by
  have := bits_at h (l / 2).toNat
  unfold bt
  split <;> omega
def IL (xs : List Int) : D := .lst (xs.map D.int)
theorem ints_inj : ∀ a b : List Int, a.map D.int = b.map D.int → a = b
  | [], [], _ => rfl
  | [], _ :: _, h => by cases h
  | _ :: _, [], h => by cases h
  | x :: a, y :: b, h => by
    injection h with h1 h2
    injection h1 with h1
    rw [h1, ints_inj a b h2]
theorem bits_LV : ∀ {A : List (Int × Int)} {ws : List Int}, bits ws → bits (LV ws A)
  | [], ws, h => h
  | p :: A, ws, h => bits_LV (A := A) (ws := ws ++ [bt ws p.1 * bt ws p.2]) fun x hx => (List.mem_append.mp hx).elim (h x) fun e => by
      rw [List.mem_singleton.mp e]
      rcases bits_bt h p.1 with h1 | h1 <;> rcases bits_bt h p.2 with h2 | h2 <;> rw [h1, h2] <;> decide
theorem bits_base {r st : List Int} (h : bits r) (k : bits st) : bits (0 :: (r ++ st)) := fun x hx => (List.mem_cons.mp hx).elim .inl fun h1 => (List.mem_append.mp h1).elim (h x) (k x)
def LT : List Nat := ("abcdefghijklmnopqrstuvwxyz" : Str).cps.toList
def NC : List Nat := ("abcdefghijklmnopqrstuvwxyz0123456789_" : Str).cps.toList
def DG : List Nat := ("0123456789_" : Str).cps.toList
def isNm (cs : List Nat) : Bool := !decide (cs.length < 1) && !decide (12 < cs.length) && decide (cs.getD 0 0 ∈ LT) && cs.all fun c => decide (c ∈ NC)
def SGN : Str := "abcdefghijklmnopqrstuvwxyz0123456789"
def sg (r : Int) : Str := ⟨#[(atI SGN.cps.toList r).getD 0]⟩
def nmIt : Nat → Str × Int → Str × Int
  | 0, s => s
  | n + 1, s => ((nmIt n s).1 ++ sg ((nmIt n s).2 % 36), (nmIt n s).2 / 36)
def nm (r k : Int) : Str :=
  let s := nmIt (r / 26 % 8).toNat (sg (r % 26), r / 208)
  let p := 1 + s.2 % (s.1.length : Int)
  cutS s.1 none (some p) ++ "_" ++ toString k ++ cutS s.1 (some p) none
theorem len_cps (s : Str) : s.length = s.cps.toList.length := by simp [Str.length]
theorem at_in {cs : List Nat} {i : Int} (h0 : 0 ≤ i) (h1 : i < cs.length) : ∃ c, atI cs i = some c := by
  obtain ⟨j, rfl⟩ : ∃ j : Nat, i = (j : Int) := ⟨i.toNat, by omega⟩
  have hj : j < cs.length := by omega
  exact ⟨cs[j], atI_nat (List.getElem?_eq_getElem hj)⟩
theorem cut_len (z : Str) (a b : Option Int) : (cutS z a b).length ≤ z.length := by
  rw [len_cps z, len_cps]
  unfold cutS
  simp
  exact Nat.le_trans (Nat.min_le_right _ _) (Nat.sub_le _ _)
theorem len_app (a b : Str) : (a ++ b).length = a.length + b.length := by
  rw [len_cps, len_cps, len_cps]
  show (a.cps ++ b.cps).toList.length = _
  simp
theorem at_sg {r : Int} (h0 : 0 ≤ r) (h1 : r < 36) : atI SGN.cps.toList r = some ((atI SGN.cps.toList r).getD 0) := by
  obtain ⟨c, e⟩ := at_in (cs := SGN.cps.toList) h0 (by have : SGN.cps.toList.length = 36 := by decide +kernel
                                                       omega)
  rw [e]
  rfl
theorem nmIt_len (s : Str × Int) : ∀ n, (nmIt n s).1.length = s.1.length + n
  | 0 => rfl
  | n + 1 => by
    show ((nmIt n s).1 ++ sg _).length = _
    rw [len_app, nmIt_len s n]
    rfl
theorem str_small : ∀ k : Nat, k < 11 → (toString (k : Int) : Str).length ≤ 5 := by decide +kernel

theorem ap_cps (a b : Str) : (a ++ b).cps.toList = a.cps.toList ++ b.cps.toList := by
  show (a.cps ++ b.cps).toList = _
  simp
def tlc (s : Str) : List Nat := s.cps.toList
/-- signs of names -/
def okC (l : List Nat) : Prop := ∀ c ∈ l, c ∈ NC ∧ c ≠ 95
theorem sg_ok : ∀ r : Nat, r < 36 → (sg (r : Int)).cps.toList = [(atI SGN.cps.toList (r : Int)).getD 0] ∧ (atI SGN.cps.toList (r : Int)).getD 0 ∈ NC ∧ (atI SGN.cps.toList (r : Int)).getD 0 ≠ 95 := by decide +kernel
theorem sg_let : ∀ r : Nat, r < 26 → (atI SGN.cps.toList (r : Int)).getD 0 ∈ LT := by decide +kernel
theorem sg_okI {r : Int} (h0 : 0 ≤ r) (h1 : r < 36) : okC (sg r).cps.toList := by
  obtain ⟨k, rfl⟩ := Int.eq_ofNat_of_zero_le h0
  obtain ⟨a, b, c⟩ := sg_ok k (by omega)
  rw [a]
  intro x hx
  rw [List.mem_singleton.mp hx]
  exact ⟨b, c⟩
theorem nmIt_ok (s : Str × Int) (h : okC s.1.cps.toList) : ∀ n, okC (nmIt n s).1.cps.toList
  | 0 => h
  | n + 1 => by
    show okC ((nmIt n s).1 ++ sg _).cps.toList
    rw [ap_cps]
    intro x hx
    rcases List.mem_append.mp hx with e | e
    · exact nmIt_ok s h n x e
    · exact sg_okI (Int.emod_nonneg _ (by decide)) (Int.emod_lt_of_pos _ (by decide)) x e
theorem nmIt_fst (s : Str × Int) (c : Nat) (t : List Nat) (h : s.1.cps.toList = c :: t) : ∀ n, ∃ u, (nmIt n s).1.cps.toList = c :: u
  | 0 => ⟨t, h⟩
  | n + 1 => by
    obtain ⟨u, hu⟩ := nmIt_fst s c t h n
    refine ⟨u ++ (sg ((nmIt n s).2 % 36)).cps.toList, ?_⟩
    show ((nmIt n s).1 ++ sg _).cps.toList = _
    rw [ap_cps, hu]
    rfl
theorem dig_ok : ∀ k : Nat, k < 10 → (toString (k : Int) : Str).cps.toList = [48 + k] := by decide +kernel
theorem dig_nc : ∀ k : Nat, k < 10 → 48 + k ∈ NC := by decide +kernel
theorem und : ("_" : Str).cps.toList = [95] := by decide +kernel
theorem und_nc : 95 ∈ NC := by decide +kernel
/-- a name of the law, by its signs -/
theorem nm_signs (r : Int) (k : Nat) (hr : 0 ≤ r) (hk : k < 10) : ∃ (c : Nat) (u v : List Nat), (nm r k).cps.toList = c :: u ++ 95 :: (48 + k) :: v ∧ c ∈ LT ∧ okC (c :: u) ∧ okC v ∧ u.length + v.length ≤ 7 := by
  have m26 : 0 ≤ r % 26 ∧ r % 26 < 26 := ⟨Int.emod_nonneg _ (by decide), Int.emod_lt_of_pos _ (by decide)⟩
  have m8 : 0 ≤ r / 26 % 8 ∧ r / 26 % 8 < 8 := ⟨Int.emod_nonneg _ (by decide), Int.emod_lt_of_pos _ (by decide)⟩
  obtain ⟨z, hz⟩ := Int.eq_ofNat_of_zero_le m26.1
  have hz26 : z < 26 := by omega
  obtain ⟨s1, s2, s3⟩ := sg_ok z (by omega)
  have s0 : okC (sg (r % 26)).cps.toList := sg_okI m26.1 (by omega)
  have sl := sg_let z hz26
  have a1 := nmIt_ok (sg (r % 26), r / 208) s0 (r / 26 % 8).toNat
  have a2 := nmIt_fst (sg (r % 26), r / 208) _ [] (by rw [hz]; exact s1) (r / 26 % 8).toNat
  have a3 := nmIt_len (sg (r % 26), r / 208) (r / 26 % 8).toNat
  have l1 : (sg (r % 26)).length = 1 := rfl
  rw [l1] at a3
  unfold nm
  dsimp only
  generalize nmIt (r / 26 % 8).toNat (sg (r % 26), r / 208) = s at a1 a2 a3
  generalize (atI SGN.cps.toList (z : Int)).getD 0 = c at a2 sl
  obtain ⟨u, hu⟩ := a2
  have hl : s.1.length = 1 + u.length := by rw [len_cps, hu]; simp; omega
  have p0 := Int.emod_nonneg s.2 (show (s.1.length : Int) ≠ 0 by omega)
  have p1 := Int.emod_lt_of_pos s.2 (show (0 : Int) < (s.1.length : Int) by omega)
  obtain ⟨p, hp⟩ : ∃ p : Nat, 1 + s.2 % (s.1.length : Int) = ((1 + p : Nat) : Int) ∧ p ≤ u.length := ⟨(s.2 % (s.1.length : Int)).toNat, by omega, by omega⟩
  rw [hp.1]
  refine ⟨c, u.take p, u.drop p, ?_, sl, ?_, ?_, by simp; omega⟩
  · rw [ap_cps, ap_cps, ap_cps, und, dig_ok k hk]
    unfold cutS
    rw [HT.sIx_none, HT.sIx_none, HT.sIx_nat, HT.sIx_nat, hu, hl, Nat.min_eq_left (by omega)]
    show ((c :: u).drop 0).take (1 + p - 0) ++ [95] ++ [48 + k] ++ ((c :: u).drop (1 + p)).take (1 + u.length - (1 + p)) = _
    have e1 : List.take (1 + u.length - (p + 1)) (List.drop p u) = List.drop p u := List.take_of_length_le (by rw [List.length_drop]; omega)
    rw [List.drop_zero, Nat.sub_zero, Nat.add_comm 1 p, List.take_succ_cons, List.drop_succ_cons, e1]
    simp
  · rw [hu] at a1
    intro x hx
    rcases List.mem_cons.mp hx with e | e
    · exact a1 x (by rw [e]; exact .head _)
    · exact a1 x (.tail _ (List.take_subset _ _ e))
  · rw [hu] at a1
    intro x hx
    exact a1 x (.tail _ (List.drop_subset _ _ hx))
theorem nm_len (r : Int) (k : Nat) (hr : 0 ≤ r) (hk : k < 10) : (nm r k).length ≤ 10 := by
  obtain ⟨c, u, v, e, _, _, _, h⟩ := nm_signs r k hr hk
  rw [len_cps, e]
  simp
  omega
theorem nm_isNm (r : Int) (k : Nat) (hr : 0 ≤ r) (hk : k < 10) : isNm (nm r k).cps.toList = true := by
  obtain ⟨c, u, v, e, h1, h2, h3, h⟩ := nm_signs r k hr hk
  rw [e]
  unfold isNm
  simp only [Bool.and_eq_true, Bool.not_eq_true', decide_eq_false_iff_not, decide_eq_true_eq]
  refine ⟨⟨⟨by simp, by simp; omega⟩, by simpa using h1⟩, List.all_eq_true.mpr fun x hx => decide_eq_true ?_⟩
  rcases List.mem_append.mp hx with g | g
  · exact (h2 x g).1
  · rcases List.mem_cons.mp g with rfl | g
    · exact und_nc
    · rcases List.mem_cons.mp g with rfl | g
      · exact dig_nc k hk
      · exact (h3 x g).1
/-- what stands behind the bar -/
def behind : List Nat → Nat
  | [] => 0
  | c :: r => if c = 95 then r.getD 0 0 else behind r
theorem behind_app : ∀ (u : List Nat) (d : Nat) (v : List Nat), (∀ c ∈ u, c ≠ 95) → behind (u ++ 95 :: d :: v) = d
  | [], d, v, _ => rfl
  | c :: u, d, v, h => by
    show (if c = 95 then _ else behind (u ++ 95 :: d :: v)) = d
    rw [if_neg (h c (.head _))]
    exact behind_app u d v fun x hx => h x (.tail _ hx)
theorem nm_inj {r r' : Int} {k k' : Nat} (hr : 0 ≤ r) (hr' : 0 ≤ r') (hk : k < 10) (hk' : k' < 10) (h : nm r k = nm r' k') : k = k' := by
  obtain ⟨c, u, v, e, _, h2, _⟩ := nm_signs r k hr hk
  obtain ⟨c', u', v', e', _, h2', _⟩ := nm_signs r' k' hr' hk'
  have a := behind_app (c :: u) (48 + k) v fun x hx => (h2 x hx).2
  have b := behind_app (c' :: u') (48 + k') v' fun x hx => (h2' x hx).2
  rw [← e, h, e', b] at a
  omega
/-- names in a row -/
def NS (g : Nat → Int) (n : Nat) : List Str := (List.range n).map fun j => nm (g j) j
theorem NS_len (g : Nat → Int) (n : Nat) : (NS g n).length = n := by unfold NS; rw [List.length_map, List.length_range]
theorem NS_succ (g : Nat → Int) (n : Nat) : NS g (n + 1) = NS g n ++ [nm (g n) n] := by
  unfold NS
  rw [List.range_succ, List.map_append]
  rfl
theorem NS_at {g : Nat → Int} {n i : Nat} (h : i < n) : atI ((NS g n).map D.str) (i : Int) = some (.str (nm (g i) i)) := by
  refine atI_nat ?_
  unfold NS
  rw [List.getElem?_map, List.getElem?_map, List.getElem?_range h]
  rfl
theorem NS_cat (g : Nat → Int) (a b : Nat) : NS g a ++ (List.range b).map (fun j => nm (g (a + j)) ((a + j : Nat) : Int)) = NS g (a + b) := by
  unfold NS
  rw [List.range_add, List.map_append, List.map_map]
  rfl
theorem NS_cut (g : Nat → Int) (a b : Nat) : PL.cutD ((NS g (a + b)).map D.str) none (some (a : Int)) = (NS g a).map D.str := by
  unfold PL.cutD
  rw [HT.sIx_none, HT.sIx_nat, List.length_map, NS_len, List.drop_zero, Nat.sub_zero, ← NS_cat, List.map_append, Nat.min_eq_left (by omega)]
  have : ((NS g a).map D.str).length = a := by rw [List.length_map, NS_len]
  rw [List.take_append_of_le_length (by omega), List.take_of_length_le (by omega)]
theorem NS_ok (g : Nat → Int) (n : Nat) (h : ∀ j, j < n → 0 ≤ g j) (hn : n ≤ 10) : (∀ s ∈ NS g n, isNm s.cps.toList = true ∧ s.length ≤ 1000) ∧ (NS g n).Nodup := by
  refine ⟨fun s hs => ?_, ?_⟩
  · obtain ⟨j, hj, rfl⟩ := List.mem_map.mp hs
    have hj := List.mem_range.mp hj
    exact ⟨nm_isNm _ j (h j hj) (by omega), Nat.le_trans (nm_len _ j (h j hj) (by omega)) (by omega)⟩
  · unfold NS
    refine List.pairwise_map.mpr (List.Pairwise.imp_of_mem ?_ List.pairwise_lt_range)
    intro a b ha hb hab e
    have ha := List.mem_range.mp ha
    have hb := List.mem_range.mp hb
    have := nm_inj (h a ha) (h b hb) (by omega) (by omega) e
    omega
theorem at0 {s : Str} (h : ¬ s.length < 1) : atI s.cps.toList 0 = some (s.cps.toList.getD 0 0) := by
  rw [len_cps] at h
  refine atI_nat (j := 0) ?_
  cases e : s.cps.toList with
  | nil => rw [e] at h; simp at h
  | cons a r => rfl
theorem of_nt {P : Prop} [Decidable P] (h : (!decide P) = true) : ¬ P := by simpa using h
theorem of_nf {P : Prop} [Decidable P] (h : (!decide P) = false) : P := by simpa using h
theorem at_get {s : Str} {i c : Nat} (h : s.cps[i]? = some c) : s.cps.toList.getD i 0 = c := by
  rw [← Array.getElem?_toList] at h
  rw [List.getD_eq_getElem?_getD, h]
  rfl
theorem all_get (cs : List Nat) (p : Nat → Bool) : (List.range cs.length).all (fun i => p (cs.getD i 0)) = cs.all p := by
  rw [Bool.eq_iff_iff, List.all_eq_true, List.all_eq_true]
  constructor
  · intro h c hc
    obtain ⟨i, hi, rfl⟩ := List.mem_iff_getElem.mp hc
    have := h i (List.mem_range.mpr hi)
    rw [List.getD_eq_getElem?_getD, List.getElem?_eq_getElem hi] at this
    exact this
  · intro h i hi
    have hi := List.mem_range.mp hi
    rw [List.getD_eq_getElem?_getD, List.getElem?_eq_getElem hi]
    exact h _ (List.getElem_mem hi)
theorem nm_no1 {s : Str} (h : s.length < 1) : isNm s.cps.toList = false := by
  unfold isNm
  rw [← len_cps, decide_eq_true h]
  rfl
theorem nm_no2 {s : Str} (h : 12 < s.length) : isNm s.cps.toList = false := by
  unfold isNm
  rw [← len_cps, decide_eq_true h]
  simp
theorem nm_no3 {s : Str} (h : ¬ s.cps.toList.getD 0 0 ∈ LT) : isNm s.cps.toList = false := by
  unfold isNm
  rw [decide_eq_false h]
  simp
theorem nm_yes {s : Str} (h1 : ¬ s.length < 1) (h2 : ¬ 12 < s.length) (h3 : s.cps.toList.getD 0 0 ∈ LT) : isNm s.cps.toList = s.cps.toList.all fun c => decide (c ∈ NC) := by
  unfold isNm
  rw [← len_cps, decide_eq_false h1, decide_eq_false h2, decide_eq_true h3]
  simp

def tri (p : Str × Int × Int) : D := .tup [.str p.1, .int p.2.1, .int p.2.2]
def po (p : Str × Int) : D := .tup [.str p.1, .int p.2]
def SL (xs : List Str) : D := .lst (xs.map D.str)
abbrev NT (C : Addr) (I : Int) (L A : List (Int × Int)) : D := .ins C [("input_count", .int I), ("latches", .lst (L.map pr)), ("ands", .lst (A.map pr))]
abbrev CT (C : Addr) (I : List Str) (L : List (Str × Int × Int)) (A : List (Int × Int)) (O : List (Str × Int)) : D := .ins C [("inputs", SL I), ("latches", .lst (L.map tri)), ("ands", .lst (A.map pr)), ("outputs", .lst (O.map po))]
def isN (s : Str) : Prop := isNm s.cps.toList = true ∧ s.length ≤ 1000
/-- a circuit that is valid -/
structure CV (I : List Str) (L : List (Str × Int × Int)) (A : List (Int × Int)) (O : List (Str × Int)) : Prop where
  i : I.length ≤ 16
  l : L.length ≤ 40
  a : A.length ≤ 2000
  o : O.length ≤ 32
  ok : okA (1 + I.length + L.length) A
  st : ∀ p ∈ L, (p.2.1 = 0 ∨ p.2.1 = 1) ∧ 0 ≤ p.2.2 ∧ p.2.2 / 2 < ((1 + I.length + L.length + A.length : Nat) : Int)
  ou : ∀ p ∈ O, 0 ≤ p.2 ∧ p.2 / 2 < ((1 + I.length + L.length + A.length : Nat) : Int)
  nm : ∀ s ∈ I ++ L.map (·.1), isN s
  nd : (I ++ L.map (·.1)).Nodup
  on : ∀ s ∈ O.map (·.1), isN s
  od : (O.map (·.1)).Nodup
def GC : List (Str × Int) := [("inputs", 16), ("latches", 40), ("ands", 2000), ("outputs", 32)]
theorem get_tri {L : List (Str × Int × Int)} {i : Nat} {d : D} (h : (L.map tri)[i]? = some d) : ∃ p, L[i]? = some p ∧ d = .tup [.str p.1, .int p.2.1, .int p.2.2] := by
  rw [List.getElem?_map] at h
  cases e : L[i]? with
  | none => rw [e] at h; cases h
  | some p => rw [e] at h; cases h; exact ⟨p, rfl, rfl⟩
theorem get_po {L : List (Str × Int)} {i : Nat} {d : D} (h : (L.map po)[i]? = some d) : ∃ p, L[i]? = some p ∧ d = .tup [.str p.1, .int p.2] := by
  rw [List.getElem?_map] at h
  cases e : L[i]? with
  | none => rw [e] at h; cases h
  | some p => rw [e] at h; cases h; exact ⟨p, rfl, rfl⟩
theorem get_pr {L : List (Int × Int)} {i : Nat} {d : D} (h : (L.map pr)[i]? = some d) : ∃ p, L[i]? = some p ∧ d = .tup [.int p.1, .int p.2] := by
  rw [List.getElem?_map] at h
  cases e : L[i]? with
  | none => rw [e] at h; cases h
  | some p => rw [e] at h; cases h; exact ⟨p, rfl, rfl⟩
theorem get_str {L : List Str} {i : Nat} {d : D} (h : (L.map D.str)[i]? = some d) : ∃ p, L[i]? = some p ∧ d = .str p := by
  rw [List.getElem?_map] at h
  cases e : L[i]? with
  | none => rw [e] at h; cases h
  | some p => rw [e] at h; cases h; exact ⟨p, rfl, rfl⟩
/-- a list by what its items become -/
theorem by_items {α : Type} (g : α → D) (h : α → D) (xs : List α) (dflt : α) : (List.range (xs.map g).length).map (fun j => h (xs.getD j dflt)) = xs.map h := by
  rw [List.length_map]
  exact range_map xs _ _ fun j x e => by rw [List.getD_eq_getElem?_getD, e]; rfl
theorem rep_at {n i : Nat} {d : D} (h : (List.replicate n (D.bl true))[i]? = some d) : d = .bl true ∧ i < n := by
  rw [List.getElem?_replicate] at h
  split at h
  · cases h; exact ⟨rfl, by assumption⟩
  · cases h
/-- the entries that stand already -/
def KV (ts : List Str) : List (Key × D) := ts.map fun t => (.inr t, .bl true)
theorem KV_has {t : Str} : ∀ {ts : List Str}, t ∉ ts → hasK (KV ts) (.inr t) = false
  | [], _ => rfl
  | s :: ts, h => by
    show (decide ((Sum.inr s : Key) = .inr t) || hasK (KV ts) (.inr t)) = false
    rw [KV_has fun m => h (.tail _ m), decide_eq_false (fun e => h (by injection e with e; rw [e]; exact .head _))]
    rfl
theorem KV_put {t : Str} {ts : List Str} (h : t ∉ ts) : putM (KV ts) (.inr t) (.bl true) = KV (ts ++ [t]) := by
  unfold putM
  rw [if_neg (by rw [KV_has h]; decide)]
  unfold KV
  simp
theorem all_true (n : Nat) : (List.range n).map (fun _ => D.bl true) = List.replicate n (D.bl true) := by
  rw [List.map_const', List.length_range]
theorem dsD_of {as : List Ar} {ds : List D} {Q : List D → Prop} (h : dats as = some ds) (hl : ds.length ≤ 1000) (q : Q ds) : dsD as Q := by
  unfold dsD
  rw [h]
  exact ⟨hl, q⟩
/-- the bit of a literal, as the program says it -/
theorem xb {v l : Int} (h : v = 0 ∨ v = 1) : Builtin.bitXor v (Builtin.bitAnd l 1) = if l % 2 = 1 then 1 - v else v := by
  rw [PyProof.Rows.bitAnd_m1]
  rcases Int.emod_two_eq l with e | e <;> rcases h with h | h <;> rw [e, h] <;> decide +kernel
theorem ab {a b : Int} (h : a = 0 ∨ a = 1) (k : b = 0 ∨ b = 1) : Builtin.bitAnd a b = a * b := by
  rcases h with h | h <;> rcases k with k | k <;> rw [h, k] <;> decide +kernel
theorem xbt {vs : List Int} (h : bits vs) (l : Int) : Builtin.bitXor (vs.getD (l / 2).toNat 0) (Builtin.bitAnd l 1) = bt vs l := by
  rw [xb (bits_at h _)]
  rfl
theorem pl_IL (xs : List Int) : pl 8 (.lst (xs.map D.int)) = true := by
  show List.all _ _ = true
  rw [List.all_map]
  exact List.all_eq_true.mpr fun _ _ => rfl

def R_is_name (C_Net C_Circuit : Addr) : FSp := fun as Q => ∃ s : Str, as = [.dat (.str s)] ∧ s.length ≤ 1000 ∧ Q (.bl (isNm s.cps.toList))
def R_Net_init (C_Net C_Circuit : Addr) : ISp := fun as Q => ∃ (I : Int) (L A : List (Int × Int)), as = [.dat (.int I), .dat (.lst (L.map pr)), .dat (.lst (A.map pr))] ∧ Q [("input_count", .int I), ("latches", .lst (L.map pr)), ("ands", .lst (A.map pr))]
def R_Net_first_latch (C_Net C_Circuit : Addr) : FSp := fun as Q => ∃ d : D, as = [.dat d] ∧ False
def R_Net_first_and (C_Net C_Circuit : Addr) : FSp := fun as Q => ∃ (I : Int) (L A : List (Int × Int)), as = [.dat (NT C_Net I L A)] ∧ Q (.int (1 + I + L.length))
def R_Net_node_count (C_Net C_Circuit : Addr) : FSp := fun as Q => ∃ (I : Int) (L A : List (Int × Int)), as = [.dat (NT C_Net I L A)] ∧ Q (.int (1 + I + L.length + A.length))
def R_Circuit_init (C_Net C_Circuit : Addr) : ISp := fun as Q => ∃ (I : List Str) (L : List (Str × Int × Int)) (A : List (Int × Int)) (O : List (Str × Int)), as = [.dat (SL I), .dat (.lst (L.map tri)), .dat (.lst (A.map pr)), .dat (.lst (O.map po))] ∧ CV I L A O ∧ Q [("inputs", SL I), ("latches", .lst (L.map tri)), ("ands", .lst (A.map pr)), ("outputs", .lst (O.map po))]
def R_Circuit_as_net (C_Net C_Circuit : Addr) : FSp := fun as Q => ∃ (I : List Str) (L : List (Str × Int × Int)) (A : List (Int × Int)) (O : List (Str × Int)), as = [.dat (CT C_Circuit I L A O)] ∧ L.length ≤ 1000 ∧ Q (NT C_Net I.length (L.map (·.2)) A)
def R_check_circuit (C_Net C_Circuit : Addr) : FSp := fun as Q => ∃ (I : List Str) (L : List (Str × Int × Int)) (A : List (Int × Int)) (O : List (Str × Int)), as = [.dat (CT C_Circuit I L A O)] ∧ CV I L A O ∧ Q .non
def R_tell_new_names (C_Net C_Circuit : Addr) : FSp := fun as Q => ∃ ts : List Str, as = [.dat (SL ts)] ∧ ts.length ≤ 1000 ∧ (∀ s ∈ ts, isN s) ∧ ts.Nodup ∧ Q (.lst (List.replicate ts.length (.bl true)))
def R_check_part (C_Net C_Circuit : Addr) : FSp := fun as Q => ∃ (z : Str) (m : Int) (n : Nat), as = [.dat (.str z), .dat (.lst (List.replicate n (.bl true)))] ∧ (z, m) ∈ GC ∧ (n : Int) ≤ m ∧ n ≤ 4000 ∧ Q .non
open TL in
theorem tl_nl : tl ("\n" : Str) = [10] := by decide +kernel
open TL in
theorem tl_sp : tl (" " : Str) = [32] := by decide +kernel
open TL in
theorem tl_em : tl ("" : Str) = [] := by decide +kernel
/-- a line of words; a text of lines -/
def ln (r : List Str) : Str := Txt.join " " r ++ "\n"
def tx : List (List Str) → Str
  | [] => ""
  | r :: rs => ln r ++ tx rs
open TL in
theorem tl_jn (z : Str) (r : List Str) : tl (Txt.join z r) = joinL (tl z) (r.map tl) := by rw [join_eq, tl_join]
open TL in
theorem tl_ln (r : List Str) : tl (ln r) = joinL [32] (r.map tl) ++ [10] := by
  unfold ln
  rw [tl_append, tl_jn, tl_nl, tl_sp]
open TL in
theorem tl_tx : ∀ rs : List (List Str), tl (tx rs) = (rs.map fun r => tl (ln r)).flatten
  | [] => tl_em
  | r :: rs => by
    show tl (ln r ++ tx rs) = _
    rw [tl_append, tl_tx rs]
    rfl
open TL in
theorem tx_app (a b : List (List Str)) : tx (a ++ b) = tx a ++ tx b := by
  refine ext_tl ?_
  rw [tl_append, tl_tx, tl_tx, tl_tx, List.map_append, List.flatten_append]
open TL in
theorem tx_snoc (a : List (List Str)) (r : List Str) : tx (a ++ [r]) = tx a ++ ln r := by
  refine ext_tl ?_
  rw [tx_app, tl_append, tl_append, tl_tx [r]]
  simp
open TL in
theorem joinL_nil : ∀ l : List (List Nat), joinL [] l = l.flatten
  | [] => rfl
  | [p] => by show p = _; simp
  | p :: q :: r => by
    show p ++ ([] ++ joinL [] (q :: r)) = _
    rw [joinL_nil (q :: r)]
    rfl
open TL in
/-- ''.join(lines) -/
theorem join_ln (rs : List (List Str)) : Txt.join "" (rs.map ln) = tx rs := by
  refine ext_tl ?_
  rw [tl_jn, tl_em, joinL_nil, tl_tx, List.map_map]
  rfl
open TL in
theorem joinL_last (s : Nat) : ∀ l : List (List Nat), joinL [s] (l ++ [[]]) = (l.map (· ++ [s])).flatten
  | [] => rfl
  | p :: l => by
    have e : joinL [s] (p :: (l ++ [[]])) = p ++ ([s] ++ joinL [s] (l ++ [[]])) := by
      cases l with
      | nil => rfl
      | cons q r => rfl
    show joinL [s] (p :: (l ++ [[]])) = _
    rw [e, joinL_last s l]
    simp
open TL in
theorem join_lines (rs : List (List Str)) : Txt.join "\n" (rs.map (Txt.join " ") ++ [("" : Str)]) = tx rs := by
  refine ext_tl ?_
  rw [tl_jn, tl_nl, List.map_append, show [("" : Str)].map tl = [[]] from congrArg (fun x => [x]) tl_em, joinL_last, tl_tx, List.map_map, List.map_map]
  congr 1
  refine List.map_congr_left fun r _ => ?_
  show tl (Txt.join " " r) ++ [10] = tl (ln r)
  rw [tl_ln, tl_jn, tl_sp]
open TL in
theorem joinL_free {s t : Nat} (h : s ≠ t) : ∀ {l : List (List Nat)}, (∀ p ∈ l, s ∉ p) → s ∉ joinL [t] l
  | [], _ => by simp [joinL]
  | [p], hp => hp p (by simp)
  | p :: q :: r, hp => by
    show s ∉ p ++ ([t] ++ joinL [t] (q :: r))
    have h1 := hp p (by simp)
    have h2 := joinL_free h (l := q :: r) (fun z hz => hp z (List.mem_cons_of_mem _ hz))
    simp only [List.mem_append, List.mem_singleton, not_or]
    exact ⟨h1, h, h2⟩
/-- the words of a line can be told apart -/
structure okR (r : List Str) : Prop where
  ne : r ≠ []
  sp : ∀ w ∈ r, 32 ∉ TL.tl w
  nl : ∀ w ∈ r, 10 ∉ TL.tl w
open TL in
theorem split_tx {rs : List (List Str)} (h : ∀ r ∈ rs, okR r) : Txt.split (tx rs) "\n" = rs.map (Txt.join " ") ++ [("" : Str)] := by
  rw [← join_lines]
  refine split_join tl_nl (by decide +kernel) (by simp) fun p hp => ?_
  rcases List.mem_append.mp hp with h1 | h1
  · obtain ⟨r, hr, rfl⟩ := List.mem_map.mp h1
    rw [tl_jn, tl_sp]
    refine joinL_free (by decide) fun q hq => ?_
    obtain ⟨w, hw, rfl⟩ := List.mem_map.mp hq
    exact (h r hr).nl w hw
  · rw [List.mem_singleton.mp h1, tl_em]
    simp
open TL in
theorem split_ln {r : List Str} (h : okR r) : Txt.split (Txt.join " " r) " " = r := split_join tl_sp (by decide +kernel) h.ne h.sp
/-! lengths -/
open TL in
theorem joinL_len (s : Nat) : ∀ l : List (List Nat), (joinL [s] l).length ≤ (l.map List.length).sum + l.length
  | [] => by simp [joinL]
  | [p] => by simp [joinL]
  | p :: q :: r => by
    have h := joinL_len s (q :: r)
    show (p ++ ([s] ++ joinL [s] (q :: r))).length ≤ _
    simp only [List.length_append, List.map_cons, List.sum_cons, List.length_cons, List.length_nil] at h ⊢
    omega
theorem sum_le {α : Type} {f : α → Nat} {b : Nat} : ∀ {l : List α}, (∀ x ∈ l, f x ≤ b) → (l.map f).sum ≤ b * l.length
  | [], _ => by simp
  | x :: l, h => by
    have h1 := h x (by simp)
    have h2 := sum_le (l := l) (fun y hy => h y (List.mem_cons_of_mem _ hy))
    simp only [List.map_cons, List.sum_cons, List.length_cons, Nat.mul_add, Nat.mul_one]
    omega
open TL in
theorem ln_len {r : List Str} (h : ∀ w ∈ r, w.length ≤ 20) : (Txt.join " " r).length ≤ 21 * r.length ∧ (ln r).length ≤ 21 * r.length + 1 := by
  have e : (Txt.join " " r).length ≤ 21 * r.length := by
    rw [len_tl, tl_jn, tl_sp]
    have h1 := joinL_len 32 (r.map tl)
    have h2 := sum_le (f := List.length) (b := 20) (l := r.map tl) (fun x hx => by
      obtain ⟨w, hw, rfl⟩ := List.mem_map.mp hx
      rw [← len_tl]
      exact h w hw)
    rw [List.length_map] at h1 h2
    omega
  refine ⟨e, ?_⟩
  unfold ln
  rw [len_app]
  have : ("\n" : Str).length = 1 := by decide +kernel
  omega
theorem tx_len {b : Nat} : ∀ {rs : List (List Str)}, (∀ r ∈ rs, (ln r).length ≤ b) → (tx rs).length ≤ b * rs.length
  | [], _ => by show ("" : Str).length ≤ _; exact Nat.zero_le _
  | r :: rs, h => by
    have h1 := h r (by simp)
    have h2 := tx_len (rs := rs) (fun y hy => h y (List.mem_cons_of_mem _ hy))
    show (ln r ++ tx rs).length ≤ _
    rw [len_app, List.length_cons, Nat.mul_add, Nat.mul_one]
    omega
/-! numbers -/
abbrev nS (n : Int) : Str := toString n
open TL in
theorem tl_nS {n : Int} (h : 0 ≤ n) : tl (nS n) = numL n.toNat := by
  obtain ⟨k, rfl⟩ := Int.eq_ofNat_of_zero_le h
  exact tl_num k
open TL in
theorem nS_len {n : Int} (h : 0 ≤ n) (hn : n < 1000000) : (nS n).length ≤ 6 := by
  rw [len_tl, tl_nS h]
  exact numL_len (by decide) (by omega)
open TL in
theorem nS_free {n : Int} {s : Nat} (h : 0 ≤ n) (hs : s < 48 ∨ 57 < s) : s ∉ tl (nS n) := by
  rw [tl_nS h]
  exact numL_free hs
open TL in
theorem nS_int {n : Int} (h : 0 ≤ n) (hn : n < 1000000) : intText? (nS n) = some n := by
  obtain ⟨k, rfl⟩ := Int.eq_ofNat_of_zero_le h
  refine int_num ?_
  have := nS_len h hn
  rw [len_tl, tl_nS h] at this
  show (numL k).length ≤ 4300
  have e : (numL (k : Int).toNat).length = (numL k).length := rfl
  omega
open TL in
theorem numL_first {n : Nat} : 1 ≤ n → ∃ c r, numL n = c :: r ∧ c ≠ 48 := by
  induction n using Nat.strongRecOn with
  | _ n ih =>
    intro h1
    by_cases h : n < 10
    · rw [numL_lt h]
      exact ⟨_, _, rfl, by omega⟩
    · obtain ⟨c, r, e, hc⟩ := ih (n / 10) (by omega) (by omega)
      rw [numL_step (by omega), e]
      exact ⟨c, r ++ [48 + n % 10], rfl, hc⟩
open TL in
theorem nS_pos {n : Int} (h : 0 ≤ n) : 1 ≤ (nS n).length := by
  rw [len_tl, tl_nS h]
  have := numL_ne n.toNat
  cases e : numL n.toNat with
  | nil => exact absurd e this
  | cons a r => simp
open TL in
theorem nS_digits {n : Int} (h : 0 ≤ n) : ∀ c ∈ (nS n).cps.toList, 48 ≤ c ∧ c ≤ 57 := by
  have e : (nS n).cps.toList = numL n.toNat := tl_nS h
  rw [e]
  exact numL_digits _
open TL in
theorem nS_first {n : Int} (h : 1 ≤ n) : (nS n).cps.toList.getD 0 0 ≠ 48 := by
  have e : (nS n).cps.toList = numL n.toNat := tl_nS (by omega)
  obtain ⟨c, r, e2, hc⟩ := numL_first (n := n.toNat) (by omega)
  rw [e, e2]
  exact hc
theorem nc_small : ∀ c ∈ NC, c < 1114112 := by decide +kernel
theorem isN_ok {s : Str} (h : isN s) : PyData.strOk s = true := by
  have h1 := h.1
  unfold isNm at h1
  simp only [Bool.and_eq_true, List.all_eq_true] at h1
  unfold PyData.strOk
  rw [← Array.all_toList, List.all_eq_true]
  intro c hc
  exact decide_eq_true (nc_small c (of_decide_eq_true (h1.2 c hc)))
theorem pl_str {n : Nat} {s : Str} (h : PyData.strOk s = true) : pl n (.str s) = true := by cases n <;> exact h
theorem all_map {α : Type} {xs : List α} {f : α → D} {p : D → Bool} (h : ∀ x ∈ xs, p (f x) = true) : (xs.map f).all p = true := by
  rw [List.all_map]
  exact List.all_eq_true.mpr h
theorem pl_SL {xs : List Str} (h : ∀ s ∈ xs, isN s) : pl 8 (.lst (xs.map D.str)) = true := all_map (p := pl 7) fun s hs => pl_str (isN_ok (h s hs))
theorem pl_tri {xs : List (Str × Int × Int)} (h : ∀ s ∈ xs.map (·.1), isN s) : pl 8 (.lst (xs.map tri)) = true := all_map (p := pl 7) fun p hp => by
  show (pl 6 (.str p.1) && _) = true
  rw [pl_str (isN_ok (h _ (List.mem_map_of_mem hp)))]
  rfl
theorem pl_po {xs : List (Str × Int)} (h : ∀ s ∈ xs.map (·.1), isN s) : pl 8 (.lst (xs.map po)) = true := all_map (p := pl 7) fun p hp => by
  show (pl 6 (.str p.1) && _) = true
  rw [pl_str (isN_ok (h _ (List.mem_map_of_mem hp)))]
  rfl
/-! a word of a text -/
structure gW (s : Str) : Prop where
  len : s.length ≤ 20
  sp : 32 ∉ TL.tl s
  nl : 10 ∉ TL.tl s
theorem nc_free : 32 ∉ NC ∧ 10 ∉ NC := by decide +kernel
theorem gW_nm {s : Str} (h : isN s) : gW s := by
  have h1 := h.1
  unfold isNm at h1
  simp only [Bool.and_eq_true, List.all_eq_true] at h1
  have hl : ¬ 12 < s.cps.toList.length := of_nt h1.1.1.2
  refine ⟨by rw [len_cps]; omega, fun hm => nc_free.1 (of_decide_eq_true (h1.2 _ hm)), fun hm => nc_free.2 (of_decide_eq_true (h1.2 _ hm))⟩
theorem gW_n {n : Int} (h : 0 ≤ n) (hn : n < 1000000) : gW (nS n) := ⟨Nat.le_trans (nS_len h hn) (by decide), nS_free h (by decide), nS_free h (by decide)⟩
theorem gW_words : (gW "circuit" ∧ gW "input") ∧ gW "latch" ∧ gW "and" ∧ gW "output" := ⟨⟨⟨by decide +kernel, by decide +kernel, by decide +kernel⟩, ⟨by decide +kernel, by decide +kernel, by decide +kernel⟩⟩, ⟨by decide +kernel, by decide +kernel, by decide +kernel⟩, ⟨by decide +kernel, by decide +kernel, by decide +kernel⟩, ⟨by decide +kernel, by decide +kernel, by decide +kernel⟩⟩
/-- the lines of a circuit -/
def wI (s : Str) : List Str := [s]
def wL (p : Str × Int × Int) : List Str := [p.1, nS p.2.1, nS p.2.2]
def wA (p : Int × Int) : List Str := [nS p.1, nS p.2]
def wO (p : Str × Int) : List Str := [p.1, nS p.2]
def secR {α : Type} (w : Str) (f : α → List Str) (xs : List α) : List (List Str) := (xs.map f).map (w :: ·)
def CR (I : List Str) (L : List (Str × Int × Int)) (A : List (Int × Int)) (O : List (Str × Int)) : List (List Str) := [[("circuit" : Str)]] ++ secR "input" wI I ++ secR "latch" wL L ++ secR "and" wA A ++ secR "output" wO O
theorem CR_len {I : List Str} {L : List (Str × Int × Int)} {A : List (Int × Int)} {O : List (Str × Int)} : (CR I L A O).length = 1 + I.length + L.length + A.length + O.length := by
  unfold CR secR
  simp only [List.length_append, List.length_map, List.length_cons, List.length_nil]
theorem secR_mem {α : Type} {w : Str} {f : α → List Str} {xs : List α} {r : List Str} (h : r ∈ secR w f xs) : ∃ x ∈ xs, r = w :: f x := by
  obtain ⟨ws, hw, rfl⟩ := List.mem_map.mp h
  obtain ⟨x, hx, rfl⟩ := List.mem_map.mp hw
  exact ⟨x, hx, rfl⟩
theorem CV.small {I : List Str} {L : List (Str × Int × Int)} {A : List (Int × Int)} {O : List (Str × Int)} (cv : CV I L A O) : 1 + I.length + L.length + A.length ≤ 2057 := by
  have := cv.i
  have := cv.l
  have := cv.a
  omega
theorem okA_mem {A : List (Int × Int)} {n : Nat} (h : okA n A) {p : Int × Int} (hp : p ∈ A) : (0 ≤ p.1 ∧ p.1 / 2 < ((n + A.length : Nat) : Int)) ∧ (0 ≤ p.2 ∧ p.2 / 2 < ((n + A.length : Nat) : Int)) := by
  obtain ⟨i, hi, e⟩ := List.mem_iff_getElem.mp hp
  have h1 := okA_at h i hi
  have e2 : at2 A i = p := by
    unfold at2
    rw [List.getD_eq_getElem?_getD, List.getElem?_eq_getElem hi, e]
    rfl
  rw [e2] at h1
  omega
theorem lit_of {n : Nat} {l : Int} (h0 : 0 ≤ l) (h : l / 2 < (n : Int)) (hn : n ≤ 4000) : 0 ≤ l ∧ l < 1000000 := by omega
theorem CV.lv {I : List Str} {L : List (Str × Int × Int)} {A : List (Int × Int)} {O : List (Str × Int)} (cv : CV I L A O) {p : Str × Int × Int} (h : p ∈ L) : isN p.1 ∧ (0 ≤ p.2.1 ∧ p.2.1 < 1000000) ∧ 0 ≤ p.2.2 ∧ p.2.2 < 1000000 := by
  have h1 := cv.st p h
  have := cv.small
  exact ⟨cv.nm _ (List.mem_append_right _ (List.mem_map_of_mem h)), by omega, by omega⟩
theorem CV.av {I : List Str} {L : List (Str × Int × Int)} {A : List (Int × Int)} {O : List (Str × Int)} (cv : CV I L A O) {p : Int × Int} (h : p ∈ A) : (0 ≤ p.1 ∧ p.1 < 1000000) ∧ 0 ≤ p.2 ∧ p.2 < 1000000 := by
  have h1 := okA_mem cv.ok h
  have := cv.small
  omega
theorem CV.ov {I : List Str} {L : List (Str × Int × Int)} {A : List (Int × Int)} {O : List (Str × Int)} (cv : CV I L A O) {p : Str × Int} (h : p ∈ O) : isN p.1 ∧ 0 ≤ p.2 ∧ p.2 < 1000000 := by
  have h1 := cv.ou p h
  have := cv.small
  exact ⟨cv.on _ (List.mem_map_of_mem h), by omega⟩
theorem gW_cons {w : Str} {ws : List Str} (h : gW w) (t : ∀ x ∈ ws, gW x) : ∀ x ∈ w :: ws, gW x := fun x hx => by
  rcases List.mem_cons.mp hx with rfl | hx
  · exact h
  · exact t x hx
theorem gW_nil : ∀ x ∈ ([] : List Str), gW x := fun x hx => by cases hx
/-- lists whose lines are good -/
structure GV (I : List Str) (L : List (Str × Int × Int)) (A : List (Int × Int)) (O : List (Str × Int)) : Prop where
  i : I.length ≤ 16
  l : L.length ≤ 40
  a : A.length ≤ 2000
  o : O.length ≤ 32
  gi : ∀ s ∈ I, gW s
  gl : ∀ p ∈ L, gW p.1 ∧ (0 ≤ p.2.1 ∧ p.2.1 < 1000000) ∧ 0 ≤ p.2.2 ∧ p.2.2 < 1000000
  ga : ∀ p ∈ A, (0 ≤ p.1 ∧ p.1 < 1000000) ∧ 0 ≤ p.2 ∧ p.2 < 1000000
  go : ∀ p ∈ O, gW p.1 ∧ 0 ≤ p.2 ∧ p.2 < 1000000
theorem CV.gv {I : List Str} {L : List (Str × Int × Int)} {A : List (Int × Int)} {O : List (Str × Int)} (cv : CV I L A O) : GV I L A O :=
  ⟨cv.i, cv.l, cv.a, cv.o, fun s hs => gW_nm (cv.nm _ (List.mem_append_left _ hs)), fun p hp => ⟨gW_nm (cv.lv hp).1, (cv.lv hp).2⟩, fun p hp => cv.av hp, fun p hp => ⟨gW_nm (cv.ov hp).1, (cv.ov hp).2⟩⟩
theorem GV.t1 {I : List Str} {L : List (Str × Int × Int)} {A : List (Int × Int)} {O : List (Str × Int)} (g : GV I L A O) (n : Nat) : GV (I.take n) [] [] [] :=
  ⟨Nat.le_trans (List.length_take_le' _ _) g.i, Nat.zero_le _, Nat.zero_le _, Nat.zero_le _, fun s hs => g.gi s (List.mem_of_mem_take hs), fun p hp => (by cases hp), fun p hp => (by cases hp), fun p hp => (by cases hp)⟩
theorem GV.t2 {I : List Str} {L : List (Str × Int × Int)} {A : List (Int × Int)} {O : List (Str × Int)} (g : GV I L A O) (n : Nat) : GV I (L.take n) [] [] :=
  ⟨g.i, Nat.le_trans (List.length_take_le' _ _) g.l, Nat.zero_le _, Nat.zero_le _, g.gi, fun p hp => g.gl p (List.mem_of_mem_take hp), fun p hp => (by cases hp), fun p hp => (by cases hp)⟩
theorem GV.t3 {I : List Str} {L : List (Str × Int × Int)} {A : List (Int × Int)} {O : List (Str × Int)} (g : GV I L A O) (n : Nat) : GV I L (A.take n) [] :=
  ⟨g.i, g.l, Nat.le_trans (List.length_take_le' _ _) g.a, Nat.zero_le _, g.gi, g.gl, fun p hp => g.ga p (List.mem_of_mem_take hp), fun p hp => (by cases hp)⟩
theorem GV.t4 {I : List Str} {L : List (Str × Int × Int)} {A : List (Int × Int)} {O : List (Str × Int)} (g : GV I L A O) (n : Nat) : GV I L A (O.take n) :=
  ⟨g.i, g.l, g.a, Nat.le_trans (List.length_take_le' _ _) g.o, g.gi, g.gl, g.ga, fun p hp => g.go p (List.mem_of_mem_take hp)⟩
theorem CR_gok {I : List Str} {L : List (Str × Int × Int)} {A : List (Int × Int)} {O : List (Str × Int)} (gv : GV I L A O) : ∀ r ∈ CR I L A O, r ≠ [] ∧ r.length ≤ 4 ∧ ∀ w ∈ r, gW w := fun r hr => by
  unfold CR at hr
  simp only [List.mem_append, List.mem_singleton] at hr
  have g := gW_words
  rcases hr with (((rfl | hr) | hr) | hr) | hr
  · exact ⟨by simp, by decide, gW_cons g.1.1 gW_nil⟩
  · obtain ⟨x, hx, rfl⟩ := secR_mem hr
    exact ⟨by simp, by simp [wI], gW_cons g.1.2 (gW_cons (gv.gi x hx) gW_nil)⟩
  · obtain ⟨x, hx, rfl⟩ := secR_mem hr
    have h := gv.gl x hx
    exact ⟨by simp, by simp [wL], gW_cons g.2.1 (gW_cons h.1 (gW_cons (gW_n h.2.1.1 h.2.1.2) (gW_cons (gW_n h.2.2.1 h.2.2.2) gW_nil)))⟩
  · obtain ⟨x, hx, rfl⟩ := secR_mem hr
    have h := gv.ga x hx
    exact ⟨by simp, by simp [wA], gW_cons g.2.2.1 (gW_cons (gW_n h.1.1 h.1.2) (gW_cons (gW_n h.2.1 h.2.2) gW_nil))⟩
  · obtain ⟨x, hx, rfl⟩ := secR_mem hr
    have h := gv.go x hx
    exact ⟨by simp, by simp [wO], gW_cons g.2.2.2 (gW_cons h.1 (gW_cons (gW_n h.2.1 h.2.2) gW_nil))⟩
theorem CR_ok {I : List Str} {L : List (Str × Int × Int)} {A : List (Int × Int)} {O : List (Str × Int)} (cv : CV I L A O) : ∀ r ∈ CR I L A O, r ≠ [] ∧ r.length ≤ 4 ∧ ∀ w ∈ r, gW w := CR_gok cv.gv
theorem okR_of {r : List Str} (h : r ≠ [] ∧ r.length ≤ 4 ∧ ∀ w ∈ r, gW w) : okR r ∧ (ln r).length ≤ 200 := by
  refine ⟨⟨h.1, fun w hw => (h.2.2 w hw).sp, fun w hw => (h.2.2 w hw).nl⟩, ?_⟩
  have h1 := (ln_len fun w hw => (h.2.2 w hw).len).2
  omega
theorem CR_tx {I : List Str} {L : List (Str × Int × Int)} {A : List (Int × Int)} {O : List (Str × Int)} (gv : GV I L A O) : (tx (CR I L A O)).length ≤ 800000 := by
  have h1 := tx_len (b := 200) fun r hr => (okR_of (CR_gok gv r hr)).2
  have h2 : (CR I L A O).length ≤ 4000 := by
    rw [CR_len]
    have := gv.i
    have := gv.l
    have := gv.a
    have := gv.o
    omega
  omega
theorem CR_1 (I : List Str) (s : Str) : tx (CR (I ++ [s]) [] [] []) = tx (CR I [] [] []) ++ ln ("input" :: wI s) := by
  rw [← tx_snoc]
  unfold CR secR
  simp
theorem CR_2 (I : List Str) (L : List (Str × Int × Int)) (p : Str × Int × Int) : tx (CR I (L ++ [p]) [] []) = tx (CR I L [] []) ++ ln ("latch" :: wL p) := by
  rw [← tx_snoc]
  unfold CR secR
  simp
theorem CR_3 (I : List Str) (L : List (Str × Int × Int)) (A : List (Int × Int)) (p : Int × Int) : tx (CR I L (A ++ [p]) []) = tx (CR I L A []) ++ ln ("and" :: wA p) := by
  rw [← tx_snoc]
  unfold CR secR
  simp
theorem CR_4 (I : List Str) (L : List (Str × Int × Int)) (A : List (Int × Int)) (O : List (Str × Int)) (p : Str × Int) : tx (CR I L A (O ++ [p])) = tx (CR I L A O) ++ ln ("output" :: wO p) := by
  rw [← tx_snoc]
  unfold CR secR
  simp
open TL in
theorem wd1 (t s : Str) : t ++ "input " ++ s ++ "\n" = t ++ ln ["input", s] := by
  refine ext_tl ?_
  have e : tl ("input " : Str) = tl ("input" : Str) ++ [32] := by decide +kernel
  rw [tl_append, tl_append, tl_append, tl_append, tl_ln, tl_nl, e]
  simp [joinL]
open TL in
theorem wd2 (t s x y : Str) : t ++ "latch " ++ s ++ " " ++ x ++ " " ++ y ++ "\n" = t ++ ln ["latch", s, x, y] := by
  refine ext_tl ?_
  have e : tl ("latch " : Str) = tl ("latch" : Str) ++ [32] := by decide +kernel
  simp only [tl_append, tl_ln, tl_nl, tl_sp, e]
  simp [joinL]
open TL in
theorem wd3 (t x y : Str) : t ++ "and " ++ x ++ " " ++ y ++ "\n" = t ++ ln ["and", x, y] := by
  refine ext_tl ?_
  have e : tl ("and " : Str) = tl ("and" : Str) ++ [32] := by decide +kernel
  simp only [tl_append, tl_ln, tl_nl, tl_sp, e]
  simp [joinL]
open TL in
theorem wd4 (t x y : Str) : t ++ "output " ++ x ++ " " ++ y ++ "\n" = t ++ ln ["output", x, y] := by
  refine ext_tl ?_
  have e : tl ("output " : Str) = tl ("output" : Str) ++ [32] := by decide +kernel
  simp only [tl_append, tl_ln, tl_nl, tl_sp, e]
  simp [joinL]
theorem wd_len : (("input " : Str).length = 6 ∧ ("latch " : Str).length = 6) ∧ ("and " : Str).length = 4 ∧ ("output " : Str).length = 7 ∧ (" " : Str).length = 1 ∧ ("\n" : Str).length = 1 := by decide +kernel
theorem tx_0 : ("circuit\n" : Str) = tx (CR [] [] [] []) := by decide +kernel
theorem ln_0 : ("circuit\n" : Str) = ln ["circuit"] := by decide +kernel
/-- what a datum is as a text -/
def TS (d : D) (s : Str) : Prop := (∃ i : Int, d = .int i ∧ 0 ≤ i ∧ i < 1000000 ∧ s = nS i) ∨ d = .str s
abbrev RF (rs : List (List Str)) (t : Nat) : FS := [("_rows", .lst (rs.map SL)), ("_taken", .dat (.int t))]
theorem pl_pr (ps : List (Int × Int)) : pl 8 (.lst (ps.map pr)) = true := by
  show List.all _ _ = true
  rw [List.all_map]
  exact List.all_eq_true.mpr fun x _ => rfl
theorem pl_SL' {xs : List Str} (h : ∀ s ∈ xs, PyData.strOk s = true) : pl 8 (SL xs) = true := all_map (p := pl 7) fun s hs => pl_str (h s hs)
theorem dig_mem {c : Nat} (h : 48 ≤ c ∧ c ≤ 57) : decide (c ∈ ("0123456789" : Str).cps.toList) = true := by
  have : ∀ k : Nat, k < 10 → decide (48 + k ∈ ("0123456789" : Str).cps.toList) = true := by decide +kernel
  have e := this (c - 48) (by omega)
  rwa [show 48 + (c - 48) = c by omega] at e
theorem small_log {i : Int} (h : 0 ≤ i) (h1 : i < 1000000) : i.natAbs.log2 < 1920 := by
  have : i.natAbs < 2 ^ 1920 := Nat.lt_of_lt_of_le (show i.natAbs < 2 ^ 20 by omega) (Nat.pow_le_pow_right (by decide) (by decide))
  by_cases h0 : i.natAbs = 0
  · rw [h0]; decide
  · exact (Nat.log2_lt h0).mpr this
theorem get_two {α : Type} {xs : List α} {f : α → List Str} {g : α → D} {j : Nat} {ws : List Str} {e : D} (h1 : (xs.map f)[j]? = some ws) (h2 : (xs.map g)[j]? = some e) : ∃ x, x ∈ xs ∧ ws = f x ∧ e = g x := by
  rw [List.getElem?_map] at h1 h2
  cases h : xs[j]? with
  | none => rw [h] at h1; cases h1
  | some x =>
    rw [h] at h1 h2
    cases h1
    cases h2
    exact ⟨x, List.mem_of_getElem? h, rfl, rfl⟩
def PN (w : Str) (post : List (List Str)) : Prop := ∀ r ∈ post, ∃ x ws, r = x :: ws ∧ x ≠ w
theorem post_nil {w : Str} : PN w [] := fun r h => by cases h
theorem post_ne {α : Type} {w v : Str} {f : α → List Str} {xs : List α} (h : v ≠ w) : PN w (secR v f xs) := fun r hr => by
  obtain ⟨x, _, rfl⟩ := secR_mem hr
  exact ⟨v, _, rfl, h⟩
theorem post_app {w : Str} {a b : List (List Str)} (h : PN w a) (k : PN w b) : PN w (a ++ b) := fun r hr => (List.mem_append.mp hr).elim (h r) (k r)
theorem RF_eq {rs rs' : List (List Str)} {t t' : Nat} (h : rs = rs') (k : t = t') : RF rs t = RF rs' t' := by rw [h, k]
theorem take_some {α : Type} {xs : List α} {i : Nat} {x : α} (h : xs[i]? = some x) : xs.take (i + 1) = xs.take i ++ [x] := by
  rw [List.take_add_one, h]
  rfl
theorem ts_nil : ∀ (j : Nat) d s, ([] : List D)[j]? = some d → ([] : List Str)[j]? = some s → TS d s := fun j d s h => by simp at h
theorem ts_cons {d0 : D} {s0 : Str} {es : List D} {ws : List Str} (h : TS d0 s0) (t : ∀ (j : Nat) d s, es[j]? = some d → ws[j]? = some s → TS d s) : ∀ (j : Nat) d s, (d0 :: es)[j]? = some d → (s0 :: ws)[j]? = some s → TS d s := fun j d s h1 h2 => by
  cases j with
  | zero =>
    simp at h1 h2
    rw [← h1, ← h2]
    exact h
  | succ j => exact t j d s (by simpa using h1) (by simpa using h2)
theorem ts_n {i : Int} (h : 0 ≤ i) (k : i < 1000000) : TS (.int i) (nS i) := .inl ⟨i, rfl, h, k, rfl⟩
theorem len_ok {r : List Str} (h : r ≠ [] ∧ r.length ≤ 4 ∧ ∀ w ∈ r, gW w) : ∀ x ∈ r, x.length ≤ 20 := fun x hx => (h.2.2 x hx).len
abbrev hI (s : Str) : D := .str (ln ("input" :: wI s))
abbrev hL (p : Str × Int × Int) : D := .str (ln ("latch" :: wL p))
abbrev hA (p : Int × Int) : D := .str (ln ("and" :: wA p))
abbrev hO (p : Str × Int) : D := .str (ln ("output" :: wO p))
theorem CR_lines (I : List Str) (L : List (Str × Int × Int)) (A : List (Int × Int)) (O : List (Str × Int)) : [D.str "circuit\n"] ++ I.map hI ++ L.map hL ++ A.map hA ++ O.map hO = ((CR I L A O).map ln).map D.str := by
  rw [ln_0]
  unfold CR secR hI hL hA hO
  simp
  rfl
def R_Circuit_eq (C_Net C_Circuit : Addr) : FSp := fun as Q => ∃ (I : List Str) (L : List (Str × Int × Int)) (A : List (Int × Int)) (O : List (Str × Int)), as = [.dat (CT C_Circuit I L A O), .dat (CT C_Circuit I L A O)] ∧ CV I L A O ∧ Q (.bl true)
def R_LineReader_init : MSp := fun fs as Q => ∃ rs : List (List Str), as = [.str (tx rs)] ∧ fs = [] ∧ (∀ r ∈ rs, okR r ∧ (ln r).length ≤ 200) ∧ rs.length ≤ 4000 ∧ Q .non (RF rs 0)
def R_LineReader_has_more {K : PySem.W.Frag} (C_LineReader : Addr) : FSp := fun as Q => ∃ (rs : List (List Str)) (t : Nat), as = [.lob (ObjL K C_LineReader (RF rs t))] ∧ Q (.bl (decide (t < rs.length)))
def R_LineReader_finish {K : PySem.W.Frag} (C_LineReader : Addr) : FSp := fun as Q => ∃ (rs : List (List Str)) (t : Nat), as = [.lob (ObjL K C_LineReader (RF rs t))] ∧ t = rs.length ∧ Q .non
def R_LineReader_take_title : MSp := fun fs as Q => ∃ (rs : List (List Str)) (t : Nat) (w : Str), as = [.str w] ∧ fs = RF rs t ∧ rs[t]? = some [w] ∧ PyData.strOk w = true ∧ Q .non (RF rs (t + 1))
def R_is_number (C_Net C_Circuit : Addr) : FSp := fun as Q => ∃ n : Int, as = [.dat (.str (nS n))] ∧ 0 ≤ n ∧ n < 1000000 ∧ Q (.bl true)
def R_numbers_of (C_Net C_Circuit : Addr) : FSp := fun as Q => ∃ ns : List Int, as = [.dat (SL (ns.map nS))] ∧ (∀ n ∈ ns, 0 ≤ n ∧ n < 1000000) ∧ ns.length ≤ 3 ∧ Q (.tup (ns.map .int))
def R_input_of (C_Net C_Circuit : Addr) : FSp := fun as Q => ∃ s : Str, as = [.dat (SL (wI s))] ∧ Q (.str s)
def R_latch_of (C_Net C_Circuit : Addr) : FSp := fun as Q => ∃ p : Str × Int × Int, as = [.dat (SL (wL p))] ∧ 0 ≤ p.2.1 ∧ p.2.1 < 1000000 ∧ 0 ≤ p.2.2 ∧ p.2.2 < 1000000 ∧ Q (tri p)
def R_and_of (C_Net C_Circuit : Addr) : FSp := fun as Q => ∃ p : Int × Int, as = [.dat (SL (wA p))] ∧ 0 ≤ p.1 ∧ p.1 < 1000000 ∧ 0 ≤ p.2 ∧ p.2 < 1000000 ∧ Q (pr p)
def R_output_of (C_Net C_Circuit : Addr) : FSp := fun as Q => ∃ p : Str × Int, as = [.dat (SL (wO p))] ∧ 0 ≤ p.2 ∧ p.2 < 1000000 ∧ Q (po p)
def R_LineReader_take_entries (C_Net C_Circuit f_input_of f_latch_of f_and_of f_output_of : Addr) : MSp := fun fs as Q => ∃ (pre ms : List (List Str)) (post : List (List Str)) (w : Str) (f : Addr) (R : FSp) (es : List D), as = [.str w, .ref (.ref f)] ∧ fs = RF (pre ++ ms.map (w :: ·) ++ post) pre.length ∧
  (f, R) ∈ [(f_input_of, R_input_of C_Net C_Circuit), (f_latch_of, R_latch_of C_Net C_Circuit), (f_and_of, R_and_of C_Net C_Circuit), (f_output_of, R_output_of C_Net C_Circuit)] ∧ es.length = ms.length ∧ es.length ≤ 4000 ∧
  (∀ (j : Nat) ws e, ms[j]? = some ws → es[j]? = some e → nonD e = some false ∧ ∀ Q' : D → Prop, Q' e → R [.dat (SL ws)] Q') ∧ (∀ r ∈ post, ∃ x ws, r = x :: ws ∧ x ≠ w) ∧ Q (.lst es) (RF (pre ++ ms.map (w :: ·) ++ post) (pre.length + es.length))
def R_take_circuit : MSp := fun fs as Q => ∃ (I : List Str) (L : List (Str × Int × Int)) (A : List (Int × Int)) (O : List (Str × Int)), as = [] ∧ fs = RF (CR I L A O) 0 ∧ CV I L A O ∧ Q (.tup [SL I, .lst (L.map tri), .lst (A.map pr), .lst (O.map po)]) (RF (CR I L A O) (CR I L A O).length)
def R_circuit_of (C_Net C_Circuit : Addr) : FSp := fun as Q => ∃ (I : List Str) (L : List (Str × Int × Int)) (A : List (Int × Int)) (O : List (Str × Int)), as = [.dat (.tup [SL I, .lst (L.map tri), .lst (A.map pr), .lst (O.map po)])] ∧ CV I L A O ∧ Q (CT C_Circuit I L A O)
def R_read_circuit (C_Net C_Circuit : Addr) : FSp := fun as Q => ∃ (I : List Str) (L : List (Str × Int × Int)) (A : List (Int × Int)) (O : List (Str × Int)), as = [.dat (.str (tx (CR I L A O)))] ∧ CV I L A O ∧ Q (CT C_Circuit I L A O)
def R_line_of (C_Net C_Circuit : Addr) : FSp := fun as Q => ∃ (w : Str) (es : List D) (ws : List Str), as = [.dat (.str w), .dat (.tup es)] ∧ es.length = ws.length ∧ (∀ (j : Nat) d s, es[j]? = some d → ws[j]? = some s → TS d s) ∧ ws.length ≤ 3 ∧ (∀ x ∈ w :: ws, x.length ≤ 20) ∧ Q (.str (ln (w :: ws)))
def R_write_circuit (C_Net C_Circuit : Addr) : FSp := fun as Q => ∃ (I : List Str) (L : List (Str × Int × Int)) (A : List (Int × Int)) (O : List (Str × Int)), as = [.dat (CT C_Circuit I L A O)] ∧ CV I L A O ∧ Q (.str (tx (CR I L A O)))
def R_law_text (C_Net C_Circuit : Addr) : FSp := fun as Q => ∃ (I : List Str) (L : List (Str × Int × Int)) (A : List (Int × Int)) (O : List (Str × Int)), as = [.dat (SL I), .dat (.lst (L.map tri)), .dat (.lst (A.map pr)), .dat (.lst (O.map po))] ∧ CV I L A O ∧ Q (.str (tx (CR I L A O)))
def R_law_rows (C_Net C_Circuit : Addr) : FSp := fun as Q => ∃ (ns : List Int) (c : Int), as = [.dat (.lst (ns.map .int)), .dat (.int c)] ∧ 0 ≤ c ∧ c ≤ 1000 ∧ ns.length ≤ 63 ∧ ∀ rs : List Int, (rs.length : Int) = c → (∀ r ∈ rs, 0 ≤ r) → Q (.lst (rs.map .int))
def R_law_name (C_Net C_Circuit : Addr) : FSp := fun as Q => ∃ (r k : Int), as = [.dat (.int r), .dat (.int k)] ∧ 0 ≤ r ∧ 0 ≤ k ∧ k ≤ 10 ∧ Q (.str (nm r k))
/-- a literal of the law -/
def litv (r n c : Int) : Int := 2 * (if n % 2 = 1 then c - 1 - r % c % (if c < 4 then c else 4) else r % c) + r / c % 2
theorem litv_ok {r c : Int} (n : Int) (h1 : 0 < c) : 0 ≤ litv r n c ∧ litv r n c / 2 < c := by
  have g0 := Int.emod_nonneg r (show c ≠ 0 by omega)
  have g1 := Int.emod_lt_of_pos r h1
  have q0 : (0 : Int) < (if c < 4 then c else 4) := by split <;> omega
  have q1 := Int.emod_nonneg (r % c) (show (if c < 4 then c else 4) ≠ 0 by omega)
  have q2 := Int.emod_lt_of_pos (r % c) q0
  have q3 : (if c < 4 then c else 4) ≤ c := by split <;> omega
  have w0 := Int.emod_nonneg (r / c) (show (2 : Int) ≠ 0 by decide)
  have w1 := Int.emod_lt_of_pos (r / c) (show (0 : Int) < 2 by decide)
  unfold litv
  split <;> omega
def R_law_literal (C_Net C_Circuit : Addr) : FSp := fun as Q => ∃ (r n c : Int), as = [.dat (.int r), .dat (.int n), .dat (.int c)] ∧ 0 ≤ r ∧ 0 < c ∧ c ≤ 1000 ∧ ∀ l : Int, l = litv r n c → 0 ≤ l → l / 2 < c → Q (.int l)
def R_law_ands (C_Net C_Circuit : Addr) : FSp := fun as Q => ∃ (rs : List Int) (a f c : Nat), as = [.dat (.lst (rs.map .int)), .dat (.int a), .dat (.int f), .dat (.int c)] ∧ (∀ r ∈ rs, 0 ≤ r) ∧ a + c ≤ rs.length ∧ 1 ≤ f ∧ f ≤ 100 ∧ c ≤ 100 ∧ ∀ A : List (Int × Int), A.length = c → okA f A → Q (.lst (A.map pr))
def R_law_parts (C_Net C_Circuit : Addr) : FSp := fun as Q => ∃ rs : List Int, as = [.dat (.lst (rs.map .int)), .dat (.int 3), .dat (.int 4), .dat (.int 12)] ∧ (∀ r ∈ rs, 0 ≤ r) ∧ 30 ≤ rs.length ∧ ∀ (g : Nat → Int) (I : Nat) (L : List (Str × Int × Int)) (A : List (Int × Int)) (h : Nat → Int) (n : Nat) (O : List (Str × Int)), (∀ j, j < I → 0 ≤ g j) → (∀ j, j < n → 0 ≤ h j) → I ≤ 3 → L.length ≤ 4 → A.length ≤ 12 → 1 ≤ n → n ≤ 3 → O.map (·.1) = NS h n → CV (NS g I) L A O → Q (.tup [SL (NS g I), .lst (L.map tri), .lst (A.map pr), .lst (O.map po)])
def R_law : FSp := fun as Q => ∃ ns : List Int, as = [.dat (.lst (ns.map .int))] ∧ ns.length ≤ 63 ∧ Q (.bl true)
section
variable {P : Program} {w : World} {K : PySem.W.Frag} {mg : Str → Option Value} {base : Heap} {C_Net : Addr} {C_Circuit : Addr} {C_LineReader : Addr} {D_GREATEST_COUNTS : Addr} {f_input_of : Addr} {f_latch_of : Addr} {f_and_of : Addr} {f_output_of : Addr}
theorem ok_Net_init {f : Addr} {fd : FuncData} (F : Fun K "__init__" "Net.__init__" s_Net_init f fd) (T : Txt K mg C_Net C_Circuit C_LineReader w D_GREATEST_COUNTS f_input_of f_latch_of f_and_of f_output_of)  : FnOk P w K mg base CX0 2 f fd ["self", "input_count", "latches", "ands"] (spInit K C_Net (R_Net_init C_Net C_Circuit)) := by
  refine initok F sc_Net_init (fun as Q ⟨_, _, _, e, _⟩ => by rw [e]; rfl) (by decide) fun cdv A outer s H E hr => ?_
  refine ⟨_, b_cons (s_fld 0 T.cl_Net T.na_Net_input_count (x_v 1)) (b_cons (s_fld 0 T.cl_Net T.na_Net_latches (x_l (l_list T.list (r_v 2)))) (b_one (s_fld 0 T.cl_Net T.na_Net_ands (x_l (l_list T.list (r_v 3)))))), ?_⟩
  rintro p as Q ⟨I, L, A, rfl, hq⟩
  walk_at "go"
  exact hq
theorem ok_Net_first_and {f : Addr} {fd : FuncData} (F : Fun K "first_and" "Net.first_and" s_Net_first_and f fd) (T : Txt K mg C_Net C_Circuit C_LineReader w D_GREATEST_COUNTS f_input_of f_latch_of f_and_of f_output_of)  : FnOk P w K mg base CX0 2 f fd ["self"] (spOf K ((R_Net_first_and C_Net C_Circuit))) := by
  refine fnok F sc_Net_first_and (fun as Q h => ?_) (by decide) fun cdv A outer s H E hr => ?_
  · first | (obtain ⟨e, _⟩ := h; rw [e]; rfl) | (obtain ⟨_, e, _⟩ := h; rw [e]; rfl) | (obtain ⟨_, _, e, _⟩ := h; rw [e]; rfl) | (obtain ⟨_, _, _, e, _⟩ := h; rw [e]; rfl) | (obtain ⟨_, _, _, _, e, _⟩ := h; rw [e]; rfl) | (obtain ⟨_, _, _, _, _, e, _⟩ := h; rw [e]; rfl) | (obtain ⟨_, _, _, _, _, _, e, _⟩ := h; rw [e]; rfl) | (obtain ⟨_, _, _, _, _, _, _, e, _⟩ := h; rw [e]; rfl) | (obtain ⟨_, _, _, _, _, _, _, _, e, _⟩ := h; rw [e]; rfl) | (obtain ⟨_, _, _, _, _, _, _, _, _, e, _⟩ := h; rw [e]; rfl) | (obtain ⟨_, _, _, _, _, _, _, _, _, _, e, _⟩ := h; rw [e]; rfl) | (obtain ⟨_, _, _, _, _, _, _, _, _, _, _, e, _⟩ := h; rw [e]; rfl) | (obtain ⟨_, _, _, _, _, _, _, _, _, _, _, _, e, _⟩ := h; rw [e]; rfl) | (obtain ⟨_, _, _, _, _, _, _, _, _, _, _, _, _, e, _⟩ := h; rw [e]; rfl) | (obtain ⟨e1, e2, e3, _⟩ := h; subst e1 e2 e3; exact ⟨rfl, rfl, DicB.one _⟩) | (obtain ⟨_, e1, e2, e3, _⟩ := h; subst e1 e2 e3; exact ⟨rfl, rfl, DicB.one _⟩) | (obtain ⟨_, _, e1, e2, e3, _⟩ := h; subst e1 e2 e3; exact ⟨rfl, rfl, DicB.one _⟩) | (obtain ⟨_, _, _, e1, e2, e3, _⟩ := h; subst e1 e2 e3; exact ⟨rfl, rfl, DicB.one _⟩) | (obtain ⟨_, _, _, _, e1, e2, e3, _⟩ := h; subst e1 e2 e3; exact ⟨rfl, rfl, DicB.one _⟩) | (obtain ⟨_, _, _, _, _, e1, e2, e3, _⟩ := h; subst e1 e2 e3; exact ⟨rfl, rfl, DicB.one _⟩) | (obtain ⟨_, _, _, _, _, _, e1, e2, e3, _⟩ := h; subst e1 e2 e3; exact ⟨rfl, rfl, DicB.one _⟩) | (obtain ⟨_, _, _, _, _, _, _, e1, e2, e3, _⟩ := h; subst e1 e2 e3; exact ⟨rfl, rfl, DicB.one _⟩) | (obtain ⟨_, _, _, _, _, _, _, _, e1, e2, e3, _⟩ := h; subst e1 e2 e3; exact ⟨rfl, rfl, DicB.one _⟩) | (obtain ⟨_, _, _, _, _, _, _, _, _, e1, e2, e3, _⟩ := h; subst e1 e2 e3; exact ⟨rfl, rfl, DicB.one _⟩) | (obtain ⟨_, _, _, _, _, _, _, _, _, _, e1, e2, e3, _⟩ := h; subst e1 e2 e3; exact ⟨rfl, rfl, DicB.one _⟩) | (obtain ⟨_, _, _, _, _, _, _, _, _, _, _, e1, e2, e3, _⟩ := h; subst e1 e2 e3; exact ⟨rfl, rfl, DicB.one _⟩)
  refine ⟨_, b_one (s_ret (x_add (x_add (x_i) (x_fldN 0 T.cl_Net T.na_Net_input_count)) (x_len T.len (r_e (x_fldN 0 T.cl_Net T.na_Net_latches))))), ?_⟩
  rintro as Q ⟨I, L, A, rfl, hq⟩
  walk_at "go"
  conv => whnf
  rw [List.length_map]
  exact hq
theorem ok_Net_node_count {f : Addr} {fd : FuncData} (F : Fun K "node_count" "Net.node_count" s_Net_node_count f fd) (T : Txt K mg C_Net C_Circuit C_LineReader w D_GREATEST_COUNTS f_input_of f_latch_of f_and_of f_output_of)  : FnOk P w K mg base CX0 2 f fd ["self"] (spOf K ((R_Net_node_count C_Net C_Circuit))) := by
  refine fnok F sc_Net_node_count (fun as Q h => ?_) (by decide) fun cdv A outer s H E hr => ?_
  · first | (obtain ⟨e, _⟩ := h; rw [e]; rfl) | (obtain ⟨_, e, _⟩ := h; rw [e]; rfl) | (obtain ⟨_, _, e, _⟩ := h; rw [e]; rfl) | (obtain ⟨_, _, _, e, _⟩ := h; rw [e]; rfl) | (obtain ⟨_, _, _, _, e, _⟩ := h; rw [e]; rfl) | (obtain ⟨_, _, _, _, _, e, _⟩ := h; rw [e]; rfl) | (obtain ⟨_, _, _, _, _, _, e, _⟩ := h; rw [e]; rfl) | (obtain ⟨_, _, _, _, _, _, _, e, _⟩ := h; rw [e]; rfl) | (obtain ⟨_, _, _, _, _, _, _, _, e, _⟩ := h; rw [e]; rfl) | (obtain ⟨_, _, _, _, _, _, _, _, _, e, _⟩ := h; rw [e]; rfl) | (obtain ⟨_, _, _, _, _, _, _, _, _, _, e, _⟩ := h; rw [e]; rfl) | (obtain ⟨_, _, _, _, _, _, _, _, _, _, _, e, _⟩ := h; rw [e]; rfl) | (obtain ⟨_, _, _, _, _, _, _, _, _, _, _, _, e, _⟩ := h; rw [e]; rfl) | (obtain ⟨_, _, _, _, _, _, _, _, _, _, _, _, _, e, _⟩ := h; rw [e]; rfl) | (obtain ⟨e1, e2, e3, _⟩ := h; subst e1 e2 e3; exact ⟨rfl, rfl, DicB.one _⟩) | (obtain ⟨_, e1, e2, e3, _⟩ := h; subst e1 e2 e3; exact ⟨rfl, rfl, DicB.one _⟩) | (obtain ⟨_, _, e1, e2, e3, _⟩ := h; subst e1 e2 e3; exact ⟨rfl, rfl, DicB.one _⟩) | (obtain ⟨_, _, _, e1, e2, e3, _⟩ := h; subst e1 e2 e3; exact ⟨rfl, rfl, DicB.one _⟩) | (obtain ⟨_, _, _, _, e1, e2, e3, _⟩ := h; subst e1 e2 e3; exact ⟨rfl, rfl, DicB.one _⟩) | (obtain ⟨_, _, _, _, _, e1, e2, e3, _⟩ := h; subst e1 e2 e3; exact ⟨rfl, rfl, DicB.one _⟩) | (obtain ⟨_, _, _, _, _, _, e1, e2, e3, _⟩ := h; subst e1 e2 e3; exact ⟨rfl, rfl, DicB.one _⟩) | (obtain ⟨_, _, _, _, _, _, _, e1, e2, e3, _⟩ := h; subst e1 e2 e3; exact ⟨rfl, rfl, DicB.one _⟩) | (obtain ⟨_, _, _, _, _, _, _, _, e1, e2, e3, _⟩ := h; subst e1 e2 e3; exact ⟨rfl, rfl, DicB.one _⟩) | (obtain ⟨_, _, _, _, _, _, _, _, _, e1, e2, e3, _⟩ := h; subst e1 e2 e3; exact ⟨rfl, rfl, DicB.one _⟩) | (obtain ⟨_, _, _, _, _, _, _, _, _, _, e1, e2, e3, _⟩ := h; subst e1 e2 e3; exact ⟨rfl, rfl, DicB.one _⟩) | (obtain ⟨_, _, _, _, _, _, _, _, _, _, _, e1, e2, e3, _⟩ := h; subst e1 e2 e3; exact ⟨rfl, rfl, DicB.one _⟩)
  refine ⟨_, b_one (s_ret (x_add (x_add (x_add (x_i) (x_fldN 0 T.cl_Net T.na_Net_input_count)) (x_len T.len (r_e (x_fldN 0 T.cl_Net T.na_Net_latches)))) (x_len T.len (r_e (x_fldN 0 T.cl_Net T.na_Net_ands))))), ?_⟩
  rintro as Q ⟨I, L, A, rfl, hq⟩
  walk_at "go"
  conv => whnf
  rw [List.length_map, List.length_map]
  exact hq
theorem ok_is_name {f : Addr} {fd : FuncData} (F : Fun K "is_name" "is_name" s_is_name f fd) (T : Txt K mg C_Net C_Circuit C_LineReader w D_GREATEST_COUNTS f_input_of f_latch_of f_and_of f_output_of)  : FnOk P w K mg base CX0 2 f fd ["text"] (spOf K ((R_is_name C_Net C_Circuit))) := by
  refine fnok F sc_is_name (fun as Q h => ?_) (by decide) fun cdv A outer s H E hr => ?_
  · first | (obtain ⟨e, _⟩ := h; rw [e]; rfl) | (obtain ⟨_, e, _⟩ := h; rw [e]; rfl) | (obtain ⟨_, _, e, _⟩ := h; rw [e]; rfl) | (obtain ⟨_, _, _, e, _⟩ := h; rw [e]; rfl) | (obtain ⟨_, _, _, _, e, _⟩ := h; rw [e]; rfl) | (obtain ⟨_, _, _, _, _, e, _⟩ := h; rw [e]; rfl) | (obtain ⟨_, _, _, _, _, _, e, _⟩ := h; rw [e]; rfl) | (obtain ⟨_, _, _, _, _, _, _, e, _⟩ := h; rw [e]; rfl) | (obtain ⟨_, _, _, _, _, _, _, _, e, _⟩ := h; rw [e]; rfl) | (obtain ⟨_, _, _, _, _, _, _, _, _, e, _⟩ := h; rw [e]; rfl) | (obtain ⟨_, _, _, _, _, _, _, _, _, _, e, _⟩ := h; rw [e]; rfl) | (obtain ⟨_, _, _, _, _, _, _, _, _, _, _, e, _⟩ := h; rw [e]; rfl) | (obtain ⟨_, _, _, _, _, _, _, _, _, _, _, _, e, _⟩ := h; rw [e]; rfl) | (obtain ⟨_, _, _, _, _, _, _, _, _, _, _, _, _, e, _⟩ := h; rw [e]; rfl) | (obtain ⟨e1, e2, e3, _⟩ := h; subst e1 e2 e3; exact ⟨rfl, rfl, DicB.one _⟩) | (obtain ⟨_, e1, e2, e3, _⟩ := h; subst e1 e2 e3; exact ⟨rfl, rfl, DicB.one _⟩) | (obtain ⟨_, _, e1, e2, e3, _⟩ := h; subst e1 e2 e3; exact ⟨rfl, rfl, DicB.one _⟩) | (obtain ⟨_, _, _, e1, e2, e3, _⟩ := h; subst e1 e2 e3; exact ⟨rfl, rfl, DicB.one _⟩) | (obtain ⟨_, _, _, _, e1, e2, e3, _⟩ := h; subst e1 e2 e3; exact ⟨rfl, rfl, DicB.one _⟩) | (obtain ⟨_, _, _, _, _, e1, e2, e3, _⟩ := h; subst e1 e2 e3; exact ⟨rfl, rfl, DicB.one _⟩) | (obtain ⟨_, _, _, _, _, _, e1, e2, e3, _⟩ := h; subst e1 e2 e3; exact ⟨rfl, rfl, DicB.one _⟩) | (obtain ⟨_, _, _, _, _, _, _, e1, e2, e3, _⟩ := h; subst e1 e2 e3; exact ⟨rfl, rfl, DicB.one _⟩) | (obtain ⟨_, _, _, _, _, _, _, _, e1, e2, e3, _⟩ := h; subst e1 e2 e3; exact ⟨rfl, rfl, DicB.one _⟩) | (obtain ⟨_, _, _, _, _, _, _, _, _, e1, e2, e3, _⟩ := h; subst e1 e2 e3; exact ⟨rfl, rfl, DicB.one _⟩) | (obtain ⟨_, _, _, _, _, _, _, _, _, _, e1, e2, e3, _⟩ := h; subst e1 e2 e3; exact ⟨rfl, rfl, DicB.one _⟩) | (obtain ⟨_, _, _, _, _, _, _, _, _, _, _, e1, e2, e3, _⟩ := h; subst e1 e2 e3; exact ⟨rfl, rfl, DicB.one _⟩)
  refine ⟨_, b_cons (s_if (t_pw (t_or (t_cmp h_lt (x_lenS T.len (x_v 0)) (x_i)) (t_or (t_cmp h_gt (x_lenS T.len (x_v 0)) (x_gI T.g_LONGEST_NAME)) (t_or1 (t_cmp h_notInS (x_ix (x_v 0) (x_i)) (x_gS T.g_LETTERS) (by rfl)))))) (b_one (s_ret (x_b))) (b_nil)) (b_one (s_ret (x_all rfl T.all (r_e (x_l (l_comp0 (own := [("character", 1)]) rfl sc_is_name.nd (blkOk_by (own := [("character", 1)]) (N := ["text", "character"]) (sc := defScope s_is_name) (by decide +kernel)) (i_s (x_v 0)) (by intro _ _ _ _ _; exact g_n 1 sc_is_name.nd) (by intro _ _ _ _ _; exact x_cmp h_inS (x_v 1) (x_gS T.g_NAME_CHARACTERS) (by rfl)) (fun _ => rfl))))))), ?_⟩
  rintro as Q ⟨s, rfl, hz, hq⟩
  have hs : s.length ≤ sizeLine := small hz
  conv => whnf
  refine ⟨hs, ?_⟩
  conv => whnf
  refine ⟨fun h => ?_, fun h => ?_⟩
  · rw [nm_no1 (by have := of_decide_eq_true h; omega)] at hq
    walk_at "go"
    exact hq
  have h1 : ¬ s.length < 1 := by have := of_decide_eq_false h; omega
  conv => whnf
  refine ⟨hs, ?_⟩
  conv => whnf
  refine ⟨fun h => ?_, fun h => ?_⟩
  · rw [nm_no2 (by have := of_decide_eq_true h; omega)] at hq
    walk_at "go"
    exact hq
  have h2 : ¬ 12 < s.length := by have := of_decide_eq_false h; omega
  conv => whnf
  refine ⟨hs, _, at0 h1, ?_⟩
  conv => whnf
  refine ⟨_, _, rfl, rfl, ?_⟩
  conv => whnf
  refine ⟨fun h => ?_, fun h => ?_⟩
  · rw [nm_no3 (of_nt h)] at hq
    exact hq
  have h3 : s.cps.toList.getD 0 0 ∈ LT := of_nf h
  rw [nm_yes h1 h2 h3] at hq
  conv => whnf
  refine ⟨rfl, ?_⟩
  conv => whnf
  refine ⟨by have := hz; simp only [Str.length] at this; omega, fun i => .bl (decide (s.cps.toList.getD i 0 ∈ NC)), ?_, ?_⟩
  · rintro i d hi ⟨c, hc, rfl⟩
    conv => whnf
    refine ⟨c, _, rfl, rfl, ?_⟩
    show D.bl _ = D.bl _
    rw [at_get hc]
    rfl
  refine ⟨(List.range s.cps.size).map fun i => decide (s.cps.toList.getD i 0 ∈ NC), by rw [List.map_map]; rfl, ?_⟩
  show Q (.bl (List.all _ _))
  rw [List.all_map]
  have e := all_get s.cps.toList fun c => decide (c ∈ NC)
  rw [Array.length_toList] at e
  rw [← e] at hq
  exact hq
theorem ok_Circuit_init {f : Addr} {fd : FuncData} (F : Fun K "__init__" "Circuit.__init__" s_Circuit_init f fd) (T : Txt K mg C_Net C_Circuit C_LineReader w D_GREATEST_COUNTS f_input_of f_latch_of f_and_of f_output_of) (c_check_circuit : Cal P w K mg base "_check_circuit" 5 ["circuit"] (R_check_circuit C_Net C_Circuit)) : FnOk P w K mg base CX0 6 f fd ["self", "inputs", "latches", "ands", "outputs"] (spInit K C_Circuit (R_Circuit_init C_Net C_Circuit)) := by
  refine initok F sc_Circuit_init (fun as Q ⟨_, _, _, _, e, _⟩ => by rw [e]; rfl) (by decide) fun cdv A outer s H E hr => ?_
  refine ⟨_, b_cons (s_fld 0 T.cl_Circuit T.na_Circuit_inputs (x_l (l_list T.list (r_v 1)))) (b_cons (s_fld 0 T.cl_Circuit T.na_Circuit_latches (x_l (l_list T.list (r_v 2)))) (b_cons (s_fld 0 T.cl_Circuit T.na_Circuit_ands (x_l (l_list T.list (r_v 3)))) (b_cons (s_fld 0 T.cl_Circuit T.na_Circuit_outputs (x_l (l_list T.list (r_v 4)))) (b_one (s_lend (C := C_Circuit) 0 c_check_circuit hr))))), ?_⟩
  rintro p as Q ⟨I, L, A, O, rfl, cv, hq⟩
  walk_at "go"
  conv => whnf
  exact ⟨I, L, A, O, rfl, cv, ⟨rfl, rfl, hq⟩⟩
theorem ok_Circuit_as_net {f : Addr} {fd : FuncData} (F : Fun K "as_net" "Circuit.as_net" s_Circuit_as_net f fd) (T : Txt K mg C_Net C_Circuit C_LineReader w D_GREATEST_COUNTS f_input_of f_latch_of f_and_of f_output_of) (m_Net : Mak P w K mg base "Net" C_Net 2 ["self", "input_count", "latches", "ands"] (R_Net_init C_Net C_Circuit)) : FnOk P w K mg base CX0 4 f fd ["self"] (spOf K ((R_Circuit_as_net C_Net C_Circuit))) := by
  refine fnok F sc_Circuit_as_net (fun as Q h => ?_) (by decide) fun cdv A outer s H E hr => ?_
  · first | (obtain ⟨e, _⟩ := h; rw [e]; rfl) | (obtain ⟨_, e, _⟩ := h; rw [e]; rfl) | (obtain ⟨_, _, e, _⟩ := h; rw [e]; rfl) | (obtain ⟨_, _, _, e, _⟩ := h; rw [e]; rfl) | (obtain ⟨_, _, _, _, e, _⟩ := h; rw [e]; rfl) | (obtain ⟨_, _, _, _, _, e, _⟩ := h; rw [e]; rfl) | (obtain ⟨_, _, _, _, _, _, e, _⟩ := h; rw [e]; rfl) | (obtain ⟨_, _, _, _, _, _, _, e, _⟩ := h; rw [e]; rfl) | (obtain ⟨_, _, _, _, _, _, _, _, e, _⟩ := h; rw [e]; rfl) | (obtain ⟨_, _, _, _, _, _, _, _, _, e, _⟩ := h; rw [e]; rfl) | (obtain ⟨_, _, _, _, _, _, _, _, _, _, e, _⟩ := h; rw [e]; rfl) | (obtain ⟨_, _, _, _, _, _, _, _, _, _, _, e, _⟩ := h; rw [e]; rfl) | (obtain ⟨_, _, _, _, _, _, _, _, _, _, _, _, e, _⟩ := h; rw [e]; rfl) | (obtain ⟨_, _, _, _, _, _, _, _, _, _, _, _, _, e, _⟩ := h; rw [e]; rfl) | (obtain ⟨e1, e2, e3, _⟩ := h; subst e1 e2 e3; exact ⟨rfl, rfl, DicB.one _⟩) | (obtain ⟨_, e1, e2, e3, _⟩ := h; subst e1 e2 e3; exact ⟨rfl, rfl, DicB.one _⟩) | (obtain ⟨_, _, e1, e2, e3, _⟩ := h; subst e1 e2 e3; exact ⟨rfl, rfl, DicB.one _⟩) | (obtain ⟨_, _, _, e1, e2, e3, _⟩ := h; subst e1 e2 e3; exact ⟨rfl, rfl, DicB.one _⟩) | (obtain ⟨_, _, _, _, e1, e2, e3, _⟩ := h; subst e1 e2 e3; exact ⟨rfl, rfl, DicB.one _⟩) | (obtain ⟨_, _, _, _, _, e1, e2, e3, _⟩ := h; subst e1 e2 e3; exact ⟨rfl, rfl, DicB.one _⟩) | (obtain ⟨_, _, _, _, _, _, e1, e2, e3, _⟩ := h; subst e1 e2 e3; exact ⟨rfl, rfl, DicB.one _⟩) | (obtain ⟨_, _, _, _, _, _, _, e1, e2, e3, _⟩ := h; subst e1 e2 e3; exact ⟨rfl, rfl, DicB.one _⟩) | (obtain ⟨_, _, _, _, _, _, _, _, e1, e2, e3, _⟩ := h; subst e1 e2 e3; exact ⟨rfl, rfl, DicB.one _⟩) | (obtain ⟨_, _, _, _, _, _, _, _, _, e1, e2, e3, _⟩ := h; subst e1 e2 e3; exact ⟨rfl, rfl, DicB.one _⟩) | (obtain ⟨_, _, _, _, _, _, _, _, _, _, e1, e2, e3, _⟩ := h; subst e1 e2 e3; exact ⟨rfl, rfl, DicB.one _⟩) | (obtain ⟨_, _, _, _, _, _, _, _, _, _, _, e1, e2, e3, _⟩ := h; subst e1 e2 e3; exact ⟨rfl, rfl, DicB.one _⟩)
  refine ⟨_, b_cons (s_comp0 1 (own := [("_", 2), ("start", 3), ("literal", 4)]) rfl sc_Circuit_as_net.nd (sw_true rfl rfl rfl (by decide +kernel)) (blkOk_by (own := [("_", 2), ("start", 3), ("literal", 4)]) (N := ["self", "latches", "_", "start", "literal"]) (sc := defScope s_Circuit_as_net) (by decide +kernel)) (i_e (x_fldN 0 T.cl_Circuit T.na_Circuit_latches)) (by intro _ _ _ _ _; exact g_tup (n := 3) rfl (g_cons (g_n 2 sc_Circuit_as_net.nd) (g_cons (g_n 3 sc_Circuit_as_net.nd) (g_cons (g_n 4 sc_Circuit_as_net.nd) (g_nil))))) (by intro _ _ _ _ _; exact x_tup (a_d (x_v 3) (a_d (x_v 4) (a_nil)))) rfl rfl (fun _ => rfl)) (b_frz 1 (b_one (s_ret (x_mak m_Net hr (a_d (x_len T.len (r_e (x_fldN 0 T.cl_Circuit T.na_Circuit_inputs))) (a_d (x_v 1) (a_d (x_fldN 0 T.cl_Circuit T.na_Circuit_ands) (a_nil)))))))), ?_⟩
  rintro as Q ⟨I, L, A, O, rfl, hl, hq⟩
  conv => whnf
  refine ⟨rfl, ?_⟩
  conv => whnf
  refine ⟨rfl, _, rfl, ?_⟩
  conv => whnf
  refine ⟨by rw [List.length_map]; omega, fun j => pr (L.getD j ("", 0, 0)).2, ?_, ?_⟩
  · rintro i d hi hd
    obtain ⟨p, e, rfl⟩ := get_tri hd
    walk_at "go"
    show pr (L.getD i ("", 0, 0)).2 = _
    rw [List.getD_eq_getElem?_getD, e]
    rfl
  dsimp only
  rw [by_items tri (fun p => pr p.2) L ("", 0, 0)]
  walk_at "go"
  conv => whnf
  refine ⟨(I.length : Int), L.map (·.2), A, ?_, hq⟩
  rw [List.length_map, List.map_map]
  rfl
theorem ok_Circuit_eq {f : Addr} {fd : FuncData} (F : Fun K "__eq__" "Circuit.__eq__" s_Circuit_eq f fd) (T : Txt K mg C_Net C_Circuit C_LineReader w D_GREATEST_COUNTS f_input_of f_latch_of f_and_of f_output_of)  : FnOk P w K mg base CX0 2 f fd ["self", "other"] (spOf K ((R_Circuit_eq C_Net C_Circuit))) := by
  refine fnok F sc_Circuit_eq (fun as Q h => ?_) (by decide) fun cdv A outer s H E hr => ?_
  · first | (obtain ⟨e, _⟩ := h; rw [e]; rfl) | (obtain ⟨_, e, _⟩ := h; rw [e]; rfl) | (obtain ⟨_, _, e, _⟩ := h; rw [e]; rfl) | (obtain ⟨_, _, _, e, _⟩ := h; rw [e]; rfl) | (obtain ⟨_, _, _, _, e, _⟩ := h; rw [e]; rfl) | (obtain ⟨_, _, _, _, _, e, _⟩ := h; rw [e]; rfl) | (obtain ⟨_, _, _, _, _, _, e, _⟩ := h; rw [e]; rfl) | (obtain ⟨_, _, _, _, _, _, _, e, _⟩ := h; rw [e]; rfl) | (obtain ⟨_, _, _, _, _, _, _, _, e, _⟩ := h; rw [e]; rfl) | (obtain ⟨_, _, _, _, _, _, _, _, _, e, _⟩ := h; rw [e]; rfl) | (obtain ⟨_, _, _, _, _, _, _, _, _, _, e, _⟩ := h; rw [e]; rfl) | (obtain ⟨_, _, _, _, _, _, _, _, _, _, _, e, _⟩ := h; rw [e]; rfl) | (obtain ⟨_, _, _, _, _, _, _, _, _, _, _, _, e, _⟩ := h; rw [e]; rfl) | (obtain ⟨_, _, _, _, _, _, _, _, _, _, _, _, _, e, _⟩ := h; rw [e]; rfl) | (obtain ⟨e1, e2, e3, _⟩ := h; subst e1 e2 e3; exact ⟨rfl, rfl, DicB.one _⟩) | (obtain ⟨_, e1, e2, e3, _⟩ := h; subst e1 e2 e3; exact ⟨rfl, rfl, DicB.one _⟩) | (obtain ⟨_, _, e1, e2, e3, _⟩ := h; subst e1 e2 e3; exact ⟨rfl, rfl, DicB.one _⟩) | (obtain ⟨_, _, _, e1, e2, e3, _⟩ := h; subst e1 e2 e3; exact ⟨rfl, rfl, DicB.one _⟩) | (obtain ⟨_, _, _, _, e1, e2, e3, _⟩ := h; subst e1 e2 e3; exact ⟨rfl, rfl, DicB.one _⟩) | (obtain ⟨_, _, _, _, _, e1, e2, e3, _⟩ := h; subst e1 e2 e3; exact ⟨rfl, rfl, DicB.one _⟩) | (obtain ⟨_, _, _, _, _, _, e1, e2, e3, _⟩ := h; subst e1 e2 e3; exact ⟨rfl, rfl, DicB.one _⟩) | (obtain ⟨_, _, _, _, _, _, _, e1, e2, e3, _⟩ := h; subst e1 e2 e3; exact ⟨rfl, rfl, DicB.one _⟩) | (obtain ⟨_, _, _, _, _, _, _, _, e1, e2, e3, _⟩ := h; subst e1 e2 e3; exact ⟨rfl, rfl, DicB.one _⟩) | (obtain ⟨_, _, _, _, _, _, _, _, _, e1, e2, e3, _⟩ := h; subst e1 e2 e3; exact ⟨rfl, rfl, DicB.one _⟩) | (obtain ⟨_, _, _, _, _, _, _, _, _, _, e1, e2, e3, _⟩ := h; subst e1 e2 e3; exact ⟨rfl, rfl, DicB.one _⟩) | (obtain ⟨_, _, _, _, _, _, _, _, _, _, _, e1, e2, e3, _⟩ := h; subst e1 e2 e3; exact ⟨rfl, rfl, DicB.one _⟩)
  refine ⟨_, b_one (s_ret (x_and (x_isO T.ic_Circuit T.isinstance T.gK_Circuit (x_v 1)) (x_and (x_cmp (h_eq hr) (x_fldN 0 T.cl_Circuit T.na_Circuit_inputs) (x_fldN 1 T.cl_Circuit T.na_Circuit_inputs)) (x_and (x_cmp (h_eq hr) (x_fldN 0 T.cl_Circuit T.na_Circuit_latches) (x_fldN 1 T.cl_Circuit T.na_Circuit_latches)) (x_and (x_cmp (h_eq hr) (x_fldN 0 T.cl_Circuit T.na_Circuit_ands) (x_fldN 1 T.cl_Circuit T.na_Circuit_ands)) (x_one (x_cmp (h_eq hr) (x_fldN 0 T.cl_Circuit T.na_Circuit_outputs) (x_fldN 1 T.cl_Circuit T.na_Circuit_outputs)))))))), ?_⟩
  rintro as Q ⟨I, L, A, O, rfl, cv, hq⟩
  conv => whnf
  refine ⟨⟨_, rfl⟩, fun _ => ?_, fun h => (by cases h)⟩
  conv => whnf
  refine ⟨rfl, _, rfl, ?_⟩
  conv => whnf
  refine ⟨rfl, _, rfl, ?_⟩
  conv => whnf
  refine gEq_same (pl_SL fun s hs => cv.nm s (List.mem_append_left _ hs)) ?_
  refine ⟨fun _ => ?_, fun h => (by cases h)⟩
  conv => whnf
  refine ⟨rfl, _, rfl, ?_⟩
  conv => whnf
  refine ⟨rfl, _, rfl, ?_⟩
  conv => whnf
  refine gEq_same (pl_tri fun s hs => cv.nm s (List.mem_append_right _ hs)) ?_
  refine ⟨fun _ => ?_, fun h => (by cases h)⟩
  conv => whnf
  refine ⟨rfl, _, rfl, ?_⟩
  conv => whnf
  refine ⟨rfl, _, rfl, ?_⟩
  conv => whnf
  refine gEq_same (pl_pr A) ?_
  refine ⟨fun _ => ?_, fun h => (by cases h)⟩
  conv => whnf
  refine ⟨rfl, _, rfl, ?_⟩
  conv => whnf
  refine ⟨rfl, _, rfl, ?_⟩
  conv => whnf
  refine gEq_same (pl_po cv.on) ?_
  exact hq
theorem ok_check_circuit {f : Addr} {fd : FuncData} (F : Fun K "_check_circuit" "_check_circuit" s_check_circuit f fd) (T : Txt K mg C_Net C_Circuit C_LineReader w D_GREATEST_COUNTS f_input_of f_latch_of f_and_of f_output_of) (c_Circuit_as_net : Met P w K mg base C_Circuit "as_net" 4 ["self"] (R_Circuit_as_net C_Net C_Circuit)) (c_Net_first_and : Prp P w K mg base C_Net "first_and" 2 (R_Net_first_and C_Net C_Circuit)) (c_Net_node_count : Prp P w K mg base C_Net "node_count" 2 (R_Net_node_count C_Net C_Circuit)) (c_check_part : Cal P w K mg base "_check_part" 2 ["part", "valid"] (R_check_part C_Net C_Circuit)) (c_tell_new_names : Cal P w K mg base "tell_new_names" 3 ["texts"] (R_tell_new_names C_Net C_Circuit)) : FnOk P w K mg base CX0 5 f fd ["circuit"] (spOf K ((R_check_circuit C_Net C_Circuit))) := by
  refine fnok F sc_check_circuit (fun as Q h => ?_) (by decide) fun cdv A outer s H E hr => ?_
  · first | (obtain ⟨e, _⟩ := h; rw [e]; rfl) | (obtain ⟨_, e, _⟩ := h; rw [e]; rfl) | (obtain ⟨_, _, e, _⟩ := h; rw [e]; rfl) | (obtain ⟨_, _, _, e, _⟩ := h; rw [e]; rfl) | (obtain ⟨_, _, _, _, e, _⟩ := h; rw [e]; rfl) | (obtain ⟨_, _, _, _, _, e, _⟩ := h; rw [e]; rfl) | (obtain ⟨_, _, _, _, _, _, e, _⟩ := h; rw [e]; rfl) | (obtain ⟨_, _, _, _, _, _, _, e, _⟩ := h; rw [e]; rfl) | (obtain ⟨_, _, _, _, _, _, _, _, e, _⟩ := h; rw [e]; rfl) | (obtain ⟨_, _, _, _, _, _, _, _, _, e, _⟩ := h; rw [e]; rfl) | (obtain ⟨_, _, _, _, _, _, _, _, _, _, e, _⟩ := h; rw [e]; rfl) | (obtain ⟨_, _, _, _, _, _, _, _, _, _, _, e, _⟩ := h; rw [e]; rfl) | (obtain ⟨_, _, _, _, _, _, _, _, _, _, _, _, e, _⟩ := h; rw [e]; rfl) | (obtain ⟨_, _, _, _, _, _, _, _, _, _, _, _, _, e, _⟩ := h; rw [e]; rfl) | (obtain ⟨e1, e2, e3, _⟩ := h; subst e1 e2 e3; exact ⟨rfl, rfl, DicB.one _⟩) | (obtain ⟨_, e1, e2, e3, _⟩ := h; subst e1 e2 e3; exact ⟨rfl, rfl, DicB.one _⟩) | (obtain ⟨_, _, e1, e2, e3, _⟩ := h; subst e1 e2 e3; exact ⟨rfl, rfl, DicB.one _⟩) | (obtain ⟨_, _, _, e1, e2, e3, _⟩ := h; subst e1 e2 e3; exact ⟨rfl, rfl, DicB.one _⟩) | (obtain ⟨_, _, _, _, e1, e2, e3, _⟩ := h; subst e1 e2 e3; exact ⟨rfl, rfl, DicB.one _⟩) | (obtain ⟨_, _, _, _, _, e1, e2, e3, _⟩ := h; subst e1 e2 e3; exact ⟨rfl, rfl, DicB.one _⟩) | (obtain ⟨_, _, _, _, _, _, e1, e2, e3, _⟩ := h; subst e1 e2 e3; exact ⟨rfl, rfl, DicB.one _⟩) | (obtain ⟨_, _, _, _, _, _, _, e1, e2, e3, _⟩ := h; subst e1 e2 e3; exact ⟨rfl, rfl, DicB.one _⟩) | (obtain ⟨_, _, _, _, _, _, _, _, e1, e2, e3, _⟩ := h; subst e1 e2 e3; exact ⟨rfl, rfl, DicB.one _⟩) | (obtain ⟨_, _, _, _, _, _, _, _, _, e1, e2, e3, _⟩ := h; subst e1 e2 e3; exact ⟨rfl, rfl, DicB.one _⟩) | (obtain ⟨_, _, _, _, _, _, _, _, _, _, e1, e2, e3, _⟩ := h; subst e1 e2 e3; exact ⟨rfl, rfl, DicB.one _⟩) | (obtain ⟨_, _, _, _, _, _, _, _, _, _, _, e1, e2, e3, _⟩ := h; subst e1 e2 e3; exact ⟨rfl, rfl, DicB.one _⟩)
  refine ⟨_, b_cons (s_set 1 sc_check_circuit.nd (x_met0 c_Circuit_as_net T.cl_Circuit hr (x_v 0))) (b_cons (s_set 2 sc_check_circuit.nd (x_mul (x_i) (x_prp c_Net_node_count T.cl_Net hr (x_v 1)))) (b_cons (s_set 3 sc_check_circuit.nd (x_len T.len (r_e (x_fldN 0 T.cl_Circuit T.na_Circuit_inputs)))) (b_cons (s_set 4 sc_check_circuit.nd (x_cal c_tell_new_names hr (a_d (x_l (l_cat (r_e (x_fldN 0 T.cl_Circuit T.na_Circuit_inputs)) (r_e (x_l (l_comp0 (own := [("name", 5), ("_", 6)]) rfl sc_check_circuit.nd (blkOk_by (own := [("name", 5), ("_", 6)]) (N := ["circuit", "net", "end", "input_count", "new_names", "name", "_", "new_outputs", "new", "start", "literal", "node", "left", "right"]) (sc := defScope s_check_circuit) (by decide +kernel)) (i_e (x_fldN 0 T.cl_Circuit T.na_Circuit_latches)) (by intro _ _ _ _ _; exact g_tup (n := 3) rfl (g_cons (g_n 5 sc_check_circuit.nd) (g_cons (g_n 6 sc_check_circuit.nd) (g_cons (g_n 6 sc_check_circuit.nd) (g_nil))))) (by intro _ _ _ _ _; exact x_v 5) (fun _ => rfl)))))) (a_nil)))) (b_cons (s_set 7 sc_check_circuit.nd (x_cal c_tell_new_names hr (a_d (x_l (l_comp0 (own := [("name", 5), ("_", 6)]) rfl sc_check_circuit.nd (blkOk_by (own := [("name", 5), ("_", 6)]) (N := ["circuit", "net", "end", "input_count", "new_names", "name", "_", "new_outputs", "new", "start", "literal", "node", "left", "right"]) (sc := defScope s_check_circuit) (by decide +kernel)) (i_e (x_fldN 0 T.cl_Circuit T.na_Circuit_outputs)) (by intro _ _ _ _ _; exact g_tup (n := 2) rfl (g_cons (g_n 5 sc_check_circuit.nd) (g_cons (g_n 6 sc_check_circuit.nd) (g_nil)))) (by intro _ _ _ _ _; exact x_v 5) (fun _ => rfl))) (a_nil)))) (b_cons (s_drop (x_cal c_check_part hr (a_d (x_s) (a_d (x_l (l_sl (r_v 4) (o_no) (o_some (x_v 3)))) (a_nil))))) (b_cons (s_drop (x_cal c_check_part hr (a_d (x_s) (a_d (x_l (l_comp0 (own := [("new", 8), ("_", 6), ("start", 9), ("literal", 10)]) rfl sc_check_circuit.nd (blkOk_by (own := [("new", 8), ("_", 6), ("start", 9), ("literal", 10)]) (N := ["circuit", "net", "end", "input_count", "new_names", "name", "_", "new_outputs", "new", "start", "literal", "node", "left", "right"]) (sc := defScope s_check_circuit) (by decide +kernel)) (i_zp T.zip (x_l (l_sl (r_v 4) (o_some (x_v 3)) (o_no))) (x_fldN 0 T.cl_Circuit T.na_Circuit_latches)) (by intro _ _ _ _ _; exact g_tup (n := 2) rfl (g_cons (g_n 8 sc_check_circuit.nd) (g_cons (g_tup (n := 3) rfl (g_cons (g_n 6 sc_check_circuit.nd) (g_cons (g_n 9 sc_check_circuit.nd) (g_cons (g_n 10 sc_check_circuit.nd) (g_nil))))) (g_nil)))) (by intro _ _ _ _ _; exact x_and (x_v 8) (x_and (x_cmp h_inT (x_v 9) (x_tup (a_d (x_i) (a_d (x_i) (a_nil)))) (by rfl)) (x_one (x_chain op_le op_lt (x_i) (x_v 10) (x_v 2))))) (fun _ => rfl))) (a_nil))))) (b_cons (s_drop (x_cal c_check_part hr (a_d (x_s) (a_d (x_l (l_comp0 (own := [("node", 11), ("left", 12), ("right", 13)]) rfl sc_check_circuit.nd (blkOk_by (own := [("node", 11), ("left", 12), ("right", 13)]) (N := ["circuit", "net", "end", "input_count", "new_names", "name", "_", "new_outputs", "new", "start", "literal", "node", "left", "right"]) (sc := defScope s_check_circuit) (by decide +kernel)) (i_enC T.enumerate (x_fldN 0 T.cl_Circuit T.na_Circuit_ands) (x_prp c_Net_first_and T.cl_Net hr (x_v 1))) (by intro _ _ _ _ _; exact g_tup (n := 2) rfl (g_cons (g_n 11 sc_check_circuit.nd) (g_cons (g_tup (n := 2) rfl (g_cons (g_n 12 sc_check_circuit.nd) (g_cons (g_n 13 sc_check_circuit.nd) (g_nil)))) (g_nil)))) (by intro _ _ _ _ _; exact x_and (x_chain op_le op_lt (x_i) (x_v 12) (x_mul (x_i) (x_v 11))) (x_one (x_chain op_le op_lt (x_i) (x_v 13) (x_mul (x_i) (x_v 11))))) (fun _ => rfl))) (a_nil))))) (b_one (s_drop (x_cal c_check_part hr (a_d (x_s) (a_d (x_l (l_comp0 (own := [("new", 8), ("_", 6), ("literal", 10)]) rfl sc_check_circuit.nd (blkOk_by (own := [("new", 8), ("_", 6), ("literal", 10)]) (N := ["circuit", "net", "end", "input_count", "new_names", "name", "_", "new_outputs", "new", "start", "literal", "node", "left", "right"]) (sc := defScope s_check_circuit) (by decide +kernel)) (i_zp T.zip (x_v 7) (x_fldN 0 T.cl_Circuit T.na_Circuit_outputs)) (by intro _ _ _ _ _; exact g_tup (n := 2) rfl (g_cons (g_n 8 sc_check_circuit.nd) (g_cons (g_tup (n := 2) rfl (g_cons (g_n 6 sc_check_circuit.nd) (g_cons (g_n 10 sc_check_circuit.nd) (g_nil)))) (g_nil)))) (by intro _ _ _ _ _; exact x_and (x_v 8) (x_one (x_chain op_le op_lt (x_i) (x_v 10) (x_v 2)))) (fun _ => rfl))) (a_nil))))))))))))), ?_⟩
  rintro as Q ⟨I, L, A, O, rfl, cv, hq⟩
  have c1 := cv.i
  have c2 := cv.l
  have c3 := cv.a
  have c4 := cv.o
  conv => whnf
  refine ⟨⟨_, rfl, rfl⟩, I, L, A, O, rfl, by omega, ?_⟩
  conv => whnf
  refine ⟨⟨_, rfl⟩, I.length, L.map (·.2), A, rfl, ?_⟩
  have e0 : (1 + (I.length : Int) + ((L.map (·.2)).length : Nat) + A.length) = ((1 + I.length + L.length + A.length : Nat) : Int) := by rw [List.length_map]; omega
  rw [e0]
  have hN : 1 + I.length + L.length + A.length ≤ 3000 := by omega
  have ho := cv.ou
  have hst := cv.st
  generalize hN0 : 1 + I.length + L.length + A.length = N at hN ho hst
  walk_at "go"
  conv => whnf
  refine ⟨by rw [List.length_map]; omega, fun j => .str (L.getD j ("", 0, 0)).1, ?_, ?_⟩
  · rintro i d hi hd
    obtain ⟨p, e, rfl⟩ := get_tri hd
    walk_at "go"
    show D.str (L.getD i ("", 0, 0)).1 = _
    rw [List.getD_eq_getElem?_getD, e]
    rfl
  dsimp only
  rw [by_items tri (fun p => .str p.1) L ("", 0, 0)]
  walk_at "go"
  conv => whnf
  refine ⟨by rw [List.length_map, List.length_map]; omega, ?_⟩
  conv => whnf
  refine ⟨I ++ L.map (·.1), by rw [SL, List.map_append, List.map_map]; rfl, by rw [List.length_append, List.length_map]; omega, cv.nm, cv.nd, ?_⟩
  have e1 : (I ++ L.map (·.1)).length = I.length + L.length := by rw [List.length_append, List.length_map]
  rw [e1]
  walk_at "go"
  conv => whnf
  refine ⟨by rw [List.length_map]; omega, fun j => .str (O.getD j ("", 0)).1, ?_, ?_⟩
  · rintro i d hi hd
    obtain ⟨p, e, rfl⟩ := get_po hd
    walk_at "go"
    show D.str (O.getD i ("", 0)).1 = _
    rw [List.getD_eq_getElem?_getD, e]
    rfl
  dsimp only
  rw [by_items po (fun p => .str p.1) O ("", 0)]
  walk_at "go"
  conv => whnf
  refine ⟨O.map (·.1), by rw [SL, List.map_map]; rfl, by rw [List.length_map]; omega, cv.on, cv.od, ?_⟩
  have e2 : (O.map (·.1)).length = O.length := by rw [List.length_map]
  rw [e2]
  (dsimp only [ents, put, List.map, arE, nos, List.length, List.append, HAppend.hAppend, Append.append, Nat.reduceAdd, Nat.reduceSub, Nat.zero_add]; try dsimp only [List.append_eq])
  walk_at "go"
  conv => whnf
  have cut1 : PL.cutD (List.replicate (I.length + L.length) (D.bl true)) none (some ((I.map D.str).length : Int)) = List.replicate I.length (.bl true) := by
    unfold PL.cutD
    rw [HT.sIx_none, HT.sIx_nat, List.length_replicate, List.length_map, List.drop_zero, Nat.min_eq_left (by omega), Nat.sub_zero, List.take_replicate, Nat.min_eq_left (by omega)]
  have cut2 : PL.cutD (List.replicate (I.length + L.length) (D.bl true)) (some ((I.map D.str).length : Int)) none = List.replicate L.length (.bl true) := by
    unfold PL.cutD
    rw [HT.sIx_none, HT.sIx_nat, List.length_replicate, List.length_map, List.drop_replicate, Nat.min_eq_left (by omega), List.take_replicate, Nat.min_eq_left (by omega)]
    congr 1
    omega
  refine ⟨"inputs", 16, I.length, by rw [cut1], .head _, by omega, by omega, ?_⟩
  conv => whnf
  refine ⟨rfl, ?_⟩
  conv => whnf
  rw [cut2]
  conv => whnf
  refine ⟨rfl, _, rfl, ?_⟩
  conv => whnf
  refine ⟨by rw [List.length_replicate, List.length_map]; omega, fun _ => .bl true, ?_, ?_⟩
  · rintro i d hi ⟨x, y, rfl, hx, hy⟩
    obtain ⟨rfl, hi⟩ := rep_at hx
    obtain ⟨p, e, rfl⟩ := get_tri hy
    obtain ⟨s1, s2, s3⟩ := hst p (List.mem_of_getElem? e)
    obtain ⟨nn, s0, l0⟩ := p
    have key : inV (V.int s0) [V.int 0, V.int 1] = true := by rcases s1 with h | h <;> (dsimp only at h; rw [h]; rfl)
    conv => whnf
    refine ⟨rfl, ?_⟩
    walk_at "go"
    conv => whnf
    refine .mk _ _ _ rfl rfl rfl ?_
    rw [key]
    conv => whnf
    refine ⟨fun _ => ?_, fun h => by cases h⟩
    conv => whnf
    dsimp only at s2 s3
    refine ⟨fun _ => ?_, fun h => absurd (of_decide_eq_false (p := (0 : Int) ≤ l0) h) (by omega)⟩
    show D.bl true = D.bl (decide (l0 < 2 * (N : Int)))
    rw [decide_eq_true (by omega)]
  have m1 : min (List.replicate L.length (D.bl true)).length (L.map tri).length = L.length := by rw [List.length_replicate, List.length_map, Nat.min_self]
  dsimp only
  rw [m1, all_true]
  conv => whnf
  refine ⟨"latches", 40, L.length, rfl, .tail _ (.head _), by omega, by omega, ?_⟩
  conv => whnf
  refine ⟨rfl, ?_⟩
  conv => whnf
  refine ⟨rfl, _, rfl, ?_⟩
  conv => whnf
  refine ⟨⟨_, rfl⟩, I.length, L.map (·.2), A, rfl, ?_⟩
  have e3 : (1 + (I.length : Int) + ((L.map (·.2)).length : Nat)) = ((1 + I.length + L.length : Nat) : Int) := by rw [List.length_map]; omega
  rw [e3]
  conv => whnf
  refine ⟨⟨by omega, by omega⟩, by rw [List.length_map]; omega, fun _ => .bl true, ?_, ?_⟩
  · rintro i d hi ⟨z, rfl, hz⟩
    have hz := pr_at hz
    subst hz
    obtain ⟨⟨o1, o2⟩, o3, o4⟩ := okA_at cv.ok i (by rw [List.length_map] at hi; exact hi)
    conv => whnf
    refine ⟨rfl, ?_⟩
    walk_at "go"
    all_goals first
      | (show D.bl true = D.bl (decide ((at2 A i).2 < 2 * (((1 + I.length + L.length : Nat) : Int) + (i : Int)))); rw [decide_eq_true (by omega)])
      | (exfalso; rename_i h; exact absurd (of_decide_eq_false (p := (0 : Int) ≤ (at2 A i).1) h) (by omega))
      | (exfalso; rename_i h h2; exact absurd (of_decide_eq_false (p := (0 : Int) ≤ (at2 A i).1) h) (by omega))
      | (exfalso; rename_i h; exact absurd (of_decide_eq_false (p := (0 : Int) ≤ (at2 A i).2) h) (by omega))
      | (exfalso; rename_i h; exact absurd (of_decide_eq_false (p := (at2 A i).1 < 2 * (((1 + I.length + L.length : Nat) : Int) + (i : Int))) h) (by omega))
  have m2 : (A.map pr).length = A.length := by rw [List.length_map]
  dsimp only
  rw [m2, all_true]
  conv => whnf
  refine ⟨"ands", 2000, A.length, rfl, .tail _ (.tail _ (.head _)), by omega, by omega, ?_⟩
  conv => whnf
  refine ⟨rfl, ?_⟩
  conv => whnf
  refine ⟨rfl, _, rfl, ?_⟩
  conv => whnf
  refine ⟨by rw [List.length_replicate, List.length_map]; omega, fun _ => .bl true, ?_, ?_⟩
  · rintro i d hi ⟨x, y, rfl, hx, hy⟩
    obtain ⟨rfl, hi⟩ := rep_at hx
    obtain ⟨p, e, rfl⟩ := get_po hy
    obtain ⟨s2, s3⟩ := ho p (List.mem_of_getElem? e)
    obtain ⟨nn, l0⟩ := p
    dsimp only at s2 s3
    conv => whnf
    refine ⟨rfl, ?_⟩
    walk_at "go"
    all_goals first
      | (show D.bl true = D.bl (decide (l0 < 2 * (N : Int))); rw [decide_eq_true (by omega)])
      | (exfalso; rename_i h; exact absurd (of_decide_eq_false (p := (0 : Int) ≤ l0) h) (by omega))
  have m3 : min (List.replicate O.length (D.bl true)).length (O.map po).length = O.length := by rw [List.length_replicate, List.length_map, Nat.min_self]
  dsimp only
  rw [m3, all_true]
  conv => whnf
  exact ⟨"outputs", 32, O.length, rfl, .tail _ (.tail _ (.tail _ (.head _))), by omega, by omega, hq⟩
theorem ok_tell_new_names {f : Addr} {fd : FuncData} (F : Fun K "tell_new_names" "tell_new_names" s_tell_new_names f fd) (T : Txt K mg C_Net C_Circuit C_LineReader w D_GREATEST_COUNTS f_input_of f_latch_of f_and_of f_output_of) (c_is_name : Cal P w K mg base "is_name" 2 ["text"] (R_is_name C_Net C_Circuit)) : FnOk P w K mg base CX0 3 f fd ["texts"] (spOf K ((R_tell_new_names C_Net C_Circuit))) := by
  refine fnok F sc_tell_new_names (fun as Q h => ?_) (by decide) fun cdv A outer s H E hr => ?_
  · first | (obtain ⟨e, _⟩ := h; rw [e]; rfl) | (obtain ⟨_, e, _⟩ := h; rw [e]; rfl) | (obtain ⟨_, _, e, _⟩ := h; rw [e]; rfl) | (obtain ⟨_, _, _, e, _⟩ := h; rw [e]; rfl) | (obtain ⟨_, _, _, _, e, _⟩ := h; rw [e]; rfl) | (obtain ⟨_, _, _, _, _, e, _⟩ := h; rw [e]; rfl) | (obtain ⟨_, _, _, _, _, _, e, _⟩ := h; rw [e]; rfl) | (obtain ⟨_, _, _, _, _, _, _, e, _⟩ := h; rw [e]; rfl) | (obtain ⟨_, _, _, _, _, _, _, _, e, _⟩ := h; rw [e]; rfl) | (obtain ⟨_, _, _, _, _, _, _, _, _, e, _⟩ := h; rw [e]; rfl) | (obtain ⟨_, _, _, _, _, _, _, _, _, _, e, _⟩ := h; rw [e]; rfl) | (obtain ⟨_, _, _, _, _, _, _, _, _, _, _, e, _⟩ := h; rw [e]; rfl) | (obtain ⟨_, _, _, _, _, _, _, _, _, _, _, _, e, _⟩ := h; rw [e]; rfl) | (obtain ⟨_, _, _, _, _, _, _, _, _, _, _, _, _, e, _⟩ := h; rw [e]; rfl) | (obtain ⟨e1, e2, e3, _⟩ := h; subst e1 e2 e3; exact ⟨rfl, rfl, DicB.one _⟩) | (obtain ⟨_, e1, e2, e3, _⟩ := h; subst e1 e2 e3; exact ⟨rfl, rfl, DicB.one _⟩) | (obtain ⟨_, _, e1, e2, e3, _⟩ := h; subst e1 e2 e3; exact ⟨rfl, rfl, DicB.one _⟩) | (obtain ⟨_, _, _, e1, e2, e3, _⟩ := h; subst e1 e2 e3; exact ⟨rfl, rfl, DicB.one _⟩) | (obtain ⟨_, _, _, _, e1, e2, e3, _⟩ := h; subst e1 e2 e3; exact ⟨rfl, rfl, DicB.one _⟩) | (obtain ⟨_, _, _, _, _, e1, e2, e3, _⟩ := h; subst e1 e2 e3; exact ⟨rfl, rfl, DicB.one _⟩) | (obtain ⟨_, _, _, _, _, _, e1, e2, e3, _⟩ := h; subst e1 e2 e3; exact ⟨rfl, rfl, DicB.one _⟩) | (obtain ⟨_, _, _, _, _, _, _, e1, e2, e3, _⟩ := h; subst e1 e2 e3; exact ⟨rfl, rfl, DicB.one _⟩) | (obtain ⟨_, _, _, _, _, _, _, _, e1, e2, e3, _⟩ := h; subst e1 e2 e3; exact ⟨rfl, rfl, DicB.one _⟩) | (obtain ⟨_, _, _, _, _, _, _, _, _, e1, e2, e3, _⟩ := h; subst e1 e2 e3; exact ⟨rfl, rfl, DicB.one _⟩) | (obtain ⟨_, _, _, _, _, _, _, _, _, _, e1, e2, e3, _⟩ := h; subst e1 e2 e3; exact ⟨rfl, rfl, DicB.one _⟩) | (obtain ⟨_, _, _, _, _, _, _, _, _, _, _, e1, e2, e3, _⟩ := h; subst e1 e2 e3; exact ⟨rfl, rfl, DicB.one _⟩)
  refine ⟨_, b_cons (s_dnew 1 sc_tell_new_names.nd) (b_cons (s_setL 2 sc_tell_new_names.nd (l_disp (a_nil))) (b_cons (s_for rfl PassesOwn.never rfl (i_e (x_v 0)) (g_n 3 sc_tell_new_names.nd) (b_cons (s_app 2 (x_and (x_cal c_is_name hr (a_d (x_v 3) (a_nil))) (x_one (x_dnin 1 hr (x_v 3))))) (b_one (s_dput 1 hr (x_b) (x_v 3))))) (b_frz 2 (b_one (s_ret (x_v 2)))))), ?_⟩
  rintro as Q ⟨ts, rfl, hl, hn, nd, hq⟩
  conv => whnf
  intro p
  conv => whnf
  refine ⟨by decide, ?_⟩
  conv => whnf
  refine ⟨by rw [List.length_map]; omega, fun i δ => ∃ e3, δ = [.dat (SL ts), .big (DicB K (KV (ts.take i))) [p], .own (List.replicate i (.bl true)), e3], ⟨_, rfl⟩, ?_, ?_⟩
  · rintro i d δ hi hd ⟨e3, rfl⟩
    obtain ⟨t, et, rfl⟩ := get_str hd
    have hi : i < ts.length := (List.getElem?_eq_some_iff.mp et).1
    have tt : ts.take (i + 1) = ts.take i ++ [t] := by rw [List.take_succ, et]; rfl
    have tn : t ∉ ts.take i := fun h => by
      have h2 : (ts.take (i + 1)).Nodup := nd.sublist (List.take_sublist _ _)
      rw [tt] at h2
      have := List.nodup_append.mp h2
      exact this.2.2 t h t (List.mem_singleton.mpr rfl) rfl
    obtain ⟨n1, n2⟩ := hn t (List.mem_of_getElem? et)
    conv => whnf
    refine ⟨by rw [List.length_replicate]; omega, ?_⟩
    conv => whnf
    refine ⟨t, rfl, n2, ?_⟩
    rw [n1]
    conv => whnf
    refine ⟨fun _ => ?_, fun h => by cases h⟩
    conv => whnf
    refine ⟨_, _, rfl, .inr t, rfl, ?_⟩
    rw [KV_has tn]
    conv => whnf
    refine ⟨_, _, rfl, ?_⟩
    conv => whnf
    refine ⟨.inr t, rfl, by unfold KV; rw [List.length_map, List.length_take]; omega, ?_⟩
    exact ⟨.dat (.str t), by rw [tt, ← KV_put tn, List.replicate_succ']; rfl⟩
  · rintro δ ⟨e3, rfl⟩
    rw [List.length_map]
    exact hq
theorem ok_check_part {f : Addr} {fd : FuncData} (F : Fun K "_check_part" "_check_part" s_check_part f fd) (T : Txt K mg C_Net C_Circuit C_LineReader w D_GREATEST_COUNTS f_input_of f_latch_of f_and_of f_output_of)  : FnOk P w K mg base CX0 2 f fd ["part", "valid"] (spOf K ((R_check_part C_Net C_Circuit))) := by
  refine fnok F sc_check_part (fun as Q h => ?_) (by decide) fun cdv A outer s H E hr => ?_
  · first | (obtain ⟨e, _⟩ := h; rw [e]; rfl) | (obtain ⟨_, e, _⟩ := h; rw [e]; rfl) | (obtain ⟨_, _, e, _⟩ := h; rw [e]; rfl) | (obtain ⟨_, _, _, e, _⟩ := h; rw [e]; rfl) | (obtain ⟨_, _, _, _, e, _⟩ := h; rw [e]; rfl) | (obtain ⟨_, _, _, _, _, e, _⟩ := h; rw [e]; rfl) | (obtain ⟨_, _, _, _, _, _, e, _⟩ := h; rw [e]; rfl) | (obtain ⟨_, _, _, _, _, _, _, e, _⟩ := h; rw [e]; rfl) | (obtain ⟨_, _, _, _, _, _, _, _, e, _⟩ := h; rw [e]; rfl) | (obtain ⟨_, _, _, _, _, _, _, _, _, e, _⟩ := h; rw [e]; rfl) | (obtain ⟨_, _, _, _, _, _, _, _, _, _, e, _⟩ := h; rw [e]; rfl) | (obtain ⟨_, _, _, _, _, _, _, _, _, _, _, e, _⟩ := h; rw [e]; rfl) | (obtain ⟨_, _, _, _, _, _, _, _, _, _, _, _, e, _⟩ := h; rw [e]; rfl) | (obtain ⟨_, _, _, _, _, _, _, _, _, _, _, _, _, e, _⟩ := h; rw [e]; rfl) | (obtain ⟨e1, e2, e3, _⟩ := h; subst e1 e2 e3; exact ⟨rfl, rfl, DicB.one _⟩) | (obtain ⟨_, e1, e2, e3, _⟩ := h; subst e1 e2 e3; exact ⟨rfl, rfl, DicB.one _⟩) | (obtain ⟨_, _, e1, e2, e3, _⟩ := h; subst e1 e2 e3; exact ⟨rfl, rfl, DicB.one _⟩) | (obtain ⟨_, _, _, e1, e2, e3, _⟩ := h; subst e1 e2 e3; exact ⟨rfl, rfl, DicB.one _⟩) | (obtain ⟨_, _, _, _, e1, e2, e3, _⟩ := h; subst e1 e2 e3; exact ⟨rfl, rfl, DicB.one _⟩) | (obtain ⟨_, _, _, _, _, e1, e2, e3, _⟩ := h; subst e1 e2 e3; exact ⟨rfl, rfl, DicB.one _⟩) | (obtain ⟨_, _, _, _, _, _, e1, e2, e3, _⟩ := h; subst e1 e2 e3; exact ⟨rfl, rfl, DicB.one _⟩) | (obtain ⟨_, _, _, _, _, _, _, e1, e2, e3, _⟩ := h; subst e1 e2 e3; exact ⟨rfl, rfl, DicB.one _⟩) | (obtain ⟨_, _, _, _, _, _, _, _, e1, e2, e3, _⟩ := h; subst e1 e2 e3; exact ⟨rfl, rfl, DicB.one _⟩) | (obtain ⟨_, _, _, _, _, _, _, _, _, e1, e2, e3, _⟩ := h; subst e1 e2 e3; exact ⟨rfl, rfl, DicB.one _⟩) | (obtain ⟨_, _, _, _, _, _, _, _, _, _, e1, e2, e3, _⟩ := h; subst e1 e2 e3; exact ⟨rfl, rfl, DicB.one _⟩) | (obtain ⟨_, _, _, _, _, _, _, _, _, _, _, e1, e2, e3, _⟩ := h; subst e1 e2 e3; exact ⟨rfl, rfl, DicB.one _⟩)
  refine ⟨_, b_one (s_for rfl PassesOwn.never rfl (i_en T.enumerate (x_v 1)) (g_tup (n := 2) rfl (g_cons (g_n 2 sc_check_part.nd) (g_cons (g_n 3 sc_check_part.nd) (g_nil)))) (b_one (s_if (t_pw (t_or (t_not (t_val (x_v 3))) (t_or1 (t_cmp h_ge (x_v 2) (x_kd T.kd_GREATEST_COUNTS (x_v 0)))))) (b_one (s_bad)) (b_nil)))), ?_⟩
  rintro as Q ⟨z, m, n, rfl, hm, hn, h4, hq⟩
  conv => whnf
  refine ⟨by rw [List.length_replicate]; omega, fun i δ => ∃ e2 e3, δ = [.dat (.str z), .dat (.lst (List.replicate n (.bl true))), e2, e3], ⟨_, _, rfl⟩, ?_, ?_⟩
  · rintro i d δ hi ⟨x, rfl, hx⟩ ⟨e2, e3, rfl⟩
    obtain ⟨rfl, hi⟩ := rep_at hx
    conv => whnf
    refine ⟨rfl, ?_⟩
    conv => whnf
    refine ⟨fun h => (by cases h), fun _ => ?_⟩
    conv => whnf
    refine ⟨z, m, rfl, hm, ?_⟩
    conv => whnf
    refine ⟨fun h => absurd (of_decide_eq_true h) (by omega), fun _ => ?_⟩
    exact ⟨_, _, rfl⟩
  · rintro δ ⟨e2, e3, rfl⟩
    exact hq
theorem ok_LineReader_init {f : Addr} {fd : FuncData} (F : Fun K "__init__" "LineReader.__init__" s_LineReader_init f fd) (T : Txt K mg C_Net C_Circuit C_LineReader w D_GREATEST_COUNTS f_input_of f_latch_of f_and_of f_output_of)  : FnOk P w K mg base CX0 2 f fd ["self", "text"] (spOfM K C_LineReader (R_LineReader_init)) := by
  refine fnokM F sc_LineReader_init (fun fs as Q h => ?_) (by decide) fun cdv A outer s H E hr => ?_
  · first | (obtain ⟨e, _⟩ := h; rw [e]; rfl) | (obtain ⟨_, e, _⟩ := h; rw [e]; rfl) | (obtain ⟨_, _, e, _⟩ := h; rw [e]; rfl) | (obtain ⟨_, _, _, e, _⟩ := h; rw [e]; rfl) | (obtain ⟨_, _, _, _, e, _⟩ := h; rw [e]; rfl) | (obtain ⟨_, _, _, _, _, e, _⟩ := h; rw [e]; rfl) | (obtain ⟨_, _, _, _, _, _, e, _⟩ := h; rw [e]; rfl) | (obtain ⟨_, _, _, _, _, _, _, e, _⟩ := h; rw [e]; rfl) | (obtain ⟨_, _, _, _, _, _, _, _, e, _⟩ := h; rw [e]; rfl) | (obtain ⟨_, _, _, _, _, _, _, _, _, e, _⟩ := h; rw [e]; rfl) | (obtain ⟨_, _, _, _, _, _, _, _, _, _, e, _⟩ := h; rw [e]; rfl) | (obtain ⟨_, _, _, _, _, _, _, _, _, _, _, e, _⟩ := h; rw [e]; rfl) | (obtain ⟨_, _, _, _, _, _, _, _, _, _, _, _, e, _⟩ := h; rw [e]; rfl) | (obtain ⟨_, _, _, _, _, _, _, _, _, _, _, _, _, e, _⟩ := h; rw [e]; rfl) | (obtain ⟨e1, e2, e3, _⟩ := h; subst e1 e2 e3; exact ⟨rfl, rfl, DicB.one _⟩) | (obtain ⟨_, e1, e2, e3, _⟩ := h; subst e1 e2 e3; exact ⟨rfl, rfl, DicB.one _⟩) | (obtain ⟨_, _, e1, e2, e3, _⟩ := h; subst e1 e2 e3; exact ⟨rfl, rfl, DicB.one _⟩) | (obtain ⟨_, _, _, e1, e2, e3, _⟩ := h; subst e1 e2 e3; exact ⟨rfl, rfl, DicB.one _⟩) | (obtain ⟨_, _, _, _, e1, e2, e3, _⟩ := h; subst e1 e2 e3; exact ⟨rfl, rfl, DicB.one _⟩) | (obtain ⟨_, _, _, _, _, e1, e2, e3, _⟩ := h; subst e1 e2 e3; exact ⟨rfl, rfl, DicB.one _⟩) | (obtain ⟨_, _, _, _, _, _, e1, e2, e3, _⟩ := h; subst e1 e2 e3; exact ⟨rfl, rfl, DicB.one _⟩) | (obtain ⟨_, _, _, _, _, _, _, e1, e2, e3, _⟩ := h; subst e1 e2 e3; exact ⟨rfl, rfl, DicB.one _⟩) | (obtain ⟨_, _, _, _, _, _, _, _, e1, e2, e3, _⟩ := h; subst e1 e2 e3; exact ⟨rfl, rfl, DicB.one _⟩) | (obtain ⟨_, _, _, _, _, _, _, _, _, e1, e2, e3, _⟩ := h; subst e1 e2 e3; exact ⟨rfl, rfl, DicB.one _⟩) | (obtain ⟨_, _, _, _, _, _, _, _, _, _, e1, e2, e3, _⟩ := h; subst e1 e2 e3; exact ⟨rfl, rfl, DicB.one _⟩) | (obtain ⟨_, _, _, _, _, _, _, _, _, _, _, e1, e2, e3, _⟩ := h; subst e1 e2 e3; exact ⟨rfl, rfl, DicB.one _⟩)
  refine ⟨_, b_cons (s_setL 2 sc_LineReader_init.nd (l_split (x_v 1) (x_s))) (b_cons (s_ifM (t_cmpM (h_ne hr) (m_pop 2) (m_e (x_s))) (b_one (s_bad)) (b_nil)) (b_cons (s_osetL 0 T.cl_LineReader T.na_LineReader_rows (l_comp0 (own := [("line", 3)]) rfl sc_LineReader_init.nd (blkOk_by (own := [("line", 3)]) (N := ["self", "text", "lines", "line"]) (sc := defScope s_LineReader_init) (by decide +kernel)) (i_r (r_v 2)) (by intro _ _ _ _ _; exact g_n 3 sc_LineReader_init.nd) (by intro _ _ _ _ _; exact x_l (l_split (x_v 3) (x_s))) (fun _ => rfl))) (b_one (s_oset 0 T.cl_LineReader T.na_LineReader_taken (x_i))))), ?_⟩
  rintro p fp fs as Q ⟨rs, rfl, rfl, hr, hl, hq⟩
  have hz := tx_len (b := 200) fun r h => (hr r h).2
  conv => whnf
  refine ⟨⟨_, rfl⟩, tx rs, "\n", rfl, rfl, by decide +kernel, by rw [sizeLine_eq]; omega, ?_⟩
  rw [split_tx fun r h => (hr r h).1, List.map_append]
  conv => whnf
  refine ⟨rs.map fun r => D.str (Txt.join " " r), .str "", by rw [List.map_map]; rfl, ?_⟩
  conv => whnf
  refine ⟨fun h => (by simp at h), fun _ => ?_⟩
  (dsimp only [ents, put, List.map, arE, nos, List.length, List.append, HAppend.hAppend, Append.append, Nat.reduceAdd, Nat.reduceSub, Nat.zero_add]; try dsimp only [List.append_eq])
  conv => whnf
  refine ⟨rfl, ?_⟩
  conv => whnf
  refine ⟨by rw [List.length_map]; omega, fun j => SL (rs.getD j []), ?_, ?_⟩
  · rintro j d hj hd
    obtain ⟨r, hr1, rfl⟩ : ∃ r, rs[j]? = some r ∧ d = D.str (Txt.join " " r) := by
      rw [List.getElem?_map] at hd
      cases e : rs[j]? with
      | none => rw [e] at hd; cases hd
      | some r => rw [e] at hd; cases hd; exact ⟨r, rfl, rfl⟩
    have h1 := hr r (List.mem_of_getElem? hr1)
    have h2 : (Txt.join " " r).length ≤ (ln r).length := by
      unfold ln
      rw [len_app]
      omega
    conv => whnf
    refine ⟨⟨_, rfl⟩, Txt.join " " r, " ", rfl, rfl, by decide +kernel, by rw [sizeLine_eq]; omega, ?_⟩
    show SL (rs.getD j []) = D.lst ((Txt.split (Txt.join " " r) " ").map D.str)
    rw [split_ln h1.1, List.getD_eq_getElem?_getD, hr1]
    rfl
  rw [by_items (fun r => D.str (Txt.join " " r)) SL rs []]
  conv => whnf
  refine ⟨p, _, _, rfl, by decide, fun fp1 => ?_⟩
  (dsimp only [ents, put, List.map, arE, nos, List.length, List.append, HAppend.hAppend, Append.append, Nat.reduceAdd, Nat.reduceSub, Nat.zero_add]; try dsimp only [List.append_eq])
  conv => whnf
  refine ⟨p, _, _, rfl, by show 1 < 1000; decide, fun fp2 => ?_⟩
  exact ⟨_, _, rfl, hq⟩
theorem ok_LineReader_has_more {f : Addr} {fd : FuncData} (F : Fun K "has_more" "LineReader.has_more" s_LineReader_has_more f fd) (T : Txt K mg C_Net C_Circuit C_LineReader w D_GREATEST_COUNTS f_input_of f_latch_of f_and_of f_output_of)  : FnOk P w K mg base CX0 2 f fd ["self"] (spOf K ((R_LineReader_has_more (K := K) C_LineReader))) := by
  refine fnok F sc_LineReader_has_more (fun as Q h => ?_) (by decide) fun cdv A outer s H E hr => ?_
  · first | (obtain ⟨e, _⟩ := h; rw [e]; rfl) | (obtain ⟨_, e, _⟩ := h; rw [e]; rfl) | (obtain ⟨_, _, e, _⟩ := h; rw [e]; rfl) | (obtain ⟨_, _, _, e, _⟩ := h; rw [e]; rfl) | (obtain ⟨_, _, _, _, e, _⟩ := h; rw [e]; rfl) | (obtain ⟨_, _, _, _, _, e, _⟩ := h; rw [e]; rfl) | (obtain ⟨_, _, _, _, _, _, e, _⟩ := h; rw [e]; rfl) | (obtain ⟨_, _, _, _, _, _, _, e, _⟩ := h; rw [e]; rfl) | (obtain ⟨_, _, _, _, _, _, _, _, e, _⟩ := h; rw [e]; rfl) | (obtain ⟨_, _, _, _, _, _, _, _, _, e, _⟩ := h; rw [e]; rfl) | (obtain ⟨_, _, _, _, _, _, _, _, _, _, e, _⟩ := h; rw [e]; rfl) | (obtain ⟨_, _, _, _, _, _, _, _, _, _, _, e, _⟩ := h; rw [e]; rfl) | (obtain ⟨_, _, _, _, _, _, _, _, _, _, _, _, e, _⟩ := h; rw [e]; rfl) | (obtain ⟨_, _, _, _, _, _, _, _, _, _, _, _, _, e, _⟩ := h; rw [e]; rfl) | (obtain ⟨e1, e2, e3, _⟩ := h; subst e1 e2 e3; exact ⟨rfl, rfl, DicB.one _⟩) | (obtain ⟨_, e1, e2, e3, _⟩ := h; subst e1 e2 e3; exact ⟨rfl, rfl, DicB.one _⟩) | (obtain ⟨_, _, e1, e2, e3, _⟩ := h; subst e1 e2 e3; exact ⟨rfl, rfl, DicB.one _⟩) | (obtain ⟨_, _, _, e1, e2, e3, _⟩ := h; subst e1 e2 e3; exact ⟨rfl, rfl, DicB.one _⟩) | (obtain ⟨_, _, _, _, e1, e2, e3, _⟩ := h; subst e1 e2 e3; exact ⟨rfl, rfl, DicB.one _⟩) | (obtain ⟨_, _, _, _, _, e1, e2, e3, _⟩ := h; subst e1 e2 e3; exact ⟨rfl, rfl, DicB.one _⟩) | (obtain ⟨_, _, _, _, _, _, e1, e2, e3, _⟩ := h; subst e1 e2 e3; exact ⟨rfl, rfl, DicB.one _⟩) | (obtain ⟨_, _, _, _, _, _, _, e1, e2, e3, _⟩ := h; subst e1 e2 e3; exact ⟨rfl, rfl, DicB.one _⟩) | (obtain ⟨_, _, _, _, _, _, _, _, e1, e2, e3, _⟩ := h; subst e1 e2 e3; exact ⟨rfl, rfl, DicB.one _⟩) | (obtain ⟨_, _, _, _, _, _, _, _, _, e1, e2, e3, _⟩ := h; subst e1 e2 e3; exact ⟨rfl, rfl, DicB.one _⟩) | (obtain ⟨_, _, _, _, _, _, _, _, _, _, e1, e2, e3, _⟩ := h; subst e1 e2 e3; exact ⟨rfl, rfl, DicB.one _⟩) | (obtain ⟨_, _, _, _, _, _, _, _, _, _, _, e1, e2, e3, _⟩ := h; subst e1 e2 e3; exact ⟨rfl, rfl, DicB.one _⟩)
  refine ⟨_, b_one (s_ret (x_cmp h_lt (x_ofld 0 T.cl_LineReader T.na_LineReader_taken) (x_len T.len (r_ofld 0 T.cl_LineReader T.na_LineReader_rows)))), ?_⟩
  rintro as Q ⟨rs, t, rfl, hq⟩
  walk_at "go"
  show Q (.bl (decide ((t : Int) < ((rs.map SL).length : Int))))
  rw [List.length_map, show decide ((t : Int) < (rs.length : Int)) = decide (t < rs.length) from decide_eq_decide.mpr (by omega)]
  exact hq
theorem ok_LineReader_take_title {f : Addr} {fd : FuncData} (F : Fun K "take_title" "LineReader.take_title" s_LineReader_take_title f fd) (T : Txt K mg C_Net C_Circuit C_LineReader w D_GREATEST_COUNTS f_input_of f_latch_of f_and_of f_output_of) (c_LineReader_has_more : Met P w K mg base C_LineReader "has_more" 2 ["self"] (R_LineReader_has_more (K := K) C_LineReader)) : FnOk P w K mg base CX0 3 f fd ["self", "word"] (spOfM K C_LineReader (R_LineReader_take_title)) := by
  refine fnokM F sc_LineReader_take_title (fun fs as Q h => ?_) (by decide) fun cdv A outer s H E hr => ?_
  · first | (obtain ⟨e, _⟩ := h; rw [e]; rfl) | (obtain ⟨_, e, _⟩ := h; rw [e]; rfl) | (obtain ⟨_, _, e, _⟩ := h; rw [e]; rfl) | (obtain ⟨_, _, _, e, _⟩ := h; rw [e]; rfl) | (obtain ⟨_, _, _, _, e, _⟩ := h; rw [e]; rfl) | (obtain ⟨_, _, _, _, _, e, _⟩ := h; rw [e]; rfl) | (obtain ⟨_, _, _, _, _, _, e, _⟩ := h; rw [e]; rfl) | (obtain ⟨_, _, _, _, _, _, _, e, _⟩ := h; rw [e]; rfl) | (obtain ⟨_, _, _, _, _, _, _, _, e, _⟩ := h; rw [e]; rfl) | (obtain ⟨_, _, _, _, _, _, _, _, _, e, _⟩ := h; rw [e]; rfl) | (obtain ⟨_, _, _, _, _, _, _, _, _, _, e, _⟩ := h; rw [e]; rfl) | (obtain ⟨_, _, _, _, _, _, _, _, _, _, _, e, _⟩ := h; rw [e]; rfl) | (obtain ⟨_, _, _, _, _, _, _, _, _, _, _, _, e, _⟩ := h; rw [e]; rfl) | (obtain ⟨_, _, _, _, _, _, _, _, _, _, _, _, _, e, _⟩ := h; rw [e]; rfl) | (obtain ⟨e1, e2, e3, _⟩ := h; subst e1 e2 e3; exact ⟨rfl, rfl, DicB.one _⟩) | (obtain ⟨_, e1, e2, e3, _⟩ := h; subst e1 e2 e3; exact ⟨rfl, rfl, DicB.one _⟩) | (obtain ⟨_, _, e1, e2, e3, _⟩ := h; subst e1 e2 e3; exact ⟨rfl, rfl, DicB.one _⟩) | (obtain ⟨_, _, _, e1, e2, e3, _⟩ := h; subst e1 e2 e3; exact ⟨rfl, rfl, DicB.one _⟩) | (obtain ⟨_, _, _, _, e1, e2, e3, _⟩ := h; subst e1 e2 e3; exact ⟨rfl, rfl, DicB.one _⟩) | (obtain ⟨_, _, _, _, _, e1, e2, e3, _⟩ := h; subst e1 e2 e3; exact ⟨rfl, rfl, DicB.one _⟩) | (obtain ⟨_, _, _, _, _, _, e1, e2, e3, _⟩ := h; subst e1 e2 e3; exact ⟨rfl, rfl, DicB.one _⟩) | (obtain ⟨_, _, _, _, _, _, _, e1, e2, e3, _⟩ := h; subst e1 e2 e3; exact ⟨rfl, rfl, DicB.one _⟩) | (obtain ⟨_, _, _, _, _, _, _, _, e1, e2, e3, _⟩ := h; subst e1 e2 e3; exact ⟨rfl, rfl, DicB.one _⟩) | (obtain ⟨_, _, _, _, _, _, _, _, _, e1, e2, e3, _⟩ := h; subst e1 e2 e3; exact ⟨rfl, rfl, DicB.one _⟩) | (obtain ⟨_, _, _, _, _, _, _, _, _, _, e1, e2, e3, _⟩ := h; subst e1 e2 e3; exact ⟨rfl, rfl, DicB.one _⟩) | (obtain ⟨_, _, _, _, _, _, _, _, _, _, _, e1, e2, e3, _⟩ := h; subst e1 e2 e3; exact ⟨rfl, rfl, DicB.one _⟩)
  refine ⟨_, b_cons (s_if (t_pw (t_or (t_not (t_val (x_omet0 0 c_LineReader_has_more T.cl_LineReader hr))) (t_or1 (t_cmp (h_ne hr) (x_ixL (r_ofld 0 T.cl_LineReader T.na_LineReader_rows) (x_ofld 0 T.cl_LineReader T.na_LineReader_taken)) (x_l (l_disp (a_d (x_v 1) (a_nil)))))))) (b_one (s_bad)) (b_nil)) (b_one (s_oaug 0 T.cl_LineReader T.na_LineReader_taken (x_i))), ?_⟩
  rintro p fp fs as Q ⟨rs, t, w, rfl, rfl, hr, hs, hq⟩
  have ht : t < rs.length := (List.getElem?_eq_some_iff.mp hr).1
  conv => whnf
  refine ⟨_, .inl ⟨_, _, rfl⟩, ?_⟩
  conv => whnf
  refine ⟨List.cons_ne_nil _ _, rfl, rs, t, rfl, ?_⟩
  conv => whnf
  refine ⟨fun h => ?_, fun _ => ?_⟩
  · have h := of_nt h
    exact absurd ht h
  conv => whnf
  refine ⟨_, .inl ⟨_, _, rfl⟩, ?_⟩
  conv => whnf
  refine ⟨_, rfl, ?_⟩
  conv => whnf
  refine ⟨_, .inl ⟨_, _, rfl⟩, ?_⟩
  conv => whnf
  refine ⟨_, rfl, ?_⟩
  conv => whnf
  refine ⟨SL [w], atI_nat (j := t) (by rw [List.getElem?_map, hr]; rfl), ?_⟩
  conv => whnf
  refine ⟨by show 1 ≤ 1000; decide, ?_⟩
  conv => whnf
  refine gNe_same (pl_SL' fun s h => ?_) ?_
  · rw [List.mem_singleton.mp h]; exact hs
  conv => whnf
  refine ⟨fun h => (by cases h), fun _ => ?_⟩
  conv => whnf
  refine ⟨p, _, _, rfl, by show 2 < 1000; decide, _, rfl, ?_⟩
  conv => whnf
  exact fun fp1 => ⟨_, _, rfl, hq⟩
theorem ok_LineReader_take_entries {f : Addr} {fd : FuncData} (F : Fun K "take_entries" "LineReader.take_entries" s_LineReader_take_entries f fd) (T : Txt K mg C_Net C_Circuit C_LineReader w D_GREATEST_COUNTS f_input_of f_latch_of f_and_of f_output_of) (c_LineReader_has_more : Met P w K mg base C_LineReader "has_more" 2 ["self"] (R_LineReader_has_more (K := K) C_LineReader)) (c_and_of : Cal P w K mg base "_and_of" 4 ["words"] (R_and_of C_Net C_Circuit)) (c_input_of : Cal P w K mg base "_input_of" 2 ["words"] (R_input_of C_Net C_Circuit)) (c_latch_of : Cal P w K mg base "_latch_of" 4 ["words"] (R_latch_of C_Net C_Circuit)) (c_output_of : Cal P w K mg base "_output_of" 4 ["words"] (R_output_of C_Net C_Circuit)) : FnOk P w K mg base CX0 5 f fd ["self", "word", "entry_of"] (spOfM K C_LineReader (R_LineReader_take_entries C_Net C_Circuit f_input_of f_latch_of f_and_of f_output_of)) := by
  refine fnokM F sc_LineReader_take_entries (fun fs as Q h => ?_) (by decide) fun cdv A outer s H E hr => ?_
  · first | (obtain ⟨e, _⟩ := h; rw [e]; rfl) | (obtain ⟨_, e, _⟩ := h; rw [e]; rfl) | (obtain ⟨_, _, e, _⟩ := h; rw [e]; rfl) | (obtain ⟨_, _, _, e, _⟩ := h; rw [e]; rfl) | (obtain ⟨_, _, _, _, e, _⟩ := h; rw [e]; rfl) | (obtain ⟨_, _, _, _, _, e, _⟩ := h; rw [e]; rfl) | (obtain ⟨_, _, _, _, _, _, e, _⟩ := h; rw [e]; rfl) | (obtain ⟨_, _, _, _, _, _, _, e, _⟩ := h; rw [e]; rfl) | (obtain ⟨_, _, _, _, _, _, _, _, e, _⟩ := h; rw [e]; rfl) | (obtain ⟨_, _, _, _, _, _, _, _, _, e, _⟩ := h; rw [e]; rfl) | (obtain ⟨_, _, _, _, _, _, _, _, _, _, e, _⟩ := h; rw [e]; rfl) | (obtain ⟨_, _, _, _, _, _, _, _, _, _, _, e, _⟩ := h; rw [e]; rfl) | (obtain ⟨_, _, _, _, _, _, _, _, _, _, _, _, e, _⟩ := h; rw [e]; rfl) | (obtain ⟨_, _, _, _, _, _, _, _, _, _, _, _, _, e, _⟩ := h; rw [e]; rfl) | (obtain ⟨e1, e2, e3, _⟩ := h; subst e1 e2 e3; exact ⟨rfl, rfl, DicB.one _⟩) | (obtain ⟨_, e1, e2, e3, _⟩ := h; subst e1 e2 e3; exact ⟨rfl, rfl, DicB.one _⟩) | (obtain ⟨_, _, e1, e2, e3, _⟩ := h; subst e1 e2 e3; exact ⟨rfl, rfl, DicB.one _⟩) | (obtain ⟨_, _, _, e1, e2, e3, _⟩ := h; subst e1 e2 e3; exact ⟨rfl, rfl, DicB.one _⟩) | (obtain ⟨_, _, _, _, e1, e2, e3, _⟩ := h; subst e1 e2 e3; exact ⟨rfl, rfl, DicB.one _⟩) | (obtain ⟨_, _, _, _, _, e1, e2, e3, _⟩ := h; subst e1 e2 e3; exact ⟨rfl, rfl, DicB.one _⟩) | (obtain ⟨_, _, _, _, _, _, e1, e2, e3, _⟩ := h; subst e1 e2 e3; exact ⟨rfl, rfl, DicB.one _⟩) | (obtain ⟨_, _, _, _, _, _, _, e1, e2, e3, _⟩ := h; subst e1 e2 e3; exact ⟨rfl, rfl, DicB.one _⟩) | (obtain ⟨_, _, _, _, _, _, _, _, e1, e2, e3, _⟩ := h; subst e1 e2 e3; exact ⟨rfl, rfl, DicB.one _⟩) | (obtain ⟨_, _, _, _, _, _, _, _, _, e1, e2, e3, _⟩ := h; subst e1 e2 e3; exact ⟨rfl, rfl, DicB.one _⟩) | (obtain ⟨_, _, _, _, _, _, _, _, _, _, e1, e2, e3, _⟩ := h; subst e1 e2 e3; exact ⟨rfl, rfl, DicB.one _⟩) | (obtain ⟨_, _, _, _, _, _, _, _, _, _, _, e1, e2, e3, _⟩ := h; subst e1 e2 e3; exact ⟨rfl, rfl, DicB.one _⟩)
  refine ⟨_, b_cons (s_setL 3 sc_LineReader_take_entries.nd (l_disp (a_nil))) (b_cons (s_while PassesOwn.never (t_val (x_omet0 0 c_LineReader_has_more T.cl_LineReader hr)) (b_cons (s_asg (x_ixL (r_ofld 0 T.cl_LineReader T.na_LineReader_rows) (x_ofld 0 T.cl_LineReader T.na_LineReader_taken)) (g_star 4 5 sc_LineReader_take_entries.nd)) (b_cons (s_set 6 sc_LineReader_take_entries.nd (x_if (t_cmp (h_eq hr) (x_v 4) (x_v 1)) (x_calV (k := 4) 2 (.cons c_input_of T.gF_input_of (.cons c_latch_of T.gF_latch_of (.cons c_and_of T.gF_and_of (.cons c_output_of T.gF_output_of (.nil))))) hr (a_d (x_v 5) (a_nil))) (x_n))) (b_cons (s_if (t_cmp h_isN (x_v 6) x_n) (b_one (s_brk)) (b_nil)) (b_cons (s_app 3 (x_v 6)) (b_one (s_oaug 0 T.cl_LineReader T.na_LineReader_taken (x_i)))))))) (b_frz 3 (b_one (s_retM (m_e (x_v 3)))))), ?_⟩
  rintro p fp fs as Q ⟨pre, ms, post, w, f, R, es, rfl, rfl, hm, hl, hz, he, hp, hq⟩
  have el : (pre ++ ms.map (w :: ·) ++ post).length = pre.length + es.length + post.length := by
    rw [List.length_append, List.length_append, List.length_map, hl]
  generalize erows : pre ++ ms.map (w :: ·) ++ post = rows at el hq ⊢
  conv => whnf
  refine ⟨by show 0 ≤ 1000; decide, ?_⟩
  conv => whnf
  refine ⟨fun m δ => ∃ (j : Nat) (fp' : List Addr) (e4 e5 e6 : Ent), m = es.length - j ∧ j ≤ es.length ∧ δ = [.big (ObjB K C_LineReader p (RF rows (pre.length + j))) fp', .dat (.str w), .dat (.ref (.ref f)), .own (es.take j), e4, e5, e6], ⟨_, 0, fp, _, _, _, rfl, Nat.zero_le _, rfl⟩, ?_⟩
  rintro m δ ⟨j, fp', e4, e5, e6, rfl, hj, rfl⟩
  conv => whnf
  refine ⟨_, .inl ⟨_, _, rfl⟩, ?_⟩
  conv => whnf
  refine ⟨List.cons_ne_nil _ _, rfl, rows, pre.length + j, rfl, ?_⟩
  conv => whnf
  refine ⟨fun h => ?_, fun h => ?_⟩
  · have h := of_decide_eq_true h
    conv => whnf
    refine ⟨_, .inl ⟨_, _, rfl⟩, ?_⟩
    conv => whnf
    refine ⟨_, rfl, ?_⟩
    conv => whnf
    refine ⟨_, .inl ⟨_, _, rfl⟩, ?_⟩
    conv => whnf
    refine ⟨_, rfl, ?_⟩
    conv => whnf
    by_cases hj' : j < es.length
    · obtain ⟨ws, hw⟩ : ∃ ws, ms[j]? = some ws := ⟨_, List.getElem?_eq_getElem (by omega)⟩
      obtain ⟨e, hE⟩ : ∃ e, es[j]? = some e := ⟨_, List.getElem?_eq_getElem hj'⟩
      obtain ⟨hn, hR⟩ := he j ws e hw hE
      have hrow : rows[pre.length + j]? = some (w :: ws) := by
        rw [← erows, List.append_assoc, List.getElem?_append_right (by omega), List.getElem?_append_left (by rw [List.length_map]; omega), List.getElem?_map, show pre.length + j - pre.length = j by omega, hw]
        rfl
      refine ⟨SL (w :: ws), atI_nat (j := pre.length + j) (by rw [List.getElem?_map, hrow]; rfl), ?_⟩
      conv => whnf
      refine ⟨_, _, rfl, ?_⟩
      conv => whnf
      refine ⟨fun _ => ?_, fun z => absurd rfl (of_decide_eq_false z)⟩
      try (dsimp only [ents, put, List.map, arE, nos, List.length, List.append, HAppend.hAppend, Append.append, Nat.reduceAdd, Nat.reduceSub, Nat.zero_add]; try dsimp only [List.append_eq])
      conv => whnf
      refine ⟨f, R, rfl, hm, hR _ ?_⟩
      try (dsimp only [ents, put, List.map, arE, nos, List.length, List.append, HAppend.hAppend, Append.append, Nat.reduceAdd, Nat.reduceSub, Nat.zero_add]; try dsimp only [List.append_eq])
      conv => whnf
      refine ⟨rfl, false, hn, ?_⟩
      conv => whnf
      refine ⟨fun z => (by simp at z), fun _ => ?_⟩
      conv => whnf
      refine ⟨by rw [List.length_take]; omega, ?_⟩
      try (dsimp only [ents, put, List.map, arE, nos, List.length, List.append, HAppend.hAppend, Append.append, Nat.reduceAdd, Nat.reduceSub, Nat.zero_add]; try dsimp only [List.append_eq])
      conv => whnf
      refine ⟨p, _, _, rfl, by show 2 < 1000; decide, _, rfl, ?_⟩
      conv => whnf
      intro fp2
      refine ⟨es.length - (j + 1), by omega, j + 1, fp2, .dat (.str w), .dat (SL ws), .dat e, rfl, by omega, ?_⟩
      rw [show es.take (j + 1) = es.take j ++ [e] from by rw [List.take_add_one, hE]; rfl]
      rfl
    · have ej : j = es.length := by omega
      obtain ⟨r, hr⟩ : ∃ r, rows[pre.length + j]? = some r := ⟨_, List.getElem?_eq_getElem (by omega)⟩
      have hrp : r ∈ post := by
        have h1 := hr
        rw [← erows, List.append_assoc, List.getElem?_append_right (by omega), List.getElem?_append_right (by rw [List.length_map]; omega)] at h1
        exact List.mem_of_getElem? h1
      obtain ⟨x, ws, rfl, hx⟩ := hp r hrp
      refine ⟨SL (x :: ws), atI_nat (j := pre.length + j) (by rw [List.getElem?_map, hr]; rfl), ?_⟩
      conv => whnf
      refine ⟨_, _, rfl, ?_⟩
      conv => whnf
      refine ⟨fun z => absurd (of_decide_eq_true z) hx, fun _ => ?_⟩
      try (dsimp only [ents, put, List.map, arE, nos, List.length, List.append, HAppend.hAppend, Append.append, Nat.reduceAdd, Nat.reduceSub, Nat.zero_add]; try dsimp only [List.append_eq])
      conv => whnf
      refine ⟨rfl, true, rfl, ?_⟩
      conv => whnf
      refine ⟨fun _ => ?_, fun z => (by simp at z)⟩
      conv => whnf
      refine ⟨_, _, rfl, ?_⟩
      rw [ej, List.take_length]
      exact hq
  · have h := of_decide_eq_false h
    have ej : j = es.length := by omega
    conv => whnf
    refine ⟨_, _, rfl, ?_⟩
    rw [ej, List.take_length]
    exact hq
theorem ok_LineReader_finish {f : Addr} {fd : FuncData} (F : Fun K "finish" "LineReader.finish" s_LineReader_finish f fd) (T : Txt K mg C_Net C_Circuit C_LineReader w D_GREATEST_COUNTS f_input_of f_latch_of f_and_of f_output_of) (c_LineReader_has_more : Met P w K mg base C_LineReader "has_more" 2 ["self"] (R_LineReader_has_more (K := K) C_LineReader)) : FnOk P w K mg base CX0 3 f fd ["self"] (spOf K ((R_LineReader_finish (K := K) C_LineReader))) := by
  refine fnok F sc_LineReader_finish (fun as Q h => ?_) (by decide) fun cdv A outer s H E hr => ?_
  · first | (obtain ⟨e, _⟩ := h; rw [e]; rfl) | (obtain ⟨_, e, _⟩ := h; rw [e]; rfl) | (obtain ⟨_, _, e, _⟩ := h; rw [e]; rfl) | (obtain ⟨_, _, _, e, _⟩ := h; rw [e]; rfl) | (obtain ⟨_, _, _, _, e, _⟩ := h; rw [e]; rfl) | (obtain ⟨_, _, _, _, _, e, _⟩ := h; rw [e]; rfl) | (obtain ⟨_, _, _, _, _, _, e, _⟩ := h; rw [e]; rfl) | (obtain ⟨_, _, _, _, _, _, _, e, _⟩ := h; rw [e]; rfl) | (obtain ⟨_, _, _, _, _, _, _, _, e, _⟩ := h; rw [e]; rfl) | (obtain ⟨_, _, _, _, _, _, _, _, _, e, _⟩ := h; rw [e]; rfl) | (obtain ⟨_, _, _, _, _, _, _, _, _, _, e, _⟩ := h; rw [e]; rfl) | (obtain ⟨_, _, _, _, _, _, _, _, _, _, _, e, _⟩ := h; rw [e]; rfl) | (obtain ⟨_, _, _, _, _, _, _, _, _, _, _, _, e, _⟩ := h; rw [e]; rfl) | (obtain ⟨_, _, _, _, _, _, _, _, _, _, _, _, _, e, _⟩ := h; rw [e]; rfl) | (obtain ⟨e1, e2, e3, _⟩ := h; subst e1 e2 e3; exact ⟨rfl, rfl, DicB.one _⟩) | (obtain ⟨_, e1, e2, e3, _⟩ := h; subst e1 e2 e3; exact ⟨rfl, rfl, DicB.one _⟩) | (obtain ⟨_, _, e1, e2, e3, _⟩ := h; subst e1 e2 e3; exact ⟨rfl, rfl, DicB.one _⟩) | (obtain ⟨_, _, _, e1, e2, e3, _⟩ := h; subst e1 e2 e3; exact ⟨rfl, rfl, DicB.one _⟩) | (obtain ⟨_, _, _, _, e1, e2, e3, _⟩ := h; subst e1 e2 e3; exact ⟨rfl, rfl, DicB.one _⟩) | (obtain ⟨_, _, _, _, _, e1, e2, e3, _⟩ := h; subst e1 e2 e3; exact ⟨rfl, rfl, DicB.one _⟩) | (obtain ⟨_, _, _, _, _, _, e1, e2, e3, _⟩ := h; subst e1 e2 e3; exact ⟨rfl, rfl, DicB.one _⟩) | (obtain ⟨_, _, _, _, _, _, _, e1, e2, e3, _⟩ := h; subst e1 e2 e3; exact ⟨rfl, rfl, DicB.one _⟩) | (obtain ⟨_, _, _, _, _, _, _, _, e1, e2, e3, _⟩ := h; subst e1 e2 e3; exact ⟨rfl, rfl, DicB.one _⟩) | (obtain ⟨_, _, _, _, _, _, _, _, _, e1, e2, e3, _⟩ := h; subst e1 e2 e3; exact ⟨rfl, rfl, DicB.one _⟩) | (obtain ⟨_, _, _, _, _, _, _, _, _, _, e1, e2, e3, _⟩ := h; subst e1 e2 e3; exact ⟨rfl, rfl, DicB.one _⟩) | (obtain ⟨_, _, _, _, _, _, _, _, _, _, _, e1, e2, e3, _⟩ := h; subst e1 e2 e3; exact ⟨rfl, rfl, DicB.one _⟩)
  refine ⟨_, b_one (s_if (t_val (x_omet0 0 c_LineReader_has_more T.cl_LineReader hr)) (b_one (s_bad)) (b_nil)), ?_⟩
  rintro as Q ⟨rs, t, rfl, ht, hq⟩
  conv => whnf
  refine ⟨_, .inr rfl, ?_⟩
  conv => whnf
  refine ⟨List.cons_ne_nil _ _, rfl, rs, t, rfl, ?_⟩
  conv => whnf
  refine ⟨fun h => ?_, fun _ => hq⟩
  have h := of_decide_eq_true h
  omega
theorem ok_numbers_of {f : Addr} {fd : FuncData} (F : Fun K "numbers_of" "numbers_of" s_numbers_of f fd) (T : Txt K mg C_Net C_Circuit C_LineReader w D_GREATEST_COUNTS f_input_of f_latch_of f_and_of f_output_of) (c_is_number : Cal P w K mg base "is_number" 2 ["word"] (R_is_number C_Net C_Circuit)) : FnOk P w K mg base CX0 3 f fd ["words"] (spOf K ((R_numbers_of C_Net C_Circuit))) := by
  refine fnok F sc_numbers_of (fun as Q h => ?_) (by decide) fun cdv A outer s H E hr => ?_
  · first | (obtain ⟨e, _⟩ := h; rw [e]; rfl) | (obtain ⟨_, e, _⟩ := h; rw [e]; rfl) | (obtain ⟨_, _, e, _⟩ := h; rw [e]; rfl) | (obtain ⟨_, _, _, e, _⟩ := h; rw [e]; rfl) | (obtain ⟨_, _, _, _, e, _⟩ := h; rw [e]; rfl) | (obtain ⟨_, _, _, _, _, e, _⟩ := h; rw [e]; rfl) | (obtain ⟨_, _, _, _, _, _, e, _⟩ := h; rw [e]; rfl) | (obtain ⟨_, _, _, _, _, _, _, e, _⟩ := h; rw [e]; rfl) | (obtain ⟨_, _, _, _, _, _, _, _, e, _⟩ := h; rw [e]; rfl) | (obtain ⟨_, _, _, _, _, _, _, _, _, e, _⟩ := h; rw [e]; rfl) | (obtain ⟨_, _, _, _, _, _, _, _, _, _, e, _⟩ := h; rw [e]; rfl) | (obtain ⟨_, _, _, _, _, _, _, _, _, _, _, e, _⟩ := h; rw [e]; rfl) | (obtain ⟨_, _, _, _, _, _, _, _, _, _, _, _, e, _⟩ := h; rw [e]; rfl) | (obtain ⟨_, _, _, _, _, _, _, _, _, _, _, _, _, e, _⟩ := h; rw [e]; rfl) | (obtain ⟨e1, e2, e3, _⟩ := h; subst e1 e2 e3; exact ⟨rfl, rfl, DicB.one _⟩) | (obtain ⟨_, e1, e2, e3, _⟩ := h; subst e1 e2 e3; exact ⟨rfl, rfl, DicB.one _⟩) | (obtain ⟨_, _, e1, e2, e3, _⟩ := h; subst e1 e2 e3; exact ⟨rfl, rfl, DicB.one _⟩) | (obtain ⟨_, _, _, e1, e2, e3, _⟩ := h; subst e1 e2 e3; exact ⟨rfl, rfl, DicB.one _⟩) | (obtain ⟨_, _, _, _, e1, e2, e3, _⟩ := h; subst e1 e2 e3; exact ⟨rfl, rfl, DicB.one _⟩) | (obtain ⟨_, _, _, _, _, e1, e2, e3, _⟩ := h; subst e1 e2 e3; exact ⟨rfl, rfl, DicB.one _⟩) | (obtain ⟨_, _, _, _, _, _, e1, e2, e3, _⟩ := h; subst e1 e2 e3; exact ⟨rfl, rfl, DicB.one _⟩) | (obtain ⟨_, _, _, _, _, _, _, e1, e2, e3, _⟩ := h; subst e1 e2 e3; exact ⟨rfl, rfl, DicB.one _⟩) | (obtain ⟨_, _, _, _, _, _, _, _, e1, e2, e3, _⟩ := h; subst e1 e2 e3; exact ⟨rfl, rfl, DicB.one _⟩) | (obtain ⟨_, _, _, _, _, _, _, _, _, e1, e2, e3, _⟩ := h; subst e1 e2 e3; exact ⟨rfl, rfl, DicB.one _⟩) | (obtain ⟨_, _, _, _, _, _, _, _, _, _, e1, e2, e3, _⟩ := h; subst e1 e2 e3; exact ⟨rfl, rfl, DicB.one _⟩) | (obtain ⟨_, _, _, _, _, _, _, _, _, _, _, e1, e2, e3, _⟩ := h; subst e1 e2 e3; exact ⟨rfl, rfl, DicB.one _⟩)
  refine ⟨_, b_cons (s_if (t_not (t_val (x_all rfl T.all (r_e (x_l (l_comp0 (own := [("word", 1)]) rfl sc_numbers_of.nd (blkOk_by (own := [("word", 1)]) (N := ["words", "word"]) (sc := defScope s_numbers_of) (by decide +kernel)) (i_e (x_v 0)) (by intro _ _ _ _ _; exact g_n 1 sc_numbers_of.nd) (by intro _ _ _ _ _; exact x_cal c_is_number hr (a_d (x_v 1) (a_nil))) (fun _ => rfl))))))) (b_one (s_ret (x_n))) (b_nil)) (b_one (s_ret (x_tupL T.tuple (r_e (x_l (l_comp0 (own := [("word", 1)]) rfl sc_numbers_of.nd (blkOk_by (own := [("word", 1)]) (N := ["words", "word"]) (sc := defScope s_numbers_of) (by decide +kernel)) (i_e (x_v 0)) (by intro _ _ _ _ _; exact g_n 1 sc_numbers_of.nd) (by intro _ _ _ _ _; exact x_intS T.int (x_v 1)) (fun _ => rfl))))))), ?_⟩
  rintro as Q ⟨ns, rfl, hn, hl, hq⟩
  conv => whnf
  refine ⟨rfl, ?_⟩
  conv => whnf
  refine ⟨by rw [List.length_map, List.length_map]; omega, fun i => .bl true, ?_, ?_⟩
  · rintro i d hi hd
    obtain ⟨s, hs, rfl⟩ := get_str hd
    obtain ⟨n, hm, rfl⟩ := List.mem_map.mp (List.mem_of_getElem? hs)
    have := hn n hm
    conv => whnf
    refine ⟨n, rfl, this.1, this.2, rfl⟩
  rw [all_true]
  conv => whnf
  refine ⟨List.replicate (List.map D.str (List.map nS ns)).length true, by rw [List.map_replicate], ?_⟩
  rw [show (List.replicate (List.map D.str (List.map nS ns)).length true).all id = true from by simp]
  conv => whnf
  refine ⟨fun h => (by simp at h), fun _ => ?_⟩
  conv => whnf
  refine ⟨rfl, ?_⟩
  conv => whnf
  refine ⟨by rw [List.length_map, List.length_map]; omega, fun i => .int (ns.getD i 0), ?_, ?_⟩
  · rintro i d hi hd
    obtain ⟨n, hi', hm, rfl⟩ : ∃ n, ns[i]? = some n ∧ n ∈ ns ∧ d = .str (nS n) := by
      rw [List.map_map, List.getElem?_map] at hd
      cases e : ns[i]? with
      | none => rw [e] at hd; cases hd
      | some n => rw [e] at hd; cases hd; exact ⟨n, rfl, List.mem_of_getElem? e, rfl⟩
    have := hn n hm
    conv => whnf
    refine ⟨nS n, n, rfl, nS_int this.1 this.2, Nat.le_trans (nS_len this.1 this.2) (by decide), ?_⟩
    show D.int _ = D.int _
    rw [List.getD_eq_getElem?_getD, hi']
    rfl
  have e2 : (List.range (List.map D.str (List.map nS ns)).length).map (fun i => D.int (ns.getD i 0)) = ns.map D.int := by
    have := by_items (fun n : Int => D.str (nS n)) D.int ns 0
    rw [List.map_map]
    exact this
  rw [e2]
  conv => whnf
  exact hq
theorem ok_is_number {f : Addr} {fd : FuncData} (F : Fun K "is_number" "is_number" s_is_number f fd) (T : Txt K mg C_Net C_Circuit C_LineReader w D_GREATEST_COUNTS f_input_of f_latch_of f_and_of f_output_of)  : FnOk P w K mg base CX0 2 f fd ["word"] (spOf K ((R_is_number C_Net C_Circuit))) := by
  refine fnok F sc_is_number (fun as Q h => ?_) (by decide) fun cdv A outer s H E hr => ?_
  · first | (obtain ⟨e, _⟩ := h; rw [e]; rfl) | (obtain ⟨_, e, _⟩ := h; rw [e]; rfl) | (obtain ⟨_, _, e, _⟩ := h; rw [e]; rfl) | (obtain ⟨_, _, _, e, _⟩ := h; rw [e]; rfl) | (obtain ⟨_, _, _, _, e, _⟩ := h; rw [e]; rfl) | (obtain ⟨_, _, _, _, _, e, _⟩ := h; rw [e]; rfl) | (obtain ⟨_, _, _, _, _, _, e, _⟩ := h; rw [e]; rfl) | (obtain ⟨_, _, _, _, _, _, _, e, _⟩ := h; rw [e]; rfl) | (obtain ⟨_, _, _, _, _, _, _, _, e, _⟩ := h; rw [e]; rfl) | (obtain ⟨_, _, _, _, _, _, _, _, _, e, _⟩ := h; rw [e]; rfl) | (obtain ⟨_, _, _, _, _, _, _, _, _, _, e, _⟩ := h; rw [e]; rfl) | (obtain ⟨_, _, _, _, _, _, _, _, _, _, _, e, _⟩ := h; rw [e]; rfl) | (obtain ⟨_, _, _, _, _, _, _, _, _, _, _, _, e, _⟩ := h; rw [e]; rfl) | (obtain ⟨_, _, _, _, _, _, _, _, _, _, _, _, _, e, _⟩ := h; rw [e]; rfl) | (obtain ⟨e1, e2, e3, _⟩ := h; subst e1 e2 e3; exact ⟨rfl, rfl, DicB.one _⟩) | (obtain ⟨_, e1, e2, e3, _⟩ := h; subst e1 e2 e3; exact ⟨rfl, rfl, DicB.one _⟩) | (obtain ⟨_, _, e1, e2, e3, _⟩ := h; subst e1 e2 e3; exact ⟨rfl, rfl, DicB.one _⟩) | (obtain ⟨_, _, _, e1, e2, e3, _⟩ := h; subst e1 e2 e3; exact ⟨rfl, rfl, DicB.one _⟩) | (obtain ⟨_, _, _, _, e1, e2, e3, _⟩ := h; subst e1 e2 e3; exact ⟨rfl, rfl, DicB.one _⟩) | (obtain ⟨_, _, _, _, _, e1, e2, e3, _⟩ := h; subst e1 e2 e3; exact ⟨rfl, rfl, DicB.one _⟩) | (obtain ⟨_, _, _, _, _, _, e1, e2, e3, _⟩ := h; subst e1 e2 e3; exact ⟨rfl, rfl, DicB.one _⟩) | (obtain ⟨_, _, _, _, _, _, _, e1, e2, e3, _⟩ := h; subst e1 e2 e3; exact ⟨rfl, rfl, DicB.one _⟩) | (obtain ⟨_, _, _, _, _, _, _, _, e1, e2, e3, _⟩ := h; subst e1 e2 e3; exact ⟨rfl, rfl, DicB.one _⟩) | (obtain ⟨_, _, _, _, _, _, _, _, _, e1, e2, e3, _⟩ := h; subst e1 e2 e3; exact ⟨rfl, rfl, DicB.one _⟩) | (obtain ⟨_, _, _, _, _, _, _, _, _, _, e1, e2, e3, _⟩ := h; subst e1 e2 e3; exact ⟨rfl, rfl, DicB.one _⟩) | (obtain ⟨_, _, _, _, _, _, _, _, _, _, _, e1, e2, e3, _⟩ := h; subst e1 e2 e3; exact ⟨rfl, rfl, DicB.one _⟩)
  refine ⟨_, b_cons (s_if (t_pw (t_or (t_cmp h_lt (x_lenS T.len (x_v 0)) (x_i)) (t_or (t_cmp h_gt (x_lenS T.len (x_v 0)) (x_gI T.g_LONGEST_NUMBER)) (t_or1 (t_not (t_val (x_all rfl T.all (r_e (x_l (l_comp0 (own := [("digit", 1)]) rfl sc_is_number.nd (blkOk_by (own := [("digit", 1)]) (N := ["word", "digit"]) (sc := defScope s_is_number) (by decide +kernel)) (i_s (x_v 0)) (by intro _ _ _ _ _; exact g_n 1 sc_is_number.nd) (by intro _ _ _ _ _; exact x_cmp h_inS (x_v 1) (x_gS T.g_DIGITS) (by rfl)) (fun _ => rfl))))))))))) (b_one (s_ret (x_b))) (b_nil)) (b_one (s_ret (x_or (x_cmp (h_eq hr) (x_v 0) (x_s)) (x_one (x_cmp (h_ne hr) (x_ix (x_v 0) (x_i)) (x_s)))))), ?_⟩
  rintro as Q ⟨n, rfl, h0, h1, hq⟩
  have hl := nS_len h0 h1
  have hp := nS_pos h0
  have hd := nS_digits h0
  have hf : nS n = "0" ∨ (nS n).cps.toList.getD 0 0 ≠ 48 := by
    rcases Int.lt_or_le n 1 with h | h
    · exact .inl (by rw [show n = 0 by omega]; decide +kernel)
    · exact .inr (nS_first h)
  generalize nS n = s at hl hp hd hf
  have hs : s.length ≤ sizeLine := by rw [sizeLine_eq]; omega
  conv => whnf
  refine ⟨hs, ?_⟩
  conv => whnf
  refine ⟨fun h => ?_, fun _ => ?_⟩
  · have := of_decide_eq_true h
    omega
  conv => whnf
  refine ⟨hs, ?_⟩
  conv => whnf
  refine ⟨fun h => ?_, fun _ => ?_⟩
  · have := of_decide_eq_true h
    omega
  conv => whnf
  refine ⟨rfl, ?_⟩
  conv => whnf
  refine ⟨by simp only [Str.length] at hl; omega, fun i => .bl true, ?_, ?_⟩
  · rintro i d hi ⟨c, hc, rfl⟩
    have hm : c ∈ s.cps.toList := by
      rw [← Array.getElem?_toList] at hc
      exact List.mem_of_getElem? hc
    conv => whnf
    refine ⟨c, _, rfl, rfl, ?_⟩
    show D.bl true = D.bl _
    rw [dig_mem (hd c hm)]
    rfl
  rw [all_true]
  conv => whnf
  refine ⟨List.replicate s.cps.size true, by rw [List.map_replicate], ?_⟩
  rw [show (List.replicate s.cps.size true).all id = true from by simp]
  conv => whnf
  refine ⟨fun h => (by simp at h), fun _ => ?_⟩
  conv => whnf
  refine ⟨fun _ => hq, fun h => ?_⟩
  have hne : s.cps.toList.getD 0 0 ≠ 48 := hf.resolve_left (of_decide_eq_false h)
  conv => whnf
  refine ⟨hs, _, at0 (by omega), ?_⟩
  have e0 : ("0" : Str).cps.toList.getD 0 0 = 48 := by decide +kernel
  have hn : ¬ (⟨#[s.cps.toList.getD 0 0]⟩ : Str) = "0" := fun h => hne (by
    have := congrArg (fun z : Str => z.cps.toList.getD 0 0) h
    rw [e0] at this
    exact this)
  conv => whnf
  rw [show (!decide ((⟨#[s.cps.toList.getD 0 0]⟩ : Str) = "0")) = true from by rw [decide_eq_false hn]; rfl]
  exact hq
theorem ok_line_of {f : Addr} {fd : FuncData} (F : Fun K "line_of" "line_of" s_line_of f fd) (T : Txt K mg C_Net C_Circuit C_LineReader w D_GREATEST_COUNTS f_input_of f_latch_of f_and_of f_output_of)  : FnOk P w K mg base CX0 2 f fd ["word", "entries"] (spOf K ((R_line_of C_Net C_Circuit))) := by
  refine fnok F sc_line_of (fun as Q h => ?_) (by decide) fun cdv A outer s H E hr => ?_
  · first | (obtain ⟨e, _⟩ := h; rw [e]; rfl) | (obtain ⟨_, e, _⟩ := h; rw [e]; rfl) | (obtain ⟨_, _, e, _⟩ := h; rw [e]; rfl) | (obtain ⟨_, _, _, e, _⟩ := h; rw [e]; rfl) | (obtain ⟨_, _, _, _, e, _⟩ := h; rw [e]; rfl) | (obtain ⟨_, _, _, _, _, e, _⟩ := h; rw [e]; rfl) | (obtain ⟨_, _, _, _, _, _, e, _⟩ := h; rw [e]; rfl) | (obtain ⟨_, _, _, _, _, _, _, e, _⟩ := h; rw [e]; rfl) | (obtain ⟨_, _, _, _, _, _, _, _, e, _⟩ := h; rw [e]; rfl) | (obtain ⟨_, _, _, _, _, _, _, _, _, e, _⟩ := h; rw [e]; rfl) | (obtain ⟨_, _, _, _, _, _, _, _, _, _, e, _⟩ := h; rw [e]; rfl) | (obtain ⟨_, _, _, _, _, _, _, _, _, _, _, e, _⟩ := h; rw [e]; rfl) | (obtain ⟨_, _, _, _, _, _, _, _, _, _, _, _, e, _⟩ := h; rw [e]; rfl) | (obtain ⟨_, _, _, _, _, _, _, _, _, _, _, _, _, e, _⟩ := h; rw [e]; rfl) | (obtain ⟨e1, e2, e3, _⟩ := h; subst e1 e2 e3; exact ⟨rfl, rfl, DicB.one _⟩) | (obtain ⟨_, e1, e2, e3, _⟩ := h; subst e1 e2 e3; exact ⟨rfl, rfl, DicB.one _⟩) | (obtain ⟨_, _, e1, e2, e3, _⟩ := h; subst e1 e2 e3; exact ⟨rfl, rfl, DicB.one _⟩) | (obtain ⟨_, _, _, e1, e2, e3, _⟩ := h; subst e1 e2 e3; exact ⟨rfl, rfl, DicB.one _⟩) | (obtain ⟨_, _, _, _, e1, e2, e3, _⟩ := h; subst e1 e2 e3; exact ⟨rfl, rfl, DicB.one _⟩) | (obtain ⟨_, _, _, _, _, e1, e2, e3, _⟩ := h; subst e1 e2 e3; exact ⟨rfl, rfl, DicB.one _⟩) | (obtain ⟨_, _, _, _, _, _, e1, e2, e3, _⟩ := h; subst e1 e2 e3; exact ⟨rfl, rfl, DicB.one _⟩) | (obtain ⟨_, _, _, _, _, _, _, e1, e2, e3, _⟩ := h; subst e1 e2 e3; exact ⟨rfl, rfl, DicB.one _⟩) | (obtain ⟨_, _, _, _, _, _, _, _, e1, e2, e3, _⟩ := h; subst e1 e2 e3; exact ⟨rfl, rfl, DicB.one _⟩) | (obtain ⟨_, _, _, _, _, _, _, _, _, e1, e2, e3, _⟩ := h; subst e1 e2 e3; exact ⟨rfl, rfl, DicB.one _⟩) | (obtain ⟨_, _, _, _, _, _, _, _, _, _, e1, e2, e3, _⟩ := h; subst e1 e2 e3; exact ⟨rfl, rfl, DicB.one _⟩) | (obtain ⟨_, _, _, _, _, _, _, _, _, _, _, e1, e2, e3, _⟩ := h; subst e1 e2 e3; exact ⟨rfl, rfl, DicB.one _⟩)
  refine ⟨_, b_one (s_ret (x_add (x_join (x_s) (r_e (x_l (l_cat (r_e (x_l (l_disp (a_d (x_v 0) (a_nil))))) (r_e (x_l (l_comp0 (own := [("entry", 2)]) rfl sc_line_of.nd (blkOk_by (own := [("entry", 2)]) (N := ["word", "entries", "entry"]) (sc := defScope s_line_of) (by decide +kernel)) (i_t (x_v 1)) (by intro _ _ _ _ _; exact g_n 2 sc_line_of.nd) (by intro _ _ _ _ _; exact x_strA T.str (x_v 2)) (fun _ => rfl)))))))) (x_s))), ?_⟩
  rintro as Q ⟨w, es, ws, rfl, hl, ht, h3, hw, hq⟩
  have hz := ln_len hw
  conv => whnf
  refine ⟨by show 1 ≤ 1000; decide, ?_⟩
  conv => whnf
  refine ⟨rfl, ?_⟩
  conv => whnf
  refine ⟨by omega, fun j => .str (ws.getD j ""), ?_, ?_⟩
  · rintro j d hj hd
    obtain ⟨s, hs⟩ : ∃ s, ws[j]? = some s := ⟨_, List.getElem?_eq_getElem (by omega)⟩
    have e : ws.getD j "" = s := by rw [List.getD_eq_getElem?_getD, hs]; rfl
    rcases ht j d s hd hs with ⟨i, rfl, i0, i1, rfl⟩ | rfl
    · conv => whnf
      refine ⟨small_log i0 i1, ?_⟩
      show D.str _ = D.str _
      rw [e]
    · conv => whnf
      show D.str _ = D.str _
      rw [e]
  have e2 : (List.range es.length).map (fun j => D.str (ws.getD j "")) = ws.map D.str := by
    rw [hl]
    have := by_items D.str D.str ws ""
    rwa [List.length_map] at this
  rw [e2]
  conv => whnf
  refine ⟨by rw [List.length_map]; show 1 + ws.length ≤ 4000000; omega, ?_⟩
  conv => whnf
  refine ⟨w :: ws, rfl, ?_, ?_⟩
  · have h4 := sum_le (f := fun x : Str => x.length) (b := 20) hw
    have : (" " : Str).length = 1 := by decide +kernel
    rw [this]
    simp only [List.length_cons] at h4 ⊢
    omega
  conv => whnf
  refine ⟨?_, hq⟩
  have h5 := hz.1
  have : ("\n" : Str).length = 1 := by decide +kernel
  rw [this, sizeLine_eq]
  simp only [List.length_cons] at h5
  omega
theorem ok_write_circuit {f : Addr} {fd : FuncData} (F : Fun K "write_circuit" "write_circuit" s_write_circuit f fd) (T : Txt K mg C_Net C_Circuit C_LineReader w D_GREATEST_COUNTS f_input_of f_latch_of f_and_of f_output_of) (c_line_of : Cal P w K mg base "line_of" 2 ["word", "entries"] (R_line_of C_Net C_Circuit)) : FnOk P w K mg base CX0 3 f fd ["circuit"] (spOf K ((R_write_circuit C_Net C_Circuit))) := by
  refine fnok F sc_write_circuit (fun as Q h => ?_) (by decide) fun cdv A outer s H E hr => ?_
  · first | (obtain ⟨e, _⟩ := h; rw [e]; rfl) | (obtain ⟨_, e, _⟩ := h; rw [e]; rfl) | (obtain ⟨_, _, e, _⟩ := h; rw [e]; rfl) | (obtain ⟨_, _, _, e, _⟩ := h; rw [e]; rfl) | (obtain ⟨_, _, _, _, e, _⟩ := h; rw [e]; rfl) | (obtain ⟨_, _, _, _, _, e, _⟩ := h; rw [e]; rfl) | (obtain ⟨_, _, _, _, _, _, e, _⟩ := h; rw [e]; rfl) | (obtain ⟨_, _, _, _, _, _, _, e, _⟩ := h; rw [e]; rfl) | (obtain ⟨_, _, _, _, _, _, _, _, e, _⟩ := h; rw [e]; rfl) | (obtain ⟨_, _, _, _, _, _, _, _, _, e, _⟩ := h; rw [e]; rfl) | (obtain ⟨_, _, _, _, _, _, _, _, _, _, e, _⟩ := h; rw [e]; rfl) | (obtain ⟨_, _, _, _, _, _, _, _, _, _, _, e, _⟩ := h; rw [e]; rfl) | (obtain ⟨_, _, _, _, _, _, _, _, _, _, _, _, e, _⟩ := h; rw [e]; rfl) | (obtain ⟨_, _, _, _, _, _, _, _, _, _, _, _, _, e, _⟩ := h; rw [e]; rfl) | (obtain ⟨e1, e2, e3, _⟩ := h; subst e1 e2 e3; exact ⟨rfl, rfl, DicB.one _⟩) | (obtain ⟨_, e1, e2, e3, _⟩ := h; subst e1 e2 e3; exact ⟨rfl, rfl, DicB.one _⟩) | (obtain ⟨_, _, e1, e2, e3, _⟩ := h; subst e1 e2 e3; exact ⟨rfl, rfl, DicB.one _⟩) | (obtain ⟨_, _, _, e1, e2, e3, _⟩ := h; subst e1 e2 e3; exact ⟨rfl, rfl, DicB.one _⟩) | (obtain ⟨_, _, _, _, e1, e2, e3, _⟩ := h; subst e1 e2 e3; exact ⟨rfl, rfl, DicB.one _⟩) | (obtain ⟨_, _, _, _, _, e1, e2, e3, _⟩ := h; subst e1 e2 e3; exact ⟨rfl, rfl, DicB.one _⟩) | (obtain ⟨_, _, _, _, _, _, e1, e2, e3, _⟩ := h; subst e1 e2 e3; exact ⟨rfl, rfl, DicB.one _⟩) | (obtain ⟨_, _, _, _, _, _, _, e1, e2, e3, _⟩ := h; subst e1 e2 e3; exact ⟨rfl, rfl, DicB.one _⟩) | (obtain ⟨_, _, _, _, _, _, _, _, e1, e2, e3, _⟩ := h; subst e1 e2 e3; exact ⟨rfl, rfl, DicB.one _⟩) | (obtain ⟨_, _, _, _, _, _, _, _, _, e1, e2, e3, _⟩ := h; subst e1 e2 e3; exact ⟨rfl, rfl, DicB.one _⟩) | (obtain ⟨_, _, _, _, _, _, _, _, _, _, e1, e2, e3, _⟩ := h; subst e1 e2 e3; exact ⟨rfl, rfl, DicB.one _⟩) | (obtain ⟨_, _, _, _, _, _, _, _, _, _, _, e1, e2, e3, _⟩ := h; subst e1 e2 e3; exact ⟨rfl, rfl, DicB.one _⟩)
  refine ⟨_, b_cons (s_setL 1 sc_write_circuit.nd (l_disp (a_d (x_s) (a_nil)))) (b_cons (s_augL 1 sc_write_circuit.nd (l_comp0 (own := [("name", 2)]) rfl sc_write_circuit.nd (blkOk_by (own := [("name", 2)]) (N := ["circuit", "lines", "name", "latch", "pair", "output"]) (sc := defScope s_write_circuit) (by decide +kernel)) (i_e (x_fldN 0 T.cl_Circuit T.na_Circuit_inputs)) (by intro _ _ _ _ _; exact g_n 2 sc_write_circuit.nd) (by intro _ _ _ _ _; exact x_cal c_line_of hr (a_d (x_s) (a_d (x_tup (a_d (x_v 2) (a_nil))) (a_nil)))) (fun _ => rfl))) (b_cons (s_augL 1 sc_write_circuit.nd (l_comp0 (own := [("latch", 3)]) rfl sc_write_circuit.nd (blkOk_by (own := [("latch", 3)]) (N := ["circuit", "lines", "name", "latch", "pair", "output"]) (sc := defScope s_write_circuit) (by decide +kernel)) (i_e (x_fldN 0 T.cl_Circuit T.na_Circuit_latches)) (by intro _ _ _ _ _; exact g_n 3 sc_write_circuit.nd) (by intro _ _ _ _ _; exact x_cal c_line_of hr (a_d (x_s) (a_d (x_v 3) (a_nil)))) (fun _ => rfl))) (b_cons (s_augL 1 sc_write_circuit.nd (l_comp0 (own := [("pair", 4)]) rfl sc_write_circuit.nd (blkOk_by (own := [("pair", 4)]) (N := ["circuit", "lines", "name", "latch", "pair", "output"]) (sc := defScope s_write_circuit) (by decide +kernel)) (i_e (x_fldN 0 T.cl_Circuit T.na_Circuit_ands)) (by intro _ _ _ _ _; exact g_n 4 sc_write_circuit.nd) (by intro _ _ _ _ _; exact x_cal c_line_of hr (a_d (x_s) (a_d (x_v 4) (a_nil)))) (fun _ => rfl))) (b_cons (s_augL 1 sc_write_circuit.nd (l_comp0 (own := [("output", 5)]) rfl sc_write_circuit.nd (blkOk_by (own := [("output", 5)]) (N := ["circuit", "lines", "name", "latch", "pair", "output"]) (sc := defScope s_write_circuit) (by decide +kernel)) (i_e (x_fldN 0 T.cl_Circuit T.na_Circuit_outputs)) (by intro _ _ _ _ _; exact g_n 5 sc_write_circuit.nd) (by intro _ _ _ _ _; exact x_cal c_line_of hr (a_d (x_s) (a_d (x_v 5) (a_nil)))) (fun _ => rfl))) (b_one (s_ret (x_join (x_s) (r_v 1)))))))), ?_⟩
  rintro as Q ⟨I, L, A, O, rfl, cv, hq⟩
  have c1 := cv.i
  have c2 := cv.l
  have c3 := cv.a
  have c4 := cv.o
  have gv := cv.gv
  conv => whnf
  refine ⟨by show 1 ≤ 1000; decide, ?_⟩
  (dsimp only [ents, put, List.map, arE, nos, List.length, List.append, HAppend.hAppend, Append.append, Nat.reduceAdd, Nat.reduceSub, Nat.zero_add]; try dsimp only [List.append_eq])
  conv => whnf
  refine ⟨rfl, ?_⟩
  conv => whnf
  refine ⟨rfl, _, rfl, ?_⟩
  conv => whnf
  refine ⟨by rw [List.length_map]; omega, fun j => hI (I.getD j ""), ?_, ?_⟩
  · rintro j d hj hd
    obtain ⟨s, hs, rfl⟩ := get_str hd
    have e : I.getD j "" = s := by rw [List.getD_eq_getElem?_getD, hs]; rfl
    have g := gv.gi s (List.mem_of_getElem? hs)
    conv => whnf
    refine ⟨by show 1 ≤ 1000; decide, ?_⟩
    conv => whnf
    refine ⟨"input", [.str s], wI s, rfl, rfl, ts_cons (.inr rfl) ts_nil, (Nat.le_of_ble_eq_true rfl), fun x hx => (gW_cons gW_words.1.2 (gW_cons g gW_nil) x hx).len, ?_⟩
    show hI (I.getD j "") = hI s
    rw [e]
  rw [by_items D.str hI I ""]
  conv => whnf
  refine ⟨by rw [List.length_map]; show 1 + I.length ≤ 4000000; omega, ?_⟩
  (dsimp only [ents, put, List.map, arE, nos, List.length, List.append, HAppend.hAppend, Append.append, Nat.reduceAdd, Nat.reduceSub, Nat.zero_add]; try dsimp only [List.append_eq])
  conv => whnf
  refine ⟨rfl, ?_⟩
  conv => whnf
  refine ⟨rfl, _, rfl, ?_⟩
  conv => whnf
  refine ⟨by rw [List.length_map]; omega, fun j => hL (L.getD j ("", 0, 0)), ?_, ?_⟩
  · rintro j d hj hd
    obtain ⟨q, hs, rfl⟩ := get_tri hd
    have e : L.getD j ("", 0, 0) = q := by rw [List.getD_eq_getElem?_getD, hs]; rfl
    have g := gv.gl q (List.mem_of_getElem? hs)
    conv => whnf
    refine ⟨"latch", [.str q.1, .int q.2.1, .int q.2.2], wL q, rfl, rfl, ts_cons (.inr rfl) (ts_cons (ts_n g.2.1.1 g.2.1.2) (ts_cons (ts_n g.2.2.1 g.2.2.2) ts_nil)), (Nat.le_of_ble_eq_true rfl), fun x hx => (gW_cons gW_words.2.1 (gW_cons g.1 (gW_cons (gW_n g.2.1.1 g.2.1.2) (gW_cons (gW_n g.2.2.1 g.2.2.2) gW_nil))) x hx).len, ?_⟩
    show hL (L.getD j ("", 0, 0)) = hL q
    rw [e]
  rw [by_items tri hL L ("", 0, 0)]
  conv => whnf
  refine ⟨by simp only [List.length_append, List.length_map, List.length_cons, List.length_nil]; omega, ?_⟩
  (dsimp only [ents, put, List.map, arE, nos, List.length, List.append, HAppend.hAppend, Append.append, Nat.reduceAdd, Nat.reduceSub, Nat.zero_add]; try dsimp only [List.append_eq])
  conv => whnf
  refine ⟨rfl, ?_⟩
  conv => whnf
  refine ⟨rfl, _, rfl, ?_⟩
  conv => whnf
  refine ⟨by rw [List.length_map]; omega, fun j => hA (A.getD j (0, 0)), ?_, ?_⟩
  · rintro j d hj hd
    obtain ⟨q, hs, rfl⟩ := get_pr hd
    have e : A.getD j (0, 0) = q := by rw [List.getD_eq_getElem?_getD, hs]; rfl
    have g := gv.ga q (List.mem_of_getElem? hs)
    conv => whnf
    refine ⟨"and", [.int q.1, .int q.2], wA q, rfl, rfl, ts_cons (ts_n g.1.1 g.1.2) (ts_cons (ts_n g.2.1 g.2.2) ts_nil), (Nat.le_of_ble_eq_true rfl), fun x hx => (gW_cons gW_words.2.2.1 (gW_cons (gW_n g.1.1 g.1.2) (gW_cons (gW_n g.2.1 g.2.2) gW_nil)) x hx).len, ?_⟩
    show hA (A.getD j (0, 0)) = hA q
    rw [e]
  rw [by_items pr hA A (0, 0)]
  conv => whnf
  refine ⟨by simp only [List.length_append, List.length_map, List.length_cons, List.length_nil]; omega, ?_⟩
  (dsimp only [ents, put, List.map, arE, nos, List.length, List.append, HAppend.hAppend, Append.append, Nat.reduceAdd, Nat.reduceSub, Nat.zero_add]; try dsimp only [List.append_eq])
  conv => whnf
  refine ⟨rfl, ?_⟩
  conv => whnf
  refine ⟨rfl, _, rfl, ?_⟩
  conv => whnf
  refine ⟨by rw [List.length_map]; omega, fun j => hO (O.getD j ("", 0)), ?_, ?_⟩
  · rintro j d hj hd
    obtain ⟨q, hs, rfl⟩ := get_po hd
    have e : O.getD j ("", 0) = q := by rw [List.getD_eq_getElem?_getD, hs]; rfl
    have g := gv.go q (List.mem_of_getElem? hs)
    conv => whnf
    refine ⟨"output", [.str q.1, .int q.2], wO q, rfl, rfl, ts_cons (.inr rfl) (ts_cons (ts_n g.2.1 g.2.2) ts_nil), (Nat.le_of_ble_eq_true rfl), fun x hx => (gW_cons gW_words.2.2.2 (gW_cons g.1 (gW_cons (gW_n g.2.1 g.2.2) gW_nil)) x hx).len, ?_⟩
    show hO (O.getD j ("", 0)) = hO q
    rw [e]
  rw [by_items po hO O ("", 0)]
  conv => whnf
  refine ⟨by simp only [List.length_append, List.length_map, List.length_cons, List.length_nil]; omega, ?_⟩
  (dsimp only [ents, put, List.map, arE, nos, List.length, List.append, HAppend.hAppend, Append.append, Nat.reduceAdd, Nat.reduceSub, Nat.zero_add]; try dsimp only [List.append_eq])
  conv => whnf
  refine ⟨(CR I L A O).map ln, CR_lines I L A O, ?_, ?_⟩
  · have h1 := sum_le (f := fun x : Str => x.length) (b := 200) (l := (CR I L A O).map ln) (fun x hx => by
      obtain ⟨r, hr, rfl⟩ := List.mem_map.mp hx
      exact (okR_of (CR_gok gv r hr)).2)
    have h2 : ("" : Str).length = 0 := by decide +kernel
    rw [List.length_map, CR_len] at h1 ⊢
    rw [h2]
    omega
  rw [join_ln]
  exact hq
theorem ok_read_circuit {f : Addr} {fd : FuncData} (F : Fun K "read_circuit" "read_circuit" s_read_circuit f fd) (T : Txt K mg C_Net C_Circuit C_LineReader w D_GREATEST_COUNTS f_input_of f_latch_of f_and_of f_output_of) (m_LineReader : MakM P w K mg base "LineReader" C_LineReader 2 ["self", "text"] (R_LineReader_init)) (c_LineReader_finish : Met P w K mg base C_LineReader "finish" 3 ["self"] (R_LineReader_finish (K := K) C_LineReader)) (c_circuit_of : Cal P w K mg base "circuit_of" 8 ["parts"] (R_circuit_of C_Net C_Circuit)) (c_take_circuit : CalM P w K mg base "take_circuit" C_LineReader 6 ["reader"] (R_take_circuit)) : FnOk P w K mg base CX0 9 f fd ["text"] (spOf K ((R_read_circuit C_Net C_Circuit))) := by
  refine fnok F sc_read_circuit (fun as Q h => ?_) (by decide) fun cdv A outer s H E hr => ?_
  · first | (obtain ⟨e, _⟩ := h; rw [e]; rfl) | (obtain ⟨_, e, _⟩ := h; rw [e]; rfl) | (obtain ⟨_, _, e, _⟩ := h; rw [e]; rfl) | (obtain ⟨_, _, _, e, _⟩ := h; rw [e]; rfl) | (obtain ⟨_, _, _, _, e, _⟩ := h; rw [e]; rfl) | (obtain ⟨_, _, _, _, _, e, _⟩ := h; rw [e]; rfl) | (obtain ⟨_, _, _, _, _, _, e, _⟩ := h; rw [e]; rfl) | (obtain ⟨_, _, _, _, _, _, _, e, _⟩ := h; rw [e]; rfl) | (obtain ⟨_, _, _, _, _, _, _, _, e, _⟩ := h; rw [e]; rfl) | (obtain ⟨_, _, _, _, _, _, _, _, _, e, _⟩ := h; rw [e]; rfl) | (obtain ⟨_, _, _, _, _, _, _, _, _, _, e, _⟩ := h; rw [e]; rfl) | (obtain ⟨_, _, _, _, _, _, _, _, _, _, _, e, _⟩ := h; rw [e]; rfl) | (obtain ⟨_, _, _, _, _, _, _, _, _, _, _, _, e, _⟩ := h; rw [e]; rfl) | (obtain ⟨_, _, _, _, _, _, _, _, _, _, _, _, _, e, _⟩ := h; rw [e]; rfl) | (obtain ⟨e1, e2, e3, _⟩ := h; subst e1 e2 e3; exact ⟨rfl, rfl, DicB.one _⟩) | (obtain ⟨_, e1, e2, e3, _⟩ := h; subst e1 e2 e3; exact ⟨rfl, rfl, DicB.one _⟩) | (obtain ⟨_, _, e1, e2, e3, _⟩ := h; subst e1 e2 e3; exact ⟨rfl, rfl, DicB.one _⟩) | (obtain ⟨_, _, _, e1, e2, e3, _⟩ := h; subst e1 e2 e3; exact ⟨rfl, rfl, DicB.one _⟩) | (obtain ⟨_, _, _, _, e1, e2, e3, _⟩ := h; subst e1 e2 e3; exact ⟨rfl, rfl, DicB.one _⟩) | (obtain ⟨_, _, _, _, _, e1, e2, e3, _⟩ := h; subst e1 e2 e3; exact ⟨rfl, rfl, DicB.one _⟩) | (obtain ⟨_, _, _, _, _, _, e1, e2, e3, _⟩ := h; subst e1 e2 e3; exact ⟨rfl, rfl, DicB.one _⟩) | (obtain ⟨_, _, _, _, _, _, _, e1, e2, e3, _⟩ := h; subst e1 e2 e3; exact ⟨rfl, rfl, DicB.one _⟩) | (obtain ⟨_, _, _, _, _, _, _, _, e1, e2, e3, _⟩ := h; subst e1 e2 e3; exact ⟨rfl, rfl, DicB.one _⟩) | (obtain ⟨_, _, _, _, _, _, _, _, _, e1, e2, e3, _⟩ := h; subst e1 e2 e3; exact ⟨rfl, rfl, DicB.one _⟩) | (obtain ⟨_, _, _, _, _, _, _, _, _, _, e1, e2, e3, _⟩ := h; subst e1 e2 e3; exact ⟨rfl, rfl, DicB.one _⟩) | (obtain ⟨_, _, _, _, _, _, _, _, _, _, _, e1, e2, e3, _⟩ := h; subst e1 e2 e3; exact ⟨rfl, rfl, DicB.one _⟩)
  refine ⟨_, b_cons (s_newO 1 m_LineReader hr sc_read_circuit.nd (a_d (x_v 0) (a_nil))) (b_cons (s_setM 2 sc_read_circuit.nd (m_calO 1 c_take_circuit hr (m_nil))) (b_cons (s_drop (x_omet0 1 c_LineReader_finish T.cl_LineReader hr)) (b_one (s_ret (x_cal c_circuit_of hr (a_d (x_v 2) (a_nil))))))), ?_⟩
  rintro as Q ⟨I, L, A, O, rfl, cv, hq⟩
  have hlen : (CR I L A O).length ≤ 4000 := by
    rw [CR_len]
    have := cv.small
    have := cv.o
    omega
  walk_at "go"
  conv => whnf
  refine ⟨fun r hr => okR_of (CR_ok cv r hr), hlen, rfl, fun p fp1 => ?_⟩
  (dsimp only [ents, put, List.map, arE, nos, List.length, List.append, HAppend.hAppend, Append.append, Nat.reduceAdd, Nat.reduceSub, Nat.zero_add]; try dsimp only [List.append_eq])
  conv => whnf
  refine ⟨p, _, _, rfl, ?_⟩
  conv => whnf
  refine ⟨p, _, _, rfl, rfl, I, L, A, O, rfl, rfl, cv, fun fp2 => ?_⟩
  (dsimp only [ents, put, List.map, arE, nos, List.length, List.append, HAppend.hAppend, Append.append, Nat.reduceAdd, Nat.reduceSub, Nat.zero_add]; try dsimp only [List.append_eq])
  conv => whnf
  refine ⟨_, .inl ⟨_, _, rfl⟩, ?_⟩
  conv => whnf
  refine ⟨List.cons_ne_nil _ _, rfl, _, _, rfl, rfl, ?_⟩
  conv => whnf
  exact ⟨I, L, A, O, rfl, cv, hq⟩
theorem ok_take_circuit {f : Addr} {fd : FuncData} (F : Fun K "take_circuit" "take_circuit" s_take_circuit f fd) (T : Txt K mg C_Net C_Circuit C_LineReader w D_GREATEST_COUNTS f_input_of f_latch_of f_and_of f_output_of) (c_LineReader_take_entries : MetM P w K mg base C_LineReader "take_entries" 5 ["self", "word", "entry_of"] (R_LineReader_take_entries C_Net C_Circuit f_input_of f_latch_of f_and_of f_output_of)) (c_LineReader_take_title : MetM P w K mg base C_LineReader "take_title" 3 ["self", "word"] (R_LineReader_take_title)) : FnOk P w K mg base CX0 6 f fd ["reader"] (spOfM K C_LineReader (R_take_circuit)) := by
  refine fnokM F sc_take_circuit (fun fs as Q h => ?_) (by decide) fun cdv A outer s H E hr => ?_
  · first | (obtain ⟨e, _⟩ := h; rw [e]; rfl) | (obtain ⟨_, e, _⟩ := h; rw [e]; rfl) | (obtain ⟨_, _, e, _⟩ := h; rw [e]; rfl) | (obtain ⟨_, _, _, e, _⟩ := h; rw [e]; rfl) | (obtain ⟨_, _, _, _, e, _⟩ := h; rw [e]; rfl) | (obtain ⟨_, _, _, _, _, e, _⟩ := h; rw [e]; rfl) | (obtain ⟨_, _, _, _, _, _, e, _⟩ := h; rw [e]; rfl) | (obtain ⟨_, _, _, _, _, _, _, e, _⟩ := h; rw [e]; rfl) | (obtain ⟨_, _, _, _, _, _, _, _, e, _⟩ := h; rw [e]; rfl) | (obtain ⟨_, _, _, _, _, _, _, _, _, e, _⟩ := h; rw [e]; rfl) | (obtain ⟨_, _, _, _, _, _, _, _, _, _, e, _⟩ := h; rw [e]; rfl) | (obtain ⟨_, _, _, _, _, _, _, _, _, _, _, e, _⟩ := h; rw [e]; rfl) | (obtain ⟨_, _, _, _, _, _, _, _, _, _, _, _, e, _⟩ := h; rw [e]; rfl) | (obtain ⟨_, _, _, _, _, _, _, _, _, _, _, _, _, e, _⟩ := h; rw [e]; rfl) | (obtain ⟨e1, e2, e3, _⟩ := h; subst e1 e2 e3; exact ⟨rfl, rfl, DicB.one _⟩) | (obtain ⟨_, e1, e2, e3, _⟩ := h; subst e1 e2 e3; exact ⟨rfl, rfl, DicB.one _⟩) | (obtain ⟨_, _, e1, e2, e3, _⟩ := h; subst e1 e2 e3; exact ⟨rfl, rfl, DicB.one _⟩) | (obtain ⟨_, _, _, e1, e2, e3, _⟩ := h; subst e1 e2 e3; exact ⟨rfl, rfl, DicB.one _⟩) | (obtain ⟨_, _, _, _, e1, e2, e3, _⟩ := h; subst e1 e2 e3; exact ⟨rfl, rfl, DicB.one _⟩) | (obtain ⟨_, _, _, _, _, e1, e2, e3, _⟩ := h; subst e1 e2 e3; exact ⟨rfl, rfl, DicB.one _⟩) | (obtain ⟨_, _, _, _, _, _, e1, e2, e3, _⟩ := h; subst e1 e2 e3; exact ⟨rfl, rfl, DicB.one _⟩) | (obtain ⟨_, _, _, _, _, _, _, e1, e2, e3, _⟩ := h; subst e1 e2 e3; exact ⟨rfl, rfl, DicB.one _⟩) | (obtain ⟨_, _, _, _, _, _, _, _, e1, e2, e3, _⟩ := h; subst e1 e2 e3; exact ⟨rfl, rfl, DicB.one _⟩) | (obtain ⟨_, _, _, _, _, _, _, _, _, e1, e2, e3, _⟩ := h; subst e1 e2 e3; exact ⟨rfl, rfl, DicB.one _⟩) | (obtain ⟨_, _, _, _, _, _, _, _, _, _, e1, e2, e3, _⟩ := h; subst e1 e2 e3; exact ⟨rfl, rfl, DicB.one _⟩) | (obtain ⟨_, _, _, _, _, _, _, _, _, _, _, e1, e2, e3, _⟩ := h; subst e1 e2 e3; exact ⟨rfl, rfl, DicB.one _⟩)
  refine ⟨_, b_cons (s_dropM (m_met 0 c_LineReader_take_title T.cl_LineReader hr (m_cons (m_e (x_s)) (m_nil)))) (b_cons (s_setM 1 sc_take_circuit.nd (m_met 0 c_LineReader_take_entries T.cl_LineReader hr (m_cons (m_e (x_s)) (m_cons (m_e (x_fn T.gF_input_of)) (m_nil))))) (b_cons (s_setM 2 sc_take_circuit.nd (m_met 0 c_LineReader_take_entries T.cl_LineReader hr (m_cons (m_e (x_s)) (m_cons (m_e (x_fn T.gF_latch_of)) (m_nil))))) (b_cons (s_setM 3 sc_take_circuit.nd (m_met 0 c_LineReader_take_entries T.cl_LineReader hr (m_cons (m_e (x_s)) (m_cons (m_e (x_fn T.gF_and_of)) (m_nil))))) (b_cons (s_setM 4 sc_take_circuit.nd (m_met 0 c_LineReader_take_entries T.cl_LineReader hr (m_cons (m_e (x_s)) (m_cons (m_e (x_fn T.gF_output_of)) (m_nil))))) (b_one (s_retM (m_e (x_tup (a_d (x_v 1) (a_d (x_v 2) (a_d (x_v 3) (a_d (x_v 4) (a_nil))))))))))))), ?_⟩
  rintro p fp fs as Q ⟨I, L, A, O, rfl, rfl, cv, hq⟩
  have c1 := cv.i
  have c2 := cv.l
  have c3 := cv.a
  have c4 := cv.o
  conv => whnf
  refine ⟨p, _, _, rfl, rfl, p, _, _, rfl, rfl, CR I L A O, 0, "circuit", rfl, rfl, rfl, by decide +kernel, fun fp1 => ?_⟩
  (dsimp only [ents, put, List.map, arE, nos, List.length, List.append, HAppend.hAppend, Append.append, Nat.reduceAdd, Nat.reduceSub, Nat.zero_add]; try dsimp only [List.append_eq])
  conv => whnf
  refine ⟨p, _, _, rfl, rfl, ?_⟩
  conv => whnf
  refine ⟨p, _, _, rfl, rfl, [[("circuit" : Str)]], I.map wI, secR "latch" wL L ++ secR "and" wA A ++ secR "output" wO O, "input", f_input_of, R_input_of C_Net C_Circuit, I.map D.str, rfl, ?_, by simp, by simp, by simp; omega, fun j ws e h1 h2 => ?_, ?_, fun fp2 => ?_⟩
  · exact congrArg (fun z => RF z 1) (by unfold CR; simp only [List.append_assoc]; rfl)
  · obtain ⟨x, hx, rfl, rfl⟩ := get_two h1 h2
    exact ⟨rfl, fun Q' q => ⟨x, rfl, q⟩⟩
  · exact post_app (post_app (post_ne (by decide +kernel)) (post_ne (by decide +kernel))) (post_ne (by decide +kernel))
  (dsimp only [ents, put, List.map, arE, nos, List.length, List.append, HAppend.hAppend, Append.append, Nat.reduceAdd, Nat.reduceSub, Nat.zero_add]; try dsimp only [List.append_eq])
  conv => whnf
  refine ⟨p, _, _, rfl, rfl, ?_⟩
  conv => whnf
  refine ⟨p, _, _, rfl, rfl, [[("circuit" : Str)]] ++ secR "input" wI I, L.map wL, secR "and" wA A ++ secR "output" wO O, "latch", f_latch_of, R_latch_of C_Net C_Circuit, L.map tri, rfl, ?_, by simp, by simp, by simp; omega, fun j ws e h1 h2 => ?_, ?_, fun fp3 => ?_⟩
  · exact RF_eq (by simp only [List.append_assoc]; rfl) (by simp [secR] <;> omega)
  · obtain ⟨x, hx, rfl, rfl⟩ := get_two h1 h2
    have h := cv.lv hx
    exact ⟨rfl, fun Q' q => ⟨x, rfl, h.2.1.1, h.2.1.2, h.2.2.1, h.2.2.2, q⟩⟩
  · exact post_app (post_ne (by decide +kernel)) (post_ne (by decide +kernel))
  (dsimp only [ents, put, List.map, arE, nos, List.length, List.append, HAppend.hAppend, Append.append, Nat.reduceAdd, Nat.reduceSub, Nat.zero_add]; try dsimp only [List.append_eq])
  conv => whnf
  refine ⟨p, _, _, rfl, rfl, ?_⟩
  conv => whnf
  refine ⟨p, _, _, rfl, rfl, [[("circuit" : Str)]] ++ secR "input" wI I ++ secR "latch" wL L, A.map wA, secR "output" wO O, "and", f_and_of, R_and_of C_Net C_Circuit, A.map pr, rfl, ?_, by simp, by simp, by simp; omega, fun j ws e h1 h2 => ?_, ?_, fun fp4 => ?_⟩
  · exact RF_eq (by simp only [List.append_assoc]; rfl) (by simp [secR] <;> omega)
  · obtain ⟨x, hx, rfl, rfl⟩ := get_two h1 h2
    have h := cv.av hx
    exact ⟨rfl, fun Q' q => ⟨x, rfl, h.1.1, h.1.2, h.2.1, h.2.2, q⟩⟩
  · exact post_ne (by decide +kernel)
  (dsimp only [ents, put, List.map, arE, nos, List.length, List.append, HAppend.hAppend, Append.append, Nat.reduceAdd, Nat.reduceSub, Nat.zero_add]; try dsimp only [List.append_eq])
  conv => whnf
  refine ⟨p, _, _, rfl, rfl, ?_⟩
  conv => whnf
  refine ⟨p, _, _, rfl, rfl, [[("circuit" : Str)]] ++ secR "input" wI I ++ secR "latch" wL L ++ secR "and" wA A, O.map wO, [], "output", f_output_of, R_output_of C_Net C_Circuit, O.map po, rfl, ?_, by simp, by simp, by simp; omega, fun j ws e h1 h2 => ?_, post_nil, fun fp5 => ?_⟩
  · exact RF_eq (by simp only [List.append_assoc, List.append_nil]; rfl) (by simp [secR] <;> omega)
  · obtain ⟨x, hx, rfl, rfl⟩ := get_two h1 h2
    have h := cv.ov hx
    exact ⟨rfl, fun Q' q => ⟨x, rfl, h.2.1, h.2.2, q⟩⟩
  (dsimp only [ents, put, List.map, arE, nos, List.length, List.append, HAppend.hAppend, Append.append, Nat.reduceAdd, Nat.reduceSub, Nat.zero_add]; try dsimp only [List.append_eq])
  conv => whnf
  refine ⟨by show 4 ≤ 1000; decide, ?_⟩
  conv => whnf
  refine ⟨_, _, rfl, ?_⟩
  refine Eq.mp (congrArg (Q _) (RF_eq ?_ ?_)) hq
  · unfold CR
    simp only [List.append_nil]
    rfl
  · rw [CR_len]
    simp [secR] <;> omega
theorem ok_circuit_of {f : Addr} {fd : FuncData} (F : Fun K "circuit_of" "circuit_of" s_circuit_of f fd) (T : Txt K mg C_Net C_Circuit C_LineReader w D_GREATEST_COUNTS f_input_of f_latch_of f_and_of f_output_of) (m_Circuit : Mak P w K mg base "Circuit" C_Circuit 6 ["self", "inputs", "latches", "ands", "outputs"] (R_Circuit_init C_Net C_Circuit)) : FnOk P w K mg base CX0 8 f fd ["parts"] (spOf K ((R_circuit_of C_Net C_Circuit))) := by
  refine fnok F sc_circuit_of (fun as Q h => ?_) (by decide) fun cdv A outer s H E hr => ?_
  · first | (obtain ⟨e, _⟩ := h; rw [e]; rfl) | (obtain ⟨_, e, _⟩ := h; rw [e]; rfl) | (obtain ⟨_, _, e, _⟩ := h; rw [e]; rfl) | (obtain ⟨_, _, _, e, _⟩ := h; rw [e]; rfl) | (obtain ⟨_, _, _, _, e, _⟩ := h; rw [e]; rfl) | (obtain ⟨_, _, _, _, _, e, _⟩ := h; rw [e]; rfl) | (obtain ⟨_, _, _, _, _, _, e, _⟩ := h; rw [e]; rfl) | (obtain ⟨_, _, _, _, _, _, _, e, _⟩ := h; rw [e]; rfl) | (obtain ⟨_, _, _, _, _, _, _, _, e, _⟩ := h; rw [e]; rfl) | (obtain ⟨_, _, _, _, _, _, _, _, _, e, _⟩ := h; rw [e]; rfl) | (obtain ⟨_, _, _, _, _, _, _, _, _, _, e, _⟩ := h; rw [e]; rfl) | (obtain ⟨_, _, _, _, _, _, _, _, _, _, _, e, _⟩ := h; rw [e]; rfl) | (obtain ⟨_, _, _, _, _, _, _, _, _, _, _, _, e, _⟩ := h; rw [e]; rfl) | (obtain ⟨_, _, _, _, _, _, _, _, _, _, _, _, _, e, _⟩ := h; rw [e]; rfl) | (obtain ⟨e1, e2, e3, _⟩ := h; subst e1 e2 e3; exact ⟨rfl, rfl, DicB.one _⟩) | (obtain ⟨_, e1, e2, e3, _⟩ := h; subst e1 e2 e3; exact ⟨rfl, rfl, DicB.one _⟩) | (obtain ⟨_, _, e1, e2, e3, _⟩ := h; subst e1 e2 e3; exact ⟨rfl, rfl, DicB.one _⟩) | (obtain ⟨_, _, _, e1, e2, e3, _⟩ := h; subst e1 e2 e3; exact ⟨rfl, rfl, DicB.one _⟩) | (obtain ⟨_, _, _, _, e1, e2, e3, _⟩ := h; subst e1 e2 e3; exact ⟨rfl, rfl, DicB.one _⟩) | (obtain ⟨_, _, _, _, _, e1, e2, e3, _⟩ := h; subst e1 e2 e3; exact ⟨rfl, rfl, DicB.one _⟩) | (obtain ⟨_, _, _, _, _, _, e1, e2, e3, _⟩ := h; subst e1 e2 e3; exact ⟨rfl, rfl, DicB.one _⟩) | (obtain ⟨_, _, _, _, _, _, _, e1, e2, e3, _⟩ := h; subst e1 e2 e3; exact ⟨rfl, rfl, DicB.one _⟩) | (obtain ⟨_, _, _, _, _, _, _, _, e1, e2, e3, _⟩ := h; subst e1 e2 e3; exact ⟨rfl, rfl, DicB.one _⟩) | (obtain ⟨_, _, _, _, _, _, _, _, _, e1, e2, e3, _⟩ := h; subst e1 e2 e3; exact ⟨rfl, rfl, DicB.one _⟩) | (obtain ⟨_, _, _, _, _, _, _, _, _, _, e1, e2, e3, _⟩ := h; subst e1 e2 e3; exact ⟨rfl, rfl, DicB.one _⟩) | (obtain ⟨_, _, _, _, _, _, _, _, _, _, _, e1, e2, e3, _⟩ := h; subst e1 e2 e3; exact ⟨rfl, rfl, DicB.one _⟩)
  refine ⟨_, b_cons (s_asg (x_v 0) (g_tup (n := 4) rfl (g_cons (g_n 1 sc_circuit_of.nd) (g_cons (g_n 2 sc_circuit_of.nd) (g_cons (g_n 3 sc_circuit_of.nd) (g_cons (g_n 4 sc_circuit_of.nd) (g_nil))))))) (b_one (s_ret (x_mak m_Circuit hr (a_d (x_v 1) (a_d (x_v 2) (a_d (x_v 3) (a_d (x_v 4) (a_nil)))))))), ?_⟩
  rintro as Q ⟨I, L, A, O, rfl, cv, hq⟩
  walk_at "go"
  conv => whnf
  exact ⟨I, L, A, O, rfl, cv, hq⟩
theorem ok_input_of {f : Addr} {fd : FuncData} (F : Fun K "_input_of" "_input_of" s_input_of f fd) (T : Txt K mg C_Net C_Circuit C_LineReader w D_GREATEST_COUNTS f_input_of f_latch_of f_and_of f_output_of)  : FnOk P w K mg base CX0 2 f fd ["words"] (spOf K ((R_input_of C_Net C_Circuit))) := by
  refine fnok F sc_input_of (fun as Q h => ?_) (by decide) fun cdv A outer s H E hr => ?_
  · first | (obtain ⟨e, _⟩ := h; rw [e]; rfl) | (obtain ⟨_, e, _⟩ := h; rw [e]; rfl) | (obtain ⟨_, _, e, _⟩ := h; rw [e]; rfl) | (obtain ⟨_, _, _, e, _⟩ := h; rw [e]; rfl) | (obtain ⟨_, _, _, _, e, _⟩ := h; rw [e]; rfl) | (obtain ⟨_, _, _, _, _, e, _⟩ := h; rw [e]; rfl) | (obtain ⟨_, _, _, _, _, _, e, _⟩ := h; rw [e]; rfl) | (obtain ⟨_, _, _, _, _, _, _, e, _⟩ := h; rw [e]; rfl) | (obtain ⟨_, _, _, _, _, _, _, _, e, _⟩ := h; rw [e]; rfl) | (obtain ⟨_, _, _, _, _, _, _, _, _, e, _⟩ := h; rw [e]; rfl) | (obtain ⟨_, _, _, _, _, _, _, _, _, _, e, _⟩ := h; rw [e]; rfl) | (obtain ⟨_, _, _, _, _, _, _, _, _, _, _, e, _⟩ := h; rw [e]; rfl) | (obtain ⟨_, _, _, _, _, _, _, _, _, _, _, _, e, _⟩ := h; rw [e]; rfl) | (obtain ⟨_, _, _, _, _, _, _, _, _, _, _, _, _, e, _⟩ := h; rw [e]; rfl) | (obtain ⟨e1, e2, e3, _⟩ := h; subst e1 e2 e3; exact ⟨rfl, rfl, DicB.one _⟩) | (obtain ⟨_, e1, e2, e3, _⟩ := h; subst e1 e2 e3; exact ⟨rfl, rfl, DicB.one _⟩) | (obtain ⟨_, _, e1, e2, e3, _⟩ := h; subst e1 e2 e3; exact ⟨rfl, rfl, DicB.one _⟩) | (obtain ⟨_, _, _, e1, e2, e3, _⟩ := h; subst e1 e2 e3; exact ⟨rfl, rfl, DicB.one _⟩) | (obtain ⟨_, _, _, _, e1, e2, e3, _⟩ := h; subst e1 e2 e3; exact ⟨rfl, rfl, DicB.one _⟩) | (obtain ⟨_, _, _, _, _, e1, e2, e3, _⟩ := h; subst e1 e2 e3; exact ⟨rfl, rfl, DicB.one _⟩) | (obtain ⟨_, _, _, _, _, _, e1, e2, e3, _⟩ := h; subst e1 e2 e3; exact ⟨rfl, rfl, DicB.one _⟩) | (obtain ⟨_, _, _, _, _, _, _, e1, e2, e3, _⟩ := h; subst e1 e2 e3; exact ⟨rfl, rfl, DicB.one _⟩) | (obtain ⟨_, _, _, _, _, _, _, _, e1, e2, e3, _⟩ := h; subst e1 e2 e3; exact ⟨rfl, rfl, DicB.one _⟩) | (obtain ⟨_, _, _, _, _, _, _, _, _, e1, e2, e3, _⟩ := h; subst e1 e2 e3; exact ⟨rfl, rfl, DicB.one _⟩) | (obtain ⟨_, _, _, _, _, _, _, _, _, _, e1, e2, e3, _⟩ := h; subst e1 e2 e3; exact ⟨rfl, rfl, DicB.one _⟩) | (obtain ⟨_, _, _, _, _, _, _, _, _, _, _, e1, e2, e3, _⟩ := h; subst e1 e2 e3; exact ⟨rfl, rfl, DicB.one _⟩)
  refine ⟨_, b_cons (s_if (t_cmp (h_ne hr) (x_len T.len (r_v 0)) (x_i)) (b_one (s_ret (x_n))) (b_nil)) (b_one (s_ret (x_ixL (r_v 0) (x_i)))), ?_⟩
  rintro as Q ⟨s, rfl, hq⟩
  conv => whnf
  refine ⟨fun h => (by simp [wI] at h), fun _ => ?_⟩
  walk_at "go"
  conv => whnf
  exact hq
theorem ok_latch_of {f : Addr} {fd : FuncData} (F : Fun K "_latch_of" "_latch_of" s_latch_of f fd) (T : Txt K mg C_Net C_Circuit C_LineReader w D_GREATEST_COUNTS f_input_of f_latch_of f_and_of f_output_of) (c_numbers_of : Cal P w K mg base "numbers_of" 3 ["words"] (R_numbers_of C_Net C_Circuit)) : FnOk P w K mg base CX0 4 f fd ["words"] (spOf K ((R_latch_of C_Net C_Circuit))) := by
  refine fnok F sc_latch_of (fun as Q h => ?_) (by decide) fun cdv A outer s H E hr => ?_
  · first | (obtain ⟨e, _⟩ := h; rw [e]; rfl) | (obtain ⟨_, e, _⟩ := h; rw [e]; rfl) | (obtain ⟨_, _, e, _⟩ := h; rw [e]; rfl) | (obtain ⟨_, _, _, e, _⟩ := h; rw [e]; rfl) | (obtain ⟨_, _, _, _, e, _⟩ := h; rw [e]; rfl) | (obtain ⟨_, _, _, _, _, e, _⟩ := h; rw [e]; rfl) | (obtain ⟨_, _, _, _, _, _, e, _⟩ := h; rw [e]; rfl) | (obtain ⟨_, _, _, _, _, _, _, e, _⟩ := h; rw [e]; rfl) | (obtain ⟨_, _, _, _, _, _, _, _, e, _⟩ := h; rw [e]; rfl) | (obtain ⟨_, _, _, _, _, _, _, _, _, e, _⟩ := h; rw [e]; rfl) | (obtain ⟨_, _, _, _, _, _, _, _, _, _, e, _⟩ := h; rw [e]; rfl) | (obtain ⟨_, _, _, _, _, _, _, _, _, _, _, e, _⟩ := h; rw [e]; rfl) | (obtain ⟨_, _, _, _, _, _, _, _, _, _, _, _, e, _⟩ := h; rw [e]; rfl) | (obtain ⟨_, _, _, _, _, _, _, _, _, _, _, _, _, e, _⟩ := h; rw [e]; rfl) | (obtain ⟨e1, e2, e3, _⟩ := h; subst e1 e2 e3; exact ⟨rfl, rfl, DicB.one _⟩) | (obtain ⟨_, e1, e2, e3, _⟩ := h; subst e1 e2 e3; exact ⟨rfl, rfl, DicB.one _⟩) | (obtain ⟨_, _, e1, e2, e3, _⟩ := h; subst e1 e2 e3; exact ⟨rfl, rfl, DicB.one _⟩) | (obtain ⟨_, _, _, e1, e2, e3, _⟩ := h; subst e1 e2 e3; exact ⟨rfl, rfl, DicB.one _⟩) | (obtain ⟨_, _, _, _, e1, e2, e3, _⟩ := h; subst e1 e2 e3; exact ⟨rfl, rfl, DicB.one _⟩) | (obtain ⟨_, _, _, _, _, e1, e2, e3, _⟩ := h; subst e1 e2 e3; exact ⟨rfl, rfl, DicB.one _⟩) | (obtain ⟨_, _, _, _, _, _, e1, e2, e3, _⟩ := h; subst e1 e2 e3; exact ⟨rfl, rfl, DicB.one _⟩) | (obtain ⟨_, _, _, _, _, _, _, e1, e2, e3, _⟩ := h; subst e1 e2 e3; exact ⟨rfl, rfl, DicB.one _⟩) | (obtain ⟨_, _, _, _, _, _, _, _, e1, e2, e3, _⟩ := h; subst e1 e2 e3; exact ⟨rfl, rfl, DicB.one _⟩) | (obtain ⟨_, _, _, _, _, _, _, _, _, e1, e2, e3, _⟩ := h; subst e1 e2 e3; exact ⟨rfl, rfl, DicB.one _⟩) | (obtain ⟨_, _, _, _, _, _, _, _, _, _, e1, e2, e3, _⟩ := h; subst e1 e2 e3; exact ⟨rfl, rfl, DicB.one _⟩) | (obtain ⟨_, _, _, _, _, _, _, _, _, _, _, e1, e2, e3, _⟩ := h; subst e1 e2 e3; exact ⟨rfl, rfl, DicB.one _⟩)
  refine ⟨_, b_cons (s_set 1 sc_latch_of.nd (x_cal c_numbers_of hr (a_d (x_l (l_sl (r_v 0) (o_some (x_i)) (o_no))) (a_nil)))) (b_cons (s_if (t_pw (t_or (t_cmp (h_ne hr) (x_len T.len (r_v 0)) (x_i)) (t_or1 (t_cmp h_isN (x_v 1) x_n)))) (b_one (s_ret (x_n))) (b_nil)) (b_one (s_ret (x_tup (a_d (x_ixL (r_v 0) (x_i)) (a_d (x_ix (x_v 1) (x_i)) (a_d (x_ix (x_v 1) (x_i)) (a_nil)))))))), ?_⟩
  rintro as Q ⟨⟨s, x, y⟩, rfl, x0, x1, y0, y1, hq⟩
  conv => whnf
  refine ⟨[x, y], rfl, ?_, (Nat.le_of_ble_eq_true rfl), ?_⟩
  · intro n hn
    simp only [List.mem_cons, List.not_mem_nil, or_false] at hn
    rcases hn with rfl | rfl
    · exact ⟨x0, x1⟩
    · exact ⟨y0, y1⟩
  conv => whnf
  refine ⟨fun h => (by simp [wL] at h), fun _ => ?_⟩
  conv => whnf
  refine ⟨rfl, false, rfl, ?_⟩
  conv => whnf
  refine ⟨fun h => (by simp at h), fun _ => ?_⟩
  walk_at "go"
  conv => whnf
  exact hq
theorem ok_and_of {f : Addr} {fd : FuncData} (F : Fun K "_and_of" "_and_of" s_and_of f fd) (T : Txt K mg C_Net C_Circuit C_LineReader w D_GREATEST_COUNTS f_input_of f_latch_of f_and_of f_output_of) (c_numbers_of : Cal P w K mg base "numbers_of" 3 ["words"] (R_numbers_of C_Net C_Circuit)) : FnOk P w K mg base CX0 4 f fd ["words"] (spOf K ((R_and_of C_Net C_Circuit))) := by
  refine fnok F sc_and_of (fun as Q h => ?_) (by decide) fun cdv A outer s H E hr => ?_
  · first | (obtain ⟨e, _⟩ := h; rw [e]; rfl) | (obtain ⟨_, e, _⟩ := h; rw [e]; rfl) | (obtain ⟨_, _, e, _⟩ := h; rw [e]; rfl) | (obtain ⟨_, _, _, e, _⟩ := h; rw [e]; rfl) | (obtain ⟨_, _, _, _, e, _⟩ := h; rw [e]; rfl) | (obtain ⟨_, _, _, _, _, e, _⟩ := h; rw [e]; rfl) | (obtain ⟨_, _, _, _, _, _, e, _⟩ := h; rw [e]; rfl) | (obtain ⟨_, _, _, _, _, _, _, e, _⟩ := h; rw [e]; rfl) | (obtain ⟨_, _, _, _, _, _, _, _, e, _⟩ := h; rw [e]; rfl) | (obtain ⟨_, _, _, _, _, _, _, _, _, e, _⟩ := h; rw [e]; rfl) | (obtain ⟨_, _, _, _, _, _, _, _, _, _, e, _⟩ := h; rw [e]; rfl) | (obtain ⟨_, _, _, _, _, _, _, _, _, _, _, e, _⟩ := h; rw [e]; rfl) | (obtain ⟨_, _, _, _, _, _, _, _, _, _, _, _, e, _⟩ := h; rw [e]; rfl) | (obtain ⟨_, _, _, _, _, _, _, _, _, _, _, _, _, e, _⟩ := h; rw [e]; rfl) | (obtain ⟨e1, e2, e3, _⟩ := h; subst e1 e2 e3; exact ⟨rfl, rfl, DicB.one _⟩) | (obtain ⟨_, e1, e2, e3, _⟩ := h; subst e1 e2 e3; exact ⟨rfl, rfl, DicB.one _⟩) | (obtain ⟨_, _, e1, e2, e3, _⟩ := h; subst e1 e2 e3; exact ⟨rfl, rfl, DicB.one _⟩) | (obtain ⟨_, _, _, e1, e2, e3, _⟩ := h; subst e1 e2 e3; exact ⟨rfl, rfl, DicB.one _⟩) | (obtain ⟨_, _, _, _, e1, e2, e3, _⟩ := h; subst e1 e2 e3; exact ⟨rfl, rfl, DicB.one _⟩) | (obtain ⟨_, _, _, _, _, e1, e2, e3, _⟩ := h; subst e1 e2 e3; exact ⟨rfl, rfl, DicB.one _⟩) | (obtain ⟨_, _, _, _, _, _, e1, e2, e3, _⟩ := h; subst e1 e2 e3; exact ⟨rfl, rfl, DicB.one _⟩) | (obtain ⟨_, _, _, _, _, _, _, e1, e2, e3, _⟩ := h; subst e1 e2 e3; exact ⟨rfl, rfl, DicB.one _⟩) | (obtain ⟨_, _, _, _, _, _, _, _, e1, e2, e3, _⟩ := h; subst e1 e2 e3; exact ⟨rfl, rfl, DicB.one _⟩) | (obtain ⟨_, _, _, _, _, _, _, _, _, e1, e2, e3, _⟩ := h; subst e1 e2 e3; exact ⟨rfl, rfl, DicB.one _⟩) | (obtain ⟨_, _, _, _, _, _, _, _, _, _, e1, e2, e3, _⟩ := h; subst e1 e2 e3; exact ⟨rfl, rfl, DicB.one _⟩) | (obtain ⟨_, _, _, _, _, _, _, _, _, _, _, e1, e2, e3, _⟩ := h; subst e1 e2 e3; exact ⟨rfl, rfl, DicB.one _⟩)
  refine ⟨_, b_cons (s_if (t_cmp (h_ne hr) (x_len T.len (r_v 0)) (x_i)) (b_one (s_ret (x_n))) (b_nil)) (b_one (s_ret (x_cal c_numbers_of hr (a_d (x_v 0) (a_nil))))), ?_⟩
  rintro as Q ⟨⟨x, y⟩, rfl, x0, x1, y0, y1, hq⟩
  conv => whnf
  refine ⟨fun h => (by simp [wA] at h), fun _ => ?_⟩
  conv => whnf
  refine ⟨[x, y], rfl, ?_, (Nat.le_of_ble_eq_true rfl), hq⟩
  intro n hn
  simp only [List.mem_cons, List.not_mem_nil, or_false] at hn
  rcases hn with rfl | rfl
  · exact ⟨x0, x1⟩
  · exact ⟨y0, y1⟩
theorem ok_output_of {f : Addr} {fd : FuncData} (F : Fun K "_output_of" "_output_of" s_output_of f fd) (T : Txt K mg C_Net C_Circuit C_LineReader w D_GREATEST_COUNTS f_input_of f_latch_of f_and_of f_output_of) (c_numbers_of : Cal P w K mg base "numbers_of" 3 ["words"] (R_numbers_of C_Net C_Circuit)) : FnOk P w K mg base CX0 4 f fd ["words"] (spOf K ((R_output_of C_Net C_Circuit))) := by
  refine fnok F sc_output_of (fun as Q h => ?_) (by decide) fun cdv A outer s H E hr => ?_
  · first | (obtain ⟨e, _⟩ := h; rw [e]; rfl) | (obtain ⟨_, e, _⟩ := h; rw [e]; rfl) | (obtain ⟨_, _, e, _⟩ := h; rw [e]; rfl) | (obtain ⟨_, _, _, e, _⟩ := h; rw [e]; rfl) | (obtain ⟨_, _, _, _, e, _⟩ := h; rw [e]; rfl) | (obtain ⟨_, _, _, _, _, e, _⟩ := h; rw [e]; rfl) | (obtain ⟨_, _, _, _, _, _, e, _⟩ := h; rw [e]; rfl) | (obtain ⟨_, _, _, _, _, _, _, e, _⟩ := h; rw [e]; rfl) | (obtain ⟨_, _, _, _, _, _, _, _, e, _⟩ := h; rw [e]; rfl) | (obtain ⟨_, _, _, _, _, _, _, _, _, e, _⟩ := h; rw [e]; rfl) | (obtain ⟨_, _, _, _, _, _, _, _, _, _, e, _⟩ := h; rw [e]; rfl) | (obtain ⟨_, _, _, _, _, _, _, _, _, _, _, e, _⟩ := h; rw [e]; rfl) | (obtain ⟨_, _, _, _, _, _, _, _, _, _, _, _, e, _⟩ := h; rw [e]; rfl) | (obtain ⟨_, _, _, _, _, _, _, _, _, _, _, _, _, e, _⟩ := h; rw [e]; rfl) | (obtain ⟨e1, e2, e3, _⟩ := h; subst e1 e2 e3; exact ⟨rfl, rfl, DicB.one _⟩) | (obtain ⟨_, e1, e2, e3, _⟩ := h; subst e1 e2 e3; exact ⟨rfl, rfl, DicB.one _⟩) | (obtain ⟨_, _, e1, e2, e3, _⟩ := h; subst e1 e2 e3; exact ⟨rfl, rfl, DicB.one _⟩) | (obtain ⟨_, _, _, e1, e2, e3, _⟩ := h; subst e1 e2 e3; exact ⟨rfl, rfl, DicB.one _⟩) | (obtain ⟨_, _, _, _, e1, e2, e3, _⟩ := h; subst e1 e2 e3; exact ⟨rfl, rfl, DicB.one _⟩) | (obtain ⟨_, _, _, _, _, e1, e2, e3, _⟩ := h; subst e1 e2 e3; exact ⟨rfl, rfl, DicB.one _⟩) | (obtain ⟨_, _, _, _, _, _, e1, e2, e3, _⟩ := h; subst e1 e2 e3; exact ⟨rfl, rfl, DicB.one _⟩) | (obtain ⟨_, _, _, _, _, _, _, e1, e2, e3, _⟩ := h; subst e1 e2 e3; exact ⟨rfl, rfl, DicB.one _⟩) | (obtain ⟨_, _, _, _, _, _, _, _, e1, e2, e3, _⟩ := h; subst e1 e2 e3; exact ⟨rfl, rfl, DicB.one _⟩) | (obtain ⟨_, _, _, _, _, _, _, _, _, e1, e2, e3, _⟩ := h; subst e1 e2 e3; exact ⟨rfl, rfl, DicB.one _⟩) | (obtain ⟨_, _, _, _, _, _, _, _, _, _, e1, e2, e3, _⟩ := h; subst e1 e2 e3; exact ⟨rfl, rfl, DicB.one _⟩) | (obtain ⟨_, _, _, _, _, _, _, _, _, _, _, e1, e2, e3, _⟩ := h; subst e1 e2 e3; exact ⟨rfl, rfl, DicB.one _⟩)
  refine ⟨_, b_cons (s_set 1 sc_output_of.nd (x_cal c_numbers_of hr (a_d (x_l (l_sl (r_v 0) (o_some (x_i)) (o_no))) (a_nil)))) (b_cons (s_if (t_pw (t_or (t_cmp (h_ne hr) (x_len T.len (r_v 0)) (x_i)) (t_or1 (t_cmp h_isN (x_v 1) x_n)))) (b_one (s_ret (x_n))) (b_nil)) (b_one (s_ret (x_tup (a_d (x_ixL (r_v 0) (x_i)) (a_d (x_ix (x_v 1) (x_i)) (a_nil))))))), ?_⟩
  rintro as Q ⟨⟨s, y⟩, rfl, y0, y1, hq⟩
  conv => whnf
  refine ⟨[y], rfl, ?_, (Nat.le_of_ble_eq_true rfl), ?_⟩
  · intro n hn
    rw [List.mem_singleton.mp hn]
    exact ⟨y0, y1⟩
  conv => whnf
  refine ⟨fun h => (by simp [wO] at h), fun _ => ?_⟩
  conv => whnf
  refine ⟨rfl, false, rfl, ?_⟩
  conv => whnf
  refine ⟨fun h => (by simp at h), fun _ => ?_⟩
  walk_at "go"
  conv => whnf
  exact hq
theorem ok_law_rows {f : Addr} {fd : FuncData} (F : Fun K "_law_rows" "_law_rows" s_law_rows f fd) (T : Txt K mg C_Net C_Circuit C_LineReader w D_GREATEST_COUNTS f_input_of f_latch_of f_and_of f_output_of)  : FnOk P w K mg base CX0 2 f fd ["script", "count"] (spOf K ((R_law_rows C_Net C_Circuit))) := by
  refine fnok F sc_law_rows (fun as Q h => ?_) (by decide) fun cdv A outer s H E hr => ?_
  · first | (obtain ⟨e, _⟩ := h; rw [e]; rfl) | (obtain ⟨_, e, _⟩ := h; rw [e]; rfl) | (obtain ⟨_, _, e, _⟩ := h; rw [e]; rfl) | (obtain ⟨_, _, _, e, _⟩ := h; rw [e]; rfl) | (obtain ⟨_, _, _, _, e, _⟩ := h; rw [e]; rfl) | (obtain ⟨_, _, _, _, _, e, _⟩ := h; rw [e]; rfl) | (obtain ⟨_, _, _, _, _, _, e, _⟩ := h; rw [e]; rfl) | (obtain ⟨_, _, _, _, _, _, _, e, _⟩ := h; rw [e]; rfl) | (obtain ⟨_, _, _, _, _, _, _, _, e, _⟩ := h; rw [e]; rfl) | (obtain ⟨_, _, _, _, _, _, _, _, _, e, _⟩ := h; rw [e]; rfl) | (obtain ⟨_, _, _, _, _, _, _, _, _, _, e, _⟩ := h; rw [e]; rfl) | (obtain ⟨_, _, _, _, _, _, _, _, _, _, _, e, _⟩ := h; rw [e]; rfl) | (obtain ⟨_, _, _, _, _, _, _, _, _, _, _, _, e, _⟩ := h; rw [e]; rfl) | (obtain ⟨_, _, _, _, _, _, _, _, _, _, _, _, _, e, _⟩ := h; rw [e]; rfl) | (obtain ⟨e1, e2, e3, _⟩ := h; subst e1 e2 e3; exact ⟨rfl, rfl, DicB.one _⟩) | (obtain ⟨_, e1, e2, e3, _⟩ := h; subst e1 e2 e3; exact ⟨rfl, rfl, DicB.one _⟩) | (obtain ⟨_, _, e1, e2, e3, _⟩ := h; subst e1 e2 e3; exact ⟨rfl, rfl, DicB.one _⟩) | (obtain ⟨_, _, _, e1, e2, e3, _⟩ := h; subst e1 e2 e3; exact ⟨rfl, rfl, DicB.one _⟩) | (obtain ⟨_, _, _, _, e1, e2, e3, _⟩ := h; subst e1 e2 e3; exact ⟨rfl, rfl, DicB.one _⟩) | (obtain ⟨_, _, _, _, _, e1, e2, e3, _⟩ := h; subst e1 e2 e3; exact ⟨rfl, rfl, DicB.one _⟩) | (obtain ⟨_, _, _, _, _, _, e1, e2, e3, _⟩ := h; subst e1 e2 e3; exact ⟨rfl, rfl, DicB.one _⟩) | (obtain ⟨_, _, _, _, _, _, _, e1, e2, e3, _⟩ := h; subst e1 e2 e3; exact ⟨rfl, rfl, DicB.one _⟩) | (obtain ⟨_, _, _, _, _, _, _, _, e1, e2, e3, _⟩ := h; subst e1 e2 e3; exact ⟨rfl, rfl, DicB.one _⟩) | (obtain ⟨_, _, _, _, _, _, _, _, _, e1, e2, e3, _⟩ := h; subst e1 e2 e3; exact ⟨rfl, rfl, DicB.one _⟩) | (obtain ⟨_, _, _, _, _, _, _, _, _, _, e1, e2, e3, _⟩ := h; subst e1 e2 e3; exact ⟨rfl, rfl, DicB.one _⟩) | (obtain ⟨_, _, _, _, _, _, _, _, _, _, _, e1, e2, e3, _⟩ := h; subst e1 e2 e3; exact ⟨rfl, rfl, DicB.one _⟩)
  refine ⟨_, b_cons (s_setL 2 sc_law_rows.nd (l_disp (a_nil))) (b_cons (s_for rfl PassesOwn.never rfl (i_rg1 T.range (x_v 1)) (g_n 3 sc_law_rows.nd) (b_cons (s_set 4 sc_law_rows.nd (x_i)) (b_join (s_if (t_cmp h_gt (x_len T.len (r_v 0)) (x_i)) (b_one (s_set 4 sc_law_rows.nd (x_int T.int (x_ixL (r_v 0) (x_mod (x_v 3) (x_len T.len (r_v 0))))))) (b_nil)) (b_join (s_if (t_cmp h_lt (x_v 4) (x_i)) (b_one (s_set 4 sc_law_rows.nd (x_sub (x_i) (x_mul (x_i) (x_v 4))))) (b_nil)) (b_join (s_if (t_cut (t_pw (t_or (t_cmp h_ge (x_v 3) (x_len T.len (r_v 0))) (t_or1 (t_cmp h_lt (x_v 4) (x_pow (x_i) (x_i))))))) (b_cons (s_set 4 sc_law_rows.nd (x_mod (x_int T.int (x_mul (x_add (x_add (x_v 4) (x_mul (x_i) (x_v 3))) (x_i)) (x_i))) (x_i))) (b_one (s_set 4 sc_law_rows.nd (x_mod (x_int T.int (x_mul (x_add (x_add (x_fdiv (x_v 4) (x_i)) (x_mul (x_i) (x_v 3))) (x_i)) (x_i))) (x_i))))) (b_nil)) (b_one (s_app 2 (x_v 4)))))))) (b_frz 2 (b_one (s_ret (x_v 2))))), ?_⟩
  rintro as Q ⟨ns, c, rfl, h0, h1, hn, hq⟩
  conv => whnf
  refine ⟨by decide, ?_⟩
  conv => whnf
  refine ⟨⟨by omega, by omega⟩, fun i δ => ∃ (rs : List Int) (e3 e4 : Ent), rs.length = i ∧ (∀ r ∈ rs, 0 ≤ r) ∧ δ = [.dat (.lst (ns.map .int)), .dat (.int c), .own (rs.map .int), e3, e4], ⟨[], _, _, rfl, by simp, rfl⟩, ?_, ?_⟩
  · rintro i d δ hi rfl ⟨rs, e3, e4, hl, hp, rfl⟩
    conv => whnf
    -- if len(script) > 0
    refine ⟨fun δ => ∃ v : Int, δ = [.dat (.lst (ns.map .int)), .dat (.int c), .own (rs.map .int), .dat (.int (0 + (i : Int))), .dat (.int v)], ?_, ?_⟩
    · conv => whnf
      refine ⟨fun hb => ?_, fun _ => ⟨0, rfl⟩⟩
      have hb := of_decide_eq_true hb
      rw [List.length_map] at hb
      conv => whnf
      refine ⟨by rw [List.length_map]; exact hb, ?_⟩
      have g1 := Int.emod_nonneg (0 + (i : Int)) (show ((List.map D.int ns).length : Int) ≠ 0 by rw [List.length_map]; omega)
      have g2 := Int.emod_lt_of_pos (0 + (i : Int)) (show 0 < ((List.map D.int ns).length : Int) by rw [List.length_map]; exact hb)
      refine ⟨_, at_int g1 (by rw [List.length_map] at g2 ⊢; exact g2), ?_⟩
      exact ⟨_, rfl⟩
    rintro δ ⟨v, rfl⟩
    conv => whnf
    refine ⟨fun δ => ∃ v : Int, 0 ≤ v ∧ δ = [.dat (.lst (ns.map .int)), .dat (.int c), .own (rs.map .int), .dat (.int (0 + (i : Int))), .dat (.int v)], ?_, ?_⟩
    · conv => whnf
      refine ⟨fun hb => ?_, fun hb => ⟨v, by have := of_decide_eq_false hb; omega, rfl⟩⟩
      have hb := of_decide_eq_true hb
      conv => whnf
      refine ⟨.inl (by decide), ?_⟩
      exact ⟨1 - 2 * v, by omega, rfl⟩
    rintro δ ⟨v, hv, rfl⟩
    conv => whnf
    refine ⟨fun δ => ∃ v : Int, 0 ≤ v ∧ δ = [.dat (.lst (ns.map .int)), .dat (.int c), .own (rs.map .int), .dat (.int (0 + (i : Int))), .dat (.int v)], ?_, ?_⟩
    · conv => whnf
      refine ⟨fun _ => True, ?_, ?_⟩
      · conv => whnf
        refine ⟨fun _ => trivial, fun _ => ?_⟩
        conv => whnf
        exact ⟨⟨by decide, by decide, by decide⟩, trivial⟩
      rintro b -
      conv => whnf
      refine ⟨fun _ => ?_, fun _ => ⟨v, hv, rfl⟩⟩
      conv => whnf
      refine ⟨.inl (by decide), .inr (by decide), by show (0 : Int) < 2305843009213693951; decide, ?_⟩
      conv => whnf
      refine ⟨⟨by decide, by decide⟩, .inl (by decide), .inr (by decide), by show (0 : Int) < 18446744073709551557; decide, ?_⟩
      exact ⟨_, Int.emod_nonneg _ (by decide), rfl⟩
    rintro δ ⟨v, hv, rfl⟩
    conv => whnf
    refine ⟨by rw [List.length_map]; omega, ?_⟩
    refine ⟨rs ++ [v], _, _, by simp [hl], ?_, by rw [← map_snoc]; rfl⟩
    intro r hr
    rcases List.mem_append.mp hr with h | h
    · exact hp r h
    · rw [List.mem_singleton.mp h]
      exact hv
  · rintro δ ⟨rs, e3, e4, hl, hp, rfl⟩
    conv => whnf
    exact hq rs (by omega) hp
theorem ok_law_name {f : Addr} {fd : FuncData} (F : Fun K "_law_name" "_law_name" s_law_name f fd) (T : Txt K mg C_Net C_Circuit C_LineReader w D_GREATEST_COUNTS f_input_of f_latch_of f_and_of f_output_of)  : FnOk P w K mg base CX0 2 f fd ["row", "k"] (spOf K ((R_law_name C_Net C_Circuit))) := by
  refine fnok F sc_law_name (fun as Q h => ?_) (by decide) fun cdv A outer s H E hr => ?_
  · first | (obtain ⟨e, _⟩ := h; rw [e]; rfl) | (obtain ⟨_, e, _⟩ := h; rw [e]; rfl) | (obtain ⟨_, _, e, _⟩ := h; rw [e]; rfl) | (obtain ⟨_, _, _, e, _⟩ := h; rw [e]; rfl) | (obtain ⟨_, _, _, _, e, _⟩ := h; rw [e]; rfl) | (obtain ⟨_, _, _, _, _, e, _⟩ := h; rw [e]; rfl) | (obtain ⟨_, _, _, _, _, _, e, _⟩ := h; rw [e]; rfl) | (obtain ⟨_, _, _, _, _, _, _, e, _⟩ := h; rw [e]; rfl) | (obtain ⟨_, _, _, _, _, _, _, _, e, _⟩ := h; rw [e]; rfl) | (obtain ⟨_, _, _, _, _, _, _, _, _, e, _⟩ := h; rw [e]; rfl) | (obtain ⟨_, _, _, _, _, _, _, _, _, _, e, _⟩ := h; rw [e]; rfl) | (obtain ⟨_, _, _, _, _, _, _, _, _, _, _, e, _⟩ := h; rw [e]; rfl) | (obtain ⟨_, _, _, _, _, _, _, _, _, _, _, _, e, _⟩ := h; rw [e]; rfl) | (obtain ⟨_, _, _, _, _, _, _, _, _, _, _, _, _, e, _⟩ := h; rw [e]; rfl) | (obtain ⟨e1, e2, e3, _⟩ := h; subst e1 e2 e3; exact ⟨rfl, rfl, DicB.one _⟩) | (obtain ⟨_, e1, e2, e3, _⟩ := h; subst e1 e2 e3; exact ⟨rfl, rfl, DicB.one _⟩) | (obtain ⟨_, _, e1, e2, e3, _⟩ := h; subst e1 e2 e3; exact ⟨rfl, rfl, DicB.one _⟩) | (obtain ⟨_, _, _, e1, e2, e3, _⟩ := h; subst e1 e2 e3; exact ⟨rfl, rfl, DicB.one _⟩) | (obtain ⟨_, _, _, _, e1, e2, e3, _⟩ := h; subst e1 e2 e3; exact ⟨rfl, rfl, DicB.one _⟩) | (obtain ⟨_, _, _, _, _, e1, e2, e3, _⟩ := h; subst e1 e2 e3; exact ⟨rfl, rfl, DicB.one _⟩) | (obtain ⟨_, _, _, _, _, _, e1, e2, e3, _⟩ := h; subst e1 e2 e3; exact ⟨rfl, rfl, DicB.one _⟩) | (obtain ⟨_, _, _, _, _, _, _, e1, e2, e3, _⟩ := h; subst e1 e2 e3; exact ⟨rfl, rfl, DicB.one _⟩) | (obtain ⟨_, _, _, _, _, _, _, _, e1, e2, e3, _⟩ := h; subst e1 e2 e3; exact ⟨rfl, rfl, DicB.one _⟩) | (obtain ⟨_, _, _, _, _, _, _, _, _, e1, e2, e3, _⟩ := h; subst e1 e2 e3; exact ⟨rfl, rfl, DicB.one _⟩) | (obtain ⟨_, _, _, _, _, _, _, _, _, _, e1, e2, e3, _⟩ := h; subst e1 e2 e3; exact ⟨rfl, rfl, DicB.one _⟩) | (obtain ⟨_, _, _, _, _, _, _, _, _, _, _, e1, e2, e3, _⟩ := h; subst e1 e2 e3; exact ⟨rfl, rfl, DicB.one _⟩)
  refine ⟨_, b_cons (s_set 2 sc_law_name.nd (x_s)) (b_cons (s_set 3 sc_law_name.nd (x_fdiv (x_int T.int (x_v 0)) (x_i))) (b_cons (s_set 4 sc_law_name.nd (x_ix (x_v 2) (x_mod (x_int T.int (x_v 0)) (x_i)))) (b_cons (s_for rfl PassesOwn.never rfl (i_rg1 T.range (x_mod (x_fdiv (x_int T.int (x_v 0)) (x_i)) (x_i))) (g_n 5 sc_law_name.nd) (b_cons (s_set 4 sc_law_name.nd (x_add (x_v 4) (x_ix (x_v 2) (x_mod (x_v 3) (x_i))))) (b_one (s_set 3 sc_law_name.nd (x_fdiv (x_v 3) (x_i)))))) (b_cons (s_set 6 sc_law_name.nd (x_add (x_i) (x_mod (x_v 3) (x_lenS T.len (x_v 4))))) (b_one (s_ret (x_add (x_add (x_add (x_slS (x_v 4) (o_no) (o_some (x_v 6))) (x_s)) (x_strI T.str (x_v 1))) (x_from (x_v 4) (x_v 6))))))))), ?_⟩
  rintro as Q ⟨r, k, rfl, h0, k0, k1, hq⟩
  have m36 : ∀ x : Int, 0 ≤ x % 36 ∧ x % 36 < 36 := fun x => ⟨Int.emod_nonneg _ (by decide), Int.emod_lt_of_pos _ (by decide)⟩
  have m26 : 0 ≤ r % 26 ∧ r % 26 < 26 := ⟨Int.emod_nonneg _ (by decide), Int.emod_lt_of_pos _ (by decide)⟩
  have m8 : 0 ≤ r / 26 % 8 ∧ r / 26 % 8 < 8 := ⟨Int.emod_nonneg _ (by decide), Int.emod_lt_of_pos _ (by decide)⟩
  have ln := nmIt_len (sg (r % 26), r / 208)
  have l1 : ∀ x, (sg x).length = 1 := fun _ => rfl
  walk_at "go"
  conv => whnf
  refine ⟨_, at_sg m26.1 (Int.lt_trans m26.2 (by decide)), ?_⟩
  walk_at "go"
  conv => whnf
  refine ⟨⟨by show -4000000 ≤ r / 26 % 8; omega, by show r / 26 % 8 ≤ 4000000; omega⟩, fun i δ => ∃ e5, δ = [.dat (.int r), .dat (.int k), .dat (.str SGN), .dat (.int (nmIt i (sg (r % 26), r / 208)).2), .dat (.str (nmIt i (sg (r % 26), r / 208)).1), e5, .no], ⟨_, rfl⟩, ?_, ?_⟩
  · rintro i d δ hi rfl ⟨e5, rfl⟩
    have hi : i < (r / 26 % 8).toNat := hi
    conv => whnf
    refine ⟨by show (0 : Int) < 36; decide, by decide +kernel, _, at_sg (m36 _).1 (m36 _).2, ?_⟩
    conv => whnf
    refine ⟨by rw [ln, l1]; show 1 + i + 1 ≤ _; exact Nat.le_trans (show 1 + i + 1 ≤ 100 by omega) (by decide), ?_⟩
    walk_at "go"
    exact ⟨_, rfl⟩
  rintro δ ⟨e5, rfl⟩
  have ln := ln (r / 26 % 8).toNat
  rw [l1] at ln
  have hq : Q (.str (cutS (nmIt (r / 26 % 8).toNat (sg (r % 26), r / 208)).1 none (some (1 + (nmIt (r / 26 % 8).toNat (sg (r % 26), r / 208)).2 % ((nmIt (r / 26 % 8).toNat (sg (r % 26), r / 208)).1.length : Int))) ++ "_" ++ toString k ++ cutS (nmIt (r / 26 % 8).toNat (sg (r % 26), r / 208)).1 (some (1 + (nmIt (r / 26 % 8).toNat (sg (r % 26), r / 208)).2 % ((nmIt (r / 26 % 8).toNat (sg (r % 26), r / 208)).1.length : Int))) none)) := hq
  generalize nmIt (r / 26 % 8).toNat (sg (r % 26), r / 208) = s at ln hq
  have ls : s.1.length ≤ 10 := by omega
  have l10 : ∀ {n : Nat}, n ≤ 100 → n ≤ sizeLine := fun h => Nat.le_trans h (by decide)
  have lc := cut_len s.1 none (some (1 + s.2 % (s.1.length : Int)))
  have lc2 := cut_len s.1 (some (1 + s.2 % (s.1.length : Int))) none
  have lk : (toString k : Str).length ≤ 5 := by
    have := str_small k.toNat (by omega)
    rw [show ((k.toNat : Nat) : Int) = k by omega] at this
    exact this
  conv => whnf
  refine ⟨l10 (by omega), ?_⟩
  conv => whnf
  refine ⟨by show (0 : Int) < (s.1.length : Int); omega, ?_⟩
  have u1 : ("_" : Str).length = 1 := rfl
  conv => whnf
  refine ⟨l10 (by (try dsimp only); omega), ?_⟩
  conv => whnf
  refine ⟨l10 (by (try dsimp only); omega), ?_⟩
  conv => whnf
  refine ⟨Nat.lt_of_le_of_lt (Nat.log2_le_self _) (by omega), ?_⟩
  conv => whnf
  refine ⟨l10 (by rw [len_app]; (try dsimp only); omega), ?_⟩
  conv => whnf
  refine ⟨l10 (by (try dsimp only); omega), ?_⟩
  conv => whnf
  refine ⟨l10 (by rw [len_app, len_app]; (try dsimp only); omega), ?_⟩
  exact hq
theorem ok_law_literal {f : Addr} {fd : FuncData} (F : Fun K "_law_literal" "_law_literal" s_law_literal f fd) (T : Txt K mg C_Net C_Circuit C_LineReader w D_GREATEST_COUNTS f_input_of f_latch_of f_and_of f_output_of)  : FnOk P w K mg base CX0 2 f fd ["row", "near", "count"] (spOf K ((R_law_literal C_Net C_Circuit))) := by
  refine fnok F sc_law_literal (fun as Q h => ?_) (by decide) fun cdv A outer s H E hr => ?_
  · first | (obtain ⟨e, _⟩ := h; rw [e]; rfl) | (obtain ⟨_, e, _⟩ := h; rw [e]; rfl) | (obtain ⟨_, _, e, _⟩ := h; rw [e]; rfl) | (obtain ⟨_, _, _, e, _⟩ := h; rw [e]; rfl) | (obtain ⟨_, _, _, _, e, _⟩ := h; rw [e]; rfl) | (obtain ⟨_, _, _, _, _, e, _⟩ := h; rw [e]; rfl) | (obtain ⟨_, _, _, _, _, _, e, _⟩ := h; rw [e]; rfl) | (obtain ⟨_, _, _, _, _, _, _, e, _⟩ := h; rw [e]; rfl) | (obtain ⟨_, _, _, _, _, _, _, _, e, _⟩ := h; rw [e]; rfl) | (obtain ⟨_, _, _, _, _, _, _, _, _, e, _⟩ := h; rw [e]; rfl) | (obtain ⟨_, _, _, _, _, _, _, _, _, _, e, _⟩ := h; rw [e]; rfl) | (obtain ⟨_, _, _, _, _, _, _, _, _, _, _, e, _⟩ := h; rw [e]; rfl) | (obtain ⟨_, _, _, _, _, _, _, _, _, _, _, _, e, _⟩ := h; rw [e]; rfl) | (obtain ⟨_, _, _, _, _, _, _, _, _, _, _, _, _, e, _⟩ := h; rw [e]; rfl) | (obtain ⟨e1, e2, e3, _⟩ := h; subst e1 e2 e3; exact ⟨rfl, rfl, DicB.one _⟩) | (obtain ⟨_, e1, e2, e3, _⟩ := h; subst e1 e2 e3; exact ⟨rfl, rfl, DicB.one _⟩) | (obtain ⟨_, _, e1, e2, e3, _⟩ := h; subst e1 e2 e3; exact ⟨rfl, rfl, DicB.one _⟩) | (obtain ⟨_, _, _, e1, e2, e3, _⟩ := h; subst e1 e2 e3; exact ⟨rfl, rfl, DicB.one _⟩) | (obtain ⟨_, _, _, _, e1, e2, e3, _⟩ := h; subst e1 e2 e3; exact ⟨rfl, rfl, DicB.one _⟩) | (obtain ⟨_, _, _, _, _, e1, e2, e3, _⟩ := h; subst e1 e2 e3; exact ⟨rfl, rfl, DicB.one _⟩) | (obtain ⟨_, _, _, _, _, _, e1, e2, e3, _⟩ := h; subst e1 e2 e3; exact ⟨rfl, rfl, DicB.one _⟩) | (obtain ⟨_, _, _, _, _, _, _, e1, e2, e3, _⟩ := h; subst e1 e2 e3; exact ⟨rfl, rfl, DicB.one _⟩) | (obtain ⟨_, _, _, _, _, _, _, _, e1, e2, e3, _⟩ := h; subst e1 e2 e3; exact ⟨rfl, rfl, DicB.one _⟩) | (obtain ⟨_, _, _, _, _, _, _, _, _, e1, e2, e3, _⟩ := h; subst e1 e2 e3; exact ⟨rfl, rfl, DicB.one _⟩) | (obtain ⟨_, _, _, _, _, _, _, _, _, _, e1, e2, e3, _⟩ := h; subst e1 e2 e3; exact ⟨rfl, rfl, DicB.one _⟩) | (obtain ⟨_, _, _, _, _, _, _, _, _, _, _, e1, e2, e3, _⟩ := h; subst e1 e2 e3; exact ⟨rfl, rfl, DicB.one _⟩)
  refine ⟨_, b_cons (s_set 3 sc_law_literal.nd (x_mod (x_int T.int (x_v 0)) (x_v 2))) (b_join (s_if (t_cmp (h_eq hr) (x_mod (x_int T.int (x_v 1)) (x_i)) (x_i)) (b_one (s_set 3 sc_law_literal.nd (x_sub (x_sub (x_v 2) (x_i)) (x_mod (x_v 3) (x_min rfl T.min (x_i) (x_v 2)))))) (b_nil)) (b_one (s_ret (x_add (x_mul (x_i) (x_v 3)) (x_mod (x_fdiv (x_int T.int (x_v 0)) (x_v 2)) (x_i)))))), ?_⟩
  rintro as Q ⟨r, n, c, rfl, h0, h1, h2, hq⟩
  have hq := hq _ rfl (litv_ok n h1).1 (litv_ok n h1).2
  unfold litv at hq
  conv => whnf
  refine ⟨h1, ?_⟩
  conv => whnf
  refine ⟨fun δ => δ = [.dat (.int r), .dat (.int n), .dat (.int c), .dat (.int (if n % 2 = 1 then c - 1 - r % c % (if c < 4 then c else 4) else r % c))], ?_, ?_⟩
  · conv => whnf
    refine ⟨by (first | decide | omega | (dsimp only; decide) | (dsimp only; omega)), ?_⟩
    conv => whnf
    refine ⟨fun h => ?_, fun h => ?_⟩
    · have h : n % 2 = 1 := of_decide_eq_true h
      rw [if_pos h]
      conv => whnf
      exact ⟨by show (0 : Int) < (if c < 4 then c else 4); split <;> omega, rfl⟩
    · have h : ¬ n % 2 = 1 := of_decide_eq_false h
      rw [if_neg h]
      conv => whnf
      rfl
  rintro δ rfl
  conv => whnf
  refine ⟨.inl ⟨by decide, by decide⟩, ?_⟩
  conv => whnf
  refine ⟨⟨h1, by omega⟩, ?_⟩
  conv => whnf
  exact ⟨by (first | decide | omega | (dsimp only; decide) | (dsimp only; omega)), hq⟩
theorem ok_law_ands {f : Addr} {fd : FuncData} (F : Fun K "_law_ands" "_law_ands" s_law_ands f fd) (T : Txt K mg C_Net C_Circuit C_LineReader w D_GREATEST_COUNTS f_input_of f_latch_of f_and_of f_output_of) (c_law_literal : Cal P w K mg base "_law_literal" 2 ["row", "near", "count"] (R_law_literal C_Net C_Circuit)) : FnOk P w K mg base CX0 3 f fd ["rows", "at", "first_and", "count"] (spOf K ((R_law_ands C_Net C_Circuit))) := by
  refine fnok F sc_law_ands (fun as Q h => ?_) (by decide) fun cdv A outer s H E hr => ?_
  · first | (obtain ⟨e, _⟩ := h; rw [e]; rfl) | (obtain ⟨_, e, _⟩ := h; rw [e]; rfl) | (obtain ⟨_, _, e, _⟩ := h; rw [e]; rfl) | (obtain ⟨_, _, _, e, _⟩ := h; rw [e]; rfl) | (obtain ⟨_, _, _, _, e, _⟩ := h; rw [e]; rfl) | (obtain ⟨_, _, _, _, _, e, _⟩ := h; rw [e]; rfl) | (obtain ⟨_, _, _, _, _, _, e, _⟩ := h; rw [e]; rfl) | (obtain ⟨_, _, _, _, _, _, _, e, _⟩ := h; rw [e]; rfl) | (obtain ⟨_, _, _, _, _, _, _, _, e, _⟩ := h; rw [e]; rfl) | (obtain ⟨_, _, _, _, _, _, _, _, _, e, _⟩ := h; rw [e]; rfl) | (obtain ⟨_, _, _, _, _, _, _, _, _, _, e, _⟩ := h; rw [e]; rfl) | (obtain ⟨_, _, _, _, _, _, _, _, _, _, _, e, _⟩ := h; rw [e]; rfl) | (obtain ⟨_, _, _, _, _, _, _, _, _, _, _, _, e, _⟩ := h; rw [e]; rfl) | (obtain ⟨_, _, _, _, _, _, _, _, _, _, _, _, _, e, _⟩ := h; rw [e]; rfl) | (obtain ⟨e1, e2, e3, _⟩ := h; subst e1 e2 e3; exact ⟨rfl, rfl, DicB.one _⟩) | (obtain ⟨_, e1, e2, e3, _⟩ := h; subst e1 e2 e3; exact ⟨rfl, rfl, DicB.one _⟩) | (obtain ⟨_, _, e1, e2, e3, _⟩ := h; subst e1 e2 e3; exact ⟨rfl, rfl, DicB.one _⟩) | (obtain ⟨_, _, _, e1, e2, e3, _⟩ := h; subst e1 e2 e3; exact ⟨rfl, rfl, DicB.one _⟩) | (obtain ⟨_, _, _, _, e1, e2, e3, _⟩ := h; subst e1 e2 e3; exact ⟨rfl, rfl, DicB.one _⟩) | (obtain ⟨_, _, _, _, _, e1, e2, e3, _⟩ := h; subst e1 e2 e3; exact ⟨rfl, rfl, DicB.one _⟩) | (obtain ⟨_, _, _, _, _, _, e1, e2, e3, _⟩ := h; subst e1 e2 e3; exact ⟨rfl, rfl, DicB.one _⟩) | (obtain ⟨_, _, _, _, _, _, _, e1, e2, e3, _⟩ := h; subst e1 e2 e3; exact ⟨rfl, rfl, DicB.one _⟩) | (obtain ⟨_, _, _, _, _, _, _, _, e1, e2, e3, _⟩ := h; subst e1 e2 e3; exact ⟨rfl, rfl, DicB.one _⟩) | (obtain ⟨_, _, _, _, _, _, _, _, _, e1, e2, e3, _⟩ := h; subst e1 e2 e3; exact ⟨rfl, rfl, DicB.one _⟩) | (obtain ⟨_, _, _, _, _, _, _, _, _, _, e1, e2, e3, _⟩ := h; subst e1 e2 e3; exact ⟨rfl, rfl, DicB.one _⟩) | (obtain ⟨_, _, _, _, _, _, _, _, _, _, _, e1, e2, e3, _⟩ := h; subst e1 e2 e3; exact ⟨rfl, rfl, DicB.one _⟩)
  refine ⟨_, b_cons (s_setL 4 sc_law_ands.nd (l_disp (a_nil))) (b_cons (s_for rfl PassesOwn.never rfl (i_rg1 T.range (x_v 3)) (g_n 5 sc_law_ands.nd) (b_cons (s_set 6 sc_law_ands.nd (x_fdiv (x_ixL (r_v 0) (x_add (x_v 1) (x_v 5))) (x_i))) (b_cons (s_set 7 sc_law_ands.nd (x_add (x_v 2) (x_v 5))) (b_cons (s_set 8 sc_law_ands.nd (x_cal c_law_literal hr (a_d (x_v 6) (a_d (x_ixL (r_v 0) (x_add (x_v 1) (x_v 5))) (a_d (x_v 7) (a_nil)))))) (b_cons (s_set 9 sc_law_ands.nd (x_cal c_law_literal hr (a_d (x_fdiv (x_v 6) (x_mul (x_i) (x_v 7))) (a_d (x_fdiv (x_ixL (r_v 0) (x_add (x_v 1) (x_v 5))) (x_i)) (a_d (x_v 7) (a_nil)))))) (b_one (s_app 4 (x_tup (a_d (x_v 8) (a_d (x_v 9) (a_nil))))))))))) (b_frz 4 (b_one (s_ret (x_v 4))))), ?_⟩
  rintro as Q ⟨rs, a, f, c, rfl, hp, hl, f1, f2, c1, hq⟩
  have at_ : ∀ i : Nat, i < rs.length → atI (rs.map D.int) (i : Int) = some (.int (rs.getD i 0)) := fun i h => at_int (by omega) (by omega)
  have pos : ∀ i : Nat, i < rs.length → 0 ≤ rs.getD i 0 := fun i h => by
    rw [List.getD_eq_getElem?_getD, List.getElem?_eq_getElem h]
    exact hp _ (List.getElem_mem h)
  walk_at "go"
  conv => whnf
  refine ⟨⟨by omega, by omega⟩, fun i δ => ∃ (A : List (Int × Int)) (e5 e6 e7 e8 e9 : Ent), A.length = i ∧ okA f A ∧ δ = [.dat (.lst (rs.map .int)), .dat (.int a), .dat (.int f), .dat (.int c), .own (A.map pr), e5, e6, e7, e8, e9], ⟨[], _, _, _, _, _, rfl, trivial, rfl⟩, ?_, ?_⟩
  · rintro i d δ hi hd ⟨A, e5, e6, e7, e8, e9, hA, oA, rfl⟩
    rw [Int.zero_add] at hd
    subst hd
    have ha := at_ (a + i) (by omega)
    have hp0 := pos (a + i) (by omega)
    rw [Int.natCast_add] at ha
    generalize rs.getD (a + i) 0 = r at ha hp0
    walk_at "go"
    conv => whnf
    refine ⟨_, ha, ?_⟩
    walk_at "go"
    conv => whnf
    refine ⟨_, ha, ?_⟩
    walk_at "go"
    refine ⟨by show 0 ≤ r / 4; omega, by omega, by omega, fun l _ hl0 hl1 => ?_⟩
    walk_at "go"
    conv => whnf
    refine ⟨⟨by show (0 : Int) < 2 * ((f : Int) + i); omega, by show 2 * ((f : Int) + i) < 1073741824; omega⟩, ?_⟩
    conv => whnf
    refine ⟨_, ha, ?_⟩
    walk_at "go"
    refine ⟨by show 0 ≤ r / 4 / (2 * ((f : Int) + i)); exact Int.ediv_nonneg (by omega) (by omega), by omega, by omega, fun l2 _ hm0 hm1 => ?_⟩
    walk_at "go"
    conv => whnf
    refine ⟨by rw [List.length_map]; omega, ?_⟩
    walk_at "go"
    exact ⟨A ++ [(l, l2)], _, _, _, _, _, by simp [hA], okA_snoc oA ⟨hl0, by rw [hA]; omega⟩ ⟨hm0, by rw [hA]; omega⟩, by rw [← map_snoc]; rfl⟩
  · rintro δ ⟨A, e5, e6, e7, e8, e9, hA, oA, rfl⟩
    walk_at "go"
    exact hq A (by omega) oA
theorem ok_law_parts {f : Addr} {fd : FuncData} (F : Fun K "_law_parts" "_law_parts" s_law_parts f fd) (T : Txt K mg C_Net C_Circuit C_LineReader w D_GREATEST_COUNTS f_input_of f_latch_of f_and_of f_output_of) (c_law_ands : Cal P w K mg base "_law_ands" 3 ["rows", "at", "first_and", "count"] (R_law_ands C_Net C_Circuit)) (c_law_literal : Cal P w K mg base "_law_literal" 2 ["row", "near", "count"] (R_law_literal C_Net C_Circuit)) (c_law_name : Cal P w K mg base "_law_name" 2 ["row", "k"] (R_law_name C_Net C_Circuit)) : FnOk P w K mg base CX0 4 f fd ["rows", "most_inputs", "most_latches", "most_ands"] (spOf K ((R_law_parts C_Net C_Circuit))) := by
  refine fnok F sc_law_parts (fun as Q h => ?_) (by decide) fun cdv A outer s H E hr => ?_
  · first | (obtain ⟨e, _⟩ := h; rw [e]; rfl) | (obtain ⟨_, e, _⟩ := h; rw [e]; rfl) | (obtain ⟨_, _, e, _⟩ := h; rw [e]; rfl) | (obtain ⟨_, _, _, e, _⟩ := h; rw [e]; rfl) | (obtain ⟨_, _, _, _, e, _⟩ := h; rw [e]; rfl) | (obtain ⟨_, _, _, _, _, e, _⟩ := h; rw [e]; rfl) | (obtain ⟨_, _, _, _, _, _, e, _⟩ := h; rw [e]; rfl) | (obtain ⟨_, _, _, _, _, _, _, e, _⟩ := h; rw [e]; rfl) | (obtain ⟨_, _, _, _, _, _, _, _, e, _⟩ := h; rw [e]; rfl) | (obtain ⟨_, _, _, _, _, _, _, _, _, e, _⟩ := h; rw [e]; rfl) | (obtain ⟨_, _, _, _, _, _, _, _, _, _, e, _⟩ := h; rw [e]; rfl) | (obtain ⟨_, _, _, _, _, _, _, _, _, _, _, e, _⟩ := h; rw [e]; rfl) | (obtain ⟨_, _, _, _, _, _, _, _, _, _, _, _, e, _⟩ := h; rw [e]; rfl) | (obtain ⟨_, _, _, _, _, _, _, _, _, _, _, _, _, e, _⟩ := h; rw [e]; rfl) | (obtain ⟨e1, e2, e3, _⟩ := h; subst e1 e2 e3; exact ⟨rfl, rfl, DicB.one _⟩) | (obtain ⟨_, e1, e2, e3, _⟩ := h; subst e1 e2 e3; exact ⟨rfl, rfl, DicB.one _⟩) | (obtain ⟨_, _, e1, e2, e3, _⟩ := h; subst e1 e2 e3; exact ⟨rfl, rfl, DicB.one _⟩) | (obtain ⟨_, _, _, e1, e2, e3, _⟩ := h; subst e1 e2 e3; exact ⟨rfl, rfl, DicB.one _⟩) | (obtain ⟨_, _, _, _, e1, e2, e3, _⟩ := h; subst e1 e2 e3; exact ⟨rfl, rfl, DicB.one _⟩) | (obtain ⟨_, _, _, _, _, e1, e2, e3, _⟩ := h; subst e1 e2 e3; exact ⟨rfl, rfl, DicB.one _⟩) | (obtain ⟨_, _, _, _, _, _, e1, e2, e3, _⟩ := h; subst e1 e2 e3; exact ⟨rfl, rfl, DicB.one _⟩) | (obtain ⟨_, _, _, _, _, _, _, e1, e2, e3, _⟩ := h; subst e1 e2 e3; exact ⟨rfl, rfl, DicB.one _⟩) | (obtain ⟨_, _, _, _, _, _, _, _, e1, e2, e3, _⟩ := h; subst e1 e2 e3; exact ⟨rfl, rfl, DicB.one _⟩) | (obtain ⟨_, _, _, _, _, _, _, _, _, e1, e2, e3, _⟩ := h; subst e1 e2 e3; exact ⟨rfl, rfl, DicB.one _⟩) | (obtain ⟨_, _, _, _, _, _, _, _, _, _, e1, e2, e3, _⟩ := h; subst e1 e2 e3; exact ⟨rfl, rfl, DicB.one _⟩) | (obtain ⟨_, _, _, _, _, _, _, _, _, _, _, e1, e2, e3, _⟩ := h; subst e1 e2 e3; exact ⟨rfl, rfl, DicB.one _⟩)
  refine ⟨_, b_cons (s_set 4 sc_law_parts.nd (x_int T.int (x_ixL (r_v 0) (x_i)))) (b_cons (s_set 5 sc_law_parts.nd (x_mod (x_v 4) (x_add (x_v 1) (x_i)))) (b_cons (s_set 4 sc_law_parts.nd (x_fdiv (x_v 4) (x_add (x_v 1) (x_i)))) (b_cons (s_set 6 sc_law_parts.nd (x_mod (x_v 4) (x_add (x_v 2) (x_i)))) (b_cons (s_set 4 sc_law_parts.nd (x_fdiv (x_v 4) (x_add (x_v 2) (x_i)))) (b_cons (s_set 7 sc_law_parts.nd (x_mod (x_v 4) (x_add (x_v 3) (x_i)))) (b_cons (s_set 8 sc_law_parts.nd (x_add (x_i) (x_mod (x_fdiv (x_v 4) (x_add (x_v 3) (x_i))) (x_i)))) (b_cons (s_comp0 9 (own := [("k", 10)]) rfl sc_law_parts.nd (sw_true rfl rfl rfl (by decide +kernel)) (blkOk_by (own := [("k", 10)]) (N := ["rows", "most_inputs", "most_latches", "most_ands", "head", "input_count", "latch_count", "gate_count", "output_count", "names", "k", "first_and", "size", "ands", "latches", "row", "outputs"]) (sc := defScope s_law_parts) (by decide +kernel)) (i_rg1 T.range (x_add (x_v 5) (x_v 6))) (by intro _ _ _ _ _; exact g_n 10 sc_law_parts.nd) (by intro _ _ _ _ _; exact x_cal c_law_name hr (a_d (x_ixL (r_v 0) (x_add (x_i) (x_v 10))) (a_d (x_v 10) (a_nil)))) rfl rfl (fun _ => rfl)) (b_cons (s_set 11 sc_law_parts.nd (x_add (x_add (x_i) (x_v 5)) (x_v 6))) (b_cons (s_set 12 sc_law_parts.nd (x_add (x_v 11) (x_v 7))) (b_cons (s_set 13 sc_law_parts.nd (x_cal c_law_ands hr (a_d (x_v 0) (a_d (x_i) (a_d (x_v 11) (a_d (x_v 7) (a_nil))))))) (b_cons (s_setL 14 sc_law_parts.nd (l_disp (a_nil))) (b_cons (s_for rfl PassesOwn.never rfl (i_rg1 T.range (x_v 6)) (g_n 10 sc_law_parts.nd) (b_cons (s_set 15 sc_law_parts.nd (x_ixL (r_v 0) (x_add (x_i) (x_v 10)))) (b_one (s_app 14 (x_tup (a_d (x_ixL (r_v 9) (x_add (x_v 5) (x_v 10))) (a_d (x_mod (x_int T.int (x_v 15)) (x_i)) (a_d (x_cal c_law_literal hr (a_d (x_fdiv (x_v 15) (x_i)) (a_d (x_fdiv (x_v 15) (x_i)) (a_d (x_v 12) (a_nil))))) (a_nil))))))))) (b_cons (s_setL 16 sc_law_parts.nd (l_disp (a_nil))) (b_cons (s_for rfl PassesOwn.never rfl (i_rg1 T.range (x_v 8)) (g_n 10 sc_law_parts.nd) (b_cons (s_set 15 sc_law_parts.nd (x_ixL (r_v 0) (x_add (x_i) (x_v 10)))) (b_one (s_app 16 (x_tup (a_d (x_cal c_law_name hr (a_d (x_fdiv (x_v 15) (x_i)) (a_d (x_v 10) (a_nil)))) (a_d (x_cal c_law_literal hr (a_d (x_fdiv (x_v 15) (x_i)) (a_d (x_v 15) (a_d (x_v 12) (a_nil))))) (a_nil)))))))) (b_frz 16 (b_frz 14 (b_one (s_ret (x_tup (a_d (x_l (l_sl (r_v 9) (o_no) (o_some (x_v 5)))) (a_d (x_v 14) (a_d (x_v 13) (a_d (x_v 16) (a_nil)))))))))))))))))))))))), ?_⟩
  rintro as Q ⟨rs, rfl, hp, hl, hq⟩
  have at_ : ∀ i : Nat, i < 30 → atI (rs.map D.int) (i : Int) = some (.int (rs.getD i 0)) := fun i h => at_int (by omega) (by omega)
  have pos : ∀ i : Nat, i < 30 → 0 ≤ rs.getD i 0 := fun i h => by
    rw [List.getD_eq_getElem?_getD, List.getElem?_eq_getElem (by omega)]
    exact hp _ (List.getElem_mem _)
  have at2_ : ∀ b j : Nat, b + j < 30 → atI (rs.map D.int) ((b : Int) + (j : Int)) = some (.int (rs.getD (b + j) 0)) := fun b j h => by
    rw [← Int.natCast_add]
    exact at_ _ h
  conv => whnf
  refine ⟨_, at_ 0 (by omega), ?_⟩
  generalize rs.getD 0 0 = h
  walk_at "go"
  dsimp only
  obtain ⟨I, eI, I3⟩ : ∃ I : Nat, h % (3 + 1) = (I : Int) ∧ I ≤ 3 := by
    have h1 := Int.emod_nonneg h (show (3 + 1 : Int) ≠ 0 by decide)
    have h2 := Int.emod_lt_of_pos h (show (0 : Int) < 3 + 1 by decide)
    exact ⟨(h % (3 + 1)).toNat, by omega, by omega⟩
  obtain ⟨Lc, eL, L3⟩ : ∃ I : Nat, h / (3 + 1) % (4 + 1) = (I : Int) ∧ I ≤ 4 := by
    have h1 := Int.emod_nonneg (h / (3 + 1)) (show (4 + 1 : Int) ≠ 0 by decide)
    have h2 := Int.emod_lt_of_pos (h / (3 + 1)) (show (0 : Int) < 4 + 1 by decide)
    exact ⟨(h / (3 + 1) % (4 + 1)).toNat, by omega, by omega⟩
  obtain ⟨Ac, eA, A3⟩ : ∃ I : Nat, h / (3 + 1) / (4 + 1) % (12 + 1) = (I : Int) ∧ I ≤ 12 := by
    have h1 := Int.emod_nonneg (h / (3 + 1) / (4 + 1)) (show (12 + 1 : Int) ≠ 0 by decide)
    have h2 := Int.emod_lt_of_pos (h / (3 + 1) / (4 + 1)) (show (0 : Int) < 12 + 1 by decide)
    exact ⟨(h / (3 + 1) / (4 + 1) % (12 + 1)).toNat, by omega, by omega⟩
  obtain ⟨Oc, eO, O1, O3⟩ : ∃ I : Nat, 1 + h / (3 + 1) / (4 + 1) / (12 + 1) % 3 = (I : Int) ∧ 1 ≤ I ∧ I ≤ 3 := by
    have h1 := Int.emod_nonneg (h / (3 + 1) / (4 + 1) / (12 + 1)) (show (3 : Int) ≠ 0 by decide)
    have h2 := Int.emod_lt_of_pos (h / (3 + 1) / (4 + 1) / (12 + 1)) (show (0 : Int) < 3 by decide)
    exact ⟨(1 + h / (3 + 1) / (4 + 1) / (12 + 1) % 3).toNat, by omega, by omega, by omega⟩
  rw [eI, eL, eA, eO]
  clear eI eL eA eO
  try (dsimp only [ents, put, List.map, arE, nos, List.length, List.append, HAppend.hAppend, Append.append, Nat.reduceAdd, Nat.reduceSub, Nat.zero_add]; try dsimp only [List.append_eq])
  conv => whnf
  refine ⟨⟨by omega, by omega⟩, fun j => D.str (nm (rs.getD (1 + j) 0) j), ?_, ?_⟩
  · rintro j d hj hd
    rw [Int.zero_add] at hd
    subst hd
    have hj : j < I + Lc := by omega
    conv => whnf
    refine ⟨_, at2_ 1 j (by omega), ?_⟩
    conv => whnf
    refine ⟨_, _, rfl, pos _ (by omega), by omega, by omega, ?_⟩
    rfl
  have hNM : List.map (fun j : Nat => D.str (nm (rs.getD (1 + j) 0) j)) (List.range ((I : Int) + Lc).toNat) = (NS (fun j => rs.getD (1 + j) 0) (I + Lc)).map D.str := by
    rw [show ((I : Int) + Lc).toNat = I + Lc by omega]
    unfold NS
    rw [List.map_map]
    rfl
  have nm_at : ∀ i, i < I + Lc → atI ((NS (fun j => rs.getD (1 + j) 0) (I + Lc)).map D.str) (i : Int) = some (.str (nm (rs.getD (1 + i) 0) i)) := fun i h => NS_at h
  have nml : ((NS (fun j => rs.getD (1 + j) 0) (I + Lc)).map D.str).length = I + Lc := by rw [List.length_map, NS_len]
  have cutN : PL.cutD ((NS (fun j => rs.getD (1 + j) 0) (I + Lc)).map D.str) none (some (I : Int)) = (NS (fun j => rs.getD (1 + j) 0) I).map D.str := NS_cut _ I Lc
  rw [hNM]
  generalize (NS (fun j => rs.getD (1 + j) 0) (I + Lc)).map D.str = NM at nm_at nml cutN
  try (dsimp only [ents, put, List.map, arE, nos, List.length, List.append, HAppend.hAppend, Append.append, Nat.reduceAdd, Nat.reduceSub, Nat.zero_add]; try dsimp only [List.append_eq])
  conv => whnf
  refine ⟨rs, 9, 1 + I + Lc, Ac, by simp, hp, by omega, by omega, by omega, by omega, fun A hA oA => ?_⟩
  try (dsimp only [ents, put, List.map, arE, nos, List.length, List.append, HAppend.hAppend, Append.append, Nat.reduceAdd, Nat.reduceSub, Nat.zero_add]; try dsimp only [List.append_eq])
  walk_at "go"
  have s0 : (0 : Int) < 1 + I + Lc + Ac := by omega
  conv => whnf
  refine ⟨⟨by omega, by omega⟩, fun i δ => ∃ (Lt : List (Str × Int × Int)) (e10 e15 : Ent), (Lt.map (·.1) = (List.range i).map fun j => nm (rs.getD (1 + (I + j)) 0) (I + j)) ∧ (∀ p ∈ Lt, (p.2.1 = 0 ∨ p.2.1 = 1) ∧ 0 ≤ p.2.2 ∧ p.2.2 / 2 < 1 + I + Lc + Ac) ∧ δ = [.dat (.lst (rs.map .int)), .dat (.int 3), .dat (.int 4), .dat (.int 12), .dat (.int (h / (3 + 1) / (4 + 1))), .dat (.int I), .dat (.int Lc), .dat (.int Ac), .dat (.int Oc), .own NM, e10, .dat (.int (1 + I + Lc)), .dat (.int (1 + I + Lc + Ac)), .dat (.lst (A.map pr)), .own (Lt.map tri), e15, .no], ⟨[], _, _, rfl, (by intro p hp; cases hp), rfl⟩, ?_, ?_⟩
  · rintro i d δ hi hd ⟨Lt, e10, e15, hL, hb, rfl⟩
    rw [Int.zero_add] at hd
    subst hd
    have hi : i < Lc := by omega
    have hLl : Lt.length = i := by have := congrArg List.length hL; rw [List.length_map, List.length_map, List.length_range] at this; exact this
    have p0 := pos (22 + i) (by omega)
    conv => whnf
    refine ⟨_, at2_ 22 i (by omega), ?_⟩
    generalize rs.getD (22 + i) 0 = row at p0
    conv => whnf
    refine ⟨by rw [List.length_map]; omega, ?_⟩
    conv => whnf
    refine ⟨_, by show atI NM ((I : Int) + (i : Int)) = _; rw [← Int.natCast_add]; exact nm_at _ (by omega), ?_⟩
    walk_at "go"
    refine ⟨by show 0 ≤ row / 4; omega, s0, by omega, fun l _ l0 l1 => ?_⟩
    try (dsimp only [ents, put, List.map, arE, nos, List.length, List.append, HAppend.hAppend, Append.append, Nat.reduceAdd, Nat.reduceSub, Nat.zero_add]; try dsimp only [List.append_eq])
    walk_at "go"
    refine ⟨Lt ++ [(nm (rs.getD (1 + (I + i)) 0) ((I + i : Nat) : Int), row % 2, l)], _, _, by rw [List.map_append, hL, List.range_succ, List.map_append]; rfl, ?_, by rw [← map_snoc]; rfl⟩
    intro p hp
    rcases List.mem_append.mp hp with h | h
    · exact hb p h
    · rw [List.mem_singleton.mp h]
      exact ⟨Int.emod_two_eq row, l0, l1⟩
  rintro δ ⟨Lt, e10, e15, hL, hLb, rfl⟩
  rw [Int.toNat_natCast] at hL
  have hLl : Lt.length = Lc := by have := congrArg List.length hL; rw [List.length_map, List.length_map, List.length_range] at this; exact this
  walk_at "go"
  conv => whnf
  refine ⟨⟨by omega, by omega⟩, fun i δ => ∃ (O : List (Str × Int)) (e10 e15 : Ent), O.map (·.1) = NS (fun j => rs.getD (27 + j) 0 / 7) i ∧ (∀ p ∈ O, 0 ≤ p.2 ∧ p.2 / 2 < 1 + I + Lc + Ac) ∧ δ = [.dat (.lst (rs.map .int)), .dat (.int 3), .dat (.int 4), .dat (.int 12), .dat (.int (h / (3 + 1) / (4 + 1))), .dat (.int I), .dat (.int Lc), .dat (.int Ac), .dat (.int Oc), .own NM, e10, .dat (.int (1 + I + Lc)), .dat (.int (1 + I + Lc + Ac)), .dat (.lst (A.map pr)), .own (Lt.map tri), e15, .own (O.map po)], ⟨[], _, _, rfl, (by intro p hp; cases hp), rfl⟩, ?_, ?_⟩
  · rintro i d δ hi hd ⟨O, e10, e15, hO, hb, rfl⟩
    rw [Int.zero_add] at hd
    subst hd
    have hi : i < Oc := by omega
    have hOl : O.length = i := by have := congrArg List.length hO; rw [List.length_map, NS_len] at this; exact this
    have p0 := pos (27 + i) (by omega)
    conv => whnf
    refine ⟨_, at2_ 27 i (by omega), ?_⟩
    have eG : NS (fun j => rs.getD (27 + j) 0 / 7) (i + 1) = NS (fun j => rs.getD (27 + j) 0 / 7) i ++ [nm (rs.getD (27 + i) 0 / 7) i] := NS_succ _ i
    generalize rs.getD (27 + i) 0 = row at p0 eG
    conv => whnf
    refine ⟨by rw [List.length_map]; omega, ?_⟩
    walk_at "go"
    refine ⟨by show 0 ≤ row / 7; omega, by omega, by omega, ?_⟩
    walk_at "go"
    refine ⟨by show 0 ≤ row / 2; omega, s0, by omega, fun l _ l0 l1 => ?_⟩
    try (dsimp only [ents, put, List.map, arE, nos, List.length, List.append, HAppend.hAppend, Append.append, Nat.reduceAdd, Nat.reduceSub, Nat.zero_add]; try dsimp only [List.append_eq])
    walk_at "go"
    refine ⟨O ++ [(nm (row / 7) (i : Int), l)], _, _, by rw [List.map_append, hO, eG]; rfl, ?_, by rw [← map_snoc]; rfl⟩
    intro p hp
    rcases List.mem_append.mp hp with h | h
    · exact hb p h
    · rw [List.mem_singleton.mp h]
      exact ⟨l0, l1⟩
  rintro δ ⟨O, e10, e15, hO, hOb, rfl⟩
  rw [Int.toNat_natCast] at hO
  have hOl : O.length = Oc := by have := congrArg List.length hO; rw [List.length_map, NS_len] at this; exact this
  have hIl : (NS (fun j => rs.getD (1 + j) 0) I).length = I := NS_len _ _
  have cat : NS (fun j => rs.getD (1 + j) 0) I ++ Lt.map (·.1) = NS (fun j => rs.getD (1 + j) 0) (I + Lc) := by rw [hL]; exact NS_cat _ I Lc
  have ns1 := NS_ok (fun j => rs.getD (1 + j) 0) (I + Lc) (fun j hj => pos (1 + j) (by omega)) (by omega)
  have ns2 := NS_ok (fun j => rs.getD (27 + j) 0 / 7) Oc (fun j hj => by have := pos (27 + j) (by omega); show 0 ≤ rs.getD (27 + j) 0 / 7; omega) (by omega)
  have cv : CV (NS (fun j => rs.getD (1 + j) 0) I) Lt A O := by
    refine ⟨by omega, by omega, by omega, by omega, by rw [hIl, hLl]; exact oA, fun p hp => ?_, fun p hp => ?_, by rw [cat]; exact ns1.1, by rw [cat]; exact ns1.2, by rw [hO]; exact ns2.1, by rw [hO]; exact ns2.2⟩
    · obtain ⟨a, b, c⟩ := hLb p hp
      exact ⟨a, b, by rw [hIl, hLl, hA]; omega⟩
    · obtain ⟨b, c⟩ := hOb p hp
      exact ⟨b, by rw [hIl, hLl, hA]; omega⟩
  conv => whnf
  rw [cutN]
  exact ⟨by show 4 ≤ 1000; decide, hq (fun j => rs.getD (1 + j) 0) I Lt A (fun j => rs.getD (27 + j) 0 / 7) Oc O (fun j hj => pos (1 + j) (by omega)) (fun j hj => by have := pos (27 + j) (by omega); show 0 ≤ rs.getD (27 + j) 0 / 7; omega) (by omega) (by omega) (by omega) (by omega) (by omega) hO cv⟩
theorem ok_law_text {f : Addr} {fd : FuncData} (F : Fun K "_law_text" "_law_text" s_law_text f fd) (T : Txt K mg C_Net C_Circuit C_LineReader w D_GREATEST_COUNTS f_input_of f_latch_of f_and_of f_output_of)  : FnOk P w K mg base CX0 2 f fd ["inputs", "latches", "ands", "outputs"] (spOf K ((R_law_text C_Net C_Circuit))) := by
  refine fnok F sc_law_text (fun as Q h => ?_) (by decide) fun cdv A outer s H E hr => ?_
  · first | (obtain ⟨e, _⟩ := h; rw [e]; rfl) | (obtain ⟨_, e, _⟩ := h; rw [e]; rfl) | (obtain ⟨_, _, e, _⟩ := h; rw [e]; rfl) | (obtain ⟨_, _, _, e, _⟩ := h; rw [e]; rfl) | (obtain ⟨_, _, _, _, e, _⟩ := h; rw [e]; rfl) | (obtain ⟨_, _, _, _, _, e, _⟩ := h; rw [e]; rfl) | (obtain ⟨_, _, _, _, _, _, e, _⟩ := h; rw [e]; rfl) | (obtain ⟨_, _, _, _, _, _, _, e, _⟩ := h; rw [e]; rfl) | (obtain ⟨_, _, _, _, _, _, _, _, e, _⟩ := h; rw [e]; rfl) | (obtain ⟨_, _, _, _, _, _, _, _, _, e, _⟩ := h; rw [e]; rfl) | (obtain ⟨_, _, _, _, _, _, _, _, _, _, e, _⟩ := h; rw [e]; rfl) | (obtain ⟨_, _, _, _, _, _, _, _, _, _, _, e, _⟩ := h; rw [e]; rfl) | (obtain ⟨_, _, _, _, _, _, _, _, _, _, _, _, e, _⟩ := h; rw [e]; rfl) | (obtain ⟨_, _, _, _, _, _, _, _, _, _, _, _, _, e, _⟩ := h; rw [e]; rfl) | (obtain ⟨e1, e2, e3, _⟩ := h; subst e1 e2 e3; exact ⟨rfl, rfl, DicB.one _⟩) | (obtain ⟨_, e1, e2, e3, _⟩ := h; subst e1 e2 e3; exact ⟨rfl, rfl, DicB.one _⟩) | (obtain ⟨_, _, e1, e2, e3, _⟩ := h; subst e1 e2 e3; exact ⟨rfl, rfl, DicB.one _⟩) | (obtain ⟨_, _, _, e1, e2, e3, _⟩ := h; subst e1 e2 e3; exact ⟨rfl, rfl, DicB.one _⟩) | (obtain ⟨_, _, _, _, e1, e2, e3, _⟩ := h; subst e1 e2 e3; exact ⟨rfl, rfl, DicB.one _⟩) | (obtain ⟨_, _, _, _, _, e1, e2, e3, _⟩ := h; subst e1 e2 e3; exact ⟨rfl, rfl, DicB.one _⟩) | (obtain ⟨_, _, _, _, _, _, e1, e2, e3, _⟩ := h; subst e1 e2 e3; exact ⟨rfl, rfl, DicB.one _⟩) | (obtain ⟨_, _, _, _, _, _, _, e1, e2, e3, _⟩ := h; subst e1 e2 e3; exact ⟨rfl, rfl, DicB.one _⟩) | (obtain ⟨_, _, _, _, _, _, _, _, e1, e2, e3, _⟩ := h; subst e1 e2 e3; exact ⟨rfl, rfl, DicB.one _⟩) | (obtain ⟨_, _, _, _, _, _, _, _, _, e1, e2, e3, _⟩ := h; subst e1 e2 e3; exact ⟨rfl, rfl, DicB.one _⟩) | (obtain ⟨_, _, _, _, _, _, _, _, _, _, e1, e2, e3, _⟩ := h; subst e1 e2 e3; exact ⟨rfl, rfl, DicB.one _⟩) | (obtain ⟨_, _, _, _, _, _, _, _, _, _, _, e1, e2, e3, _⟩ := h; subst e1 e2 e3; exact ⟨rfl, rfl, DicB.one _⟩)
  refine ⟨_, b_cons (s_set 4 sc_law_text.nd (x_s)) (b_cons (s_for rfl PassesOwn.never rfl (i_e (x_v 0)) (g_n 5 sc_law_text.nd) (b_one (s_set 4 sc_law_text.nd (x_add (x_add (x_add (x_v 4) (x_s)) (x_v 5)) (x_s))))) (b_cons (s_for rfl PassesOwn.never rfl (i_e (x_v 1)) (g_n 6 sc_law_text.nd) (b_one (s_set 4 sc_law_text.nd (x_add (x_add (x_add (x_add (x_add (x_add (x_add (x_v 4) (x_s)) (x_ix (x_v 6) (x_i))) (x_s)) (x_strI T.str (x_ix (x_v 6) (x_i)))) (x_s)) (x_strI T.str (x_ix (x_v 6) (x_i)))) (x_s))))) (b_cons (s_for rfl PassesOwn.never rfl (i_e (x_v 2)) (g_n 7 sc_law_text.nd) (b_one (s_set 4 sc_law_text.nd (x_add (x_add (x_add (x_add (x_add (x_v 4) (x_s)) (x_strI T.str (x_ix (x_v 7) (x_i)))) (x_s)) (x_strI T.str (x_ix (x_v 7) (x_i)))) (x_s))))) (b_cons (s_for rfl PassesOwn.never rfl (i_e (x_v 3)) (g_n 7 sc_law_text.nd) (b_one (s_set 4 sc_law_text.nd (x_add (x_add (x_add (x_add (x_add (x_v 4) (x_s)) (x_ix (x_v 7) (x_i))) (x_s)) (x_strI T.str (x_ix (x_v 7) (x_i)))) (x_s))))) (b_one (s_ret (x_v 4))))))), ?_⟩
  rintro as Q ⟨I, L, A, O, rfl, cv, hq⟩
  have c1 := cv.i
  have c2 := cv.l
  have c3 := cv.a
  have c4 := cv.o
  have gv := cv.gv
  have wl := wd_len
  conv => whnf
  refine ⟨by rw [List.length_map]; omega, ?_⟩
  try (dsimp only [ents, put, List.map, arE, nos, List.length, List.append, HAppend.hAppend, Append.append, Nat.reduceAdd, Nat.reduceSub, Nat.zero_add]; try dsimp only [List.append_eq])
  conv => whnf
  refine ⟨fun i δ => ∃ e5 : Ent, δ = [.dat (SL I), .dat (.lst (L.map tri)), .dat (.lst (A.map pr)), .dat (.lst (O.map po)), .dat (.str (tx (CR (I.take i) [] [] []))), e5, .no, .no], ⟨_, by rw [tx_0]; rfl⟩, ?_, ?_⟩
  · rintro i d δ hi hd ⟨e5, rfl⟩
    obtain ⟨s, hs, rfl⟩ := get_str hd
    have h1 := CR_tx (gv.t1 i)
    have h2 := (gv.gi s (List.mem_of_getElem? hs)).len
    have e : tx (CR (I.take i) [] [] []) ++ "input " ++ s ++ "\n" = tx (CR (I.take (i + 1)) [] [] []) := by
      rw [wd1, take_some hs, CR_1]
      rfl
    conv => whnf
    refine ⟨by rw [sizeLine_eq]; omega, ?_⟩
    conv => whnf
    refine ⟨by rw [len_app, sizeLine_eq]; omega, ?_⟩
    conv => whnf
    refine ⟨by rw [len_app, len_app, sizeLine_eq]; omega, ?_⟩
    rw [e]
    exact ⟨_, rfl⟩
  rintro δ ⟨e5, rfl⟩
  rw [List.length_map, List.take_length]
  conv => whnf
  refine ⟨by rw [List.length_map]; omega, ?_⟩
  refine ⟨fun i δ => ∃ e6 : Ent, δ = [.dat (SL I), .dat (.lst (L.map tri)), .dat (.lst (A.map pr)), .dat (.lst (O.map po)), .dat (.str (tx (CR I (L.take i) [] []))), e5, e6, .no], ⟨_, rfl⟩, ?_, ?_⟩
  · rintro i d δ hi hd ⟨e6, rfl⟩
    obtain ⟨q, hs, rfl⟩ := get_tri hd
    have h1 := CR_tx (gv.t2 i)
    have g := gv.gl q (List.mem_of_getElem? hs)
    have g1 := g.1.len
    have g2 : (Str.ofString (toString q.2.1)).length ≤ 6 := nS_len g.2.1.1 g.2.1.2
    have g3 : (Str.ofString (toString q.2.2)).length ≤ 6 := nS_len g.2.2.1 g.2.2.2
    have e : tx (CR I (L.take i) [] []) ++ "latch " ++ q.1 ++ " " ++ nS q.2.1 ++ " " ++ nS q.2.2 ++ "\n" = tx (CR I (L.take (i + 1)) [] []) := by
      rw [wd2, take_some hs, CR_2]
      rfl
    conv => whnf
    refine ⟨by rw [sizeLine_eq]; omega, ?_⟩
    conv => whnf
    refine ⟨_, rfl, ?_⟩
    conv => whnf
    refine ⟨by rw [len_app, sizeLine_eq]; omega, ?_⟩
    conv => whnf
    refine ⟨by rw [len_app, len_app, sizeLine_eq]; omega, ?_⟩
    conv => whnf
    refine ⟨_, rfl, ?_⟩
    conv => whnf
    refine ⟨small_log g.2.1.1 g.2.1.2, ?_⟩
    conv => whnf
    refine ⟨by simp only [len_app]; rw [sizeLine_eq]; omega, ?_⟩
    conv => whnf
    refine ⟨by simp only [len_app]; rw [sizeLine_eq]; omega, ?_⟩
    conv => whnf
    refine ⟨_, rfl, ?_⟩
    conv => whnf
    refine ⟨small_log g.2.2.1 g.2.2.2, ?_⟩
    conv => whnf
    refine ⟨by simp only [len_app]; rw [sizeLine_eq]; omega, ?_⟩
    conv => whnf
    refine ⟨by simp only [len_app]; rw [sizeLine_eq]; omega, ?_⟩
    rw [e]
    exact ⟨_, rfl⟩
  rintro δ ⟨e6, rfl⟩
  rw [List.length_map, List.take_length]
  conv => whnf
  refine ⟨by rw [List.length_map]; omega, ?_⟩
  refine ⟨fun i δ => ∃ e7 : Ent, δ = [.dat (SL I), .dat (.lst (L.map tri)), .dat (.lst (A.map pr)), .dat (.lst (O.map po)), .dat (.str (tx (CR I L (A.take i) []))), e5, e6, e7], ⟨_, rfl⟩, ?_, ?_⟩
  · rintro i d δ hi hd ⟨e7, rfl⟩
    obtain ⟨q, hs, rfl⟩ := get_pr hd
    have h1 := CR_tx (gv.t3 i)
    have g := gv.ga q (List.mem_of_getElem? hs)
    have g2 : (Str.ofString (toString q.1)).length ≤ 6 := nS_len g.1.1 g.1.2
    have g3 : (Str.ofString (toString q.2)).length ≤ 6 := nS_len g.2.1 g.2.2
    have e : tx (CR I L (A.take i) []) ++ "and " ++ nS q.1 ++ " " ++ nS q.2 ++ "\n" = tx (CR I L (A.take (i + 1)) []) := by
      rw [wd3, take_some hs, CR_3]
      rfl
    conv => whnf
    refine ⟨by rw [sizeLine_eq]; omega, ?_⟩
    conv => whnf
    refine ⟨_, rfl, ?_⟩
    conv => whnf
    refine ⟨small_log g.1.1 g.1.2, ?_⟩
    conv => whnf
    refine ⟨by simp only [len_app]; rw [sizeLine_eq]; omega, ?_⟩
    conv => whnf
    refine ⟨by simp only [len_app]; rw [sizeLine_eq]; omega, ?_⟩
    conv => whnf
    refine ⟨_, rfl, ?_⟩
    conv => whnf
    refine ⟨small_log g.2.1 g.2.2, ?_⟩
    conv => whnf
    refine ⟨by simp only [len_app]; rw [sizeLine_eq]; omega, ?_⟩
    conv => whnf
    refine ⟨by simp only [len_app]; rw [sizeLine_eq]; omega, ?_⟩
    rw [e]
    exact ⟨_, rfl⟩
  rintro δ ⟨e7, rfl⟩
  rw [List.length_map, List.take_length]
  conv => whnf
  refine ⟨by rw [List.length_map]; omega, ?_⟩
  refine ⟨fun i δ => ∃ e7 : Ent, δ = [.dat (SL I), .dat (.lst (L.map tri)), .dat (.lst (A.map pr)), .dat (.lst (O.map po)), .dat (.str (tx (CR I L A (O.take i)))), e5, e6, e7], ⟨_, rfl⟩, ?_, ?_⟩
  · rintro i d δ hi hd ⟨e7, rfl⟩
    obtain ⟨q, hs, rfl⟩ := get_po hd
    have h1 := CR_tx (gv.t4 i)
    have g := gv.go q (List.mem_of_getElem? hs)
    have g1 := g.1.len
    have g3 : (Str.ofString (toString q.2)).length ≤ 6 := nS_len g.2.1 g.2.2
    have e : tx (CR I L A (O.take i)) ++ "output " ++ q.1 ++ " " ++ nS q.2 ++ "\n" = tx (CR I L A (O.take (i + 1))) := by
      rw [wd4, take_some hs, CR_4]
      rfl
    conv => whnf
    refine ⟨by rw [sizeLine_eq]; omega, ?_⟩
    conv => whnf
    refine ⟨_, rfl, ?_⟩
    conv => whnf
    refine ⟨by rw [len_app, sizeLine_eq]; omega, ?_⟩
    conv => whnf
    refine ⟨by simp only [len_app]; rw [sizeLine_eq]; omega, ?_⟩
    conv => whnf
    refine ⟨_, rfl, ?_⟩
    conv => whnf
    refine ⟨small_log g.2.1 g.2.2, ?_⟩
    conv => whnf
    refine ⟨by simp only [len_app]; rw [sizeLine_eq]; omega, ?_⟩
    conv => whnf
    refine ⟨by simp only [len_app]; rw [sizeLine_eq]; omega, ?_⟩
    rw [e]
    exact ⟨_, rfl⟩
  rintro δ ⟨e7, rfl⟩
  rw [List.length_map, List.take_length]
  conv => whnf
  exact hq
theorem ok_law {f : Addr} {fd : FuncData} (F : Fun K "law" "law" s_law f fd) (T : Txt K mg C_Net C_Circuit C_LineReader w D_GREATEST_COUNTS f_input_of f_latch_of f_and_of f_output_of) (c_Circuit_eq : Met P w K mg base C_Circuit "__eq__" 2 ["self", "other"] (R_Circuit_eq C_Net C_Circuit)) (m_Circuit : Mak P w K mg base "Circuit" C_Circuit 6 ["self", "inputs", "latches", "ands", "outputs"] (R_Circuit_init C_Net C_Circuit)) (c_law_parts : Cal P w K mg base "_law_parts" 4 ["rows", "most_inputs", "most_latches", "most_ands"] (R_law_parts C_Net C_Circuit)) (c_law_rows : Cal P w K mg base "_law_rows" 2 ["script", "count"] (R_law_rows C_Net C_Circuit)) (c_law_text : Cal P w K mg base "_law_text" 2 ["inputs", "latches", "ands", "outputs"] (R_law_text C_Net C_Circuit)) (c_read_circuit : Cal P w K mg base "read_circuit" 9 ["text"] (R_read_circuit C_Net C_Circuit)) (c_write_circuit : Cal P w K mg base "write_circuit" 3 ["circuit"] (R_write_circuit C_Net C_Circuit)) : FnOk P w K mg base CX0 10 f fd ["script"] (spOf K (R_law)) := by
  refine fnok F sc_law (fun as Q h => ?_) (by decide) fun cdv A outer s H E hr => ?_
  · first | (obtain ⟨e, _⟩ := h; rw [e]; rfl) | (obtain ⟨_, e, _⟩ := h; rw [e]; rfl) | (obtain ⟨_, _, e, _⟩ := h; rw [e]; rfl) | (obtain ⟨_, _, _, e, _⟩ := h; rw [e]; rfl) | (obtain ⟨_, _, _, _, e, _⟩ := h; rw [e]; rfl) | (obtain ⟨_, _, _, _, _, e, _⟩ := h; rw [e]; rfl) | (obtain ⟨_, _, _, _, _, _, e, _⟩ := h; rw [e]; rfl) | (obtain ⟨_, _, _, _, _, _, _, e, _⟩ := h; rw [e]; rfl) | (obtain ⟨_, _, _, _, _, _, _, _, e, _⟩ := h; rw [e]; rfl) | (obtain ⟨_, _, _, _, _, _, _, _, _, e, _⟩ := h; rw [e]; rfl) | (obtain ⟨_, _, _, _, _, _, _, _, _, _, e, _⟩ := h; rw [e]; rfl) | (obtain ⟨_, _, _, _, _, _, _, _, _, _, _, e, _⟩ := h; rw [e]; rfl) | (obtain ⟨_, _, _, _, _, _, _, _, _, _, _, _, e, _⟩ := h; rw [e]; rfl) | (obtain ⟨_, _, _, _, _, _, _, _, _, _, _, _, _, e, _⟩ := h; rw [e]; rfl) | (obtain ⟨e1, e2, e3, _⟩ := h; subst e1 e2 e3; exact ⟨rfl, rfl, DicB.one _⟩) | (obtain ⟨_, e1, e2, e3, _⟩ := h; subst e1 e2 e3; exact ⟨rfl, rfl, DicB.one _⟩) | (obtain ⟨_, _, e1, e2, e3, _⟩ := h; subst e1 e2 e3; exact ⟨rfl, rfl, DicB.one _⟩) | (obtain ⟨_, _, _, e1, e2, e3, _⟩ := h; subst e1 e2 e3; exact ⟨rfl, rfl, DicB.one _⟩) | (obtain ⟨_, _, _, _, e1, e2, e3, _⟩ := h; subst e1 e2 e3; exact ⟨rfl, rfl, DicB.one _⟩) | (obtain ⟨_, _, _, _, _, e1, e2, e3, _⟩ := h; subst e1 e2 e3; exact ⟨rfl, rfl, DicB.one _⟩) | (obtain ⟨_, _, _, _, _, _, e1, e2, e3, _⟩ := h; subst e1 e2 e3; exact ⟨rfl, rfl, DicB.one _⟩) | (obtain ⟨_, _, _, _, _, _, _, e1, e2, e3, _⟩ := h; subst e1 e2 e3; exact ⟨rfl, rfl, DicB.one _⟩) | (obtain ⟨_, _, _, _, _, _, _, _, e1, e2, e3, _⟩ := h; subst e1 e2 e3; exact ⟨rfl, rfl, DicB.one _⟩) | (obtain ⟨_, _, _, _, _, _, _, _, _, e1, e2, e3, _⟩ := h; subst e1 e2 e3; exact ⟨rfl, rfl, DicB.one _⟩) | (obtain ⟨_, _, _, _, _, _, _, _, _, _, e1, e2, e3, _⟩ := h; subst e1 e2 e3; exact ⟨rfl, rfl, DicB.one _⟩) | (obtain ⟨_, _, _, _, _, _, _, _, _, _, _, e1, e2, e3, _⟩ := h; subst e1 e2 e3; exact ⟨rfl, rfl, DicB.one _⟩)
  refine ⟨_, b_cons (s_set 1 sc_law.nd (x_cal c_law_rows hr (a_d (x_v 0) (a_d (x_i) (a_nil))))) (b_cons (s_asg (x_cal c_law_parts hr (a_d (x_v 1) (a_d (x_i) (a_d (x_i) (a_d (x_i) (a_nil)))))) (g_tup (n := 4) rfl (g_cons (g_n 2 sc_law.nd) (g_cons (g_n 3 sc_law.nd) (g_cons (g_n 4 sc_law.nd) (g_cons (g_n 5 sc_law.nd) (g_nil))))))) (b_join (s_if (t_cmp (h_eq hr) (x_mod (x_int T.int (x_ixL (r_v 1) (x_i))) (x_i)) (x_i)) (b_one (s_set 5 sc_law.nd (x_l (l_disp (a_nil))))) (b_nil)) (b_cons (s_set 6 sc_law.nd (x_mak m_Circuit hr (a_d (x_v 2) (a_d (x_v 3) (a_d (x_v 4) (a_d (x_v 5) (a_nil))))))) (b_cons (s_set 7 sc_law.nd (x_cal c_write_circuit hr (a_d (x_v 6) (a_nil)))) (b_cons (s_if (t_pw (t_or (t_not (t_val (x_isi "str" T.isinstance T.str boot_str (x_v 7)))) (t_or1 (t_cmp (h_ne hr) (x_v 7) (x_cal c_law_text hr (a_d (x_v 2) (a_d (x_v 3) (a_d (x_v 4) (a_d (x_v 5) (a_nil)))))))))) (b_one (s_ret (x_b))) (b_nil)) (b_cons (s_set 8 sc_law.nd (x_cal c_read_circuit hr (a_d (x_v 7) (a_nil)))) (b_cons (s_if (t_pw (t_or (t_cmp (h_ne hr) (x_fldN 8 T.cl_Circuit T.na_Circuit_inputs) (x_v 2)) (t_or (t_cmp (h_ne hr) (x_fldN 8 T.cl_Circuit T.na_Circuit_latches) (x_v 3)) (t_or (t_cmp (h_ne hr) (x_fldN 8 T.cl_Circuit T.na_Circuit_ands) (x_v 4)) (t_or1 (t_cmp (h_ne hr) (x_fldN 8 T.cl_Circuit T.na_Circuit_outputs) (x_v 5))))))) (b_one (s_ret (x_b))) (b_nil)) (b_one (s_ret (x_and (x_cmp (h_eqO c_Circuit_eq hr) (x_v 8) (x_v 6)) (x_and (x_cmp (h_eq hr) (x_cal c_write_circuit hr (a_d (x_v 8) (a_nil))) (x_v 7)) (x_one (x_cmp (h_eqO c_Circuit_eq hr) (x_v 6) (x_mak m_Circuit hr (a_d (x_v 2) (a_d (x_v 3) (a_d (x_v 4) (a_d (x_v 5) (a_nil))))))))))))))))))), ?_⟩
  rintro as Q ⟨ns, rfl, hn, hq⟩
  conv => whnf
  refine ⟨ns, 32, rfl, by decide, by decide, hn, fun rs hrl hrp => ?_⟩
  have hl : rs.length = 32 := by omega
  have at_ : ∀ i : Nat, i < 32 → atI (rs.map D.int) (i : Int) = some (.int (rs.getD i 0)) := fun i h => at_int (by omega) (by omega)
  conv => whnf
  refine ⟨rs, rfl, hrp, by omega, fun g In L A g2 On O hg hg2 i3 l3 a6 o1 o3 hO cv => ?_⟩
  clear hg hg2 i3
  generalize NS g In = I at cv
  conv => whnf
  refine ⟨rfl, ?_⟩
  try (dsimp only [ents, put, List.map, arE, nos, List.length, List.append, HAppend.hAppend, Append.append, Nat.reduceAdd, Nat.reduceSub, Nat.zero_add]; try dsimp only [List.append_eq])
  conv => whnf
  refine ⟨fun δ => ∃ O', CV I L A O' ∧ δ = [.dat (.lst (ns.map D.int)), .dat (.lst (rs.map D.int)), .dat (SL I), .dat (.lst (L.map tri)), .dat (.lst (A.map pr)), .dat (.lst (O'.map po)), .no, .no, .no], ?_, ?_⟩
  · conv => whnf
    refine ⟨_, at_ 31 (by omega), ?_⟩
    conv => whnf
    refine ⟨by (first | decide | omega | (dsimp only; decide) | (dsimp only; omega)), ?_⟩
    conv => whnf
    refine ⟨fun _ => ?_, fun _ => ⟨O, cv, rfl⟩⟩
    conv => whnf
    refine ⟨by show 0 ≤ 1000; decide, ?_⟩
    refine ⟨[], ⟨cv.i, cv.l, cv.a, Nat.zero_le _, cv.ok, cv.st, fun p hp => (by cases hp), cv.nm, cv.nd, fun p hp => (by cases hp), List.nodup_nil⟩, rfl⟩
  rintro δ ⟨O', cv', rfl⟩
  clear cv hO
  conv => whnf
  refine ⟨I, L, A, O', rfl, cv', ?_⟩
  try (dsimp only [ents, put, List.map, arE, nos, List.length, List.append, HAppend.hAppend, Append.append, Nat.reduceAdd, Nat.reduceSub, Nat.zero_add]; try dsimp only [List.append_eq])
  conv => whnf
  refine ⟨I, L, A, O', rfl, cv', ?_⟩
  try (dsimp only [ents, put, List.map, arE, nos, List.length, List.append, HAppend.hAppend, Append.append, Nat.reduceAdd, Nat.reduceSub, Nat.zero_add]; try dsimp only [List.append_eq])
  conv => whnf
  refine ⟨true, by decide +kernel, ?_⟩
  conv => whnf
  refine ⟨fun h => (by cases h), fun _ => ?_⟩
  conv => whnf
  refine ⟨I, L, A, O', rfl, cv', ?_⟩
  try (dsimp only [ents, put, List.map, arE, nos, List.length, List.append, HAppend.hAppend, Append.append, Nat.reduceAdd, Nat.reduceSub, Nat.zero_add]; try dsimp only [List.append_eq])
  conv => whnf
  refine ⟨fun h => (by simp at h), fun _ => ?_⟩
  try (dsimp only [ents, put, List.map, arE, nos, List.length, List.append, HAppend.hAppend, Append.append, Nat.reduceAdd, Nat.reduceSub, Nat.zero_add]; try dsimp only [List.append_eq])
  conv => whnf
  refine ⟨I, L, A, O', rfl, cv', ?_⟩
  try (dsimp only [ents, put, List.map, arE, nos, List.length, List.append, HAppend.hAppend, Append.append, Nat.reduceAdd, Nat.reduceSub, Nat.zero_add]; try dsimp only [List.append_eq])
  conv => whnf
  refine ⟨rfl, _, rfl, ?_⟩
  conv => whnf
  refine gNe_same (pl_SL fun s hs => cv'.nm s (List.mem_append_left _ hs)) ?_
  conv => whnf
  refine ⟨fun h => (by cases h), fun _ => ?_⟩
  conv => whnf
  refine ⟨rfl, _, rfl, ?_⟩
  conv => whnf
  refine gNe_same (pl_tri fun s hs => cv'.nm s (List.mem_append_right _ hs)) ?_
  conv => whnf
  refine ⟨fun h => (by cases h), fun _ => ?_⟩
  conv => whnf
  refine ⟨rfl, _, rfl, ?_⟩
  conv => whnf
  refine gNe_same (pl_pr A) ?_
  conv => whnf
  refine ⟨fun h => (by cases h), fun _ => ?_⟩
  conv => whnf
  refine ⟨rfl, _, rfl, ?_⟩
  conv => whnf
  refine gNe_same (pl_po fun s hs => cv'.on s hs) ?_
  conv => whnf
  refine ⟨fun h => (by cases h), fun _ => ?_⟩
  try (dsimp only [ents, put, List.map, arE, nos, List.length, List.append, HAppend.hAppend, Append.append, Nat.reduceAdd, Nat.reduceSub, Nat.zero_add]; try dsimp only [List.append_eq])
  conv => whnf
  refine ⟨⟨_, rfl⟩, ⟨_, rfl⟩, ⟨I, L, A, O', rfl, cv', rfl⟩, ?_⟩
  conv => whnf
  refine ⟨fun _ => ?_, fun h => (by cases h)⟩
  conv => whnf
  refine ⟨I, L, A, O', rfl, cv', ?_⟩
  conv => whnf
  refine ⟨fun _ => ?_, fun h => absurd rfl (of_decide_eq_false h)⟩
  conv => whnf
  refine ⟨I, L, A, O', rfl, cv', ?_⟩
  conv => whnf
  refine ⟨⟨_, rfl⟩, ⟨_, rfl⟩, ⟨I, L, A, O', rfl, cv', rfl⟩, ?_⟩
  exact hq
end
theorem all_mk {l : PySem.W.OpenLaw} {w : World} {K : PySem.W.Frag} {h : Heap} {mg : Str → Option Value} {fa : Addr} {C_Net : Addr} {C_Circuit : Addr} {C_LineReader : Addr} {f_Net_init : Addr} {f_Net_first_and : Addr} {f_Net_node_count : Addr} {f_is_name : Addr} {f_Circuit_init : Addr} {f_Circuit_as_net : Addr} {f_Circuit_eq : Addr} {f_check_circuit : Addr} {f_tell_new_names : Addr} {f_check_part : Addr} {f_LineReader_init : Addr} {f_LineReader_has_more : Addr} {f_LineReader_take_title : Addr} {f_LineReader_take_entries : Addr} {f_LineReader_finish : Addr} {f_numbers_of : Addr} {f_is_number : Addr} {f_line_of : Addr} {f_write_circuit : Addr} {f_read_circuit : Addr} {f_take_circuit : Addr} {f_circuit_of : Addr} {f_input_of : Addr} {f_latch_of : Addr} {f_and_of : Addr} {f_output_of : Addr} {f_law_rows : Addr} {f_law_name : Addr} {f_law_literal : Addr} {f_law_ands : Addr} {f_law_parts : Addr} {f_law_text : Addr} {f_law : Addr} (X : K.In h) (G : h.Ns mainGlobals mg) (hfa : mg "law" = some (.ref fa))
    {od_Net_init an_Net_init : Option Addr} {sl_Net_init : Array (Option Value)} {oc_Net_init kV_Net_init dc_Net_init pm_Net_init cd_Net_init ct_Net_init : Value}
    {od_Net_first_and an_Net_first_and : Option Addr} {sl_Net_first_and : Array (Option Value)} {oc_Net_first_and kV_Net_first_and dc_Net_first_and pm_Net_first_and cd_Net_first_and ct_Net_first_and : Value} {p_Net_first_and : Addr} {pl_Net_first_and : List Value}
    {od_Net_node_count an_Net_node_count : Option Addr} {sl_Net_node_count : Array (Option Value)} {oc_Net_node_count kV_Net_node_count dc_Net_node_count pm_Net_node_count cd_Net_node_count ct_Net_node_count : Value} {p_Net_node_count : Addr} {pl_Net_node_count : List Value}
    {od_is_name an_is_name : Option Addr} {sl_is_name : Array (Option Value)} {oc_is_name kV_is_name dc_is_name pm_is_name cd_is_name ct_is_name : Value}
    {od_Circuit_init an_Circuit_init : Option Addr} {sl_Circuit_init : Array (Option Value)} {oc_Circuit_init kV_Circuit_init dc_Circuit_init pm_Circuit_init cd_Circuit_init ct_Circuit_init : Value}
    {od_Circuit_as_net an_Circuit_as_net : Option Addr} {sl_Circuit_as_net : Array (Option Value)} {oc_Circuit_as_net kV_Circuit_as_net dc_Circuit_as_net pm_Circuit_as_net cd_Circuit_as_net ct_Circuit_as_net : Value}
    {od_Circuit_eq an_Circuit_eq : Option Addr} {sl_Circuit_eq : Array (Option Value)} {oc_Circuit_eq kV_Circuit_eq dc_Circuit_eq pm_Circuit_eq cd_Circuit_eq ct_Circuit_eq : Value}
    {od_check_circuit an_check_circuit : Option Addr} {sl_check_circuit : Array (Option Value)} {oc_check_circuit kV_check_circuit dc_check_circuit pm_check_circuit cd_check_circuit ct_check_circuit : Value}
    {od_tell_new_names an_tell_new_names : Option Addr} {sl_tell_new_names : Array (Option Value)} {oc_tell_new_names kV_tell_new_names dc_tell_new_names pm_tell_new_names cd_tell_new_names ct_tell_new_names : Value}
    {od_check_part an_check_part : Option Addr} {sl_check_part : Array (Option Value)} {oc_check_part kV_check_part dc_check_part pm_check_part cd_check_part ct_check_part : Value}
    {od_LineReader_init an_LineReader_init : Option Addr} {sl_LineReader_init : Array (Option Value)} {oc_LineReader_init kV_LineReader_init dc_LineReader_init pm_LineReader_init cd_LineReader_init ct_LineReader_init : Value}
    {od_LineReader_has_more an_LineReader_has_more : Option Addr} {sl_LineReader_has_more : Array (Option Value)} {oc_LineReader_has_more kV_LineReader_has_more dc_LineReader_has_more pm_LineReader_has_more cd_LineReader_has_more ct_LineReader_has_more : Value}
    {od_LineReader_take_title an_LineReader_take_title : Option Addr} {sl_LineReader_take_title : Array (Option Value)} {oc_LineReader_take_title kV_LineReader_take_title dc_LineReader_take_title pm_LineReader_take_title cd_LineReader_take_title ct_LineReader_take_title : Value}
    {od_LineReader_take_entries an_LineReader_take_entries : Option Addr} {sl_LineReader_take_entries : Array (Option Value)} {oc_LineReader_take_entries kV_LineReader_take_entries dc_LineReader_take_entries pm_LineReader_take_entries cd_LineReader_take_entries ct_LineReader_take_entries : Value}
    {od_LineReader_finish an_LineReader_finish : Option Addr} {sl_LineReader_finish : Array (Option Value)} {oc_LineReader_finish kV_LineReader_finish dc_LineReader_finish pm_LineReader_finish cd_LineReader_finish ct_LineReader_finish : Value}
    {od_numbers_of an_numbers_of : Option Addr} {sl_numbers_of : Array (Option Value)} {oc_numbers_of kV_numbers_of dc_numbers_of pm_numbers_of cd_numbers_of ct_numbers_of : Value}
    {od_is_number an_is_number : Option Addr} {sl_is_number : Array (Option Value)} {oc_is_number kV_is_number dc_is_number pm_is_number cd_is_number ct_is_number : Value}
    {od_line_of an_line_of : Option Addr} {sl_line_of : Array (Option Value)} {oc_line_of kV_line_of dc_line_of pm_line_of cd_line_of ct_line_of : Value}
    {od_write_circuit an_write_circuit : Option Addr} {sl_write_circuit : Array (Option Value)} {oc_write_circuit kV_write_circuit dc_write_circuit pm_write_circuit cd_write_circuit ct_write_circuit : Value}
    {od_read_circuit an_read_circuit : Option Addr} {sl_read_circuit : Array (Option Value)} {oc_read_circuit kV_read_circuit dc_read_circuit pm_read_circuit cd_read_circuit ct_read_circuit : Value}
    {od_take_circuit an_take_circuit : Option Addr} {sl_take_circuit : Array (Option Value)} {oc_take_circuit kV_take_circuit dc_take_circuit pm_take_circuit cd_take_circuit ct_take_circuit : Value}
    {od_circuit_of an_circuit_of : Option Addr} {sl_circuit_of : Array (Option Value)} {oc_circuit_of kV_circuit_of dc_circuit_of pm_circuit_of cd_circuit_of ct_circuit_of : Value}
    {od_input_of an_input_of : Option Addr} {sl_input_of : Array (Option Value)} {oc_input_of kV_input_of dc_input_of pm_input_of cd_input_of ct_input_of : Value}
    {od_latch_of an_latch_of : Option Addr} {sl_latch_of : Array (Option Value)} {oc_latch_of kV_latch_of dc_latch_of pm_latch_of cd_latch_of ct_latch_of : Value}
    {od_and_of an_and_of : Option Addr} {sl_and_of : Array (Option Value)} {oc_and_of kV_and_of dc_and_of pm_and_of cd_and_of ct_and_of : Value}
    {od_output_of an_output_of : Option Addr} {sl_output_of : Array (Option Value)} {oc_output_of kV_output_of dc_output_of pm_output_of cd_output_of ct_output_of : Value}
    {od_law_rows an_law_rows : Option Addr} {sl_law_rows : Array (Option Value)} {oc_law_rows kV_law_rows dc_law_rows pm_law_rows cd_law_rows ct_law_rows : Value}
    {od_law_name an_law_name : Option Addr} {sl_law_name : Array (Option Value)} {oc_law_name kV_law_name dc_law_name pm_law_name cd_law_name ct_law_name : Value}
    {od_law_literal an_law_literal : Option Addr} {sl_law_literal : Array (Option Value)} {oc_law_literal kV_law_literal dc_law_literal pm_law_literal cd_law_literal ct_law_literal : Value}
    {od_law_ands an_law_ands : Option Addr} {sl_law_ands : Array (Option Value)} {oc_law_ands kV_law_ands dc_law_ands pm_law_ands cd_law_ands ct_law_ands : Value}
    {od_law_parts an_law_parts : Option Addr} {sl_law_parts : Array (Option Value)} {oc_law_parts kV_law_parts dc_law_parts pm_law_parts cd_law_parts ct_law_parts : Value}
    {od_law_text an_law_text : Option Addr} {sl_law_text : Array (Option Value)} {oc_law_text kV_law_text dc_law_text pm_law_text cd_law_text ct_law_text : Value}
    {od_law an_law : Option Addr} {sl_law : Array (Option Value)} {oc_law kV_law dc_law pm_law cd_law ct_law : Value}
    {D_GREATEST_COUNTS : Addr} {es_GREATEST_COUNTS : Array DictEntry} {n_GREATEST_COUNTS : Nat} {tk_GREATEST_COUNTS_0 tk_GREATEST_COUNTS_1 tk_GREATEST_COUNTS_2 tk_GREATEST_COUNTS_3 : Tok}
    {tk_DIGITS tk_LETTERS tk_LONGEST_NAME tk_LONGEST_NUMBER tk_NAME_CHARACTERS : Tok}
    (aC_Net : PySem.W.nsIn K mainGlobals "Net" = some (some (.ref C_Net)))
    (pg_Net : PySem.W.plainGet K C_Net Str.empty = true)
    (hd_Net : PySem.W.hasDictIn K C_Net = true)
    (po_Net : PySem.W.plainOver K C_Net = true)
    (sa_Net : PySem.W.findIn K (.ref C_Net) "__setattr__" = some (some (.builtin "object.__setattr__")))
    (mk_Net : PySem.W.makesIn K C_Net = true)
    (kc_Net : PySem.W.keepIn K (.ref C_Net) = true)
    (na_Net_ands : PySem.W.findIn K (.ref C_Net) "ands" = some none)
    (na_Net_input_count : PySem.W.findIn K (.ref C_Net) "input_count" = some none)
    (na_Net_latches : PySem.W.findIn K (.ref C_Net) "latches" = some none)
    (aC_Circuit : PySem.W.nsIn K mainGlobals "Circuit" = some (some (.ref C_Circuit)))
    (pg_Circuit : PySem.W.plainGet K C_Circuit Str.empty = true)
    (hd_Circuit : PySem.W.hasDictIn K C_Circuit = true)
    (po_Circuit : PySem.W.plainOver K C_Circuit = true)
    (sa_Circuit : PySem.W.findIn K (.ref C_Circuit) "__setattr__" = some (some (.builtin "object.__setattr__")))
    (mk_Circuit : PySem.W.makesIn K C_Circuit = true)
    (kc_Circuit : PySem.W.keepIn K (.ref C_Circuit) = true)
    (na_Circuit_ands : PySem.W.findIn K (.ref C_Circuit) "ands" = some none)
    (na_Circuit_inputs : PySem.W.findIn K (.ref C_Circuit) "inputs" = some none)
    (na_Circuit_latches : PySem.W.findIn K (.ref C_Circuit) "latches" = some none)
    (na_Circuit_outputs : PySem.W.findIn K (.ref C_Circuit) "outputs" = some none)
    (aC_LineReader : PySem.W.nsIn K mainGlobals "LineReader" = some (some (.ref C_LineReader)))
    (pg_LineReader : PySem.W.plainGet K C_LineReader Str.empty = true)
    (hd_LineReader : PySem.W.hasDictIn K C_LineReader = true)
    (po_LineReader : PySem.W.plainOver K C_LineReader = true)
    (sa_LineReader : PySem.W.findIn K (.ref C_LineReader) "__setattr__" = some (some (.builtin "object.__setattr__")))
    (mk_LineReader : PySem.W.makesIn K C_LineReader = true)
    (kc_LineReader : PySem.W.keepIn K (.ref C_LineReader) = true)
    (na_LineReader_rows : PySem.W.findIn K (.ref C_LineReader) "_rows" = some none)
    (na_LineReader_taken : PySem.W.findIn K (.ref C_LineReader) "_taken" = some none)
    (ha_Circuit : PySem.W.findIn K (.ref C_Circuit) "__class__" = some (some (.builtin "object.__class__")))
    (hm_Circuit : PySem.W.mroIn K C_Circuit (.type "object") = some true)
    (ty_Circuit : PySem.W.typeIn K (.ref C_Circuit) = some (.type "type"))
    (cI_Circuit : PySem.W.isClsIn K C_Circuit = true)
    (es_Circuit : PySem.W.subIn K (.ref C_Circuit) (.ref C_Circuit) = some true)
    (eo : PySem.W.specialIn K (.builtin "object.__class__") "__get__" = some (some (.builtin "getset_descriptor.__get__")))
    (eu : PySem.W.takesIn K (.builtin "object.__class__") = some true)
    (ka_GREATEST_COUNTS : PySem.W.nsIn K mainGlobals "GREATEST_COUNTS" = some (some (.ref D_GREATEST_COUNTS)))
    (kl_GREATEST_COUNTS : K.lookup D_GREATEST_COUNTS = some ⟨.type "dict", none, .dict es_GREATEST_COUNTS n_GREATEST_COUNTS, #[]⟩)
    (kk_GREATEST_COUNTS : PySem.W.KeysLit w.params es_GREATEST_COUNTS.toList)
    (ke_GREATEST_COUNTS_0 : PySem.W.nsIn K D_GREATEST_COUNTS "inputs" = some (some (.int 16 tk_GREATEST_COUNTS_0)))
    (ke_GREATEST_COUNTS_1 : PySem.W.nsIn K D_GREATEST_COUNTS "latches" = some (some (.int 40 tk_GREATEST_COUNTS_1)))
    (ke_GREATEST_COUNTS_2 : PySem.W.nsIn K D_GREATEST_COUNTS "ands" = some (some (.int 2000 tk_GREATEST_COUNTS_2)))
    (ke_GREATEST_COUNTS_3 : PySem.W.nsIn K D_GREATEST_COUNTS "outputs" = some (some (.int 32 tk_GREATEST_COUNTS_3)))
    (nb_all : PySem.W.nsIn K mainGlobals "all" = some none)
    (nb_enumerate : PySem.W.nsIn K mainGlobals "enumerate" = some none)
    (nb_int : PySem.W.nsIn K mainGlobals "int" = some none)
    (nb_isinstance : PySem.W.nsIn K mainGlobals "isinstance" = some none)
    (nb_len : PySem.W.nsIn K mainGlobals "len" = some none)
    (nb_list : PySem.W.nsIn K mainGlobals "list" = some none)
    (nb_min : PySem.W.nsIn K mainGlobals "min" = some none)
    (nb_range : PySem.W.nsIn K mainGlobals "range" = some none)
    (nb_str : PySem.W.nsIn K mainGlobals "str" = some none)
    (nb_tuple : PySem.W.nsIn K mainGlobals "tuple" = some none)
    (nb_zip : PySem.W.nsIn K mainGlobals "zip" = some none)
    (ng_DIGITS : PySem.W.nsIn K mainGlobals "DIGITS" = some (some (.str "0123456789" tk_DIGITS)))
    (ng_LETTERS : PySem.W.nsIn K mainGlobals "LETTERS" = some (some (.str "abcdefghijklmnopqrstuvwxyz" tk_LETTERS)))
    (ng_LONGEST_NAME : PySem.W.nsIn K mainGlobals "LONGEST_NAME" = some (some (.int 12 tk_LONGEST_NAME)))
    (ng_LONGEST_NUMBER : PySem.W.nsIn K mainGlobals "LONGEST_NUMBER" = some (some (.int 6 tk_LONGEST_NUMBER)))
    (ng_NAME_CHARACTERS : PySem.W.nsIn K mainGlobals "NAME_CHARACTERS" = some (some (.str "abcdefghijklmnopqrstuvwxyz0123456789_" tk_NAME_CHARACTERS)))
    (a_Net_init : PySem.W.findIn K (.ref C_Net) "__init__" = some (some (.ref f_Net_init)))
    (i_Net_init : PySem.W.isFn K (.ref f_Net_init) = true)
    (l_Net_init : K.lookup f_Net_init = some ⟨oc_Net_init, od_Net_init, .func (PySem.W.fnOf "__init__" "Net.__init__" (defArgs s_Net_init) (defBody s_Net_init) (defScope s_Net_init) .none kV_Net_init dc_Net_init pm_Net_init an_Net_init cd_Net_init ct_Net_init), sl_Net_init⟩)
    (c_Net_init : PySem.W.codeIn K cd_Net_init "Net.__init__" = true)
    (k_Net_init : PySem.W.keepIn K (.ref f_Net_init) = true)
    (a_Net_first_and : PySem.W.findIn K (.ref C_Net) "first_and" = some (some (.ref p_Net_first_and)))
    (pg_Net_first_and : PySem.W.specialIn K (.ref p_Net_first_and) "__get__" = some (some (.builtin "property.__get__")))
    (pt_Net_first_and : PySem.W.takesIn K (.ref p_Net_first_and) = some true)
    (pr_Net_first_and : PySem.W.recIn K p_Net_first_and "property" = some (.ref f_Net_first_and :: pl_Net_first_and))
    (l_Net_first_and : K.lookup f_Net_first_and = some ⟨oc_Net_first_and, od_Net_first_and, .func (PySem.W.fnOf "first_and" "Net.first_and" (defArgs s_Net_first_and) (defBody s_Net_first_and) (defScope s_Net_first_and) .none kV_Net_first_and dc_Net_first_and pm_Net_first_and an_Net_first_and cd_Net_first_and ct_Net_first_and), sl_Net_first_and⟩)
    (c_Net_first_and : PySem.W.codeIn K cd_Net_first_and "Net.first_and" = true)
    (k_Net_first_and : PySem.W.keepIn K (.ref f_Net_first_and) = true)
    (a_Net_node_count : PySem.W.findIn K (.ref C_Net) "node_count" = some (some (.ref p_Net_node_count)))
    (pg_Net_node_count : PySem.W.specialIn K (.ref p_Net_node_count) "__get__" = some (some (.builtin "property.__get__")))
    (pt_Net_node_count : PySem.W.takesIn K (.ref p_Net_node_count) = some true)
    (pr_Net_node_count : PySem.W.recIn K p_Net_node_count "property" = some (.ref f_Net_node_count :: pl_Net_node_count))
    (l_Net_node_count : K.lookup f_Net_node_count = some ⟨oc_Net_node_count, od_Net_node_count, .func (PySem.W.fnOf "node_count" "Net.node_count" (defArgs s_Net_node_count) (defBody s_Net_node_count) (defScope s_Net_node_count) .none kV_Net_node_count dc_Net_node_count pm_Net_node_count an_Net_node_count cd_Net_node_count ct_Net_node_count), sl_Net_node_count⟩)
    (c_Net_node_count : PySem.W.codeIn K cd_Net_node_count "Net.node_count" = true)
    (k_Net_node_count : PySem.W.keepIn K (.ref f_Net_node_count) = true)
    (a_is_name : PySem.W.nsIn K mainGlobals "is_name" = some (some (.ref f_is_name)))
    (l_is_name : K.lookup f_is_name = some ⟨oc_is_name, od_is_name, .func (PySem.W.fnOf "is_name" "is_name" (defArgs s_is_name) (defBody s_is_name) (defScope s_is_name) .none kV_is_name dc_is_name pm_is_name an_is_name cd_is_name ct_is_name), sl_is_name⟩)
    (c_is_name : PySem.W.codeIn K cd_is_name "is_name" = true)
    (k_is_name : PySem.W.keepIn K (.ref f_is_name) = true)
    (a_Circuit_init : PySem.W.findIn K (.ref C_Circuit) "__init__" = some (some (.ref f_Circuit_init)))
    (i_Circuit_init : PySem.W.isFn K (.ref f_Circuit_init) = true)
    (l_Circuit_init : K.lookup f_Circuit_init = some ⟨oc_Circuit_init, od_Circuit_init, .func (PySem.W.fnOf "__init__" "Circuit.__init__" (defArgs s_Circuit_init) (defBody s_Circuit_init) (defScope s_Circuit_init) .none kV_Circuit_init dc_Circuit_init pm_Circuit_init an_Circuit_init cd_Circuit_init ct_Circuit_init), sl_Circuit_init⟩)
    (c_Circuit_init : PySem.W.codeIn K cd_Circuit_init "Circuit.__init__" = true)
    (k_Circuit_init : PySem.W.keepIn K (.ref f_Circuit_init) = true)
    (a_Circuit_as_net : PySem.W.findIn K (.ref C_Circuit) "as_net" = some (some (.ref f_Circuit_as_net)))
    (i_Circuit_as_net : PySem.W.isFn K (.ref f_Circuit_as_net) = true)
    (l_Circuit_as_net : K.lookup f_Circuit_as_net = some ⟨oc_Circuit_as_net, od_Circuit_as_net, .func (PySem.W.fnOf "as_net" "Circuit.as_net" (defArgs s_Circuit_as_net) (defBody s_Circuit_as_net) (defScope s_Circuit_as_net) .none kV_Circuit_as_net dc_Circuit_as_net pm_Circuit_as_net an_Circuit_as_net cd_Circuit_as_net ct_Circuit_as_net), sl_Circuit_as_net⟩)
    (c_Circuit_as_net : PySem.W.codeIn K cd_Circuit_as_net "Circuit.as_net" = true)
    (k_Circuit_as_net : PySem.W.keepIn K (.ref f_Circuit_as_net) = true)
    (a_Circuit_eq : PySem.W.findIn K (.ref C_Circuit) "__eq__" = some (some (.ref f_Circuit_eq)))
    (i_Circuit_eq : PySem.W.isFn K (.ref f_Circuit_eq) = true)
    (l_Circuit_eq : K.lookup f_Circuit_eq = some ⟨oc_Circuit_eq, od_Circuit_eq, .func (PySem.W.fnOf "__eq__" "Circuit.__eq__" (defArgs s_Circuit_eq) (defBody s_Circuit_eq) (defScope s_Circuit_eq) .none kV_Circuit_eq dc_Circuit_eq pm_Circuit_eq an_Circuit_eq cd_Circuit_eq ct_Circuit_eq), sl_Circuit_eq⟩)
    (c_Circuit_eq : PySem.W.codeIn K cd_Circuit_eq "Circuit.__eq__" = true)
    (k_Circuit_eq : PySem.W.keepIn K (.ref f_Circuit_eq) = true)
    (a_check_circuit : PySem.W.nsIn K mainGlobals "_check_circuit" = some (some (.ref f_check_circuit)))
    (l_check_circuit : K.lookup f_check_circuit = some ⟨oc_check_circuit, od_check_circuit, .func (PySem.W.fnOf "_check_circuit" "_check_circuit" (defArgs s_check_circuit) (defBody s_check_circuit) (defScope s_check_circuit) .none kV_check_circuit dc_check_circuit pm_check_circuit an_check_circuit cd_check_circuit ct_check_circuit), sl_check_circuit⟩)
    (c_check_circuit : PySem.W.codeIn K cd_check_circuit "_check_circuit" = true)
    (k_check_circuit : PySem.W.keepIn K (.ref f_check_circuit) = true)
    (a_tell_new_names : PySem.W.nsIn K mainGlobals "tell_new_names" = some (some (.ref f_tell_new_names)))
    (l_tell_new_names : K.lookup f_tell_new_names = some ⟨oc_tell_new_names, od_tell_new_names, .func (PySem.W.fnOf "tell_new_names" "tell_new_names" (defArgs s_tell_new_names) (defBody s_tell_new_names) (defScope s_tell_new_names) .none kV_tell_new_names dc_tell_new_names pm_tell_new_names an_tell_new_names cd_tell_new_names ct_tell_new_names), sl_tell_new_names⟩)
    (c_tell_new_names : PySem.W.codeIn K cd_tell_new_names "tell_new_names" = true)
    (k_tell_new_names : PySem.W.keepIn K (.ref f_tell_new_names) = true)
    (a_check_part : PySem.W.nsIn K mainGlobals "_check_part" = some (some (.ref f_check_part)))
    (l_check_part : K.lookup f_check_part = some ⟨oc_check_part, od_check_part, .func (PySem.W.fnOf "_check_part" "_check_part" (defArgs s_check_part) (defBody s_check_part) (defScope s_check_part) .none kV_check_part dc_check_part pm_check_part an_check_part cd_check_part ct_check_part), sl_check_part⟩)
    (c_check_part : PySem.W.codeIn K cd_check_part "_check_part" = true)
    (k_check_part : PySem.W.keepIn K (.ref f_check_part) = true)
    (a_LineReader_init : PySem.W.findIn K (.ref C_LineReader) "__init__" = some (some (.ref f_LineReader_init)))
    (i_LineReader_init : PySem.W.isFn K (.ref f_LineReader_init) = true)
    (l_LineReader_init : K.lookup f_LineReader_init = some ⟨oc_LineReader_init, od_LineReader_init, .func (PySem.W.fnOf "__init__" "LineReader.__init__" (defArgs s_LineReader_init) (defBody s_LineReader_init) (defScope s_LineReader_init) .none kV_LineReader_init dc_LineReader_init pm_LineReader_init an_LineReader_init cd_LineReader_init ct_LineReader_init), sl_LineReader_init⟩)
    (c_LineReader_init : PySem.W.codeIn K cd_LineReader_init "LineReader.__init__" = true)
    (k_LineReader_init : PySem.W.keepIn K (.ref f_LineReader_init) = true)
    (a_LineReader_has_more : PySem.W.findIn K (.ref C_LineReader) "has_more" = some (some (.ref f_LineReader_has_more)))
    (i_LineReader_has_more : PySem.W.isFn K (.ref f_LineReader_has_more) = true)
    (l_LineReader_has_more : K.lookup f_LineReader_has_more = some ⟨oc_LineReader_has_more, od_LineReader_has_more, .func (PySem.W.fnOf "has_more" "LineReader.has_more" (defArgs s_LineReader_has_more) (defBody s_LineReader_has_more) (defScope s_LineReader_has_more) .none kV_LineReader_has_more dc_LineReader_has_more pm_LineReader_has_more an_LineReader_has_more cd_LineReader_has_more ct_LineReader_has_more), sl_LineReader_has_more⟩)
    (c_LineReader_has_more : PySem.W.codeIn K cd_LineReader_has_more "LineReader.has_more" = true)
    (k_LineReader_has_more : PySem.W.keepIn K (.ref f_LineReader_has_more) = true)
    (a_LineReader_take_title : PySem.W.findIn K (.ref C_LineReader) "take_title" = some (some (.ref f_LineReader_take_title)))
    (i_LineReader_take_title : PySem.W.isFn K (.ref f_LineReader_take_title) = true)
    (l_LineReader_take_title : K.lookup f_LineReader_take_title = some ⟨oc_LineReader_take_title, od_LineReader_take_title, .func (PySem.W.fnOf "take_title" "LineReader.take_title" (defArgs s_LineReader_take_title) (defBody s_LineReader_take_title) (defScope s_LineReader_take_title) .none kV_LineReader_take_title dc_LineReader_take_title pm_LineReader_take_title an_LineReader_take_title cd_LineReader_take_title ct_LineReader_take_title), sl_LineReader_take_title⟩)
    (c_LineReader_take_title : PySem.W.codeIn K cd_LineReader_take_title "LineReader.take_title" = true)
    (k_LineReader_take_title : PySem.W.keepIn K (.ref f_LineReader_take_title) = true)
    (a_LineReader_take_entries : PySem.W.findIn K (.ref C_LineReader) "take_entries" = some (some (.ref f_LineReader_take_entries)))
    (i_LineReader_take_entries : PySem.W.isFn K (.ref f_LineReader_take_entries) = true)
    (l_LineReader_take_entries : K.lookup f_LineReader_take_entries = some ⟨oc_LineReader_take_entries, od_LineReader_take_entries, .func (PySem.W.fnOf "take_entries" "LineReader.take_entries" (defArgs s_LineReader_take_entries) (defBody s_LineReader_take_entries) (defScope s_LineReader_take_entries) .none kV_LineReader_take_entries dc_LineReader_take_entries pm_LineReader_take_entries an_LineReader_take_entries cd_LineReader_take_entries ct_LineReader_take_entries), sl_LineReader_take_entries⟩)
    (c_LineReader_take_entries : PySem.W.codeIn K cd_LineReader_take_entries "LineReader.take_entries" = true)
    (k_LineReader_take_entries : PySem.W.keepIn K (.ref f_LineReader_take_entries) = true)
    (a_LineReader_finish : PySem.W.findIn K (.ref C_LineReader) "finish" = some (some (.ref f_LineReader_finish)))
    (i_LineReader_finish : PySem.W.isFn K (.ref f_LineReader_finish) = true)
    (l_LineReader_finish : K.lookup f_LineReader_finish = some ⟨oc_LineReader_finish, od_LineReader_finish, .func (PySem.W.fnOf "finish" "LineReader.finish" (defArgs s_LineReader_finish) (defBody s_LineReader_finish) (defScope s_LineReader_finish) .none kV_LineReader_finish dc_LineReader_finish pm_LineReader_finish an_LineReader_finish cd_LineReader_finish ct_LineReader_finish), sl_LineReader_finish⟩)
    (c_LineReader_finish : PySem.W.codeIn K cd_LineReader_finish "LineReader.finish" = true)
    (k_LineReader_finish : PySem.W.keepIn K (.ref f_LineReader_finish) = true)
    (a_numbers_of : PySem.W.nsIn K mainGlobals "numbers_of" = some (some (.ref f_numbers_of)))
    (l_numbers_of : K.lookup f_numbers_of = some ⟨oc_numbers_of, od_numbers_of, .func (PySem.W.fnOf "numbers_of" "numbers_of" (defArgs s_numbers_of) (defBody s_numbers_of) (defScope s_numbers_of) .none kV_numbers_of dc_numbers_of pm_numbers_of an_numbers_of cd_numbers_of ct_numbers_of), sl_numbers_of⟩)
    (c_numbers_of : PySem.W.codeIn K cd_numbers_of "numbers_of" = true)
    (k_numbers_of : PySem.W.keepIn K (.ref f_numbers_of) = true)
    (a_is_number : PySem.W.nsIn K mainGlobals "is_number" = some (some (.ref f_is_number)))
    (l_is_number : K.lookup f_is_number = some ⟨oc_is_number, od_is_number, .func (PySem.W.fnOf "is_number" "is_number" (defArgs s_is_number) (defBody s_is_number) (defScope s_is_number) .none kV_is_number dc_is_number pm_is_number an_is_number cd_is_number ct_is_number), sl_is_number⟩)
    (c_is_number : PySem.W.codeIn K cd_is_number "is_number" = true)
    (k_is_number : PySem.W.keepIn K (.ref f_is_number) = true)
    (a_line_of : PySem.W.nsIn K mainGlobals "line_of" = some (some (.ref f_line_of)))
    (l_line_of : K.lookup f_line_of = some ⟨oc_line_of, od_line_of, .func (PySem.W.fnOf "line_of" "line_of" (defArgs s_line_of) (defBody s_line_of) (defScope s_line_of) .none kV_line_of dc_line_of pm_line_of an_line_of cd_line_of ct_line_of), sl_line_of⟩)
    (c_line_of : PySem.W.codeIn K cd_line_of "line_of" = true)
    (k_line_of : PySem.W.keepIn K (.ref f_line_of) = true)
    (a_write_circuit : PySem.W.nsIn K mainGlobals "write_circuit" = some (some (.ref f_write_circuit)))
    (l_write_circuit : K.lookup f_write_circuit = some ⟨oc_write_circuit, od_write_circuit, .func (PySem.W.fnOf "write_circuit" "write_circuit" (defArgs s_write_circuit) (defBody s_write_circuit) (defScope s_write_circuit) .none kV_write_circuit dc_write_circuit pm_write_circuit an_write_circuit cd_write_circuit ct_write_circuit), sl_write_circuit⟩)
    (c_write_circuit : PySem.W.codeIn K cd_write_circuit "write_circuit" = true)
    (k_write_circuit : PySem.W.keepIn K (.ref f_write_circuit) = true)
    (a_read_circuit : PySem.W.nsIn K mainGlobals "read_circuit" = some (some (.ref f_read_circuit)))
    (l_read_circuit : K.lookup f_read_circuit = some ⟨oc_read_circuit, od_read_circuit, .func (PySem.W.fnOf "read_circuit" "read_circuit" (defArgs s_read_circuit) (defBody s_read_circuit) (defScope s_read_circuit) .none kV_read_circuit dc_read_circuit pm_read_circuit an_read_circuit cd_read_circuit ct_read_circuit), sl_read_circuit⟩)
    (c_read_circuit : PySem.W.codeIn K cd_read_circuit "read_circuit" = true)
    (k_read_circuit : PySem.W.keepIn K (.ref f_read_circuit) = true)
    (a_take_circuit : PySem.W.nsIn K mainGlobals "take_circuit" = some (some (.ref f_take_circuit)))
    (l_take_circuit : K.lookup f_take_circuit = some ⟨oc_take_circuit, od_take_circuit, .func (PySem.W.fnOf "take_circuit" "take_circuit" (defArgs s_take_circuit) (defBody s_take_circuit) (defScope s_take_circuit) .none kV_take_circuit dc_take_circuit pm_take_circuit an_take_circuit cd_take_circuit ct_take_circuit), sl_take_circuit⟩)
    (c_take_circuit : PySem.W.codeIn K cd_take_circuit "take_circuit" = true)
    (k_take_circuit : PySem.W.keepIn K (.ref f_take_circuit) = true)
    (a_circuit_of : PySem.W.nsIn K mainGlobals "circuit_of" = some (some (.ref f_circuit_of)))
    (l_circuit_of : K.lookup f_circuit_of = some ⟨oc_circuit_of, od_circuit_of, .func (PySem.W.fnOf "circuit_of" "circuit_of" (defArgs s_circuit_of) (defBody s_circuit_of) (defScope s_circuit_of) .none kV_circuit_of dc_circuit_of pm_circuit_of an_circuit_of cd_circuit_of ct_circuit_of), sl_circuit_of⟩)
    (c_circuit_of : PySem.W.codeIn K cd_circuit_of "circuit_of" = true)
    (k_circuit_of : PySem.W.keepIn K (.ref f_circuit_of) = true)
    (a_input_of : PySem.W.nsIn K mainGlobals "_input_of" = some (some (.ref f_input_of)))
    (l_input_of : K.lookup f_input_of = some ⟨oc_input_of, od_input_of, .func (PySem.W.fnOf "_input_of" "_input_of" (defArgs s_input_of) (defBody s_input_of) (defScope s_input_of) .none kV_input_of dc_input_of pm_input_of an_input_of cd_input_of ct_input_of), sl_input_of⟩)
    (c_input_of : PySem.W.codeIn K cd_input_of "_input_of" = true)
    (k_input_of : PySem.W.keepIn K (.ref f_input_of) = true)
    (a_latch_of : PySem.W.nsIn K mainGlobals "_latch_of" = some (some (.ref f_latch_of)))
    (l_latch_of : K.lookup f_latch_of = some ⟨oc_latch_of, od_latch_of, .func (PySem.W.fnOf "_latch_of" "_latch_of" (defArgs s_latch_of) (defBody s_latch_of) (defScope s_latch_of) .none kV_latch_of dc_latch_of pm_latch_of an_latch_of cd_latch_of ct_latch_of), sl_latch_of⟩)
    (c_latch_of : PySem.W.codeIn K cd_latch_of "_latch_of" = true)
    (k_latch_of : PySem.W.keepIn K (.ref f_latch_of) = true)
    (a_and_of : PySem.W.nsIn K mainGlobals "_and_of" = some (some (.ref f_and_of)))
    (l_and_of : K.lookup f_and_of = some ⟨oc_and_of, od_and_of, .func (PySem.W.fnOf "_and_of" "_and_of" (defArgs s_and_of) (defBody s_and_of) (defScope s_and_of) .none kV_and_of dc_and_of pm_and_of an_and_of cd_and_of ct_and_of), sl_and_of⟩)
    (c_and_of : PySem.W.codeIn K cd_and_of "_and_of" = true)
    (k_and_of : PySem.W.keepIn K (.ref f_and_of) = true)
    (a_output_of : PySem.W.nsIn K mainGlobals "_output_of" = some (some (.ref f_output_of)))
    (l_output_of : K.lookup f_output_of = some ⟨oc_output_of, od_output_of, .func (PySem.W.fnOf "_output_of" "_output_of" (defArgs s_output_of) (defBody s_output_of) (defScope s_output_of) .none kV_output_of dc_output_of pm_output_of an_output_of cd_output_of ct_output_of), sl_output_of⟩)
    (c_output_of : PySem.W.codeIn K cd_output_of "_output_of" = true)
    (k_output_of : PySem.W.keepIn K (.ref f_output_of) = true)
    (a_law_rows : PySem.W.nsIn K mainGlobals "_law_rows" = some (some (.ref f_law_rows)))
    (l_law_rows : K.lookup f_law_rows = some ⟨oc_law_rows, od_law_rows, .func (PySem.W.fnOf "_law_rows" "_law_rows" (defArgs s_law_rows) (defBody s_law_rows) (defScope s_law_rows) .none kV_law_rows dc_law_rows pm_law_rows an_law_rows cd_law_rows ct_law_rows), sl_law_rows⟩)
    (c_law_rows : PySem.W.codeIn K cd_law_rows "_law_rows" = true)
    (k_law_rows : PySem.W.keepIn K (.ref f_law_rows) = true)
    (a_law_name : PySem.W.nsIn K mainGlobals "_law_name" = some (some (.ref f_law_name)))
    (l_law_name : K.lookup f_law_name = some ⟨oc_law_name, od_law_name, .func (PySem.W.fnOf "_law_name" "_law_name" (defArgs s_law_name) (defBody s_law_name) (defScope s_law_name) .none kV_law_name dc_law_name pm_law_name an_law_name cd_law_name ct_law_name), sl_law_name⟩)
    (c_law_name : PySem.W.codeIn K cd_law_name "_law_name" = true)
    (k_law_name : PySem.W.keepIn K (.ref f_law_name) = true)
    (a_law_literal : PySem.W.nsIn K mainGlobals "_law_literal" = some (some (.ref f_law_literal)))
    (l_law_literal : K.lookup f_law_literal = some ⟨oc_law_literal, od_law_literal, .func (PySem.W.fnOf "_law_literal" "_law_literal" (defArgs s_law_literal) (defBody s_law_literal) (defScope s_law_literal) .none kV_law_literal dc_law_literal pm_law_literal an_law_literal cd_law_literal ct_law_literal), sl_law_literal⟩)
    (c_law_literal : PySem.W.codeIn K cd_law_literal "_law_literal" = true)
    (k_law_literal : PySem.W.keepIn K (.ref f_law_literal) = true)
    (a_law_ands : PySem.W.nsIn K mainGlobals "_law_ands" = some (some (.ref f_law_ands)))
    (l_law_ands : K.lookup f_law_ands = some ⟨oc_law_ands, od_law_ands, .func (PySem.W.fnOf "_law_ands" "_law_ands" (defArgs s_law_ands) (defBody s_law_ands) (defScope s_law_ands) .none kV_law_ands dc_law_ands pm_law_ands an_law_ands cd_law_ands ct_law_ands), sl_law_ands⟩)
    (c_law_ands : PySem.W.codeIn K cd_law_ands "_law_ands" = true)
    (k_law_ands : PySem.W.keepIn K (.ref f_law_ands) = true)
    (a_law_parts : PySem.W.nsIn K mainGlobals "_law_parts" = some (some (.ref f_law_parts)))
    (l_law_parts : K.lookup f_law_parts = some ⟨oc_law_parts, od_law_parts, .func (PySem.W.fnOf "_law_parts" "_law_parts" (defArgs s_law_parts) (defBody s_law_parts) (defScope s_law_parts) .none kV_law_parts dc_law_parts pm_law_parts an_law_parts cd_law_parts ct_law_parts), sl_law_parts⟩)
    (c_law_parts : PySem.W.codeIn K cd_law_parts "_law_parts" = true)
    (k_law_parts : PySem.W.keepIn K (.ref f_law_parts) = true)
    (a_law_text : PySem.W.nsIn K mainGlobals "_law_text" = some (some (.ref f_law_text)))
    (l_law_text : K.lookup f_law_text = some ⟨oc_law_text, od_law_text, .func (PySem.W.fnOf "_law_text" "_law_text" (defArgs s_law_text) (defBody s_law_text) (defScope s_law_text) .none kV_law_text dc_law_text pm_law_text an_law_text cd_law_text ct_law_text), sl_law_text⟩)
    (c_law_text : PySem.W.codeIn K cd_law_text "_law_text" = true)
    (k_law_text : PySem.W.keepIn K (.ref f_law_text) = true)
    (a_law : PySem.W.nsIn K mainGlobals "law" = some (some (.ref f_law)))
    (l_law : K.lookup f_law = some ⟨oc_law, od_law, .func (PySem.W.fnOf "law" "law" (defArgs s_law) (defBody s_law) (defScope s_law) .none kV_law dc_law pm_law an_law cd_law ct_law), sl_law⟩)
    (c_law : PySem.W.codeIn K cd_law "law" = true)
    (k_law : PySem.W.keepIn K (.ref f_law) = true)
    : ∃ fd : FuncData, (∀ (s : Shared) (v : Value), BindsTo s fd ⟨[v], []⟩ [("script", v)]) ∧ ∀ base : Heap, K.In base → base.Ns mainGlobals mg → FnOk l.prog w K mg base CX0 10 fa fd ["script"] (spOf K R_law) := by
  have e := hfa.symm.trans (PySem.W.mg_of X G a_law)
  cases e
  have F_Net_init := fun_mk (st := s_Net_init) l_Net_init c_Net_init k_Net_init
  have F_Net_first_and := fun_mk (st := s_Net_first_and) l_Net_first_and c_Net_first_and k_Net_first_and
  have F_Net_node_count := fun_mk (st := s_Net_node_count) l_Net_node_count c_Net_node_count k_Net_node_count
  have F_is_name := fun_mk (st := s_is_name) l_is_name c_is_name k_is_name
  have F_Circuit_init := fun_mk (st := s_Circuit_init) l_Circuit_init c_Circuit_init k_Circuit_init
  have F_Circuit_as_net := fun_mk (st := s_Circuit_as_net) l_Circuit_as_net c_Circuit_as_net k_Circuit_as_net
  have F_Circuit_eq := fun_mk (st := s_Circuit_eq) l_Circuit_eq c_Circuit_eq k_Circuit_eq
  have F_check_circuit := fun_mk (st := s_check_circuit) l_check_circuit c_check_circuit k_check_circuit
  have F_tell_new_names := fun_mk (st := s_tell_new_names) l_tell_new_names c_tell_new_names k_tell_new_names
  have F_check_part := fun_mk (st := s_check_part) l_check_part c_check_part k_check_part
  have F_LineReader_init := fun_mk (st := s_LineReader_init) l_LineReader_init c_LineReader_init k_LineReader_init
  have F_LineReader_has_more := fun_mk (st := s_LineReader_has_more) l_LineReader_has_more c_LineReader_has_more k_LineReader_has_more
  have F_LineReader_take_title := fun_mk (st := s_LineReader_take_title) l_LineReader_take_title c_LineReader_take_title k_LineReader_take_title
  have F_LineReader_take_entries := fun_mk (st := s_LineReader_take_entries) l_LineReader_take_entries c_LineReader_take_entries k_LineReader_take_entries
  have F_LineReader_finish := fun_mk (st := s_LineReader_finish) l_LineReader_finish c_LineReader_finish k_LineReader_finish
  have F_numbers_of := fun_mk (st := s_numbers_of) l_numbers_of c_numbers_of k_numbers_of
  have F_is_number := fun_mk (st := s_is_number) l_is_number c_is_number k_is_number
  have F_line_of := fun_mk (st := s_line_of) l_line_of c_line_of k_line_of
  have F_write_circuit := fun_mk (st := s_write_circuit) l_write_circuit c_write_circuit k_write_circuit
  have F_read_circuit := fun_mk (st := s_read_circuit) l_read_circuit c_read_circuit k_read_circuit
  have F_take_circuit := fun_mk (st := s_take_circuit) l_take_circuit c_take_circuit k_take_circuit
  have F_circuit_of := fun_mk (st := s_circuit_of) l_circuit_of c_circuit_of k_circuit_of
  have F_input_of := fun_mk (st := s_input_of) l_input_of c_input_of k_input_of
  have F_latch_of := fun_mk (st := s_latch_of) l_latch_of c_latch_of k_latch_of
  have F_and_of := fun_mk (st := s_and_of) l_and_of c_and_of k_and_of
  have F_output_of := fun_mk (st := s_output_of) l_output_of c_output_of k_output_of
  have F_law_rows := fun_mk (st := s_law_rows) l_law_rows c_law_rows k_law_rows
  have F_law_name := fun_mk (st := s_law_name) l_law_name c_law_name k_law_name
  have F_law_literal := fun_mk (st := s_law_literal) l_law_literal c_law_literal k_law_literal
  have F_law_ands := fun_mk (st := s_law_ands) l_law_ands c_law_ands k_law_ands
  have F_law_parts := fun_mk (st := s_law_parts) l_law_parts c_law_parts k_law_parts
  have F_law_text := fun_mk (st := s_law_text) l_law_text c_law_text k_law_text
  have F_law := fun_mk (st := s_law) l_law c_law k_law
  have b_Net_init := F_Net_init.binds (ps := ["self", "input_count", "latches", "ands"]) fun _ _ _ _ _ _ us hl => match us, hl with | [_, _, _, _], _ => rfl
  have b_Net_first_and := F_Net_first_and.binds (ps := ["self"]) fun _ _ _ _ _ _ us hl => match us, hl with | [_], _ => rfl
  have b_Net_node_count := F_Net_node_count.binds (ps := ["self"]) fun _ _ _ _ _ _ us hl => match us, hl with | [_], _ => rfl
  have b_is_name := F_is_name.binds (ps := ["text"]) fun _ _ _ _ _ _ us hl => match us, hl with | [_], _ => rfl
  have b_Circuit_init := F_Circuit_init.binds (ps := ["self", "inputs", "latches", "ands", "outputs"]) fun _ _ _ _ _ _ us hl => match us, hl with | [_, _, _, _, _], _ => rfl
  have b_Circuit_as_net := F_Circuit_as_net.binds (ps := ["self"]) fun _ _ _ _ _ _ us hl => match us, hl with | [_], _ => rfl
  have b_Circuit_eq := F_Circuit_eq.binds (ps := ["self", "other"]) fun _ _ _ _ _ _ us hl => match us, hl with | [_, _], _ => rfl
  have b_check_circuit := F_check_circuit.binds (ps := ["circuit"]) fun _ _ _ _ _ _ us hl => match us, hl with | [_], _ => rfl
  have b_tell_new_names := F_tell_new_names.binds (ps := ["texts"]) fun _ _ _ _ _ _ us hl => match us, hl with | [_], _ => rfl
  have b_check_part := F_check_part.binds (ps := ["part", "valid"]) fun _ _ _ _ _ _ us hl => match us, hl with | [_, _], _ => rfl
  have b_LineReader_init := F_LineReader_init.binds (ps := ["self", "text"]) fun _ _ _ _ _ _ us hl => match us, hl with | [_, _], _ => rfl
  have b_LineReader_has_more := F_LineReader_has_more.binds (ps := ["self"]) fun _ _ _ _ _ _ us hl => match us, hl with | [_], _ => rfl
  have b_LineReader_take_title := F_LineReader_take_title.binds (ps := ["self", "word"]) fun _ _ _ _ _ _ us hl => match us, hl with | [_, _], _ => rfl
  have b_LineReader_take_entries := F_LineReader_take_entries.binds (ps := ["self", "word", "entry_of"]) fun _ _ _ _ _ _ us hl => match us, hl with | [_, _, _], _ => rfl
  have b_LineReader_finish := F_LineReader_finish.binds (ps := ["self"]) fun _ _ _ _ _ _ us hl => match us, hl with | [_], _ => rfl
  have b_numbers_of := F_numbers_of.binds (ps := ["words"]) fun _ _ _ _ _ _ us hl => match us, hl with | [_], _ => rfl
  have b_is_number := F_is_number.binds (ps := ["word"]) fun _ _ _ _ _ _ us hl => match us, hl with | [_], _ => rfl
  have b_line_of := F_line_of.binds (ps := ["word", "entries"]) fun _ _ _ _ _ _ us hl => match us, hl with | [_, _], _ => rfl
  have b_write_circuit := F_write_circuit.binds (ps := ["circuit"]) fun _ _ _ _ _ _ us hl => match us, hl with | [_], _ => rfl
  have b_read_circuit := F_read_circuit.binds (ps := ["text"]) fun _ _ _ _ _ _ us hl => match us, hl with | [_], _ => rfl
  have b_take_circuit := F_take_circuit.binds (ps := ["reader"]) fun _ _ _ _ _ _ us hl => match us, hl with | [_], _ => rfl
  have b_circuit_of := F_circuit_of.binds (ps := ["parts"]) fun _ _ _ _ _ _ us hl => match us, hl with | [_], _ => rfl
  have b_input_of := F_input_of.binds (ps := ["words"]) fun _ _ _ _ _ _ us hl => match us, hl with | [_], _ => rfl
  have b_latch_of := F_latch_of.binds (ps := ["words"]) fun _ _ _ _ _ _ us hl => match us, hl with | [_], _ => rfl
  have b_and_of := F_and_of.binds (ps := ["words"]) fun _ _ _ _ _ _ us hl => match us, hl with | [_], _ => rfl
  have b_output_of := F_output_of.binds (ps := ["words"]) fun _ _ _ _ _ _ us hl => match us, hl with | [_], _ => rfl
  have b_law_rows := F_law_rows.binds (ps := ["script", "count"]) fun _ _ _ _ _ _ us hl => match us, hl with | [_, _], _ => rfl
  have b_law_name := F_law_name.binds (ps := ["row", "k"]) fun _ _ _ _ _ _ us hl => match us, hl with | [_, _], _ => rfl
  have b_law_literal := F_law_literal.binds (ps := ["row", "near", "count"]) fun _ _ _ _ _ _ us hl => match us, hl with | [_, _, _], _ => rfl
  have b_law_ands := F_law_ands.binds (ps := ["rows", "at", "first_and", "count"]) fun _ _ _ _ _ _ us hl => match us, hl with | [_, _, _, _], _ => rfl
  have b_law_parts := F_law_parts.binds (ps := ["rows", "most_inputs", "most_latches", "most_ands"]) fun _ _ _ _ _ _ us hl => match us, hl with | [_, _, _, _], _ => rfl
  have b_law_text := F_law_text.binds (ps := ["inputs", "latches", "ands", "outputs"]) fun _ _ _ _ _ _ us hl => match us, hl with | [_, _, _, _], _ => rfl
  have b_law := F_law.binds (ps := ["script"]) fun _ _ _ _ _ _ us hl => match us, hl with | [_], _ => rfl
  have T : Txt K mg C_Net C_Circuit C_LineReader w D_GREATEST_COUNTS f_input_of f_latch_of f_and_of f_output_of := ⟨⟨PySem.W.mg_of X G ka_GREATEST_COUNTS, fun z i h => by
    simp only [List.mem_cons, List.not_mem_nil, or_false, Prod.mk.injEq] at h
    rcases h with ⟨rfl, rfl⟩ | ⟨rfl, rfl⟩ | ⟨rfl, rfl⟩ | ⟨rfl, rfl⟩
    · exact ⟨_, _, _, kl_GREATEST_COUNTS, kk_GREATEST_COUNTS, ke_GREATEST_COUNTS_0, ⟨_, rfl⟩⟩
    · exact ⟨_, _, _, kl_GREATEST_COUNTS, kk_GREATEST_COUNTS, ke_GREATEST_COUNTS_1, ⟨_, rfl⟩⟩
    · exact ⟨_, _, _, kl_GREATEST_COUNTS, kk_GREATEST_COUNTS, ke_GREATEST_COUNTS_2, ⟨_, rfl⟩⟩
    · exact ⟨_, _, _, kl_GREATEST_COUNTS, kk_GREATEST_COUNTS, ke_GREATEST_COUNTS_3, ⟨_, rfl⟩⟩⟩, PySem.W.mg_of X G a_input_of, PySem.W.mg_of X G a_latch_of, PySem.W.mg_of X G a_and_of, PySem.W.mg_of X G a_output_of, PySem.W.mg_none_of X G nb_all, PySem.W.mg_none_of X G nb_enumerate, PySem.W.mg_none_of X G nb_int, PySem.W.mg_none_of X G nb_isinstance, PySem.W.mg_none_of X G nb_len, PySem.W.mg_none_of X G nb_list, PySem.W.mg_none_of X G nb_min, PySem.W.mg_none_of X G nb_range, PySem.W.mg_none_of X G nb_str, PySem.W.mg_none_of X G nb_tuple, PySem.W.mg_none_of X G nb_zip, ⟨_, PySem.W.mg_of X G ng_DIGITS⟩, ⟨_, PySem.W.mg_of X G ng_LETTERS⟩, ⟨_, PySem.W.mg_of X G ng_LONGEST_NAME⟩, ⟨_, PySem.W.mg_of X G ng_LONGEST_NUMBER⟩, ⟨_, PySem.W.mg_of X G ng_NAME_CHARACTERS⟩, ⟨pg_Net, hd_Net, po_Net, sa_Net⟩, na_Net_ands, na_Net_input_count, na_Net_latches, ⟨pg_Circuit, hd_Circuit, po_Circuit, sa_Circuit⟩, na_Circuit_ands, na_Circuit_inputs, na_Circuit_latches, na_Circuit_outputs, ⟨pg_LineReader, hd_LineReader, po_LineReader, sa_LineReader⟩, na_LineReader_rows, na_LineReader_taken, ⟨⟨pg_Circuit, hd_Circuit, po_Circuit, sa_Circuit⟩, ha_Circuit, eo, eu, hm_Circuit, kit_of es_Circuit ty_Circuit cI_Circuit⟩, PySem.W.mg_of X G aC_Circuit⟩
  refine ⟨PySem.W.fnOf "law" "law" (defArgs s_law) (defBody s_law) (defScope s_law) .none kV_law dc_law pm_law an_law cd_law ct_law, fun s v => .of_eq rfl, fun base _ _ => ?_⟩
  have d_Circuit_eq : Met l.prog w K mg base C_Circuit "__eq__" 2 ["self", "other"] (R_Circuit_eq C_Net C_Circuit) := ⟨_, _, ⟨a_Circuit_eq, i_Circuit_eq, k_Circuit_eq⟩, ok_Circuit_eq (P := l.prog) (w := w) (base := base) F_Circuit_eq T , b_Circuit_eq⟩
  have m_Net : Mak l.prog w K mg base "Net" C_Net 2 ["self", "input_count", "latches", "ands"] (R_Net_init C_Net C_Circuit) := ⟨_, _, ⟨mk_Net, a_Net_init, i_Net_init, kc_Net⟩, ok_Net_init (P := l.prog) (w := w) (base := base) F_Net_init T , PySem.W.mg_of X G aC_Net, b_Net_init⟩
  have d_Circuit_as_net : Met l.prog w K mg base C_Circuit "as_net" 4 ["self"] (R_Circuit_as_net C_Net C_Circuit) := ⟨_, _, ⟨a_Circuit_as_net, i_Circuit_as_net, k_Circuit_as_net⟩, ok_Circuit_as_net (P := l.prog) (w := w) (base := base) F_Circuit_as_net T m_Net, b_Circuit_as_net⟩
  have d_Net_first_and : Prp l.prog w K mg base C_Net "first_and" 2 (R_Net_first_and C_Net C_Circuit) := ⟨_, _, _, ⟨a_Net_first_and, pg_Net_first_and, pt_Net_first_and, _, pr_Net_first_and⟩, ok_Net_first_and (P := l.prog) (w := w) (base := base) F_Net_first_and T , b_Net_first_and⟩
  have d_Net_node_count : Prp l.prog w K mg base C_Net "node_count" 2 (R_Net_node_count C_Net C_Circuit) := ⟨_, _, _, ⟨a_Net_node_count, pg_Net_node_count, pt_Net_node_count, _, pr_Net_node_count⟩, ok_Net_node_count (P := l.prog) (w := w) (base := base) F_Net_node_count T , b_Net_node_count⟩
  have d_check_part : Cal l.prog w K mg base "_check_part" 2 ["part", "valid"] (R_check_part C_Net C_Circuit) := Cal.mk F_check_part (ok_check_part (P := l.prog) (w := w) (base := base) F_check_part T ) (PySem.W.mg_of X G a_check_part) b_check_part
  have d_is_name : Cal l.prog w K mg base "is_name" 2 ["text"] (R_is_name C_Net C_Circuit) := Cal.mk F_is_name (ok_is_name (P := l.prog) (w := w) (base := base) F_is_name T ) (PySem.W.mg_of X G a_is_name) b_is_name
  have d_tell_new_names : Cal l.prog w K mg base "tell_new_names" 3 ["texts"] (R_tell_new_names C_Net C_Circuit) := Cal.mk F_tell_new_names (ok_tell_new_names (P := l.prog) (w := w) (base := base) F_tell_new_names T d_is_name) (PySem.W.mg_of X G a_tell_new_names) b_tell_new_names
  have d_check_circuit : Cal l.prog w K mg base "_check_circuit" 5 ["circuit"] (R_check_circuit C_Net C_Circuit) := Cal.mk F_check_circuit (ok_check_circuit (P := l.prog) (w := w) (base := base) F_check_circuit T d_Circuit_as_net d_Net_first_and d_Net_node_count d_check_part d_tell_new_names) (PySem.W.mg_of X G a_check_circuit) b_check_circuit
  have m_Circuit : Mak l.prog w K mg base "Circuit" C_Circuit 6 ["self", "inputs", "latches", "ands", "outputs"] (R_Circuit_init C_Net C_Circuit) := ⟨_, _, ⟨mk_Circuit, a_Circuit_init, i_Circuit_init, kc_Circuit⟩, ok_Circuit_init (P := l.prog) (w := w) (base := base) F_Circuit_init T d_check_circuit, PySem.W.mg_of X G aC_Circuit, b_Circuit_init⟩
  have d_law_literal : Cal l.prog w K mg base "_law_literal" 2 ["row", "near", "count"] (R_law_literal C_Net C_Circuit) := Cal.mk F_law_literal (ok_law_literal (P := l.prog) (w := w) (base := base) F_law_literal T ) (PySem.W.mg_of X G a_law_literal) b_law_literal
  have d_law_ands : Cal l.prog w K mg base "_law_ands" 3 ["rows", "at", "first_and", "count"] (R_law_ands C_Net C_Circuit) := Cal.mk F_law_ands (ok_law_ands (P := l.prog) (w := w) (base := base) F_law_ands T d_law_literal) (PySem.W.mg_of X G a_law_ands) b_law_ands
  have d_law_name : Cal l.prog w K mg base "_law_name" 2 ["row", "k"] (R_law_name C_Net C_Circuit) := Cal.mk F_law_name (ok_law_name (P := l.prog) (w := w) (base := base) F_law_name T ) (PySem.W.mg_of X G a_law_name) b_law_name
  have d_law_parts : Cal l.prog w K mg base "_law_parts" 4 ["rows", "most_inputs", "most_latches", "most_ands"] (R_law_parts C_Net C_Circuit) := Cal.mk F_law_parts (ok_law_parts (P := l.prog) (w := w) (base := base) F_law_parts T d_law_ands d_law_literal d_law_name) (PySem.W.mg_of X G a_law_parts) b_law_parts
  have d_law_rows : Cal l.prog w K mg base "_law_rows" 2 ["script", "count"] (R_law_rows C_Net C_Circuit) := Cal.mk F_law_rows (ok_law_rows (P := l.prog) (w := w) (base := base) F_law_rows T ) (PySem.W.mg_of X G a_law_rows) b_law_rows
  have d_law_text : Cal l.prog w K mg base "_law_text" 2 ["inputs", "latches", "ands", "outputs"] (R_law_text C_Net C_Circuit) := Cal.mk F_law_text (ok_law_text (P := l.prog) (w := w) (base := base) F_law_text T ) (PySem.W.mg_of X G a_law_text) b_law_text
  have m_LineReader : MakM l.prog w K mg base "LineReader" C_LineReader 2 ["self", "text"] (R_LineReader_init) := ⟨_, _, ⟨mk_LineReader, a_LineReader_init, i_LineReader_init, kc_LineReader⟩, ok_LineReader_init (P := l.prog) (w := w) (base := base) F_LineReader_init T , PySem.W.mg_of X G aC_LineReader, b_LineReader_init⟩
  have d_LineReader_has_more : Met l.prog w K mg base C_LineReader "has_more" 2 ["self"] (R_LineReader_has_more (K := K) C_LineReader) := ⟨_, _, ⟨a_LineReader_has_more, i_LineReader_has_more, k_LineReader_has_more⟩, ok_LineReader_has_more (P := l.prog) (w := w) (base := base) F_LineReader_has_more T , b_LineReader_has_more⟩
  have d_LineReader_finish : Met l.prog w K mg base C_LineReader "finish" 3 ["self"] (R_LineReader_finish (K := K) C_LineReader) := ⟨_, _, ⟨a_LineReader_finish, i_LineReader_finish, k_LineReader_finish⟩, ok_LineReader_finish (P := l.prog) (w := w) (base := base) F_LineReader_finish T d_LineReader_has_more, b_LineReader_finish⟩
  have d_circuit_of : Cal l.prog w K mg base "circuit_of" 8 ["parts"] (R_circuit_of C_Net C_Circuit) := Cal.mk F_circuit_of (ok_circuit_of (P := l.prog) (w := w) (base := base) F_circuit_of T m_Circuit) (PySem.W.mg_of X G a_circuit_of) b_circuit_of
  have d_is_number : Cal l.prog w K mg base "is_number" 2 ["word"] (R_is_number C_Net C_Circuit) := Cal.mk F_is_number (ok_is_number (P := l.prog) (w := w) (base := base) F_is_number T ) (PySem.W.mg_of X G a_is_number) b_is_number
  have d_numbers_of : Cal l.prog w K mg base "numbers_of" 3 ["words"] (R_numbers_of C_Net C_Circuit) := Cal.mk F_numbers_of (ok_numbers_of (P := l.prog) (w := w) (base := base) F_numbers_of T d_is_number) (PySem.W.mg_of X G a_numbers_of) b_numbers_of
  have d_and_of : Cal l.prog w K mg base "_and_of" 4 ["words"] (R_and_of C_Net C_Circuit) := Cal.mk F_and_of (ok_and_of (P := l.prog) (w := w) (base := base) F_and_of T d_numbers_of) (PySem.W.mg_of X G a_and_of) b_and_of
  have d_input_of : Cal l.prog w K mg base "_input_of" 2 ["words"] (R_input_of C_Net C_Circuit) := Cal.mk F_input_of (ok_input_of (P := l.prog) (w := w) (base := base) F_input_of T ) (PySem.W.mg_of X G a_input_of) b_input_of
  have d_latch_of : Cal l.prog w K mg base "_latch_of" 4 ["words"] (R_latch_of C_Net C_Circuit) := Cal.mk F_latch_of (ok_latch_of (P := l.prog) (w := w) (base := base) F_latch_of T d_numbers_of) (PySem.W.mg_of X G a_latch_of) b_latch_of
  have d_output_of : Cal l.prog w K mg base "_output_of" 4 ["words"] (R_output_of C_Net C_Circuit) := Cal.mk F_output_of (ok_output_of (P := l.prog) (w := w) (base := base) F_output_of T d_numbers_of) (PySem.W.mg_of X G a_output_of) b_output_of
  have d_LineReader_take_entries : MetM l.prog w K mg base C_LineReader "take_entries" 5 ["self", "word", "entry_of"] (R_LineReader_take_entries C_Net C_Circuit f_input_of f_latch_of f_and_of f_output_of) := ⟨_, _, ⟨a_LineReader_take_entries, i_LineReader_take_entries, k_LineReader_take_entries⟩, ok_LineReader_take_entries (P := l.prog) (w := w) (base := base) F_LineReader_take_entries T d_LineReader_has_more d_and_of d_input_of d_latch_of d_output_of, b_LineReader_take_entries⟩
  have d_LineReader_take_title : MetM l.prog w K mg base C_LineReader "take_title" 3 ["self", "word"] (R_LineReader_take_title) := ⟨_, _, ⟨a_LineReader_take_title, i_LineReader_take_title, k_LineReader_take_title⟩, ok_LineReader_take_title (P := l.prog) (w := w) (base := base) F_LineReader_take_title T d_LineReader_has_more, b_LineReader_take_title⟩
  have d_take_circuit : CalM l.prog w K mg base "take_circuit" C_LineReader 6 ["reader"] (R_take_circuit) := CalM.mk F_take_circuit (ok_take_circuit (P := l.prog) (w := w) (base := base) F_take_circuit T d_LineReader_take_entries d_LineReader_take_title) (PySem.W.mg_of X G a_take_circuit) b_take_circuit
  have d_read_circuit : Cal l.prog w K mg base "read_circuit" 9 ["text"] (R_read_circuit C_Net C_Circuit) := Cal.mk F_read_circuit (ok_read_circuit (P := l.prog) (w := w) (base := base) F_read_circuit T m_LineReader d_LineReader_finish d_circuit_of d_take_circuit) (PySem.W.mg_of X G a_read_circuit) b_read_circuit
  have d_line_of : Cal l.prog w K mg base "line_of" 2 ["word", "entries"] (R_line_of C_Net C_Circuit) := Cal.mk F_line_of (ok_line_of (P := l.prog) (w := w) (base := base) F_line_of T ) (PySem.W.mg_of X G a_line_of) b_line_of
  have d_write_circuit : Cal l.prog w K mg base "write_circuit" 3 ["circuit"] (R_write_circuit C_Net C_Circuit) := Cal.mk F_write_circuit (ok_write_circuit (P := l.prog) (w := w) (base := base) F_write_circuit T d_line_of) (PySem.W.mg_of X G a_write_circuit) b_write_circuit
  exact ok_law (P := l.prog) (w := w) (base := base) F_law T d_Circuit_eq m_Circuit d_law_parts d_law_rows d_law_text d_read_circuit d_write_circuit
end My
open PySem PySem.W PyProof.Rows
set_option maxRecDepth 100000 in
set_option maxHeartbeats 0 in
theorem PySem.Challenge.cw_suregate_k12_circuit_texts_holds : PySem.Challenge.rw_suregate_k12_circuit_texts.Holds := by
  w_on; o_law; k_head; (case hw => w_witness2)
  k_fill
  refine PL.walk_law (x := "script") (l := PySem.Challenge.rw_suregate_k12_circuit_texts) (k := 10) (R := My.R_law) rfl rfl ⟨rfl, by decide, by decide⟩ (fun w h Y => PySem.W.kIn_of Y) ?F (fun ns h => ⟨ns, rfl, h, rfl⟩)
  case F =>
    intro w mg fa h KX G hmg
    refine' My.all_mk KX G hmg ?aC_Net ?pg_Net ?hd_Net ?po_Net ?sa_Net ?mk_Net ?kc_Net ?na_Net_ands ?na_Net_input_count ?na_Net_latches ?aC_Circuit ?pg_Circuit ?hd_Circuit ?po_Circuit ?sa_Circuit ?mk_Circuit ?kc_Circuit ?na_Circuit_ands ?na_Circuit_inputs ?na_Circuit_latches ?na_Circuit_outputs ?aC_LineReader ?pg_LineReader ?hd_LineReader ?po_LineReader ?sa_LineReader ?mk_LineReader ?kc_LineReader ?na_LineReader_rows ?na_LineReader_taken ?ha_Circuit ?hm_Circuit ?ty_Circuit ?cI_Circuit ?es_Circuit ?eo ?eu ?ka_GREATEST_COUNTS ?kl_GREATEST_COUNTS ?kk_GREATEST_COUNTS ?ke_GREATEST_COUNTS_0 ?ke_GREATEST_COUNTS_1 ?ke_GREATEST_COUNTS_2 ?ke_GREATEST_COUNTS_3 ?nb_all ?nb_enumerate ?nb_int ?nb_isinstance ?nb_len ?nb_list ?nb_min ?nb_range ?nb_str ?nb_tuple ?nb_zip ?ng_DIGITS ?ng_LETTERS ?ng_LONGEST_NAME ?ng_LONGEST_NUMBER ?ng_NAME_CHARACTERS ?a_Net_init ?i_Net_init ?l_Net_init ?c_Net_init ?k_Net_init ?a_Net_first_and ?pg_Net_first_and ?pt_Net_first_and ?pr_Net_first_and ?l_Net_first_and ?c_Net_first_and ?k_Net_first_and ?a_Net_node_count ?pg_Net_node_count ?pt_Net_node_count ?pr_Net_node_count ?l_Net_node_count ?c_Net_node_count ?k_Net_node_count ?a_is_name ?l_is_name ?c_is_name ?k_is_name ?a_Circuit_init ?i_Circuit_init ?l_Circuit_init ?c_Circuit_init ?k_Circuit_init ?a_Circuit_as_net ?i_Circuit_as_net ?l_Circuit_as_net ?c_Circuit_as_net ?k_Circuit_as_net ?a_Circuit_eq ?i_Circuit_eq ?l_Circuit_eq ?c_Circuit_eq ?k_Circuit_eq ?a_check_circuit ?l_check_circuit ?c_check_circuit ?k_check_circuit ?a_tell_new_names ?l_tell_new_names ?c_tell_new_names ?k_tell_new_names ?a_check_part ?l_check_part ?c_check_part ?k_check_part ?a_LineReader_init ?i_LineReader_init ?l_LineReader_init ?c_LineReader_init ?k_LineReader_init ?a_LineReader_has_more ?i_LineReader_has_more ?l_LineReader_has_more ?c_LineReader_has_more ?k_LineReader_has_more ?a_LineReader_take_title ?i_LineReader_take_title ?l_LineReader_take_title ?c_LineReader_take_title ?k_LineReader_take_title ?a_LineReader_take_entries ?i_LineReader_take_entries ?l_LineReader_take_entries ?c_LineReader_take_entries ?k_LineReader_take_entries ?a_LineReader_finish ?i_LineReader_finish ?l_LineReader_finish ?c_LineReader_finish ?k_LineReader_finish ?a_numbers_of ?l_numbers_of ?c_numbers_of ?k_numbers_of ?a_is_number ?l_is_number ?c_is_number ?k_is_number ?a_line_of ?l_line_of ?c_line_of ?k_line_of ?a_write_circuit ?l_write_circuit ?c_write_circuit ?k_write_circuit ?a_read_circuit ?l_read_circuit ?c_read_circuit ?k_read_circuit ?a_take_circuit ?l_take_circuit ?c_take_circuit ?k_take_circuit ?a_circuit_of ?l_circuit_of ?c_circuit_of ?k_circuit_of ?a_input_of ?l_input_of ?c_input_of ?k_input_of ?a_latch_of ?l_latch_of ?c_latch_of ?k_latch_of ?a_and_of ?l_and_of ?c_and_of ?k_and_of ?a_output_of ?l_output_of ?c_output_of ?k_output_of ?a_law_rows ?l_law_rows ?c_law_rows ?k_law_rows ?a_law_name ?l_law_name ?c_law_name ?k_law_name ?a_law_literal ?l_law_literal ?c_law_literal ?k_law_literal ?a_law_ands ?l_law_ands ?c_law_ands ?k_law_ands ?a_law_parts ?l_law_parts ?c_law_parts ?k_law_parts ?a_law_text ?l_law_text ?c_law_text ?k_law_text ?a_law ?l_law ?c_law ?k_law
    (case aC_Net => k_is)
    (case pg_Net => k_is)
    (case hd_Net => k_is)
    (case po_Net => k_is)
    (case sa_Net => k_is)
    (case mk_Net => k_is)
    (case kc_Net => k_is)
    (case na_Net_ands => k_is)
    (case na_Net_input_count => k_is)
    (case na_Net_latches => k_is)
    (case aC_Circuit => k_is)
    (case pg_Circuit => k_is)
    (case hd_Circuit => k_is)
    (case po_Circuit => k_is)
    (case sa_Circuit => k_is)
    (case mk_Circuit => k_is)
    (case kc_Circuit => k_is)
    (case na_Circuit_ands => k_is)
    (case na_Circuit_inputs => k_is)
    (case na_Circuit_latches => k_is)
    (case na_Circuit_outputs => k_is)
    (case aC_LineReader => k_is)
    (case pg_LineReader => k_is)
    (case hd_LineReader => k_is)
    (case po_LineReader => k_is)
    (case sa_LineReader => k_is)
    (case mk_LineReader => k_is)
    (case kc_LineReader => k_is)
    (case na_LineReader_rows => k_is)
    (case na_LineReader_taken => k_is)
    (case ha_Circuit => k_is)
    (case hm_Circuit => k_is)
    (case ty_Circuit => k_is)
    (case cI_Circuit => k_is)
    (case es_Circuit => first | rfl | k_is)
    (case eo => k_is)
    (case eu => k_is)
    (case ka_GREATEST_COUNTS => k_is)
    (case kl_GREATEST_COUNTS => k_is)
    (case kk_GREATEST_COUNTS => first | exact ⟨⟨_, _, rfl, rfl⟩, trivial⟩ | exact ⟨⟨_, _, rfl, rfl⟩, ⟨_, _, rfl, rfl⟩, trivial⟩ | exact ⟨⟨_, _, rfl, rfl⟩, ⟨_, _, rfl, rfl⟩, ⟨_, _, rfl, rfl⟩, trivial⟩ | exact ⟨⟨_, _, rfl, rfl⟩, ⟨_, _, rfl, rfl⟩, ⟨_, _, rfl, rfl⟩, ⟨_, _, rfl, rfl⟩, trivial⟩ | exact ⟨⟨_, _, rfl, rfl⟩, ⟨_, _, rfl, rfl⟩, ⟨_, _, rfl, rfl⟩, ⟨_, _, rfl, rfl⟩, ⟨_, _, rfl, rfl⟩, trivial⟩ | exact ⟨⟨_, _, rfl, rfl⟩, ⟨_, _, rfl, rfl⟩, ⟨_, _, rfl, rfl⟩, ⟨_, _, rfl, rfl⟩, ⟨_, _, rfl, rfl⟩, ⟨_, _, rfl, rfl⟩, trivial⟩ | exact ⟨⟨_, _, rfl, rfl⟩, ⟨_, _, rfl, rfl⟩, ⟨_, _, rfl, rfl⟩, ⟨_, _, rfl, rfl⟩, ⟨_, _, rfl, rfl⟩, ⟨_, _, rfl, rfl⟩, ⟨_, _, rfl, rfl⟩, trivial⟩)
    (case ke_GREATEST_COUNTS_0 => k_is)
    (case ke_GREATEST_COUNTS_1 => k_is)
    (case ke_GREATEST_COUNTS_2 => k_is)
    (case ke_GREATEST_COUNTS_3 => k_is)
    (case nb_all => k_is)
    (case nb_enumerate => k_is)
    (case nb_int => k_is)
    (case nb_isinstance => k_is)
    (case nb_len => k_is)
    (case nb_list => k_is)
    (case nb_min => k_is)
    (case nb_range => k_is)
    (case nb_str => k_is)
    (case nb_tuple => k_is)
    (case nb_zip => k_is)
    (case ng_DIGITS => k_is)
    (case ng_LETTERS => k_is)
    (case ng_LONGEST_NAME => k_is)
    (case ng_LONGEST_NUMBER => k_is)
    (case ng_NAME_CHARACTERS => k_is)
    (case a_Net_init => k_is)
    (case i_Net_init => k_is)
    (case l_Net_init => k_is)
    (case c_Net_init => k_is)
    (case k_Net_init => k_is)
    (case a_Net_first_and => k_is)
    (case pg_Net_first_and => k_is)
    (case pt_Net_first_and => k_is)
    (case pr_Net_first_and => k_is)
    (case l_Net_first_and => k_is)
    (case c_Net_first_and => k_is)
    (case k_Net_first_and => k_is)
    (case a_Net_node_count => k_is)
    (case pg_Net_node_count => k_is)
    (case pt_Net_node_count => k_is)
    (case pr_Net_node_count => k_is)
    (case l_Net_node_count => k_is)
    (case c_Net_node_count => k_is)
    (case k_Net_node_count => k_is)
    (case a_is_name => k_is)
    (case l_is_name => k_is)
    (case c_is_name => k_is)
    (case k_is_name => k_is)
    (case a_Circuit_init => k_is)
    (case i_Circuit_init => k_is)
    (case l_Circuit_init => k_is)
    (case c_Circuit_init => k_is)
    (case k_Circuit_init => k_is)
    (case a_Circuit_as_net => k_is)
    (case i_Circuit_as_net => k_is)
    (case l_Circuit_as_net => k_is)
    (case c_Circuit_as_net => k_is)
    (case k_Circuit_as_net => k_is)
    (case a_Circuit_eq => k_is)
    (case i_Circuit_eq => k_is)
    (case l_Circuit_eq => k_is)
    (case c_Circuit_eq => k_is)
    (case k_Circuit_eq => k_is)
    (case a_check_circuit => k_is)
    (case l_check_circuit => k_is)
    (case c_check_circuit => k_is)
    (case k_check_circuit => k_is)
    (case a_tell_new_names => k_is)
    (case l_tell_new_names => k_is)
    (case c_tell_new_names => k_is)
    (case k_tell_new_names => k_is)
    (case a_check_part => k_is)
    (case l_check_part => k_is)
    (case c_check_part => k_is)
    (case k_check_part => k_is)
    (case a_LineReader_init => k_is)
    (case i_LineReader_init => k_is)
    (case l_LineReader_init => k_is)
    (case c_LineReader_init => k_is)
    (case k_LineReader_init => k_is)
    (case a_LineReader_has_more => k_is)
    (case i_LineReader_has_more => k_is)
    (case l_LineReader_has_more => k_is)
    (case c_LineReader_has_more => k_is)
    (case k_LineReader_has_more => k_is)
    (case a_LineReader_take_title => k_is)
    (case i_LineReader_take_title => k_is)
    (case l_LineReader_take_title => k_is)
    (case c_LineReader_take_title => k_is)
    (case k_LineReader_take_title => k_is)
    (case a_LineReader_take_entries => k_is)
    (case i_LineReader_take_entries => k_is)
    (case l_LineReader_take_entries => k_is)
    (case c_LineReader_take_entries => k_is)
    (case k_LineReader_take_entries => k_is)
    (case a_LineReader_finish => k_is)
    (case i_LineReader_finish => k_is)
    (case l_LineReader_finish => k_is)
    (case c_LineReader_finish => k_is)
    (case k_LineReader_finish => k_is)
    (case a_numbers_of => k_is)
    (case l_numbers_of => k_is)
    (case c_numbers_of => k_is)
    (case k_numbers_of => k_is)
    (case a_is_number => k_is)
    (case l_is_number => k_is)
    (case c_is_number => k_is)
    (case k_is_number => k_is)
    (case a_line_of => k_is)
    (case l_line_of => k_is)
    (case c_line_of => k_is)
    (case k_line_of => k_is)
    (case a_write_circuit => k_is)
    (case l_write_circuit => k_is)
    (case c_write_circuit => k_is)
    (case k_write_circuit => k_is)
    (case a_read_circuit => k_is)
    (case l_read_circuit => k_is)
    (case c_read_circuit => k_is)
    (case k_read_circuit => k_is)
    (case a_take_circuit => k_is)
    (case l_take_circuit => k_is)
    (case c_take_circuit => k_is)
    (case k_take_circuit => k_is)
    (case a_circuit_of => k_is)
    (case l_circuit_of => k_is)
    (case c_circuit_of => k_is)
    (case k_circuit_of => k_is)
    (case a_input_of => k_is)
    (case l_input_of => k_is)
    (case c_input_of => k_is)
    (case k_input_of => k_is)
    (case a_latch_of => k_is)
    (case l_latch_of => k_is)
    (case c_latch_of => k_is)
    (case k_latch_of => k_is)
    (case a_and_of => k_is)
    (case l_and_of => k_is)
    (case c_and_of => k_is)
    (case k_and_of => k_is)
    (case a_output_of => k_is)
    (case l_output_of => k_is)
    (case c_output_of => k_is)
    (case k_output_of => k_is)
    (case a_law_rows => k_is)
    (case l_law_rows => k_is)
    (case c_law_rows => k_is)
    (case k_law_rows => k_is)
    (case a_law_name => k_is)
    (case l_law_name => k_is)
    (case c_law_name => k_is)
    (case k_law_name => k_is)
    (case a_law_literal => k_is)
    (case l_law_literal => k_is)
    (case c_law_literal => k_is)
    (case k_law_literal => k_is)
    (case a_law_ands => k_is)
    (case l_law_ands => k_is)
    (case c_law_ands => k_is)
    (case k_law_ands => k_is)
    (case a_law_parts => k_is)
    (case l_law_parts => k_is)
    (case c_law_parts => k_is)
    (case k_law_parts => k_is)
    (case a_law_text => k_is)
    (case l_law_text => k_is)
    (case c_law_text => k_is)
    (case k_law_text => k_is)
    (case a_law => k_is)
    (case l_law => k_is)
    (case c_law => k_is)
    (case k_law => k_is)
